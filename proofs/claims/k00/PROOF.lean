import PyProof.Rows.All
import Wide.All
import OpenK.AllK
import Wide.FinOn
import HandS.ForMost
import HandS.ForExc
import HandS.More
import HandS.TupAny
import HandS.TupLe
import HandS.IsInst
import HandS.DictComp
import KE.KTryBack
import PyProof.ReprRoads
import HandS.Zip
import PySem.Challenge.RW_stripestack_k00_schemas_and_records
set_option Elab.async false
set_option linter.all false
set_option maxRecDepth 100000
set_option maxHeartbeats 4000000
namespace Dd
open PySem L2

/-! # 1. Plain data and what it stands for -/
inductive D where
  | non
  | bl (b : Bool)
  | int (i : Int)
  | str (x : Str)
  | tup (xs : List D)
  | kt (xs : List D)
  | ref (i : Nat)
  | frz (ns : List Int)
  | wd (kvs : List (Str × D))
  deriving Inhabited

/-- an object of the logical heap -/
inductive Ob where
  | lst (xs : List D)
  | dk (kvs : List (Key × D))
  | dt (kvs : List (List Key × D))
  deriving Inhabited

abbrev DH := List Ob
abbrev DE := List (Option D)

section
variable (K : PySem.W.Frag) (w : World)
/-- a written tuple -/
def KTup (a : Addr) (vs : List V) : Prop :=
  ∃ (o : Obj) (its : Array Value) (n : Nat), K.lookup a = some o ∧ o.cls = .type "tuple" ∧ o.data = .seq its n ∧ its.size ≤ sizeLine ∧ Vals vs its.toList
mutual
def RelK : D → V → Prop
  | .non, v => v = .non
  | .bl b, v => v = .bl b
  | .int i, v => v = .int i
  | .str x, v => v = .str x
  | .kt xs, v => ∃ a vs, v = .ref a ∧ KTup K a vs ∧ RelKs xs vs
  | _, _ => False
def RelKs : List D → List V → Prop
  | [], vs => vs = []
  | d :: ds, vs => ∃ v vs', vs = v :: vs' ∧ RelK d v ∧ RelKs ds vs'
end
/-- what a written dict gives at a key -/
def WdAt (a : Addr) (z : Str) : Option D → Prop
  | some d => ∃ u0 v0, PySem.W.nsIn K a z = some (some u0) ∧ RelV v0 u0 ∧ RelK K d v0
  | none => PySem.W.nsIn K a z = some none
def RelW (kvs : List (Str × D)) (v : V) : Prop := ∃ a es n, v = .ref a ∧ KDict K w a es n ∧ ∀ z, WdAt K a z (kvs.lookup z)
/-- a list that nobody writes -/
def FrzL (H : Hp) (a : Addr) (xs : List V) : Prop := (∃ o, H a = some (.frz o (.lst xs))) ∨
  ∃ (o : Obj) (its : Array Value) (n : Nat), K.lookup a = some o ∧ o.cls = .type "list" ∧ o.dict = none ∧ o.data = .seq its n ∧ its.size ≤ sizeLine ∧ Vals xs its.toList
variable (m : List Addr) (H : Hp)
mutual
def RelD : D → V → Prop
  | .non, v => v = .non
  | .bl b, v => v = .bl b
  | .int i, v => v = .int i
  | .str x, v => v = .str x
  | .tup xs, v => ∃ a vs, v = .ref a ∧ H a = some (.tup vs) ∧ RelDs xs vs
  | .kt xs, v => ∃ a vs, v = .ref a ∧ KTup K a vs ∧ RelKs K xs vs
  | .ref i, v => ∃ a, m[i]? = some a ∧ v = .ref a
  | .frz ns, v => ∃ a, v = .ref a ∧ FrzL K H a (ns.map V.int)
  | .wd kvs, v => RelW K w kvs v
def RelDs : List D → List V → Prop
  | [], vs => vs = []
  | d :: ds, vs => ∃ v vs', vs = v :: vs' ∧ RelD d v ∧ RelDs ds vs'
end
def RelKV {κ : Type} : List (κ × D) → List (κ × V) → Prop
  | [], vs => vs = []
  | p :: ps, vs => ∃ v vs', vs = (p.1, v) :: vs' ∧ RelD K w m H p.2 v ∧ RelKV ps vs'
def RelOb : Ob → HO → Prop
  | .lst ds, o => ∃ vs, o = .lst vs ∧ RelDs K w m H ds vs
  | .dk kvs, o => ∃ vs, o = .dK vs ∧ RelKV K w m H kvs vs
  | .dt kvs, o => ∃ vs, o = .dT vs ∧ RelKV K w m H kvs vs
end

/-- what never changes once it is tracked -/
def Imm : HO → Bool
  | .tup _ => true
  | .frz _ _ => true
  | .xd _ => true
  | _ => false
structure Ext (m : List Addr) (H : Hp) (m' : List Addr) (H' : Hp) : Prop where
  pre : ∃ more, m' = m ++ more
  imm : ∀ b o, Imm o = true → H b = some o → H' b = some o
theorem Ext.refl (m : List Addr) (H : Hp) : Ext m H m H := ⟨⟨[], (List.append_nil m).symm⟩, fun _ _ _ h => h⟩
theorem Ext.trans {m m1 m2 : List Addr} {H H1 H2 : Hp} (a : Ext m H m1 H1) (b : Ext m1 H1 m2 H2) : Ext m H m2 H2 := by
  obtain ⟨x, ex⟩ := a.pre
  obtain ⟨y, ey⟩ := b.pre
  exact ⟨⟨x ++ y, by rw [ey, ex, List.append_assoc]⟩, fun c o i h => b.imm c o i (a.imm c o i h)⟩
theorem Ext.ix {m m' : List Addr} {H H' : Hp} (e : Ext m H m' H') {i : Nat} {a : Addr} (h : m[i]? = some a) : m'[i]? = some a := by
  obtain ⟨x, ex⟩ := e.pre
  have hi := (List.getElem?_eq_some_iff.mp h).1
  rw [ex, List.getElem?_append_left hi, h]
theorem Ext.upd_new {m : List Addr} {H : Hp} {p : Addr} {o : HO} (h : H p = none) : Ext m H m (upd H p o) :=
  ⟨⟨[], (List.append_nil m).symm⟩, fun b u _ e => by rw [upd_ne (ne_of_none e h)]; exact e⟩
theorem Ext.more {m : List Addr} {H H' : Hp} (e : Ext m H m H') (p : Addr) : Ext m H (m ++ [p]) H' := ⟨⟨[p], rfl⟩, e.imm⟩

section
variable {K : PySem.W.Frag} {w : World} {m m' : List Addr} {H H' : Hp}
theorem FrzL.ext (e : Ext m H m' H') {a : Addr} {xs : List V} (h : FrzL K H a xs) : FrzL K H' a xs := by
  rcases h with ⟨o, h⟩ | h
  · exact .inl ⟨o, e.imm a _ rfl h⟩
  · exact .inr h
theorem FrzL.sq {a : Addr} {xs : List V} (h : FrzL K H a xs) : SqL K H a xs := by
  rcases h with ⟨o, h⟩ | h
  · exact .inl (.inr ⟨o, h⟩)
  · exact .inr h
theorem KTup.sq {a : Addr} {xs : List V} (h : KTup K a xs) : SqT K H a xs := .inr h
mutual
theorem RelD.ext (e : Ext m H m' H') : ∀ (d : D) (v : V), RelD K w m H d v → RelD K w m' H' d v
  | .non, _, h => h
  | .bl _, _, h => h
  | .int _, _, h => h
  | .str _, _, h => h
  | .tup xs, _, h => by
    obtain ⟨a, vs, e1, h1, h2⟩ := h
    exact ⟨a, vs, e1, e.imm a _ rfl h1, RelDs.ext e xs vs h2⟩
  | .kt _, _, h => h
  | .ref i, _, h => by
    obtain ⟨a, h1, h2⟩ := h
    exact ⟨a, e.ix h1, h2⟩
  | .frz _, _, h => by
    obtain ⟨a, h1, h2⟩ := h
    exact ⟨a, h1, h2.ext e⟩
  | .wd _, _, h => h
theorem RelDs.ext (e : Ext m H m' H') : ∀ (ds : List D) (vs : List V), RelDs K w m H ds vs → RelDs K w m' H' ds vs
  | [], _, h => h
  | d :: ds, _, h => by
    obtain ⟨v, vs', e1, h1, h2⟩ := h
    exact ⟨v, vs', e1, RelD.ext e d v h1, RelDs.ext e ds vs' h2⟩
end
theorem RelKV.ext {κ : Type} (e : Ext m H m' H') : ∀ (ds : List (κ × D)) (vs : List (κ × V)), RelKV K w m H ds vs → RelKV K w m' H' ds vs
  | [], _, h => h
  | d :: ds, _, h => by
    obtain ⟨v, vs', e1, h1, h2⟩ := h
    exact ⟨v, vs', e1, RelD.ext e _ v h1, RelKV.ext e ds vs' h2⟩
theorem RelOb.ext (e : Ext m H m' H') {ob : Ob} {o : HO} (h : RelOb K w m H ob o) : RelOb K w m' H' ob o := by
  cases ob with
  | lst ds => obtain ⟨vs, e1, h1⟩ := h; exact ⟨vs, e1, RelDs.ext e _ _ h1⟩
  | dk ds => obtain ⟨vs, e1, h1⟩ := h; exact ⟨vs, e1, RelKV.ext e _ _ h1⟩
  | dt ds => obtain ⟨vs, e1, h1⟩ := h; exact ⟨vs, e1, RelKV.ext e _ _ h1⟩
theorem RelOb.mut {ob : Ob} {o : HO} (h : RelOb K w m H ob o) : Imm o = false := by
  cases ob with
  | lst ds => obtain ⟨vs, e1, h1⟩ := h; rw [e1]; rfl
  | dk ds => obtain ⟨vs, e1, h1⟩ := h; rw [e1]; rfl
  | dt ds => obtain ⟨vs, e1, h1⟩ := h; rw [e1]; rfl
theorem RelDs.length : ∀ {ds : List D} {vs : List V}, RelDs K w m H ds vs → vs.length = ds.length
  | [], _, h => by rw [show _ = [] from h]; rfl
  | d :: ds, _, h => by
    obtain ⟨v, vs', e1, h1, h2⟩ := h
    rw [e1, List.length_cons, List.length_cons, RelDs.length h2]
theorem RelDs.get : ∀ {ds : List D} {vs : List V} {i : Nat} {d : D}, RelDs K w m H ds vs → ds[i]? = some d → ∃ v, vs[i]? = some v ∧ RelD K w m H d v
  | [], _, _, _, _, e => by simp at e
  | d :: ds, _, 0, _, h, e => by
    obtain ⟨v, vs', e1, h1, h2⟩ := h
    simp at e; subst e; subst e1
    exact ⟨v, rfl, h1⟩
  | d :: ds, _, i + 1, x, h, e => by
    obtain ⟨v, vs', e1, h1, h2⟩ := h
    subst e1
    obtain ⟨u, g1, g2⟩ := RelDs.get (i := i) (d := x) h2 (by simpa using e)
    exact ⟨u, by simpa using g1, g2⟩
theorem RelDs.append : ∀ {ds es : List D} {vs us : List V}, RelDs K w m H ds vs → RelDs K w m H es us → RelDs K w m H (ds ++ es) (vs ++ us)
  | [], _, _, _, h, g => by rw [show _ = [] from h]; exact g
  | d :: ds, es, _, us, h, g => by
    obtain ⟨v, vs', e1, h1, h2⟩ := h
    subst e1
    exact ⟨v, vs' ++ us, rfl, h1, RelDs.append h2 g⟩
theorem RelDs.take : ∀ {ds : List D} {vs : List V} (n : Nat), RelDs K w m H ds vs → RelDs K w m H (ds.take n) (vs.take n)
  | _, _, 0, _ => by rw [List.take_zero, List.take_zero]; exact rfl
  | [], _, n + 1, h => by rw [show _ = [] from h]; rfl
  | d :: ds, _, n + 1, h => by
    obtain ⟨v, vs', e1, h1, h2⟩ := h
    subst e1
    exact ⟨v, vs'.take n, rfl, h1, RelDs.take n h2⟩
theorem RelDs.drop : ∀ {ds : List D} {vs : List V} (n : Nat), RelDs K w m H ds vs → RelDs K w m H (ds.drop n) (vs.drop n)
  | _, _, 0, h => h
  | [], _, n + 1, h => by rw [show _ = [] from h]; rfl
  | d :: ds, _, n + 1, h => by
    obtain ⟨v, vs', e1, h1, h2⟩ := h
    subst e1
    exact RelDs.drop n h2
theorem RelDs.set : ∀ {ds : List D} {vs : List V} (i : Nat) {d : D} {v : V}, RelDs K w m H ds vs → RelD K w m H d v → RelDs K w m H (ds.set i d) (vs.set i v)
  | [], _, _, _, _, h, _ => by rw [show _ = [] from h]; rfl
  | x :: ds, _, 0, d, v, h, g => by
    obtain ⟨u, vs', e1, h1, h2⟩ := h
    subst e1
    exact ⟨v, vs', rfl, g, h2⟩
  | x :: ds, _, i + 1, d, v, h, g => by
    obtain ⟨u, vs', e1, h1, h2⟩ := h
    subst e1
    exact ⟨u, vs'.set i v, rfl, h1, RelDs.set i h2 g⟩
theorem RelDs.one {d : D} {v : V} (h : RelD K w m H d v) : RelDs K w m H [d] [v] := ⟨v, [], rfl, h, rfl⟩
theorem RelDs.nil : RelDs K w m H [] [] := rfl
theorem RelDs.cons {d : D} {v : V} {ds : List D} {vs : List V} (h : RelD K w m H d v) (g : RelDs K w m H ds vs) : RelDs K w m H (d :: ds) (v :: vs) := ⟨v, vs, rfl, h, g⟩
theorem RelDs.nil_iff {ds : List D} {vs : List V} (h : RelDs K w m H ds vs) : vs = [] ↔ ds = [] := by
  have := h.length
  constructor
  · intro e; subst e; exact List.length_eq_zero_iff.mp this.symm
  · intro e; subst e; exact List.length_eq_zero_iff.mp this
mutual
theorem RelK.relD : ∀ (d : D) (v : V), RelK K d v → RelD K w m H d v
  | .non, _, h => h
  | .bl _, _, h => h
  | .int _, _, h => h
  | .str _, _, h => h
  | .tup _, _, h => h.elim
  | .kt _, _, h => h
  | .ref _, _, h => h.elim
  | .frz _, _, h => h.elim
  | .wd _, _, h => h.elim
theorem RelKs.relDs : ∀ (ds : List D) (vs : List V), RelKs K ds vs → RelDs K w m H ds vs
  | [], _, h => h
  | d :: ds, _, h => by
    obtain ⟨v, vs', e1, h1, h2⟩ := h
    exact ⟨v, vs', e1, RelK.relD d v h1, RelKs.relDs ds vs' h2⟩
end
end

/-! # 2. The logical heap is held -/
structure RH (K : PySem.W.Frag) (w : World) (m : List Addr) (h : DH) (H : Hp) : Prop where
  nd : m.Nodup
  len : m.length = h.length
  at_ : ∀ (i : Nat) (ob : Ob), h[i]? = some ob → ∃ a o, m[i]? = some a ∧ H a = some o ∧ RelOb K w m H ob o
section
variable {K : PySem.W.Frag} {w : World} {m m' : List Addr} {h : DH} {H H' : Hp}
theorem RH.get (r : RH K w m h H) {i : Nat} {a : Addr} {ob : Ob} (e : m[i]? = some a) (g : h[i]? = some ob) : ∃ o, H a = some o ∧ RelOb K w m H ob o := by
  obtain ⟨a', o, e1, e2, e3⟩ := r.at_ i ob g
  rw [e] at e1; cases e1
  exact ⟨o, e2, e3⟩
theorem RH.mem (r : RH K w m h H) {a : Addr} (e : a ∈ m) : ∃ o, H a = some o := by
  obtain ⟨i, hi, e⟩ := List.getElem_of_mem e
  have : i < h.length := by rw [← r.len]; exact hi
  obtain ⟨a', o, e1, e2, e3⟩ := r.at_ i h[i] (List.getElem?_eq_getElem this)
  rw [List.getElem?_eq_getElem hi] at e1
  cases e1
  rw [e] at e2
  exact ⟨o, e2⟩
/-- a new object of ours -/
theorem RH.alloc (r : RH K w m h H) {p : Addr} {ob : Ob} {o : HO} (hp : H p = none) (g : RelOb K w m H ob o) : RH K w (m ++ [p]) (h ++ [ob]) (upd H p o) ∧ Ext m H (m ++ [p]) (upd H p o) := by
  have e : Ext m H (m ++ [p]) (upd H p o) := (Ext.upd_new hp).more p
  have np : p ∉ m := fun z => by
    obtain ⟨o', e⟩ := r.mem z
    rw [hp] at e; cases e
  refine ⟨⟨?_, by rw [List.length_append, List.length_append, r.len]; rfl, fun i ob' hi => ?_⟩, e⟩
  · refine List.nodup_append.mpr ⟨r.nd, by simp, ?_⟩
    intro a ha b hb
    rw [List.mem_singleton] at hb
    subst hb
    exact fun z => np (z ▸ ha)
  · by_cases hlt : i < h.length
    · rw [List.getElem?_append_left hlt] at hi
      obtain ⟨a, o', e1, e2, e3⟩ := r.at_ i ob' hi
      refine ⟨a, o', e.ix e1, ?_, e3.ext e⟩
      rw [upd_ne (ne_of_none e2 hp)]
      exact e2
    · rw [List.getElem?_append_right (by omega)] at hi
      have hi0 : i - h.length = 0 := by
        have := (List.getElem?_eq_some_iff.mp hi).1
        simp at this
        omega
      rw [hi0] at hi
      cases hi
      refine ⟨p, o, ?_, upd_same, g.ext e⟩
      rw [List.getElem?_append_right (by rw [r.len]; omega), r.len, hi0]
      rfl
/-- a new object that never changes -/
theorem RH.imm (r : RH K w m h H) {p : Addr} {o : HO} (hp : H p = none) : RH K w m h (upd H p o) ∧ Ext m H m (upd H p o) := by
  have e : Ext m H m (upd H p o) := Ext.upd_new hp
  refine ⟨⟨r.nd, r.len, fun i ob hi => ?_⟩, e⟩
  obtain ⟨a, o', e1, e2, e3⟩ := r.at_ i ob hi
  exact ⟨a, o', e1, by rw [upd_ne (ne_of_none e2 hp)]; exact e2, e3.ext e⟩
/-- an object of ours changes -/
theorem RH.write (r : RH K w m h H) {i : Nat} {a : Addr} {ob : Ob} {o : HO} (ha : m[i]? = some a) (g : RelOb K w m H ob o) : RH K w m (h.set i ob) (upd H a o) ∧ Ext m H m (upd H a o) := by
  have hi : i < h.length := by rw [← r.len]; exact (List.getElem?_eq_some_iff.mp ha).1
  obtain ⟨o0, e0, g0⟩ := r.get ha (List.getElem?_eq_getElem hi)
  have e : Ext m H m (upd H a o) := ⟨⟨[], (List.append_nil m).symm⟩, fun b u im hb => by
    by_cases z : b = a
    · subst z
      rw [e0] at hb; cases hb
      rw [g0.mut] at im; cases im
    · rw [upd_ne z]; exact hb⟩
  refine ⟨⟨r.nd, by rw [List.length_set]; exact r.len, fun j ob' hj => ?_⟩, e⟩
  by_cases z : j = i
  · subst z
    rw [List.getElem?_set_self hi] at hj
    cases hj
    exact ⟨a, o, ha, upd_same, g.ext e⟩
  · rw [List.getElem?_set_ne (fun q => z q.symm)] at hj
    obtain ⟨a', o', e1, e2, e3⟩ := r.at_ j ob' hj
    refine ⟨a', o', e1, ?_, e3.ext e⟩
    have hne : a' ≠ a := fun q => by
      subst q
      obtain ⟨hj1, g1⟩ := List.getElem?_eq_some_iff.mp e1
      obtain ⟨hi1, g2⟩ := List.getElem?_eq_some_iff.mp ha
      exact z ((List.getElem_inj r.nd).mp (g1.trans g2.symm))
    rw [upd_ne hne]
    exact e2
end
end Dd

set_option Elab.async false
set_option linter.all false
set_option maxRecDepth 100000
set_option maxHeartbeats 4000000
namespace Dd
open PySem L2

/-! # 3. What the program does to plain data -/
inductive Rs (α : Type) where
  | ok (a : α)
  | ex (c : Nat) (p : D)
inductive Fl where
  | next | brk | cont | ret (d : D) | ex (c : Nat) (p : D)
/-- an expression; a statement -/
abbrev M (α : Type) := DE → DH → Option (Rs α × DH)
abbrev MS := DE → DH → Option (Fl × DE × DH)
abbrev Call := Nat → List D → DH → Option (Rs D × DH)

section
variable {α β : Type}
def stuck : M α := fun _ _ => none
def ret (a : α) : M α := fun _ h => some (.ok a, h)
def bnd (m : M α) (k : α → M β) : M β := fun e h =>
  match m e h with
  | none => none
  | some (.ex c p, h1) => some (.ex c p, h1)
  | some (.ok a, h1) => k a e h1
/-- an operation on the heap alone -/
def lift (f : DH → Option (α × DH)) : M α := fun _ h => match f h with | some (a, h1) => some (.ok a, h1) | none => none
def var (i : Nat) : M D := fun e h => match e[i]? with | some (some d) => some (.ok d, h) | _ => none
end
def op1 (f : D → DH → Option (D × DH)) (a : M D) : M D := bnd a fun x => lift (f x)
def op2 (f : D → D → DH → Option (D × DH)) (a b : M D) : M D := bnd a fun x => bnd b fun y => lift (f x y)
def args : List (M D) → M (List D)
  | [] => ret []
  | m :: r => bnd m fun x => bnd (args r) fun xs => ret (x :: xs)
def opN (f : List D → DH → Option (D × DH)) (as : List (M D)) : M D := bnd (args as) fun xs => lift (f xs)
def callM (F : Call) (i : Nat) (as : List (M D)) : M D := bnd (args as) fun xs => fun _ h => F i xs h
/-- tests -/
def tst (m : M D) : M Bool := bnd m fun x => match x with | .bl b => ret b | _ => stuck
def tru (f : D → DH → Option Bool) (m : M D) : M Bool := bnd m fun x => lift fun h => (f x h).map fun b => (b, h)
def notT (t : M Bool) : M Bool := bnd t fun b => ret (!b)
def andT (t u : M Bool) : M Bool := bnd t fun b => if b then u else ret false
def orT (t u : M Bool) : M Bool := bnd t fun b => if b then ret true else u
def notV (m : M D) : M D := bnd m fun x => match x with | .bl b => ret (.bl (!b)) | _ => stuck
def andV (m n : M D) : M D := bnd m fun x => match x with | .bl b => if b then n else ret (.bl false) | _ => stuck
def orV (m n : M D) : M D := bnd m fun x => match x with | .bl b => if b then ret (.bl true) else n | _ => stuck
def iteM (t : M Bool) (a b : M D) : M D := bnd t fun c => if c then a else b
def chn (f g : D → D → DH → Option (D × DH)) (a b c : M D) : M D := bnd a fun x => bnd b fun y => bnd (lift (f x y)) fun z =>
  match z with | .bl k => if k then bnd c fun u => lift (g y u) else ret (.bl false) | _ => stuck

/-! ### operations -/
abbrev Z : Nat := 16777216
def lstAt (h : DH) (i : Nat) : Option (List D) := match h[i]? with | some (.lst xs) => some xs | _ => none
def newOb (o : Ob) (h : DH) : Option (D × DH) := some (.ref h.length, h ++ [o])
def pureO (d : Option D) (h : DH) : Option (D × DH) := d.map fun x => (x, h)
def addD : D → D → DH → Option (D × DH)
  | .int i, .int j, h => some (.int (i + j), h)
  | .str x, .str y, h => if x.length + y.length ≤ Z then some (.str (x ++ y), h) else none
  | .tup xs, .tup ys, h => if xs.length + ys.length ≤ Z then some (.tup (xs ++ ys), h) else none
  | .ref i, .ref j, h => match lstAt h i, lstAt h j with
    | some xs, some ys => if xs.length + ys.length ≤ Z then newOb (.lst (xs ++ ys)) h else none
    | _, _ => none
  | _, _, _ => none
def subD : D → D → DH → Option (D × DH)
  | .int i, .int j, h => some (.int (i - j), h)
  | _, _, _ => none
/-- (kept so that an unknown number stops the reckoning at once) -/
def below (i : Int) (m : Nat) : Bool := Nat.blt i.natAbs m
theorem below_iff {i : Int} {m : Nat} : below i m = true ↔ -(m : Int) < i ∧ i < m := by
  unfold below
  rw [Nat.blt_eq]
  omega
def leI : Int → Int → Bool
  | .ofNat a, .ofNat b => Nat.ble a b
  | .negSucc a, .negSucc b => Nat.ble b a
  | .negSucc _, .ofNat _ => true
  | .ofNat _, .negSucc _ => false
theorem leI_eq (i j : Int) : leI i j = decide (i ≤ j) := by
  apply Bool.eq_iff_iff.mpr
  rw [decide_eq_true_eq]
  cases i with
  | ofNat a => cases j with
    | ofNat b =>
      show Nat.ble a b = true ↔ ((a : Nat) : Int) ≤ ((b : Nat) : Int)
      rw [Nat.ble_eq]
      omega
    | negSucc b =>
      show false = true ↔ ((a : Nat) : Int) ≤ Int.negSucc b
      constructor
      · intro z; cases z
      · intro z; omega
  | negSucc a => cases j with
    | ofNat b =>
      show true = true ↔ Int.negSucc a ≤ ((b : Nat) : Int)
      constructor
      · intro _; omega
      · intro _; rfl
    | negSucc b =>
      show Nat.ble b a = true ↔ _
      rw [Nat.ble_eq]
      omega
def ltI (i j : Int) : Bool := !leI j i
theorem ltI_eq (i j : Int) : ltI i j = decide (i < j) := by
  unfold ltI
  rw [leI_eq]
  apply Bool.eq_iff_iff.mpr
  rw [Bool.not_eq_true', decide_eq_false_iff_not, decide_eq_true_eq]
  omega
def smallI (i : Int) : Bool := below i 18446744073709551616
def mulD : D → D → DH → Option (D × DH)
  | .int i, .int j, h => if smallI i || smallI j then some (.int (i * j), h) else none
  | .ref l, .int k, h => match lstAt h l with
    | some xs => if below k 9223372036854775808 = true ∧ xs.length * k.toNat ≤ Z then newOb (.lst (List.replicate k.toNat xs).flatten) h else none
    | none => none
  | .str x, .int k, h => if below k 1000001 = true ∧ x.length ≤ 1000000 ∧ x.length * k.toNat ≤ 1000000 then some (.str (PySem.Txt.mul x k), h) else none
  | _, _, _ => none
def fdivD : D → D → DH → Option (D × DH)
  | .int i, .int j, h => if 0 < j ∧ below j 1073741824 = true then some (.int (i / j), h) else none
  | _, _, _ => none
def modD : D → D → DH → Option (D × DH)
  | .int i, .int j, h => if 0 < j then some (.int (i % j), h) else none
  | _, _, _ => none
def negD : D → DH → Option (D × DH)
  | .int i, h => some (.int (-i), h)
  | _, _ => none
def binD : PySem.Operator → Option (D → D → DH → Option (D × DH))
  | .Add => some addD
  | .Sub => some subD
  | .Mult => some mulD
  | .FloorDiv => some fdivD
  | .Mod => some modD
  | _ => none

/-- as the library's data; the number bounds how deep lists are followed -/
def toPy (h : DH) : Nat → D → Option PyData
  | 0, _ => none
  | n + 1, d => match d with
    | .non => some .none
    | .bl b => some (.bool b)
    | .int i => some (.int i)
    | .str x => some (.str x)
    | .tup xs => (xs.mapM (toPy h n)).map .tuple
    | .kt xs => (xs.mapM (toPy h n)).map .tuple
    | .ref i => match h[i]? with
      | some (.lst xs) => (xs.mapM (toPy h n)).map .list
      | _ => none
    | .frz ns => some (.list (ns.map .int))
    | .wd _ => none
def scalD : D → D → Option Bool
  | .non, .non => some true
  | .non, .int _ => some false | .int _, .non => some false | .non, .bl _ => some false | .bl _, .non => some false | .non, .str _ => some false | .str _, .non => some false
  | .int i, .int j => some (decide (i = j))
  | .bl i, .bl j => some (decide (i = j))
  | .str i, .str j => some (decide (i = j))
  | .int _, .str _ => some false | .str _, .int _ => some false | .bl _, .str _ => some false | .str _, .bl _ => some false
  | _, _ => none
def eqB (a b : D) (h : DH) : Option Bool := match scalD a b with
  | some r => some r
  | none => match toPy h 20 a, toPy h 20 b with
    | some x, some y => if SeqAt.shaped x && SeqAt.shaped y then some (PyData.eqv x y) else none
    | _, _ => none
def eqD (a b : D) (h : DH) : Option (D × DH) := (eqB a b h).map fun r => (.bl r, h)
def neD (a b : D) (h : DH) : Option (D × DH) := (eqB a b h).map fun r => (.bl (!r), h)
def ltD : D → D → DH → Option (D × DH)
  | .int i, .int j, h => some (.bl (ltI i j), h)
  | .str i, .str j, h => some (.bl (decide (i.cps.toList < j.cps.toList)), h)
  | _, _, _ => none
def leD : D → D → DH → Option (D × DH)
  | .int i, .int j, h => some (.bl (leI i j), h)
  | .str i, .str j, h => some (.bl (!decide (j.cps.toList < i.cps.toList)), h)
  | _, _, _ => none
def gtD : D → D → DH → Option (D × DH)
  | .int i, .int j, h => some (.bl (ltI j i), h)
  | .str i, .str j, h => some (.bl (decide (j.cps.toList < i.cps.toList)), h)
  | _, _, _ => none
def geD : D → D → DH → Option (D × DH)
  | .int i, .int j, h => some (.bl (leI j i), h)
  | .str i, .str j, h => some (.bl (!decide (i.cps.toList < j.cps.toList)), h)
  | _, _, _ => none
def isNonD : D → Bool
  | .non => true
  | _ => false
def isD : D → D → DH → Option (D × DH)
  | x, .non, h => some (.bl (isNonD x), h)
  | .bl a, .bl b, h => some (.bl (decide (a = b)), h)
  | _, _, _ => none
def isNotD (a b : D) (h : DH) : Option (D × DH) := match isD a b h with | some (.bl r, h1) => some (.bl (!r), h1) | _ => none
def keyD : D → Option Key
  | .int i => some (.inl i)
  | .str x => some (.inr x)
  | _ => none
def keysD (xs : List D) : Option (List Key) := xs.mapM keyD
def lookD {κ : Type} [DecidableEq κ] (kvs : List (κ × D)) (k : κ) : Option D := (kvs.find? fun p => decide (p.1 = k)).map (·.2)
def putD {κ : Type} [DecidableEq κ] (kvs : List (κ × D)) (k : κ) (v : D) : List (κ × D) :=
  if (kvs.any fun p => decide (p.1 = k)) then kvs.map fun p => if p.1 = k then (p.1, v) else p else kvs ++ [(k, v)]
/-- what a dict has at a key; none: no dict, or no such keys -/
def dGet (d k : D) (h : DH) : Option (Option D) := match d with
  | .ref i => match h[i]?, k with
    | some (.dk kvs), k => (keyD k).map (lookD kvs)
    | some (.dt kvs), .tup ks => (keysD ks).map (lookD kvs)
    | _, _ => none
  | .wd kvs => match k with
    | .str x => some (kvs.lookup x)
    | _ => none
  | _ => none
def flatD : D → Bool
  | .non => true | .bl _ => true | .int _ => true | .str _ => true
  | _ => false
def anyEq (x : D) (h : DH) : List D → Option Bool
  | [] => some false
  | y :: r => match scalD y x with
    | some a => (anyEq x h r).map (a || ·)
    | none => none
def inB (x d : D) (h : DH) : Option Bool := match d with
  | .str z => match x with
    | .str c => if c.length = 1 then some (decide (c.cps.getD 0 0 ∈ z.cps.toList)) else none
    | _ => none
  | .tup xs => if flatD x && xs.all flatD then anyEq x h xs else none
  | .kt xs => if flatD x && xs.all flatD then anyEq x h xs else none
  | .ref i => match h[i]? with
    | some (.lst xs) => if flatD x && xs.all flatD then anyEq x h xs else none
    | some _ => (dGet d x h).map Option.isSome
    | none => none
  | .wd _ => (dGet d x h).map Option.isSome
  | _ => none
def inD (x d : D) (h : DH) : Option (D × DH) := (inB x d h).map fun r => (.bl r, h)
def notInD (x d : D) (h : DH) : Option (D × DH) := (inB x d h).map fun r => (.bl (!r), h)
def cmpD : PySem.CmpOp → Option (D → D → DH → Option (D × DH))
  | .Eq => some eqD
  | .NotEq => some neD
  | .Lt => some ltD
  | .LtE => some leD
  | .Gt => some gtD
  | .GtE => some geD
  | .Is => some isD
  | .IsNot => some isNotD
  | .In => some inD
  | .NotIn => some notInD
/-- order alone: what may stand in a chain -/
def ordD : PySem.CmpOp → Option (D → D → DH → Option (D × DH))
  | .Lt => some ltD
  | .LtE => some leD
  | .Gt => some gtD
  | .GtE => some geD
  | _ => none
def truD (x : D) (h : DH) : Option Bool := match x with
  | .non => some false
  | .bl b => some b
  | .int i => some (i != 0)
  | .tup xs => some (!xs.isEmpty)
  | .kt xs => some (!xs.isEmpty)
  | .ref i => match h[i]? with
    | some (.lst xs) => some (!xs.isEmpty)
    | some (.dk xs) => some (!xs.isEmpty)
    | _ => none
  | _ => none
def strAt (x : Str) (i : Int) : Option Nat := if x.length ≤ Z then L2.atI x.cps.toList i else none
def ixD (a b : D) (h : DH) : Option (D × DH) := match a, b with
  | .tup xs, .int i => pureO (L2.atI xs i) h
  | .kt xs, .int i => pureO (L2.atI xs i) h
  | .frz ns, .int i => pureO ((L2.atI ns i).map D.int) h
  | .str x, .int i => pureO ((strAt x i).map fun c => .str ⟨#[c]⟩) h
  | .ref i, k => match h[i]? with
    | some (.lst xs) => match k with
      | .int j => pureO (L2.atI xs j) h
      | _ => none
    | some _ => match dGet a k h with
      | some (some d) => some (d, h)
      | _ => none
    | none => none
  | .wd _, k => match dGet a k h with
    | some (some d) => some (d, h)
    | _ => none
  | _, _ => none
def sIxN (n d : Nat) : Option Int → Nat := HT.sIx n d
def cutD {α : Type} (xs : List α) (lo hi : Option Int) : List α := (xs.drop (HT.sIx xs.length 0 lo)).take (HT.sIx xs.length xs.length hi - HT.sIx xs.length 0 lo)
def sliceD (a : D) (lo hi : Option Int) (h : DH) : Option (D × DH) := match a with
  | .tup xs => some (.tup (cutD xs lo hi), h)
  | .ref i => match lstAt h i with
    | some xs => newOb (.lst (cutD xs lo hi)) h
    | none => none
  | _ => none
def tyName (d : D) (h : DH) : Option String := match d with
  | .non => some "NoneType"
  | .bl _ => some "bool"
  | .int _ => some "int"
  | .str _ => some "str"
  | .tup _ => some "tuple"
  | .kt _ => some "tuple"
  | .frz _ => some "list"
  | .wd _ => some "dict"
  | .ref i => match h[i]? with
    | some (.lst _) => some "list"
    | some (.dk _) => some "dict"
    | some (.dt _) => some "dict"
    | none => none
def isTy (T n : String) : Bool := n == T || (n == "bool" && T == "int")
def isinD (T : String) (d : D) (h : DH) : Option (D × DH) := (tyName d h).map fun n => (.bl (isTy T n), h)
def typNames : List (Str × String) := [("tuple", "tuple"), ("str", "str"), ("int", "int"), ("bool", "bool"), ("list", "list"), ("dict", "dict")]

inductive Blt where
  | len | abs | int | str | tuple | list | all | any | ord | repr | min | max
  deriving DecidableEq
def blts : List (Str × Blt) := [("len", .len), ("abs", .abs), ("int", .int), ("str", .str), ("tuple", .tuple), ("list", .list), ("all", .all), ("any", .any), ("ord", .ord), ("repr", .repr), ("min", .min), ("max", .max)]
def bools : List D → Option (List Bool)
  | [] => some []
  | .bl b :: r => (bools r).map (b :: ·)
  | _ => none
def reprOk (x : PyData) : Bool := x.showable && !x.hasDict && decide (x.depth ≤ 60) && decide (x.shown.length + 64 ≤ Z)
def bltD (b : Blt) (xs : List D) (h : DH) : Option (D × DH) := match b, xs with
  | .len, [.str x] => if x.length ≤ Z then some (.int x.length, h) else none
  | .len, [.tup ds] => some (.int ds.length, h)
  | .len, [.kt ds] => some (.int ds.length, h)
  | .len, [.frz ns] => some (.int ns.length, h)
  | .len, [.ref i] => match h[i]? with
    | some (.lst ds) => some (.int ds.length, h)
    | some (.dk ds) => some (.int ds.length, h)
    | _ => none
  | .abs, [.int i] => some (.int (if i < 0 then -i else i), h)
  | .int, [.int i] => some (.int i, h)
  | .int, [.bl k] => some (.int (if k then 1 else 0), h)
  | .str, [.int i] => if i.natAbs.log2 < 1920 then some (.str (toString i), h) else none
  | .tuple, [.ref i] => match lstAt h i with
    | some ds => some (.tup ds, h)
    | none => none
  | .tuple, [.tup ds] => some (.tup ds, h)
  | .list, [.ref i] => match lstAt h i with
    | some ds => newOb (.lst ds) h
    | none => none
  | .list, [.tup ds] => newOb (.lst ds) h
  | .list, [.frz ns] => newOb (.lst (ns.map .int)) h
  | .all, [.ref i] => match lstAt h i with
    | some ds => (bools ds).map fun bs => (.bl (bs.all id), h)
    | none => none
  | .any, [.ref i] => match lstAt h i with
    | some ds => (bools ds).map fun bs => (.bl (bs.any id), h)
    | none => none
  | .ord, [.str x] => if x.length = 1 then some (.int (x.cps.getD 0 0 : Nat), h) else none
  | .repr, [.tup ds] => match toPy h 20 (.tup ds) with
    | some x => if reprOk x then some (.str x.shown, h) else none
    | none => none
  | .repr, [.ref i] => match toPy h 20 (.ref i) with
    | some x => if reprOk x then some (.str x.shown, h) else none
    | none => none
  | .min, [.int i, .int j] => some (.int (if j < i then j else i), h)
  | .max, [.int i, .int j] => some (.int (if j > i then j else i), h)
  | _, _ => none
/-- built-ins that ask a calm frame -/
def needsCalm : Blt → Bool
  | .all => true | .any => true | .min => true | .max => true
  | _ => false

inductive Mth where
  | append | extend | pop | join
  deriving DecidableEq
def mths : List (Str × Mth) := [("append", .append), ("extend", .extend), ("pop", .pop), ("join", .join)]
def txts : List D → Option (List Str)
  | [] => some []
  | .str x :: r => (txts r).map (x :: ·)
  | _ => none
def joinLen (a : Str) (ys : List Str) : Nat := (ys.map fun y => y.length).sum + ys.length * a.length
def mthD (m : Mth) (o : D) (xs : List D) (h : DH) : Option (D × DH) := match m, o, xs with
  | .append, .ref i, [d] => match lstAt h i with
    | some ds => if ds.length < Z then some (.non, h.set i (.lst (ds ++ [d]))) else none
    | none => none
  | .extend, .ref i, [.ref j] => match lstAt h i, lstAt h j with
    | some xs, some ys => if xs.length + ys.length ≤ Z then some (.non, h.set i (.lst (xs ++ ys))) else none
    | _, _ => none
  | .pop, .ref i, [] => match lstAt h i with
    | some ds => match ds.getLast? with
      | some d => some (d, h.set i (.lst ds.dropLast))
      | none => none
    | none => none
  | .join, .str a, [.ref i] => match lstAt h i with
    | some ds => match txts ds with
      | some ys => if joinLen a ys ≤ Z then some (.str (PySem.Str.join a ys), h) else none
      | none => none
    | none => none
  | _, _, _ => none
/-- what is walked by a for -/
inductive Src where
  | items (xs : List D)
  | live (i n : Nat)
def Src.len : Src → Nat
  | .items xs => xs.length
  | .live _ n => n
def Src.at_ (s : Src) (k : Nat) (h : DH) : Option D := match s with
  | .items xs => xs[k]?
  | .live i n => match lstAt h i with
    | some xs => if xs.length = n then xs[k]? else none
    | none => none
def Src.done (s : Src) (h : DH) : Bool := match s with
  | .items _ => true
  | .live i n => match lstAt h i with
    | some xs => decide (xs.length = n)
    | none => false
def signs (x : Str) : List D := x.cps.toList.map fun c => .str ⟨#[c]⟩
def srcD (d : D) (h : DH) : Option (Src × DH) := match d with
  | .tup xs => some (.items xs, h)
  | .kt xs => some (.items xs, h)
  | .str x => some (.items (signs x), h)
  | .frz ns => some (.items (ns.map .int), h)
  | .ref i => (lstAt h i).map fun xs => (.live i xs.length, h)
  | _ => none
def rngs (lo : Int) (n : Nat) : Src := .items ((List.range n).map fun k => .int (lo + (k : Nat)))
def in62 (i : Int) : Bool := below i 4611686018427387904
def rng1 : D → DH → Option (Src × DH)
  | .int j, h => if in62 j then some (rngs 0 j.toNat, h) else none
  | _, _ => none
def rng2 : D → D → DH → Option (Src × DH)
  | .int i, .int j, h => if in62 i && in62 j then some (rngs i (j - i).toNat, h) else none
  | _, _, _ => none
/-- zip of two: pairs as far as both go -/
def zipD (a b : D) (h : DH) : Option (Src × DH) := match a, b with
  | .tup xs, .tup ys => some (.items ((xs.zip ys).map fun p => .tup [p.1, p.2]), h)
  | _, _ => none
/-- targets -/
inductive Tg where
  | nm (i : Nat)
  | tp (is : List Nat)
def setAll : List Nat → List D → DE → Option DE
  | [], [], e => some e
  | i :: is, d :: ds, e => setAll is ds (e.set i (some d))
  | _, _, _ => none
def unpk (d : D) (h : DH) : Option (List D) := match d with
  | .tup xs => some xs
  | .kt xs => some xs
  | .ref i => lstAt h i
  | _ => none
def Tg.put (t : Tg) (d : D) (h : DH) (e : DE) : Option DE := match t with
  | .nm i => some (e.set i (some d))
  | .tp is => match unpk d h with
    | some ds => setAll is ds e
    | none => none
def wipeE (e : DE) : List Nat → DE
  | [] => e
  | v :: vs => (wipeE e vs).set v none
/-! ### comprehensions: the list stands at id while it grows -/
def lcLoop (s : Src) (t : Tg) (c : M Bool) (m : M D) (id : Nat) (e : DE) : Nat → Nat → DH → Option DH
  | 0, _, h => if s.done h then some h else none
  | r + 1, k, h => match s.at_ k h with
    | none => none
    | some d => match t.put d h e with
      | none => none
      | some e1 => match c e1 h with
        | some (.ok true, h1) => match m e1 h1 with
          | some (.ok x, h2) => match lstAt h2 id with
            | some acc => if acc.length < Z then lcLoop s t c m id e r (k + 1) (h2.set id (.lst (acc ++ [x]))) else none
            | none => none
          | _ => none
        | some (.ok false, h1) => lcLoop s t c m id e r (k + 1) h1
        | _ => none
def lcM (vs : List Nat) (it : M Src) (t : Tg) (c : M Bool) (m : M D) : M D := bnd it fun s => fun e h =>
  (lcLoop s t c m h.length (wipeE e vs) s.len 0 (h ++ [.lst []])).map fun h1 => (.ok (.ref h.length), h1)
/-- {k: v for ..}: keys tuples -/
def dcLoop (s : Src) (t : Tg) (mk mv : M D) (id : Nat) (e : DE) : Nat → Nat → DH → Option DH
  | 0, _, h => if s.done h then some h else none
  | r + 1, k, h => match s.at_ k h with
    | none => none
    | some d => match t.put d h e with
      | none => none
      | some e1 => match mk e1 h with
        | some (.ok (.tup ks), h1) => match mv e1 h1 with
          | some (.ok x, h2) => match keysD ks, h2[id]? with
            | some kk, some (.dt kvs) => if kvs.length < Z then dcLoop s t mk mv id e r (k + 1) (h2.set id (.dt (putD kvs kk x))) else none
            | _, _ => none
          | _ => none
        | _ => none
def dcM (vs : List Nat) (it : M Src) (t : Tg) (mk mv : M D) : M D := bnd it fun s => fun e h =>
  (dcLoop s t mk mv h.length (wipeE e vs) s.len 0 (h ++ [.dt []])).map fun h1 => (.ok (.ref h.length), h1)
/-- {k: v, ..} written out, keys texts or ints -/
def dispL : List (M D × M D) → M (List (D × D))
  | [] => ret []
  | p :: r => bnd p.1 fun k => bnd p.2 fun v => bnd (dispL r) fun rs => ret ((k, v) :: rs)
def dispKV (ps : List (D × D)) : Option (List (Key × D)) := ps.mapM fun p => (keyD p.1).map fun k => (k, p.2)
def dispM (ps : List (M D × M D)) : M D := fun e h =>
  match dispL ps e (h ++ [.dk []]) with
  | some (.ok kvs, h1) => match h1[h.length]?, dispKV kvs with
    | some (.dk []), some l => if l.length ≤ 15 then some (.ok (.ref h.length), h1.set h.length (.dk (l.foldl (fun acc kv => putD acc kv.1 kv.2) []))) else none
    | _, _ => none
  | _ => none

/-! ### statements -/
def skip : MS := fun e h => some (.next, e, h)
def stuckS : MS := fun _ _ => none
def seq (a b : MS) : MS := fun e h =>
  match a e h with
  | some (.next, e1, h1) => b e1 h1
  | r => r
def withM {α : Type} (m : M α) (k : α → MS) : MS := fun e h =>
  match m e h with
  | none => none
  | some (.ex c p, h1) => some (.ex c p, e, h1)
  | some (.ok a, h1) => k a e h1
def drop (m : M D) : MS := withM m fun _ => skip
def retS (m : M D) : MS := withM m fun d => fun e h => some (.ret d, e, h)
def asg (t : Tg) (m : M D) : MS := withM m fun d => fun e h => (t.put d h e).map fun e1 => (.next, e1, h)
def ifS (t : M Bool) (a b : MS) : MS := withM t fun c => if c then a else b
def raiS (c : Nat) (m : M D) : MS := withM m fun p => fun e h => some (.ex c p, e, h)
def putAt (o k v : D) (h : DH) : Option DH := match o with
  | .ref i => match h[i]?, k with
    | some (.lst xs), .int j => match L2.ixN xs.length j with
      | some n => some (h.set i (.lst (xs.set n v)))
      | none => none
    | some (.dk kvs), k => match keyD k with
      | some kk => if kvs.length < Z then some (h.set i (.dk (putD kvs kk v))) else none
      | none => none
    | some (.dt kvs), .tup ks => match keysD ks with
      | some kk => if kvs.length < Z then some (h.set i (.dt (putD kvs kk v))) else none
      | none => none
    | _, _ => none
  | _ => none
def setS (o k m : M D) : MS := withM m fun v => withM o fun x => withM k fun y => fun e h => (putAt x y v h).map fun h1 => (.next, e, h1)
def augS (f : D → D → DH → Option (D × DH)) (i : Nat) (m : M D) : MS := withM (var i) fun x => withM m fun y => withM (lift (f x y)) fun z => fun e h => some (.next, e.set i (some z), h)
def forL (s : Src) (t : Tg) (b : MS) : Nat → Nat → MS
  | 0, _ => fun e h => if s.done h then some (.next, e, h) else none
  | r + 1, k => fun e h => match s.at_ k h with
    | none => none
    | some d => match t.put d h e with
      | none => none
      | some e1 => match b e1 h with
        | some (.next, e2, h2) => forL s t b r (k + 1) e2 h2
        | some (.cont, e2, h2) => forL s t b r (k + 1) e2 h2
        | some (.brk, e2, h2) => some (.next, e2, h2)
        | r => r
def forS (it : M Src) (t : Tg) (b : MS) : MS := withM it fun s => forL s t b s.len 0
def whileL (t : M Bool) (b : MS) : Nat → MS
  | 0 => stuckS
  | r + 1 => withM t fun c => if c then fun e h => match b e h with
      | some (.next, e2, h2) => whileL t b r e2 h2
      | some (.cont, e2, h2) => whileL t b r e2 h2
      | some (.brk, e2, h2) => some (.next, e2, h2)
      | r => r
    else skip
def noEx (r : Option (Fl × DE × DH)) : Option (Fl × DE × DH) := match r with
  | some (.ex _ _, _, _) => none
  | r => r
def tryS (b : MS) (c : Nat) (i : Option Nat) (s : MS) : MS := fun e h =>
  match b e h with
  | some (.ex c' p, e1, h1) => if c' = c then
      match i with
      | some i => match noEx (s (e1.set i (some p)) h1) with
        | some (f, e2, h2) => some (f, e2.set i none, h2)
        | none => none
      | none => noEx (s e1 h1)
    else none
  | r => r
end Dd

set_option Elab.async false
set_option linter.all false
set_option maxRecDepth 100000
set_option maxHeartbeats 4000000
namespace Dd
open PySem L2

/-! # 4. From the text to what it does -/
structure CE where
  N : List Str
  sc : Scope
  own : Bool
  blk : List (Str × NameKind)
  calm : Bool
  hk : Option (Nat × Nat)
  fns : List (Str × Nat)
  con : List (Str × D)
  exc : List (Str × Str)
def ixOf (x : Str) : List Str → Option Nat
  | [] => none
  | y :: r => if x = y then some 0 else (ixOf x r).map (· + 1)
def fnIx (x : Str) : List (Str × Nat) → Nat → Option (Nat × Nat)
  | [], _ => none
  | (y, a) :: r, k => if x = y then some (k, a) else fnIx x r (k + 1)
def exIx (x : Str) : List (Str × Str) → Nat → Option Nat
  | [], _ => none
  | (y, _) :: r, k => if x = y then some k else exIx x r (k + 1)
def plainNm (x : Str) : Bool := !(x == ("__debug__" : Str)) && !(x == ("__classdict__" : Str)) && !(x == ("__name__" : Str))
def visIx (C : CE) (x : Str) : Option Nat :=
  if plainNm x then
    match C.sc.names.lookup x with
    | some .local => ixOf x C.N
    | some .cell => ixOf x C.N
    | some .free => ixOf x C.N
    | _ => none
  else none
def glb (C : CE) (x : Str) : Bool := plainNm x && decide (C.sc.names.lookup x = some .globalImplicit)
/-- a name that may be stored -/
def locIx (C : CE) (x : Str) : Option Nat :=
  match C.sc.names.lookup x with
  | some .local => ixOf x C.N
  | some .cell => if C.own || decide (C.blk.lookup x = some .cell) then ixOf x C.N else none
  | _ => none
def isHk (C : CE) (i : Nat) : Bool := match C.hk with | some (j, _) => decide (i = j) | none => false
def bltNms : List Str := (blts.map (·.1)) ++ typNames.map (·.1) ++ (["isinstance", "range", "enumerate", "zip", "reversed", "sorted", "ValueError"] : List Str)
def noStar : Expr → Bool
  | .Starred _ _ => false
  | _ => true
def isComp : Expr → Bool
  | .ListComp _ _ _ _ => true
  | .SetComp _ _ _ _ => true
  | .DictComp _ _ _ _ _ => true
  | _ => false
def isSetE : Expr → Bool
  | .Set _ _ _ => true
  | _ => false
def callOf : Expr → Option (Str × List Expr)
  | .Call (.Name f _) as [] _ => some (f, as)
  | _ => none
def isTupE : Expr → Bool
  | .Tuple _ _ _ => true
  | _ => false
def isSl : Expr → Bool
  | .Slice _ _ _ _ => true
  | _ => false
/-- a test that is no value's truth -/
def isTst : Expr → Bool
  | .UnaryOp .Not _ _ => true
  | .BoolOp _ _ _ => true
  | .IfExp _ _ _ _ => true
  | .Compare _ _ _ _ => true
  | _ => false
def baseOk : Expr → Bool
  | .Call (.Name _ _) [] [] _ => false
  | _ => true
/-- the block's own names with their slots -/
def ownOf (N : List Str) (sc : Scope) : List (Str × Nat) := sc.names.filterMap fun y => match y.2 with
  | .local => (ixOf y.1 N).map fun i => (y.1, i)
  | .cell => (ixOf y.1 N).map fun i => (y.1, i)
  | _ => none
def CE.inBlk (C : CE) (sc : Scope) : CE := { C with sc := relS sc C.sc, own := false, blk := sc.names }
def nmIx (C : CE) : Expr → Option Nat
  | .Name x _ => match locIx C x with
    | some i => if isHk C i then none else some i
    | none => none
  | _ => none
def nmsIx (C : CE) : List Expr → Option (List Nat)
  | [] => some []
  | e :: r => match nmIx C e, nmsIx C r with
    | some i, some is => some (i :: is)
    | _, _ => none
def tgOf (C : CE) : Expr → Option Tg
  | .Name x p => (nmIx C (.Name x p)).map .nm
  | .Tuple es _ _ => if C.calm then (nmsIx C es).map .tp else none
  | _ => none
def Tg.ixs : Tg → List Nat
  | .nm i => [i]
  | .tp is => is
def mthOk (m : Mth) (x : D) (h : DH) : Bool := match m, x with
  | .join, .str _ => true
  | .join, _ => false
  | _, .ref i => (lstAt h i).isSome
  | _, _ => false
def mthM (m : Mth) (o : M D) (as : List (M D)) : M D := bnd o fun x => bnd (lift fun h => if mthOk m x h then some ((), h) else none) fun _ => bnd (args as) fun xs => lift (mthD m x xs)
def sliceM (a : M D) (lo hi : M (Option Int)) : M D := bnd a fun x => bnd lo fun l => bnd hi fun u => lift (sliceD x l u)
def intOf (m : M D) : M (Option Int) := bnd m fun x => match x with | .int i => ret (some i) | _ => stuck
def tupM (xs : List D) (h : DH) : Option (D × DH) := if xs.length ≤ Z then some (.tup xs, h) else none
def lstM (xs : List D) (h : DH) : Option (D × DH) := if xs.length ≤ Z then newOb (.lst xs) h else none
def augI (f : Int → Int → Int) : D → D → DH → Option (D × DH)
  | .int i, .int j, h => some (.int (f i j), h)
  | _, _, _ => none
def augD : PySem.Operator → Option (D → D → DH → Option (D × DH))
  | .Add => some (augI fun i j => i + j)
  | .Sub => some (augI fun i j => i - j)
  | _ => none
def whileFuel : Nat := 1000000

def compT (C : CE) (tg it : Expr) (sc : Scope) : Option Tg :=
  if C.calm && blkC C.N C.sc sc (ownOf C.N sc) && !isSetE it then
    match tgOf (C.inBlk sc) tg with
    | some t => if t.ixs.all fun i => decide (i ∈ (ownOf C.N sc).map (·.2)) then some t else none
    | none => none
  else none
structure Sm where
  E : CE → Expr → M D
  T : CE → Expr → M Bool
  O : CE → Option Expr → M (Option Int)
  I : CE → Expr → Expr → M Src
  S : CE → Stmt → MS
  B : CE → List Stmt → MS

section
variable (F : Call) (Q : Sm)
def callE (C : CE) (f : Str) (as : List Expr) : M D :=
  if as.all noStar && decide (as.length < 30) && glb C f then
    match fnIx f C.fns 0 with
    | some (i, ar) => if C.calm && decide (as.length = ar) && decide (0 < ar) then callM F i (as.map (Q.E C)) else stuck
    | none => if f = "isinstance" then
        match as with
        | [a, .Name T _] => if glb C T then
            match typNames.lookup T with
            | some t => op1 (isinD t) (Q.E C a)
            | none => stuck
          else stuck
        | _ => stuck
      else match blts.lookup f with
        | some b => if (needsCalm b && !C.calm) || as.isEmpty then stuck else opN (bltD b) (as.map (Q.E C))
        | none => stuck
  else stuck
def compE (C : CE) (elt tg it : Expr) (ifs : List Expr) (sc : Scope) : M D := match compT C tg it sc with
  | some t => match ifs with
    | [] => lcM ((ownOf C.N sc).map (·.2)) (Q.I C tg it) t (ret true) (Q.E (C.inBlk sc) elt)
    | [c] => lcM ((ownOf C.N sc).map (·.2)) (Q.I C tg it) t (Q.T (C.inBlk sc) c) (Q.E (C.inBlk sc) elt)
    | _ => stuck
  | none => stuck
def dcompE (C : CE) (k v tg it : Expr) (sc : Scope) : M D := match compT C tg it sc with
  | some t => dcM ((ownOf C.N sc).map (·.2)) (Q.I C tg it) t (Q.E (C.inBlk sc) k) (Q.E (C.inBlk sc) v)
  | none => stuck
def stepE (C : CE) : Expr → M D
  | .Constant (.int i) _ _ => ret (.int i)
  | .Constant (.bool b) _ _ => ret (.bl b)
  | .Constant .none _ _ => ret .non
  | .Constant (.str x) _ _ => ret (.str x)
  | .Name x _ => match visIx C x with
    | some i => if isHk C i then stuck else var i
    | none => if glb C x then
        match C.con.lookup x with
        | some d => ret d
        | none => stuck
      else stuck
  | .BinOp a op b _ => match binD op with
    | some f => op2 f (Q.E C a) (Q.E C b)
    | none => stuck
  | .UnaryOp .USub a _ => op1 negD (Q.E C a)
  | .UnaryOp .Not a _ => notV (Q.E C a)
  | .BoolOp _ [a] _ => Q.E C a
  | .BoolOp .And (a :: b :: r) p => andV (Q.E C a) (Q.E C (.BoolOp .And (b :: r) p))
  | .BoolOp .Or (a :: b :: r) p => orV (Q.E C a) (Q.E C (.BoolOp .Or (b :: r) p))
  | .IfExp t a b _ => iteM (Q.T C t) (Q.E C a) (Q.E C b)
  | .Compare a [op] [b] _ => if isSetE b then stuck else match cmpD op with
    | some f => op2 f (Q.E C a) (Q.E C b)
    | none => stuck
  | .Compare a [op, op'] [b, c] _ => match ordD op, ordD op' with
    | some f, some g => chn f g (Q.E C a) (Q.E C b) (Q.E C c)
    | _, _ => stuck
  | .Tuple es _ _ => if es.all noStar then opN tupM (es.map (Q.E C)) else stuck
  | .List es _ => if es.all noStar then opN lstM (es.map (Q.E C)) else stuck
  | .Dict keys vals _ => if keys.all Option.isSome && decide (keys.length = vals.length) && !keys.isEmpty && decide (keys.length ≤ 15) then
      dispM ((keys.zip vals).map fun p => (match p.1 with | some k => Q.E C k | none => stuck, Q.E C p.2))
    else stuck
  | .Subscript a (.Slice lo hi none _) _ => sliceM (Q.E C a) (Q.O C lo) (Q.O C hi)
  | .Subscript a b _ => if isSl b then stuck else op2 ixD (Q.E C a) (Q.E C b)
  | .Attribute (.Name x _) f _ => match C.hk with
    | some (i, c) => if visIx C x = some i && decide ((C.exc[c]?).map (·.2) = some f) then var i else stuck
    | none => stuck
  | .Call (.Name f _) as [] _ => callE F Q C f as
  | .Call (.Attribute o m ap) as [] p => if (ap.endLine == p.line) && baseOk o && as.all noStar && decide (as.length < 30) then
      match mths.lookup m with
      | some k => if as.isEmpty && !decide (k = .pop) then stuck else mthM k (Q.E C o) (as.map (Q.E C))
      | none => stuck
    else stuck
  | .ListComp elt [⟨tg, it, ifs, 0⟩] sc _ => compE Q C elt tg it ifs sc
  | .DictComp k v [⟨tg, it, [], 0⟩] sc _ => dcompE Q C k v tg it sc
  | _ => stuck
def stepT (C : CE) : Expr → M Bool
  | .UnaryOp .Not a _ => notT (Q.T C a)
  | .BoolOp _ [a] _ => Q.T C a
  | .BoolOp .And (a :: b :: r) p => andT (Q.T C a) (Q.T C (.BoolOp .And (b :: r) p))
  | .BoolOp .Or (a :: b :: r) p => orT (Q.T C a) (Q.T C (.BoolOp .Or (b :: r) p))
  | .Compare a ops bs p => tst (stepE F Q C (.Compare a ops bs p))
  | e => if isTst e then stuck else tru truD (Q.E C e)
def stepO (C : CE) : Option Expr → M (Option Int)
  | none => ret none
  | some e => intOf (Q.E C e)
def anyI (C : CE) (e : Expr) : M Src := if isSetE e then stuck else bnd (Q.E C e) fun x => lift (srcD x)
def stepI (C : CE) (tg e : Expr) : M Src := match callOf e with
  | some (f, [a]) => if f = "range" then (if glb C f && noStar a then bnd (Q.E C a) fun x => lift (rng1 x) else stuck) else anyI Q C e
  | some (f, [a, b]) => if f = "range" then (if glb C f && noStar a && noStar b then bnd (Q.E C a) fun x => bnd (Q.E C b) fun y => lift (rng2 x y) else stuck)
    else if f = "zip" then (if glb C f && noStar a && noStar b && isTupE tg then bnd (Q.E C a) fun x => bnd (Q.E C b) fun y => lift (zipD x y) else stuck)
    else anyI Q C e
  | _ => anyI Q C e
def tryE (C : CE) (body : List Stmt) (x : Str) (n : Option Str) (su : List Stmt) : MS :=
  if C.calm && C.own && glb C x && !su.isEmpty then
    match exIx x C.exc 0 with
    | some c => match n with
      | some n => match C.sc.names.lookup n, ixOf n C.N with
        | some .local, some i => tryS (Q.B C body) c (some i) (Q.B { C with calm := false, hk := some (i, c) } su)
        | _, _ => stuckS
      | none => tryS (Q.B C body) c none (Q.B { C with calm := false, hk := none } su)
    | none => stuckS
  else stuckS
def stepS (C : CE) : Stmt → MS
  | .Return (some e) _ => retS (Q.E C e)
  | .Return none _ => retS (ret .non)
  | .Pass _ => skip
  | .Break _ => fun e h => some (.brk, e, h)
  | .Continue _ => fun e h => some (.cont, e, h)
  | .Expr (.Constant (.str _) _ _) _ => skip
  | .Expr e _ => if isComp e then stuckS else drop (Q.E C e)
  | .Assign [.Subscript o k _] e _ => if isSl k || isComp e then stuckS else setS (Q.E C o) (Q.E C k) (Q.E C e)
  | .Assign [tg] e _ => match tgOf C tg with
    | some t => if isTupE tg && isTupE e || isComp e && isTupE tg then stuckS else asg t (if isComp e then stepE F Q C e else Q.E C e)
    | none => stuckS
  | .AugAssign (.Name x _) op e _ => match locIx C x, augD op with
    | some i, some f => if isHk C i then stuckS else augS f i (Q.E C e)
    | _, _ => stuckS
  | .If t a b _ => ifS (Q.T C t) (Q.B C a) (Q.B C b)
  | .For tg it b [] _ => if C.calm && !isSetE it then
      match tgOf C tg with
      | some t => forS (Q.I C tg it) t (Q.B C b)
      | none => stuckS
    else stuckS
  | .While t b [] _ => whileL (Q.T C t) (Q.B C b) whileFuel
  | .Raise (some (.Call (.Name x _) [a] [] _)) none _ => if C.calm && C.own && glb C x && noStar a then
      match exIx x C.exc 0 with
      | some c => raiS c (Q.E C a)
      | none => stuckS
    else stuckS
  | .Try b [.ExceptHandler (some (.Name x _)) n su _] [] [] _ => tryE Q C b x n su
  | _ => stuckS
def stepB (C : CE) : List Stmt → MS
  | [] => skip
  | s :: r => seq (Q.S C s) (stepB C r)
def stepQ : Sm := ⟨stepE F Q, stepT F Q, stepO Q, stepI Q, stepS F Q, stepB Q⟩
end
def sem0 : Sm := ⟨fun _ _ => stuck, fun _ _ => stuck, fun _ _ => stuck, fun _ _ _ => stuck, fun _ _ => stuckS, fun _ _ => stuckS⟩
def sem (F : Call) : Nat → Sm
  | 0 => sem0
  | n + 1 => stepQ F (sem F n)

/-! # 5. The program: its defs by number -/
structure Fn where
  name : Str
  ps : List Str
  N : List Str
  sc : Scope
  body : List Stmt
structure Pg where
  fns : List Fn
  con : List (Str × D)
  exc : List (Str × Str)
def Pg.ce (P : Pg) (f : Fn) : CE := ⟨f.N, f.sc, true, [], true, none, P.fns.map fun g => (g.name, g.ps.length), P.con, P.exc⟩
def fuel : Nat := 60
def startD (N : List Str) (ds : List D) : DE := ds.map some ++ List.replicate (N.length - ds.length) none
def Fn.run (f : Fn) (P : Pg) (F : Call) (ds : List D) (h : DH) : Option (Rs D × DH) :=
  if ds.length = f.ps.length then
    match (sem F fuel).B (P.ce f) f.body (startD f.N ds) h with
    | some (.ret d, _, h1) => some (.ok d, h1)
    | some (.next, _, h1) => some (.ok .non, h1)
    | some (.ex c p, _, h1) => some (.ex c p, h1)
    | _ => none
  else none
/-- n calls deep -/
def Pg.run (P : Pg) : Nat → Call
  | 0 => fun _ _ _ => none
  | n + 1 => fun i ds h => match P.fns[i]? with
    | some f => f.run P (P.run n) ds h
    | none => none
end Dd

set_option Elab.async false
set_option linter.all false
set_option maxRecDepth 100000
set_option maxHeartbeats 4000000
namespace Dd
open PySem PySem.Spec PyProof.Rows L2

/-! # 6. The readings -/
structure Pc where
  K : PySem.W.Frag
  w : World
  cls : Nat → Addr
  fld : Nat → Str
  W : WX
  hk : Option (Nat × Addr × Addr × Str)
abbrev Pc.R (G : Pc) (m : List Addr) (H : Hp) : D → V → Prop := RelD G.K G.w m H
abbrev Pc.Rs (G : Pc) (m : List Addr) (H : Hp) : List D → List V → Prop := RelDs G.K G.w m H
abbrev Pc.H (G : Pc) : List Addr → DH → Hp → Prop := RH G.K G.w
def SlotR (G : Pc) (m : List Addr) (H : Hp) (i : Nat) (d : D) (o : Option (Option V)) : Prop :=
  match G.hk with
  | some (j, a, dd, f) => if i = j then o = some (some (.ref a)) ∧ ∃ u, H dd = some (.xd [(f, u)]) ∧ G.R m H d u else ∃ v, o = some (some v) ∧ G.R m H d v
  | none => ∃ v, o = some (some v) ∧ G.R m H d v
structure EnvR (G : Pc) (m : List Addr) (H : Hp) (e : DE) (σ : L2.St) : Prop where
  len : e.length = σ.length
  slot : ∀ (i : Nat) (d : D), e[i]? = some (some d) → SlotR G m H i d σ[i]?
theorem SlotR.ext {G : Pc} {m m' : List Addr} {H H' : Hp} (x : Ext m H m' H') {i : Nat} {d : D} {o : Option (Option V)} (h : SlotR G m H i d o) : SlotR G m' H' i d o := by
  unfold SlotR at h ⊢
  cases hh : G.hk with
  | none =>
    rw [hh] at h
    obtain ⟨v, e1, e2⟩ := h
    exact ⟨v, e1, e2.ext x⟩
  | some q =>
    obtain ⟨j, a, dd, f⟩ := q
    rw [hh] at h
    dsimp only at h ⊢
    by_cases hi : i = j
    · rw [if_pos hi] at h ⊢
      obtain ⟨e1, u, e2, e3⟩ := h
      exact ⟨e1, u, x.imm dd _ rfl e2, e3.ext x⟩
    · rw [if_neg hi] at h ⊢
      obtain ⟨v, e1, e2⟩ := h
      exact ⟨v, e1, e2.ext x⟩
theorem EnvR.ext {G : Pc} {m m' : List Addr} {H H' : Hp} {e : DE} {σ : L2.St} (h : EnvR G m H e σ) (x : Ext m H m' H') : EnvR G m' H' e σ :=
  ⟨h.len, fun i d q => (h.slot i d q).ext x⟩
def notHk (G : Pc) (i : Nat) : Prop := ∀ q, G.hk = some q → i ≠ q.1
theorem EnvR.get {G : Pc} {m : List Addr} {H : Hp} {e : DE} {σ : L2.St} (h : EnvR G m H e σ) {i : Nat} {d : D} (hn : notHk G i) (q : e[i]? = some (some d)) : ∃ v, σ[i]? = some (some v) ∧ G.R m H d v := by
  have z := h.slot i d q
  unfold SlotR at z
  cases hh : G.hk with
  | none => rw [hh] at z; exact z
  | some p =>
    obtain ⟨j, a, dd, f⟩ := p
    rw [hh] at z
    dsimp only at z
    rw [if_neg (hn _ hh)] at z
    exact z
theorem EnvR.set {G : Pc} {m : List Addr} {H : Hp} {e : DE} {σ : L2.St} (h : EnvR G m H e σ) {i : Nat} {d : D} {v : V} (hn : notHk G i) (r : G.R m H d v) : EnvR G m H (e.set i (some d)) (σ.set i (some v)) := by
  refine ⟨by rw [List.length_set, List.length_set]; exact h.len, fun j x q => ?_⟩
  by_cases hj : j = i
  · subst hj
    have hl : j < e.length := by
      have := (List.getElem?_eq_some_iff.mp q).1
      rwa [List.length_set] at this
    rw [List.getElem?_set_self hl] at q
    cases q
    rw [List.getElem?_set_self (by rw [← h.len]; exact hl)]
    unfold SlotR
    cases hh : G.hk with
    | none => exact ⟨v, rfl, r⟩
    | some p =>
      obtain ⟨k, a, dd, f⟩ := p
      dsimp only
      rw [if_neg (hn _ hh)]
      exact ⟨v, rfl, r⟩
  · rw [List.getElem?_set_ne (fun z => hj z.symm)] at q ⊢
    exact h.slot j x q
theorem EnvR.clear {G : Pc} {m : List Addr} {H : Hp} {e : DE} {σ : L2.St} (h : EnvR G m H e σ) (i : Nat) : EnvR G m H (e.set i none) (σ.set i none) := by
  refine ⟨by rw [List.length_set, List.length_set]; exact h.len, fun j x q => ?_⟩
  by_cases hj : j = i
  · subst hj
    have hl : j < e.length := by
      have := (List.getElem?_eq_some_iff.mp q).1
      rwa [List.length_set] at this
    rw [List.getElem?_set_self hl] at q
    cases q
  · rw [List.getElem?_set_ne (fun z => hj z.symm)] at q ⊢
    exact h.slot j x q
theorem EnvR.wipe {G : Pc} {m : List Addr} {H : Hp} {e : DE} {σ : L2.St} (h : EnvR G m H e σ) : ∀ vs : List Nat, EnvR G m H (wipeE e vs) (wipe σ vs)
  | [] => h
  | v :: vs => (EnvR.wipe h vs).clear v

def ExcAt (G : Pc) (m : List Addr) (H : Hp) (c : Nat) (p : D) (cv : Value) (d : Option Addr) : Prop :=
  cv = .ref (G.cls c) ∧ ∃ dd u, d = some dd ∧ H dd = some (.xd [(G.fld c, u)]) ∧ G.R m H p u
section
variable {α β γ : Type}
def Post (G : Pc) (rel : List Addr → Hp → α → β → Prop) (σ : L2.St) (r : Rs α) (m : List Addr) (H : Hp) (Q : β → Hp → Prop) : Prop :=
  match r with
  | .ok a => ∀ b, rel m H a b → Q b H
  | .ex c p => ∀ cv d, ExcAt G m H c p cv d → G.W cv d σ H
def tG (G : Pc) (rel : List Addr → Hp → α → β → Prop) (M : M α) : L2.St → Hp → (β → Hp → Prop) → Prop := fun σ H Q =>
  ∃ m e h r h', G.H m h H ∧ EnvR G m H e σ ∧ M e h = some (r, h') ∧ ∀ m' H', Ext m H m' H' → G.H m' h' H' → Post G rel σ r m' H' Q
/-- values on the way: one, two, three, a list -/
def tA (G : Pc) (cs : List V) (rel : List Addr → Hp → α → β → Prop) (k : List D → M α) : L2.St → Hp → (β → Hp → Prop) → Prop := fun σ H Q =>
  ∃ m e h ds r h', G.H m h H ∧ EnvR G m H e σ ∧ G.Rs m H ds cs ∧ k ds e h = some (r, h') ∧ ∀ m' H', Ext m H m' H' → G.H m' h' H' → Post G rel σ r m' H' Q
def tA1 (G : Pc) (x : V) (rel : List Addr → Hp → α → β → Prop) (k : D → M α) : L2.St → Hp → (β → Hp → Prop) → Prop := fun σ H Q =>
  ∃ m e h a r h', G.H m h H ∧ EnvR G m H e σ ∧ G.R m H a x ∧ k a e h = some (r, h') ∧ ∀ m' H', Ext m H m' H' → G.H m' h' H' → Post G rel σ r m' H' Q
def tA2 (G : Pc) (x y : V) (rel : List Addr → Hp → α → β → Prop) (k : D → D → M α) : L2.St → Hp → (β → Hp → Prop) → Prop := fun σ H Q =>
  ∃ m e h a b r h', G.H m h H ∧ EnvR G m H e σ ∧ G.R m H a x ∧ G.R m H b y ∧ k a b e h = some (r, h') ∧ ∀ m' H', Ext m H m' H' → G.H m' h' H' → Post G rel σ r m' H' Q
def tA3 (G : Pc) (x y z : V) (rel : List Addr → Hp → α → β → Prop) (k : D → D → D → M α) : L2.St → Hp → (β → Hp → Prop) → Prop := fun σ H Q =>
  ∃ m e h a b c r h', G.H m h H ∧ EnvR G m H e σ ∧ G.R m H a x ∧ G.R m H b y ∧ G.R m H c z ∧ k a b c e h = some (r, h') ∧ ∀ m' H', Ext m H m' H' → G.H m' h' H' → Post G rel σ r m' H' Q
variable {G : Pc} {rel : List Addr → Hp → α → β → Prop} {σ : L2.St} {H : Hp} {Q Q' : β → Hp → Prop}
theorem Post.mono {r : Rs α} {m : List Addr} (h : Post G rel σ r m H Q) (q : ∀ b H, Q b H → Q' b H) : Post G rel σ r m H Q' := by
  cases r with
  | ok a => exact fun b hb => q b H (h b hb)
  | ex c p => exact h
theorem tG.mono {M : M α} (h : tG G rel M σ H Q) (q : ∀ b H, Q b H → Q' b H) : tG G rel M σ H Q' := by
  obtain ⟨m, e, hh, r, h', a1, a2, a3, a4⟩ := h
  exact ⟨m, e, hh, r, h', a1, a2, a3, fun m' H' x y => (a4 m' H' x y).mono q⟩
theorem tG_bnd {M : M D} {k : D → Dd.M α} (hyp : tG G rel (bnd M k) σ H Q) : tG G G.R M σ H (fun x H1 => tA1 G x rel k σ H1 Q) := by
  obtain ⟨m, e, h, r, h', a1, a2, a3, a4⟩ := hyp
  dsimp only [bnd] at a3
  cases hm : M e h with
  | none => rw [hm] at a3; cases a3
  | some q =>
    obtain ⟨r1, h1⟩ := q
    rw [hm] at a3
    refine ⟨m, e, h, r1, h1, a1, a2, hm, fun m1 H1 x1 y1 => ?_⟩
    cases r1 with
    | ex c p =>
      cases a3
      exact a4 m1 H1 x1 y1
    | ok a => exact fun b hb => ⟨m1, e, h1, a, r, h', y1, a2.ext x1, hb, a3, fun m2 H2 x2 y2 => a4 m2 H2 (x1.trans x2) y2⟩
theorem tA1_bnd {x : V} {M : M D} {k : D → D → Dd.M α} (hyp : tA1 G x rel (fun a => bnd M (k a)) σ H Q) : tG G G.R M σ H (fun y H1 => tA2 G x y rel k σ H1 Q) := by
  obtain ⟨m, e, h, a, r, h', a1, a2, ra, a3, a4⟩ := hyp
  dsimp only [bnd] at a3
  cases hm : M e h with
  | none => rw [hm] at a3; cases a3
  | some q =>
    obtain ⟨r1, h1⟩ := q
    rw [hm] at a3
    refine ⟨m, e, h, r1, h1, a1, a2, hm, fun m1 H1 x1 y1 => ?_⟩
    cases r1 with
    | ex c p =>
      cases a3
      exact a4 m1 H1 x1 y1
    | ok b => exact fun y hb => ⟨m1, e, h1, a, b, r, h', y1, a2.ext x1, ra.ext x1, hb, a3, fun m2 H2 x2 y2 => a4 m2 H2 (x1.trans x2) y2⟩
theorem tA2_bnd {x y : V} {M : M D} {k : D → D → D → Dd.M α} (hyp : tA2 G x y rel (fun a b => bnd M (k a b)) σ H Q) : tG G G.R M σ H (fun z H1 => tA3 G x y z rel k σ H1 Q) := by
  obtain ⟨m, e, h, a, b, r, h', a1, a2, ra, rb, a3, a4⟩ := hyp
  dsimp only [bnd] at a3
  cases hm : M e h with
  | none => rw [hm] at a3; cases a3
  | some q =>
    obtain ⟨r1, h1⟩ := q
    rw [hm] at a3
    refine ⟨m, e, h, r1, h1, a1, a2, hm, fun m1 H1 x1 y1 => ?_⟩
    cases r1 with
    | ex c p =>
      cases a3
      exact a4 m1 H1 x1 y1
    | ok b' => exact fun y hb => ⟨m1, e, h1, a, b, b', r, h', y1, a2.ext x1, ra.ext x1, rb.ext x1, hb, a3, fun m2 H2 x2 y2 => a4 m2 H2 (x1.trans x2) y2⟩
/-- a test's answer, then -/
def relB : List Addr → Hp → Bool → Bool → Prop := fun _ _ a b => a = b
theorem tG_bndB {M : M Bool} {k : Bool → Dd.M α} (hyp : tG G rel (bnd M k) σ H Q) : tG G relB M σ H (fun b H1 => tG G rel (k b) σ H1 Q) := by
  obtain ⟨m, e, h, r, h', a1, a2, a3, a4⟩ := hyp
  dsimp only [bnd] at a3
  cases hm : M e h with
  | none => rw [hm] at a3; cases a3
  | some q =>
    obtain ⟨r1, h1⟩ := q
    rw [hm] at a3
    refine ⟨m, e, h, r1, h1, a1, a2, hm, fun m1 H1 x1 y1 => ?_⟩
    cases r1 with
    | ex c p =>
      cases a3
      exact a4 m1 H1 x1 y1
    | ok a =>
      intro b hb
      have hb' : a = b := hb
      subst hb'
      exact ⟨m1, e, h1, r, h', y1, a2.ext x1, a3, fun m2 H2 x2 y2 => a4 m2 H2 (x1.trans x2) y2⟩
theorem tG_ret {a : α} (hyp : tG G rel (ret a) σ H Q) : ∃ m e h, G.H m h H ∧ EnvR G m H e σ ∧ ∀ b, rel m H a b → Q b H := by
  obtain ⟨m, e, h, r, h', a1, a2, a3, a4⟩ := hyp
  cases a3
  exact ⟨m, e, h, a1, a2, a4 m H (Ext.refl _ _) a1⟩
theorem tG_stuck (hyp : tG G rel (stuck : M α) σ H Q) : False := by
  obtain ⟨m, e, h, r, h', a1, a2, a3, a4⟩ := hyp
  cases a3
end
theorem PE.of {X : Cx} {e : Expr} {t t' : TE} (h : PE X e t) (w : ∀ σ H Q, t' σ H Q → t σ H Q) : PE X e t' := ⟨fun pins s σ H Q I q => h.run pins s σ H Q I (w σ H Q q)⟩
theorem PT.of {X : Cx} {e : Expr} {t t' : TT} (h : PT X e t) (w : ∀ σ H Q, t' σ H Q → t σ H Q) : PT X e t' := ⟨fun pins s σ H Q I q => h.run pins s σ H Q I (w σ H Q q)⟩
theorem PA.of {X : Cx} {e : List Expr} {t t' : TA} (h : PA X e t) (w : ∀ σ H Q, t' σ H Q → t σ H Q) : PA X e t' := ⟨fun pos pins s σ H Q I q => h.run pos pins s σ H Q I (w σ H Q q)⟩
theorem PS.of {X : Cx} {e : Stmt} {t t' : TS} (h : PS X e t) (w : ∀ D σ H, t' D σ H → t D σ H) : PS X e t' := ⟨fun pins s σ H D I q => h.run pins s σ H D I (w D σ H q)⟩
theorem PSs.of {X : Cx} {e : List Stmt} {t t' : TS} (h : PSs X e t) (w : ∀ D σ H, t' D σ H → t D σ H) : PSs X e t' := ⟨fun pins s σ H D I q => h.run pins s σ H D I (w D σ H q)⟩
theorem PE.never {X : Cx} {e : Expr} {t : TE} (w : ∀ σ H Q, t σ H Q → False) : PE X e t := ⟨fun pins s σ H Q I q => (w σ H Q q).elim⟩
theorem PT.never {X : Cx} {e : Expr} {t : TT} (w : ∀ σ H Q, t σ H Q → False) : PT X e t := ⟨fun pins s σ H Q I q => (w σ H Q q).elim⟩
theorem PS.never {X : Cx} {e : Stmt} {t : TS} (w : ∀ D σ H, t D σ H → False) : PS X e t := ⟨fun pins s σ H D I q => (w D σ H q).elim⟩

/-- operations by values -/
def rD1 (G : Pc) (f : D → DH → Option (D × DH)) : V → Hp → VK → Prop := fun x H Q =>
  ∃ m h a d h', G.H m h H ∧ G.R m H a x ∧ f a h = some (d, h') ∧ ∀ m' H' v, Ext m H m' H' → G.H m' h' H' → G.R m' H' d v → Q v H'
def rD2 (G : Pc) (f : D → D → DH → Option (D × DH)) : R2 := fun x y H Q =>
  ∃ m h a b d h', G.H m h H ∧ G.R m H a x ∧ G.R m H b y ∧ f a b h = some (d, h') ∧ ∀ m' H' v, Ext m H m' H' → G.H m' h' H' → G.R m' H' d v → Q v H'
def rDN (G : Pc) (f : List D → DH → Option (D × DH)) : List V → Hp → VK → Prop := fun xs H Q =>
  ∃ m h as d h', G.H m h H ∧ G.Rs m H as xs ∧ f as h = some (d, h') ∧ ∀ m' H' v, Ext m H m' H' → G.H m' h' H' → G.R m' H' d v → Q v H'
section
variable {G : Pc} {σ : L2.St} {H : Hp} {Q : VK}
theorem lift_some {α : Type} {f : DH → Option (α × DH)} {e : DE} {h h' : DH} {r : Rs α} (q : lift f e h = some (r, h')) : ∃ d, r = .ok d ∧ f h = some (d, h') := by
  unfold lift at q
  cases hf : f h with
  | none => rw [hf] at q; cases q
  | some p => rw [hf] at q; cases q; exact ⟨p.1, rfl, rfl⟩
theorem tA1_op {x : V} {f : D → DH → Option (D × DH)} (hyp : tA1 G x G.R (fun a => lift (f a)) σ H Q) : rD1 G f x H Q := by
  obtain ⟨m, e, h, a, r, h', a1, a2, ra, a3, a4⟩ := hyp
  obtain ⟨d, rfl, e3⟩ := lift_some a3
  exact ⟨m, h, a, d, h', a1, ra, e3, fun m' H' v x y z => a4 m' H' x y v z⟩
theorem tA2_op {x y : V} {f : D → D → DH → Option (D × DH)} (hyp : tA2 G x y G.R (fun a b => lift (f a b)) σ H Q) : rD2 G f x y H Q := by
  obtain ⟨m, e, h, a, b, r, h', a1, a2, ra, rb, a3, a4⟩ := hyp
  obtain ⟨d, rfl, e3⟩ := lift_some a3
  exact ⟨m, h, a, b, d, h', a1, ra, rb, e3, fun m' H' v x y z => a4 m' H' x y v z⟩
/-- an operation's end: the value is told -/
theorem op2_tG {ma mb : M D} {f : D → D → DH → Option (D × DH)} (hyp : tG G G.R (op2 f ma mb) σ H Q) : tOp (rD2 G f) (tG G G.R ma) (tG G G.R mb) σ H Q :=
  (tG_bnd hyp).mono fun x H1 h1 => (tA1_bnd h1).mono fun y H2 h2 => tA2_op h2
theorem op1_tG {ma : M D} {f : D → DH → Option (D × DH)} (hyp : tG G G.R (op1 f ma) σ H Q) : tUn (rD1 G f) (tG G G.R ma) σ H Q :=
  (tG_bnd hyp).mono fun x H1 h1 => tA1_op h1
end
end Dd

set_option Elab.async false
set_option linter.all false
set_option maxRecDepth 100000
set_option maxHeartbeats 4000000
namespace Dd
open PySem PySem.Spec PyProof.Rows L2

/-! # 7. Operators by values -/
theorem Z_eq : Z = sizeLine := by rw [sizeLine_eq]
section
variable {K : PySem.W.Frag} {w : World} {m : List Addr} {h : DH} {H : Hp}
theorem lstAt_some {h : DH} {i : Nat} {xs : List D} (q : lstAt h i = some xs) : h[i]? = some (.lst xs) := by
  unfold lstAt at q
  split at q
  · rename_i ys e
    cases q
    exact e
  · cases q
theorem ref_lst (r : RH K w m h H) {i : Nat} {x : V} {xs : List D} (rx : RelD K w m H (.ref i) x) (q : lstAt h i = some xs) : ∃ a vs, x = .ref a ∧ m[i]? = some a ∧ H a = some (.lst vs) ∧ RelDs K w m H xs vs := by
  obtain ⟨a, e1, e2⟩ := rx
  obtain ⟨o, e3, vs, e4, e5⟩ := r.get e1 (lstAt_some q)
  subst e4
  exact ⟨a, vs, e2, e1, e3, e5⟩
theorem ix_last {p : Addr} (r : RH K w m h H) : (m ++ [p])[h.length]? = some p := by
  rw [List.getElem?_append_right (by rw [r.len]; exact Nat.le_refl _), r.len, Nat.sub_self]; rfl
/-- a new list, tuple, dict -/
theorem new_lst (r : RH K w m h H) {p : Addr} {ds : List D} {vs : List V} (hp : H p = none) (g : RelDs K w m H ds vs) :
    RH K w (m ++ [p]) (h ++ [.lst ds]) (upd H p (.lst vs)) ∧ Ext m H (m ++ [p]) (upd H p (.lst vs)) ∧ RelD K w (m ++ [p]) (upd H p (.lst vs)) (.ref h.length) (.ref p) := by
  obtain ⟨a, b⟩ := r.alloc (ob := .lst ds) hp ⟨vs, rfl, g⟩
  exact ⟨a, b, p, ix_last r, rfl⟩
theorem new_tup (r : RH K w m h H) {p : Addr} {ds : List D} {vs : List V} (hp : H p = none) (g : RelDs K w m H ds vs) :
    RH K w m h (upd H p (.tup vs)) ∧ Ext m H m (upd H p (.tup vs)) ∧ RelD K w m (upd H p (.tup vs)) (.tup ds) (.ref p) := by
  obtain ⟨a, b⟩ := r.imm (o := .tup vs) hp
  exact ⟨a, b, p, vs, rfl, upd_same, g.ext b⟩
end
theorem pow64 : (2 : Int) ^ 64 = 18446744073709551616 := by decide
theorem smallI_iff {i : Int} (h : smallI i = true) : -(2 ^ 64) < i ∧ i < 2 ^ 64 := by
  have z := below_iff.mp h
  rw [pow64]
  omega
theorem RelDs.flat {K : PySem.W.Frag} {w : World} {m : List Addr} {H : Hp} {ds : List D} {vs : List V} (g : RelDs K w m H ds vs) : ∀ k : Nat, RelDs K w m H (List.replicate k ds).flatten (List.replicate k vs).flatten
  | 0 => rfl
  | k + 1 => by
    rw [List.replicate_succ, List.replicate_succ, List.flatten_cons, List.flatten_cons]
    exact g.append (RelDs.flat g k)
section
variable {X : Cx} {G : Pc} (hK : X.K = G.K) (hw : X.w = G.w)
include hK hw
theorem o_add : OpR X (binaryOp .Add) (rD2 G addD) := by
  obtain ⟨K, W, cls, fld, Wx, hk⟩ := G
  cases hK
  cases hw
  intro pins s σ H x y v u Q I rx ry ⟨m, h, a, b, d, h', a1, ra, rb, e, q⟩
  unfold addD at e
  split at e
  · cases e
    rw [show x = _ from ra] at rx
    rw [show y = _ from rb] at ry
    exact op_add pins s σ H _ _ v u Q I rx ry ⟨_, _, rfl, rfl, q m H _ (Ext.refl _ _) a1 rfl⟩
  · rename_i i j
    split at e
    · rename_i hz
      cases e
      rw [show x = _ from ra] at rx
      rw [show y = _ from rb] at ry
      exact op_add_str pins s σ H _ _ v u Q I rx ry ⟨_, _, rfl, rfl, by rw [← Z_eq]; exact hz, q m H _ (Ext.refl _ _) a1 rfl⟩
    · cases e
  · rename_i xs ys
    split at e
    · rename_i hz
      cases e
      obtain ⟨a, vs, rfl, ha, ga⟩ := ra
      obtain ⟨b, us, rfl, hb, gb⟩ := rb
      refine op_catA pins s σ H _ _ v u Q I rx ry ⟨a, b, vs, us, rfl, rfl, SqT.of ha, SqT.of hb, by rw [ga.length, gb.length, ← Z_eq]; exact hz, fun hx => ?_, fun _ hy => ?_, fun _ _ p hp => ?_⟩
      · have : xs = [] := ga.nil_iff.mp hx
        subst this
        exact q m H _ (Ext.refl _ _) a1 ⟨b, us, rfl, hb, gb⟩
      · have : ys = [] := gb.nil_iff.mp hy
        subst this
        rw [List.append_nil] at q
        exact q m H _ (Ext.refl _ _) a1 ⟨a, vs, rfl, ha, ga⟩
      · obtain ⟨b1, b2, b3⟩ := new_tup a1 hp (ga.append gb)
        exact q m _ _ b2 b1 b3
    · cases e
  · rename_i i j
    split at e
    · rename_i xs ys hx hy
      split at e
      · rename_i hz
        cases e
        obtain ⟨a, vs, rfl, ma, ha, ga⟩ := ref_lst a1 ra hx
        obtain ⟨b, us, rfl, mb, hb, gb⟩ := ref_lst a1 rb hy
        refine op_cat pins s σ H _ _ v u Q I rx ry ⟨a, b, vs, us, rfl, rfl, ha, hb, by rw [ga.length, gb.length, ← Z_eq]; exact hz, fun p hp => ?_⟩
        obtain ⟨b1, b2, b3⟩ := new_lst a1 hp (ga.append gb)
        exact q _ _ _ b2 b1 b3
      · cases e
    · cases e
  · cases e
theorem o_sub : OpR X (binaryOp .Sub) (rD2 G subD) := by
  obtain ⟨K, W, cls, fld, Wx, hk⟩ := G
  cases hK
  cases hw
  intro pins s σ H x y v u Q I rx ry ⟨m, h, a, b, d, h', a1, ra, rb, e, q⟩
  unfold subD at e
  split at e
  · cases e
    rw [show x = _ from ra] at rx
    rw [show y = _ from rb] at ry
    exact op_sub pins s σ H _ _ v u Q I rx ry ⟨_, _, rfl, rfl, q m H _ (Ext.refl _ _) a1 rfl⟩
  · cases e
theorem o_mul : OpR X (binaryOp .Mult) (rD2 G mulD) := by
  obtain ⟨K, W, cls, fld, Wx, hk⟩ := G
  cases hK
  cases hw
  intro pins s σ H x y v u Q I rx ry ⟨m, h, a, b, d, h', a1, ra, rb, e, q⟩
  unfold mulD at e
  split at e
  · split at e
    · rename_i hz
      cases e
      rw [show x = _ from ra] at rx
      rw [show y = _ from rb] at ry
      refine op_mul pins s σ H _ _ v u Q I rx ry ⟨_, _, rfl, rfl, ?_, q m H _ (Ext.refl _ _) a1 rfl⟩
      rcases Bool.or_eq_true_iff.mp hz with z | z
      · exact .inl (smallI_iff z)
      · exact .inr (smallI_iff z)
    · cases e
  · rename_i l k
    split at e
    · rename_i xs hx
      split at e
      · rename_i hz
        cases e
        obtain ⟨a, vs, rfl, ma, ha, ga⟩ := ref_lst a1 ra hx
        rw [show y = _ from rb] at ry
        refine op_rep pins s σ H _ _ v u Q I rx ry ⟨a, _, vs, rfl, rfl, ha, (by have z := below_iff.mp hz.1; omega), (by have z := below_iff.mp hz.1; omega), by rw [ga.length, ← Z_eq]; exact hz.2, fun p hp => ?_⟩
        obtain ⟨b1, b2, b3⟩ := new_lst a1 hp (RelDs.flat ga k.toNat)
        exact q _ _ _ b2 b1 b3
      · cases e
    · cases e
  · rename_i z k
    split at e
    · rename_i hz
      cases e
      rw [show x = _ from ra] at rx
      rw [show y = _ from rb] at ry
      obtain ⟨t, rfl⟩ := rx
      obtain ⟨t', rfl⟩ := ry
      obtain ⟨z0, z3, z4⟩ := hz
      have z12 := below_iff.mp z0
      have z1 : -1000000 ≤ k := by omega
      have z2 : k ≤ 1000000 := by omega
      refine PySem.SB.mul ⟨?_, fun h1 _ => ?_, fun h1 _ => ?_⟩ fun t' tk => ⟨.str _, H, I.tok _, ⟨_, rfl⟩, q m H _ (Ext.refl _ _) a1 rfl⟩
      · rw [decide_eq_false (show ¬ k < -(2 ^ 63 : Int) by omega), decide_eq_false (show ¬ k ≥ (2 ^ 63 : Int) by omega)]; rfl
      · have e3 : (9223372036854 : Int) ≤ (2 ^ 63 - 1) / k := by
          refine (Int.le_ediv_iff_mul_le (by omega)).mpr ?_
          have : (9223372036854 : Int) * k ≤ 9223372036854 * 1000000 := by omega
          omega
        omega
      · unfold PySem.Builtin.Str.tooLong
        have := sizeLine_eq
        simp only [decide_eq_false_iff_not]
        omega
    · cases e
  · cases e
theorem o_fdiv : OpR X (binaryOp .FloorDiv) (rD2 G fdivD) := by
  obtain ⟨K, W, cls, fld, Wx, hk⟩ := G
  cases hK
  cases hw
  intro pins s σ H x y v u Q I rx ry ⟨m, h, a, b, d, h', a1, ra, rb, e, q⟩
  unfold fdivD at e
  split at e
  · split at e
    · rename_i hz
      cases e
      rw [show x = _ from ra] at rx
      rw [show y = _ from rb] at ry
      exact op_fdiv pins s σ H _ _ v u Q I rx ry ⟨_, _, rfl, rfl, ⟨hz.1, (below_iff.mp hz.2).2⟩, q m H _ (Ext.refl _ _) a1 rfl⟩
    · cases e
  · cases e
theorem o_mod : OpR X (binaryOp .Mod) (rD2 G modD) := by
  obtain ⟨K, W, cls, fld, Wx, hk⟩ := G
  cases hK
  cases hw
  intro pins s σ H x y v u Q I rx ry ⟨m, h, a, b, d, h', a1, ra, rb, e, q⟩
  unfold modD at e
  split at e
  · split at e
    · rename_i hz
      cases e
      rw [show x = _ from ra] at rx
      rw [show y = _ from rb] at ry
      exact op_mod pins s σ H _ _ v u Q I rx ry ⟨_, _, rfl, rfl, hz, q m H _ (Ext.refl _ _) a1 rfl⟩
    · cases e
  · cases e
theorem o_neg : UnR X (unaryOp .USub) (rD1 G negD) := by
  obtain ⟨K, W, cls, fld, Wx, hk⟩ := G
  cases hK
  cases hw
  intro pins s σ H x v Q I rx ⟨m, h, a, d, h', a1, ra, e, q⟩
  unfold negD at e
  split at e
  · cases e
    rw [show x = _ from ra] at rx
    exact un_neg pins s σ H _ v Q I rx ⟨_, rfl, q m H _ (Ext.refl _ _) a1 rfl⟩
  · cases e
theorem o_bin {op : PySem.Operator} {f : D → D → DH → Option (D × DH)} (hf : binD op = some f) : OpR X (binaryOp op) (rD2 G f) := by
  cases op <;> simp only [binD] at hf <;> cases hf
  · exact o_add hK hw
  · exact o_sub hK hw
  · exact o_mul hK hw
  · exact o_mod hK hw
  · exact o_fdiv hK hw
end
end Dd

set_option Elab.async false
set_option linter.all false
set_option maxRecDepth 100000
set_option maxHeartbeats 4000000
namespace Dd
open PySem PySem.Spec PyProof.Rows L2

/-! # 8. Comparisons by values -/
theorem mapM_cons_some {α β : Type} {f : α → Option β} {x : α} {xs : List α} {ps : List β} (q : (x :: xs).mapM f = some ps) : ∃ p r, f x = some p ∧ xs.mapM f = some r ∧ ps = p :: r := by
  rw [List.mapM_cons] at q
  cases hx : f x with
  | none => rw [hx] at q; cases q
  | some p =>
    rw [hx] at q
    cases hr : xs.mapM f with
    | none => rw [hr] at q; cases q
    | some r => rw [hr] at q; cases q; exact ⟨p, r, rfl, rfl, rfl⟩
theorem map_some {α β : Type} {f : α → β} {o : Option α} {b : β} (q : o.map f = some b) : ∃ a, o = some a ∧ b = f a := by
  cases o with
  | none => cases q
  | some a => cases q; exact ⟨a, rfl, rfl⟩
section
variable {K : PySem.W.Frag} {w : World} {m : List Addr} {h : DH} {H : Hp}
theorem ints_dp : ∀ ns : List Int, DpAll K H (ns.map V.int) (ns.map PyData.int)
  | [] => .nil
  | n :: r => .cons (.int n) (ints_dp r)
theorem all_dp {n : Nat} (ih : ∀ (d : D) (v : V) (p : PyData), toPy h n d = some p → RelD K w m H d v → Dp K H v p) : ∀ (xs : List D) (vs : List V) (ps : List PyData), xs.mapM (toPy h n) = some ps → RelDs K w m H xs vs → DpAll K H vs ps
  | [], vs, ps, q, g => by
    rw [show vs = [] from g]
    cases q
    exact .nil
  | x :: xs, vs, ps, q, g => by
    obtain ⟨p, r, e1, e2, e3⟩ := mapM_cons_some q
    obtain ⟨v, vs', e4, g1, g2⟩ := g
    subst e3 e4
    exact .cons (ih x v p e1 g1) (all_dp ih xs vs' r e2 g2)
theorem toPy_dp (r : RH K w m h H) : ∀ (n : Nat) (d : D) (v : V) (p : PyData), toPy h n d = some p → RelD K w m H d v → Dp K H v p
  | 0, _, _, _, q, _ => by cases q
  | n + 1, d, v, p, q, g => by
    unfold toPy at q
    cases d with
    | non => cases q; rw [show v = _ from g]; exact .non
    | bl b => cases q; rw [show v = _ from g]; exact .bl b
    | int b => cases q; rw [show v = _ from g]; exact .int b
    | str b => cases q; rw [show v = _ from g]; exact .str b
    | tup xs =>
      obtain ⟨ps, e1, e2⟩ := map_some q
      obtain ⟨a, vs, rfl, ha, ga⟩ := g
      subst e2
      exact .tup (SqT.of ha) (all_dp (toPy_dp r n) xs vs ps e1 ga)
    | kt xs =>
      obtain ⟨ps, e1, e2⟩ := map_some q
      obtain ⟨a, vs, rfl, ha, ga⟩ := g
      subst e2
      exact .tup ha.sq (all_dp (toPy_dp r n) xs vs ps e1 (RelKs.relDs xs vs ga))
    | ref i =>
      dsimp only at q
      split at q
      · rename_i xs e0
        obtain ⟨ps, e1, e2⟩ := map_some q
        obtain ⟨a, vs, rfl, ma, ha, ga⟩ := ref_lst (xs := xs) r g (by unfold lstAt; rw [e0])
        subst e2
        exact .lst (SqL.of ha) (all_dp (toPy_dp r n) xs vs ps e1 ga)
      · cases q
    | frz ns =>
      cases q
      obtain ⟨a, rfl, ha⟩ := g
      exact .lst ha.sq (ints_dp ns)
    | wd kvs => cases q
theorem scalD_rel {a b : D} {x y : V} {r : Bool} (q : scalD a b = some r) (ra : RelD K w m H a x) (rb : RelD K w m H b y) : scal x y = true ∧ decide (x = y) = r := by
  unfold scalD at q
  split at q <;> first | cases q | skip
  all_goals
    rw [show x = _ from ra, show y = _ from rb]
    first
      | exact ⟨rfl, rfl⟩
      | exact ⟨rfl, decide_eq_decide.mpr ⟨fun e => (by injection e), fun e => (by rw [e])⟩⟩
      | exact ⟨rfl, decide_eq_false (fun e => nomatch e)⟩
theorem eqB_cases {a b : D} {r : Bool} (q : eqB a b h = some r) : scalD a b = some r ∨ ∃ x y, toPy h 20 a = some x ∧ toPy h 20 b = some y ∧ SeqAt.shaped x = true ∧ SeqAt.shaped y = true ∧ r = PyData.eqv x y := by
  unfold eqB at q
  split at q
  · rename_i r' e
    cases q
    exact .inl e
  · split at q
    · rename_i x y e1 e2
      split at q
      · rename_i hz
        rw [Bool.and_eq_true] at hz
        cases q
        exact .inr ⟨x, y, e1, e2, hz.1, hz.2, rfl⟩
      · cases q
    · cases q
end
theorem flat_rel {K : PySem.W.Frag} {w : World} {m : List Addr} {H : Hp} {d : D} {v : V} (q : flatD d = true) (g : RelD K w m H d v) : flatV v = true := by
  cases d <;> first | (rw [show v = _ from g]; rfl) | cases q
theorem flats_rel {K : PySem.W.Frag} {w : World} {m : List Addr} {H : Hp} : ∀ {ds : List D} {vs : List V}, ds.all flatD = true → RelDs K w m H ds vs → vs.all flatV = true
  | [], _, _, g => by rw [show _ = [] from g]; rfl
  | d :: ds, _, q, g => by
    obtain ⟨v, vs', e, g1, g2⟩ := g
    subst e
    rw [List.all_cons, Bool.and_eq_true] at q ⊢
    exact ⟨flat_rel q.1 g1, flats_rel q.2 g2⟩
theorem eqV_scal {K : PySem.W.Frag} {w : World} {m : List Addr} {H : Hp} {a b : D} {x y : V} {r : Bool} (q : scalD a b = some r) (ra : RelD K w m H a x) (rb : RelD K w m H b y) : eqV x y = r := by
  unfold scalD at q
  split at q <;> first | cases q | skip
  all_goals
    rw [show x = _ from ra, show y = _ from rb]
    first
      | rfl
      | (simp only [eqV]; rw [Bool.beq_eq_decide_eq])
theorem anyEq_rel {K : PySem.W.Frag} {w : World} {m : List Addr} {H : Hp} {x : D} {v : V} {h : DH} (rx : RelD K w m H x v) : ∀ {ds : List D} {vs : List V} {r : Bool}, anyEq x h ds = some r → RelDs K w m H ds vs → inV v vs = r
  | [], _, r, q, g => by
    rw [show _ = [] from g]
    cases q
    rfl
  | d :: ds, _, r, q, g => by
    obtain ⟨u, vs', e, g1, g2⟩ := g
    subst e
    unfold anyEq at q
    split at q
    · rename_i a ea
      obtain ⟨b, eb, er⟩ := map_some q
      subst er
      have e1 := eqV_scal ea g1 rx
      have e2 := anyEq_rel rx eb g2
      show (eqV u v || inV v vs') = _
      rw [e1, e2]
    · cases q
theorem lookD_rel {K : PySem.W.Frag} {w : World} {m : List Addr} {H : Hp} {κ : Type} [DecidableEq κ] (k : κ) : ∀ {ds : List (κ × D)} {vs : List (κ × V)}, RelKV K w m H ds vs →
    (∀ d, lookD ds k = some d → ∃ v, valV vs k = some v ∧ RelD K w m H d v) ∧ (lookD ds k = none → valV vs k = none)
  | [], _, g => by
    rw [show _ = [] from g]
    exact ⟨fun d q => (by cases q), fun _ => rfl⟩
  | p :: ds, _, g => by
    obtain ⟨v, vs', e, g1, g2⟩ := g
    subst e
    obtain ⟨i1, i2⟩ := lookD_rel k g2
    by_cases hk : p.1 = k
    · have e1 : lookD (p :: ds) k = some p.2 := by simp [lookD, List.find?_cons, hk]
      have e2 : valV ((p.1, v) :: vs') k = some v := valV_pos hk
      rw [e1, e2]
      exact ⟨fun d q => (by cases q; exact ⟨v, rfl, g1⟩), fun q => (by cases q)⟩
    · have e1 : lookD (p :: ds) k = lookD ds k := by simp [lookD, List.find?_cons, hk]
      have e2 : valV ((p.1, v) :: vs') k = valV vs' k := valV_neg hk
      rw [e1, e2]
      exact ⟨i1, i2⟩
theorem keyD_rel {K : PySem.W.Frag} {w : World} {m : List Addr} {H : Hp} {d : D} {v : V} {k : Key} (q : keyD d = some k) (g : RelD K w m H d v) : v = kV k := by
  cases d <;> simp only [keyD] at q <;> cases q
  · exact g
  · exact g
theorem keysD_rel {K : PySem.W.Frag} {w : World} {m : List Addr} {H : Hp} : ∀ {ds : List D} {vs : List V} {k : List Key}, keysD ds = some k → RelDs K w m H ds vs → vs = k.map kV
  | [], _, k, q, g => by
    rw [show _ = [] from g]
    cases q
    rfl
  | d :: ds, _, k, q, g => by
    obtain ⟨v, vs', e, g1, g2⟩ := g
    subst e
    obtain ⟨p, r, e1, e2, e3⟩ := mapM_cons_some q
    subst e3
    rw [keyD_rel e1 g1, keysD_rel e2 g2]
    rfl
section
variable {X : Cx} {G : Pc} (hK : X.K = G.K) (hw : X.w = G.w)
include hK hw
theorem o_eq (hu : X.A.units + 100 < cLine) : OpR X (compareOp .Eq) (rD2 G eqD) := by
  obtain ⟨K, W, cls, fld, Wx, hk⟩ := G
  cases hK
  cases hw
  intro pins s σ H x y v u Q I rx ry ⟨m, h, a, b, d, h', a1, ra, rb, e, q⟩
  obtain ⟨r, e1, e2⟩ := map_some e
  cases e2
  rcases eqB_cases e1 with z | ⟨p, p', z1, z2, z3, z4, z5⟩
  · obtain ⟨c1, c2⟩ := scalD_rel z ra rb
    exact op_eq pins s σ H x y v u Q I rx ry ⟨c1, q m H _ (Ext.refl _ _) a1 (by rw [c2]; rfl)⟩
  · exact op_eqD (by omega) pins s σ H x y v u Q I rx ry ⟨p, p', toPy_dp a1 20 a x p z1 ra, toPy_dp a1 20 b y p' z2 rb, z3, z4, q m H _ (Ext.refl _ _) a1 (by rw [← z5]; rfl)⟩
theorem o_ne (hu : X.A.units + 100 < cLine) : OpR X (compareOp .NotEq) (rD2 G neD) := by
  obtain ⟨K, W, cls, fld, Wx, hk⟩ := G
  cases hK
  cases hw
  intro pins s σ H x y v u Q I rx ry ⟨m, h, a, b, d, h', a1, ra, rb, e, q⟩
  obtain ⟨r, e1, e2⟩ := map_some e
  cases e2
  rcases eqB_cases e1 with z | ⟨p, p', z1, z2, z3, z4, z5⟩
  · obtain ⟨c1, c2⟩ := scalD_rel z ra rb
    exact op_ne pins s σ H x y v u Q I rx ry ⟨c1, q m H _ (Ext.refl _ _) a1 (by rw [c2]; rfl)⟩
  · exact op_neD (by omega) pins s σ H x y v u Q I rx ry ⟨p, p', toPy_dp a1 20 a x p z1 ra, toPy_dp a1 20 b y p' z2 rb, z3, z4, q m H _ (Ext.refl _ _) a1 (by rw [← z5]; rfl)⟩
theorem o_ord {op : PySem.CmpOp} {f : D → D → DH → Option (D × DH)} (hf : ordD op = some f) : OpR X (compareOp op) (rD2 G f) := by
  obtain ⟨K, W, cls, fld, Wx, hk⟩ := G
  cases hK
  cases hw
  intro pins s σ H x y v u Q I rx ry ⟨m, h, a, b, d, h', a1, ra, rb, e, q⟩
  cases op <;> simp only [ordD] at hf <;> cases hf
  · unfold ltD at e
    split at e <;> cases e <;> rw [show x = _ from ra] at rx <;> rw [show y = _ from rb] at ry
    · exact op_lt pins s σ H _ _ v u Q I rx ry ⟨_, _, rfl, rfl, q m H _ (Ext.refl _ _) a1 (by show V.bl _ = V.bl _; rw [ltI_eq])⟩
    · exact op_lt_str pins s σ H _ _ v u Q I rx ry ⟨_, _, rfl, rfl, q m H _ (Ext.refl _ _) a1 rfl⟩
  · unfold leD at e
    split at e <;> cases e <;> rw [show x = _ from ra] at rx <;> rw [show y = _ from rb] at ry
    · exact op_le pins s σ H _ _ v u Q I rx ry ⟨_, _, rfl, rfl, q m H _ (Ext.refl _ _) a1 (by show V.bl _ = V.bl _; rw [leI_eq])⟩
    · exact op_le_str pins s σ H _ _ v u Q I rx ry ⟨_, _, rfl, rfl, q m H _ (Ext.refl _ _) a1 rfl⟩
  · unfold gtD at e
    split at e <;> cases e <;> rw [show x = _ from ra] at rx <;> rw [show y = _ from rb] at ry
    · exact op_gt pins s σ H _ _ v u Q I rx ry ⟨_, _, rfl, rfl, q m H _ (Ext.refl _ _) a1 (by show V.bl _ = V.bl _; rw [ltI_eq])⟩
    · exact op_gt_str pins s σ H _ _ v u Q I rx ry ⟨_, _, rfl, rfl, q m H _ (Ext.refl _ _) a1 rfl⟩
  · unfold geD at e
    split at e <;> cases e <;> rw [show x = _ from ra] at rx <;> rw [show y = _ from rb] at ry
    · exact op_ge pins s σ H _ _ v u Q I rx ry ⟨_, _, rfl, rfl, q m H _ (Ext.refl _ _) a1 (by show V.bl _ = V.bl _; rw [leI_eq])⟩
    · exact op_ge_str pins s σ H _ _ v u Q I rx ry ⟨_, _, rfl, rfl, q m H _ (Ext.refl _ _) a1 rfl⟩
theorem is_non {m : List Addr} {H : Hp} {a : D} {x : V} (ra : RelD X.K X.w m H a x) : decide (x = V.non) = isNonD a := by
  cases a with
  | non => rw [show x = _ from ra]; rfl
  | bl b => rw [show x = _ from ra]; rfl
  | int b => rw [show x = _ from ra]; rfl
  | str b => rw [show x = _ from ra]; rfl
  | tup b => obtain ⟨_, _, e, _⟩ := ra; rw [e]; rfl
  | kt b => obtain ⟨_, _, e, _⟩ := ra; rw [e]; rfl
  | ref b => obtain ⟨_, _, e⟩ := ra; rw [e]; rfl
  | frz b => obtain ⟨_, e, _⟩ := ra; rw [e]; rfl
  | wd b => obtain ⟨_, _, _, e, _⟩ := ra; rw [e]; rfl
theorem o_is : OpR X (compareOp .Is) (rD2 G isD) := by
  have hn := @is_non X G hK hw
  obtain ⟨K, W, cls, fld, Wx, hk⟩ := G
  cases hK
  cases hw
  intro pins s σ H x y v u Q I rx ry ⟨m, h, a, b, d, h', a1, ra, rb, e, q⟩
  unfold isD at e
  split at e
  · cases e
    rw [show y = _ from rb] at ry
    exact op_isN pins s σ H x _ v u Q I rx ry ⟨rfl, q m H _ (Ext.refl _ _) a1 (by rw [hn ra]; rfl)⟩
  · cases e
    rw [show x = _ from ra] at rx
    rw [show y = _ from rb] at ry
    exact op_is_bl pins s σ H _ _ v u Q I rx ry ⟨_, _, rfl, rfl, q m H _ (Ext.refl _ _) a1 rfl⟩
  · cases e
theorem o_isNot : OpR X (compareOp .IsNot) (rD2 G isNotD) := by
  have hn := @is_non X G hK hw
  obtain ⟨K, W, cls, fld, Wx, hk⟩ := G
  cases hK
  cases hw
  intro pins s σ H x y v u Q I rx ry ⟨m, h, a, b, d, h', a1, ra, rb, e, q⟩
  unfold isNotD at e
  split at e
  · rename_i r h1 e1
    cases e
    unfold isD at e1
    split at e1
    · cases e1
      rw [show y = _ from rb] at ry
      exact op_notN pins s σ H x _ v u Q I rx ry ⟨rfl, q m H _ (Ext.refl _ _) a1 (by rw [hn ra]; rfl)⟩
    · cases e1
      rw [show x = _ from ra] at rx
      rw [show y = _ from rb] at ry
      exact op_isnot_bl pins s σ H _ _ v u Q I rx ry ⟨_, _, rfl, rfl, q m H _ (Ext.refl _ _) a1 rfl⟩
    · cases e1
  · cases e
end
end Dd

set_option Elab.async false
set_option linter.all false
set_option maxRecDepth 100000
set_option maxHeartbeats 4000000
namespace Dd
open PySem PySem.Spec PyProof.Rows L2

/-! # 9. Membership, items, slices, truth -/
theorem KV_any {K : PySem.W.Frag} {w : World} {m : List Addr} {H : Hp} {κ : Type} : ∀ {ds : List (κ × D)} {vs : List (κ × V)}, RelKV K w m H ds vs → vs.isEmpty = ds.isEmpty ∧ vs.length = ds.length
  | [], _, g => by rw [show _ = [] from g]; exact ⟨rfl, rfl⟩
  | d :: ds, _, g => by
    obtain ⟨v, vs', e, g1, g2⟩ := g
    subst e
    exact ⟨rfl, by rw [List.length_cons, List.length_cons, (KV_any g2).2]⟩
section
variable {K : PySem.W.Frag} {w : World} {m : List Addr} {h : DH} {H : Hp}
/-- a dict of ours at a key -/
theorem dGet_rel (r : RH K w m h H) {d k : D} {x y : V} {i : Nat} {o : Option D} (hd : d = .ref i) (q : dGet d k h = some o) (rd : RelD K w m H d x) (rk : RelD K w m H k y) :
    ∃ a o', x = .ref a ∧ DGet H a y o' ∧ o'.isSome = o.isSome ∧ ∀ z, o = some z → ∃ v, o' = some v ∧ RelD K w m H z v := by
  subst hd
  unfold dGet at q
  dsimp only at q
  obtain ⟨a, ma, rfl⟩ := rd
  split at q
  · rename_i kvs e
    obtain ⟨kk, e1, e2⟩ := map_some q
    obtain ⟨ob, e3, vs, e4, g⟩ := r.get ma e
    subst e4
    have ey := keyD_rel e1 rk
    subst ey
    obtain ⟨l1, l2⟩ := lookD_rel kk g
    refine ⟨a, _, rfl, DGet.k (k := kk) e3, ?_, fun z hz => l1 z (by rw [← e2]; exact hz)⟩
    cases hl : lookD kvs kk with
    | none => (rw [e2, hl, l2 hl]; try rfl)
    | some z =>
      obtain ⟨v, h1, _⟩ := l1 z hl
      rw [e2, hl, h1]
      rfl
  · rename_i kvs ks e
    obtain ⟨kk, e1, e2⟩ := map_some q
    obtain ⟨ob, e3, vs, e4, g⟩ := r.get ma e
    subst e4
    obtain ⟨b, us, rfl, hb, gb⟩ := rk
    have ey := keysD_rel e1 gb
    subst ey
    obtain ⟨l1, l2⟩ := lookD_rel kk g
    refine ⟨a, _, rfl, DGet.t (k := kk) e3 hb, ?_, fun z hz => l1 z (by rw [← e2]; exact hz)⟩
    cases hl : lookD kvs kk with
    | none => (rw [e2, hl, l2 hl]; try rfl)
    | some z =>
      obtain ⟨v, h1, _⟩ := l1 z hl
      rw [e2, hl, h1]
      rfl
  · cases q
theorem wdGet_rel {kvs : List (Str × D)} {k : D} {x y : V} {o : Option D} (q : dGet (.wd kvs) k h = some o) (rd : RelD K w m H (.wd kvs) x) (rk : RelD K w m H k y) :
    ∃ a es n z, x = .ref a ∧ KDict K w a es n ∧ y = .str z ∧ WdAt K a z o := by
  unfold dGet at q
  dsimp only at q
  split at q
  · rename_i z
    cases q
    obtain ⟨a, es, n, rfl, kd, g⟩ := rd
    exact ⟨a, es, n, z, rfl, kd, rk, g z⟩
  · cases q
theorem atI_rel {ds : List D} {vs : List V} {i : Int} {d : D} (g : RelDs K w m H ds vs) (q : L2.atI ds i = some d) : ∃ v, L2.atI vs i = some v ∧ RelD K w m H d v := by
  unfold L2.atI at q ⊢
  rw [g.length]
  cases hj : L2.ixN ds.length i with
  | none => rw [hj] at q; cases q
  | some j =>
    rw [hj] at q
    exact RelDs.get g q
theorem atI_map {ns : List Int} {i j : Int} (q : L2.atI ns i = some j) : L2.atI (ns.map V.int) i = some (.int j) := by
  unfold L2.atI at q ⊢
  rw [List.length_map]
  cases hj : L2.ixN ns.length i with
  | none => rw [hj] at q; cases q
  | some k =>
    rw [hj] at q
    have q' : ns[k]? = some j := q
    show (ns.map V.int)[k]? = _
    rw [List.getElem?_map, q']
    rfl
theorem cut_rel {ds : List D} {vs : List V} (g : RelDs K w m H ds vs) (lo hi : Option Int) : RelDs K w m H (cutD ds lo hi) (cutV vs lo hi) := by
  unfold cutD cutV
  rw [g.length]
  exact (g.drop _).take _
theorem tru_rel (r : RH K w m h H) {d : D} {x : V} {b : Bool} (q : truD d h = some b) (g : RelD K w m H d x) : TruV K x H b := by
  unfold truD at q
  have emp : ∀ {ds : List D} {vs : List V}, RelDs K w m H ds vs → vs.isEmpty = ds.isEmpty := fun {ds vs} g => by
    cases ds with
    | nil => (rw [show vs = [] from g]; try rfl)
    | cons d ds => obtain ⟨v, vs', e, _, _⟩ := g; rw [e]; rfl
  cases d with
  | non => cases q; rw [show x = _ from g]; rfl
  | bl b => cases q; rw [show x = _ from g]; rfl
  | int b => cases q; rw [show x = _ from g]; rfl
  | str b => cases q
  | tup xs => cases q; obtain ⟨a, vs, rfl, ha, ga⟩ := g; exact .inr (.inl ⟨vs, SqT.of ha, by rw [emp ga]⟩)
  | kt xs => cases q; obtain ⟨a, vs, rfl, ha, ga⟩ := g; exact .inr (.inl ⟨vs, ha.sq, by rw [emp (RelKs.relDs xs vs ga)]⟩)
  | ref i =>
    obtain ⟨a, ma, rfl⟩ := g
    dsimp only at q
    split at q
    · rename_i xs e
      cases q
      obtain ⟨ob, e3, vs, e4, ga⟩ := r.get ma e
      subst e4
      exact .inl ⟨vs, SqL.of e3, by rw [emp ga]⟩
    · rename_i xs e
      cases q
      obtain ⟨ob, e3, vs, e4, ga⟩ := r.get ma e
      subst e4
      exact .inr (.inr ⟨vs, e3, by rw [(KV_any ga).1]⟩)
    · cases q
  | frz ns => cases q
  | wd kvs => cases q
end
theorem str_one {c : Str} (h : c.length = 1) : c = ⟨#[c.cps.getD 0 0]⟩ := by
  obtain ⟨cps⟩ := c
  have h : cps.size = 1 := h
  obtain ⟨l⟩ := cps
  match l, h with
  | [x], _ => rfl
section
variable {X : Cx} {G : Pc} (hK : X.K = G.K) (hw : X.w = G.w)
include hK hw
theorem o_in (hu : X.A.units + 100 < cLine) : OpR X (compareOp .In) (rD2 G inD) := by
  obtain ⟨K, W, cls, fld, Wx, hk⟩ := G
  cases hK
  cases hw
  intro pins s σ H x y v u Q I rx ry ⟨m, h, a, b, d, h', a1, ra, rb, e, q⟩
  obtain ⟨r, e1, e2⟩ := map_some e
  cases e2
  have fin : Q (.bl r) H := q m H _ (Ext.refl _ _) a1 rfl
  unfold inB at e1
  cases b with
  | str z =>
    dsimp only at e1
    split at e1
    · rename_i c
      split at e1
      · rename_i hc
        cases e1
        rw [show x = _ from ra] at rx
        rw [show y = _ from rb] at ry
        exact op_in_sign pins s σ H _ _ v u Q I rx ry ⟨c.cps.getD 0 0, z, by rw [← str_one hc], rfl, fin⟩
      · cases e1
    · cases e1
  | tup xs =>
    dsimp only at e1
    split at e1
    · rename_i hz
      rw [Bool.and_eq_true] at hz
      obtain ⟨p, vs, rfl, hp, gp⟩ := rb
      have z := anyEq_rel ra e1 gp
      exact op_in_seq pins s σ H _ _ v u Q I rx ry ⟨p, vs, rfl, .inr (SqT.of hp), flat_rel hz.1 ra, flats_rel hz.2 gp, by rw [z]; exact fin⟩
    · cases e1
  | kt xs =>
    dsimp only at e1
    split at e1
    · rename_i hz
      rw [Bool.and_eq_true] at hz
      obtain ⟨p, vs, rfl, hp, gp⟩ := rb
      have gp : RelDs X.K X.w m H xs vs := RelKs.relDs xs vs gp
      have z := anyEq_rel ra e1 gp
      exact op_in_seq pins s σ H _ _ v u Q I rx ry ⟨p, vs, rfl, .inr hp.sq, flat_rel hz.1 ra, flats_rel hz.2 gp, by rw [z]; exact fin⟩
    · cases e1
  | ref i =>
    dsimp only at e1
    split at e1
    · rename_i xs ex
      split at e1
      · rename_i hz
        rw [Bool.and_eq_true] at hz
        obtain ⟨p, vs, rfl, mp, hp, gp⟩ := ref_lst (xs := xs) a1 rb (by unfold lstAt; rw [ex])
        have z := anyEq_rel ra e1 gp
        exact op_in_seq pins s σ H _ _ v u Q I rx ry ⟨p, vs, rfl, .inl (SqL.of hp), flat_rel hz.1 ra, flats_rel hz.2 gp, by rw [z]; exact fin⟩
      · cases e1
    · obtain ⟨o, e3, e4⟩ := map_some e1
      obtain ⟨p, o', rfl, g1, g2, _⟩ := dGet_rel a1 rfl e3 rb ra
      cases (show u = Value.ref p from ry)
      exact d_in (by omega) I g1 rx fun s' I' => ⟨.bl o'.isSome, H, I', rfl, by rw [g2, ← e4]; exact fin⟩
    · cases e1
  | wd kvs =>
    obtain ⟨o, e3, e4⟩ := map_some e1
    obtain ⟨p, es, n, z, rfl, kd, rfl, wa⟩ := wdGet_rel e3 rb ra
    cases o with
    | none => exact op_in_kd kd pins s σ H _ _ v u Q I rx ry ⟨z, none, rfl, rfl, wa, by rw [e4] at fin; exact fin⟩
    | some dd =>
      obtain ⟨u0, v0, h1, h2, h3⟩ := wa
      exact op_in_kd kd pins s σ H _ _ v u Q I rx ry ⟨z, some u0, rfl, rfl, h1, by rw [e4] at fin; exact fin⟩
  | _ => cases e1
theorem o_notIn (hu : X.A.units + 100 < cLine) : OpR X (compareOp .NotIn) (rD2 G notInD) := by
  obtain ⟨K, W, cls, fld, Wx, hk⟩ := G
  cases hK
  cases hw
  intro pins s σ H x y v u Q I rx ry ⟨m, h, a, b, d, h', a1, ra, rb, e, q⟩
  obtain ⟨r, e1, e2⟩ := map_some e
  cases e2
  have fin : Q (.bl (!r)) H := q m H _ (Ext.refl _ _) a1 rfl
  unfold inB at e1
  cases b with
  | str z =>
    dsimp only at e1
    split at e1
    · rename_i c
      split at e1
      · rename_i hc
        cases e1
        rw [show x = _ from ra] at rx
        rw [show y = _ from rb] at ry
        exact op_notIn_sign pins s σ H _ _ v u Q I rx ry ⟨c.cps.getD 0 0, z, by rw [← str_one hc], rfl, fin⟩
      · cases e1
    · cases e1
  | tup xs =>
    dsimp only at e1
    split at e1
    · rename_i hz
      rw [Bool.and_eq_true] at hz
      obtain ⟨p, vs, rfl, hp, gp⟩ := rb
      have z := anyEq_rel ra e1 gp
      exact op_notIn_seq pins s σ H _ _ v u Q I rx ry ⟨p, vs, rfl, .inr (SqT.of hp), flat_rel hz.1 ra, flats_rel hz.2 gp, by rw [z]; exact fin⟩
    · cases e1
  | kt xs =>
    dsimp only at e1
    split at e1
    · rename_i hz
      rw [Bool.and_eq_true] at hz
      obtain ⟨p, vs, rfl, hp, gp⟩ := rb
      have gp : RelDs X.K X.w m H xs vs := RelKs.relDs xs vs gp
      have z := anyEq_rel ra e1 gp
      exact op_notIn_seq pins s σ H _ _ v u Q I rx ry ⟨p, vs, rfl, .inr hp.sq, flat_rel hz.1 ra, flats_rel hz.2 gp, by rw [z]; exact fin⟩
    · cases e1
  | ref i =>
    dsimp only at e1
    split at e1
    · rename_i xs ex
      split at e1
      · rename_i hz
        rw [Bool.and_eq_true] at hz
        obtain ⟨p, vs, rfl, mp, hp, gp⟩ := ref_lst (xs := xs) a1 rb (by unfold lstAt; rw [ex])
        have z := anyEq_rel ra e1 gp
        exact op_notIn_seq pins s σ H _ _ v u Q I rx ry ⟨p, vs, rfl, .inl (SqL.of hp), flat_rel hz.1 ra, flats_rel hz.2 gp, by rw [z]; exact fin⟩
      · cases e1
    · obtain ⟨o, e3, e4⟩ := map_some e1
      obtain ⟨p, o', rfl, g1, g2, _⟩ := dGet_rel a1 rfl e3 rb ra
      cases (show u = Value.ref p from ry)
      exact d_notIn (by omega) I g1 rx fun s' I' => ⟨.bl (!o'.isSome), H, I', rfl, by rw [g2, ← e4]; exact fin⟩
    · cases e1
  | wd kvs =>
    obtain ⟨o, e3, e4⟩ := map_some e1
    obtain ⟨p, es, n, z, rfl, kd, rfl, wa⟩ := wdGet_rel e3 rb ra
    cases o with
    | none => exact op_notIn_kd kd pins s σ H _ _ v u Q I rx ry ⟨z, none, rfl, rfl, wa, by rw [e4] at fin; exact fin⟩
    | some dd =>
      obtain ⟨u0, v0, h1, h2, h3⟩ := wa
      exact op_notIn_kd kd pins s σ H _ _ v u Q I rx ry ⟨z, some u0, rfl, rfl, h1, by rw [e4] at fin; exact fin⟩
  | _ => cases e1
theorem o_cmp {op : PySem.CmpOp} {f : D → D → DH → Option (D × DH)} (hf : cmpD op = some f) (hu : X.A.units + 100 < cLine) : OpR X (compareOp op) (rD2 G f) := by
  cases op <;> simp only [cmpD] at hf <;> cases hf
  · exact o_eq hK hw hu
  · exact o_ne hK hw hu
  · exact o_ord hK hw rfl
  · exact o_ord hK hw rfl
  · exact o_ord hK hw rfl
  · exact o_ord hK hw rfl
  · exact o_is hK hw
  · exact o_isNot hK hw
  · exact o_in hK hw hu
  · exact o_notIn hK hw hu
theorem x_ix (hu : X.A.units + 100 < cLine) : IxR X (rD2 G ixD) := by
  obtain ⟨K, W, cls, fld, Wx, hk⟩ := G
  cases hK
  cases hw
  intro value slice pins s σ H x y v u Q I rx ry ⟨m, h, a, b, d, h', a1, ra, rb, e, q⟩ hs
  unfold ixD at e
  split at e
  · obtain ⟨z, e1, e2⟩ := map_some e
    cases e2
    obtain ⟨p, vs, rfl, hp, gp⟩ := ra
    rw [show y = _ from rb] at ry
    obtain ⟨v', g1, g2⟩ := atI_rel gp e1
    exact ix_tup value slice pins s σ H _ _ v u Q I rx ry ⟨p, vs, _, v', rfl, rfl, SqT.of hp, g1, q m H _ (Ext.refl _ _) a1 g2⟩ hs
  · obtain ⟨z, e1, e2⟩ := map_some e
    cases e2
    rename_i xs i
    obtain ⟨p, vs, rfl, hp, gp⟩ := ra
    have gp : RelDs X.K X.w m H xs vs := RelKs.relDs xs vs gp
    rw [show y = _ from rb] at ry
    obtain ⟨v', g1, g2⟩ := atI_rel gp e1
    exact ix_tup value slice pins s σ H _ _ v u Q I rx ry ⟨p, vs, _, v', rfl, rfl, hp.sq, g1, q m H _ (Ext.refl _ _) a1 g2⟩ hs
  · obtain ⟨z, e1, e2⟩ := map_some e
    cases e2
    obtain ⟨j, e3, e4⟩ := map_some e1
    subst e4
    obtain ⟨p, rfl, hp⟩ := ra
    rw [show y = _ from rb] at ry
    exact ix_list value slice pins s σ H _ _ v u Q I rx ry ⟨p, _, _, _, rfl, rfl, hp.sq, atI_map e3, q m H _ (Ext.refl _ _) a1 rfl⟩ hs
  · obtain ⟨z, e1, e2⟩ := map_some e
    cases e2
    obtain ⟨j, e3, e4⟩ := map_some e1
    subst e4
    unfold strAt at e3
    split at e3
    · rename_i hz
      rw [show x = _ from ra] at rx
      rw [show y = _ from rb] at ry
      exact ix_str value slice pins s σ H _ _ v u Q I rx ry ⟨_, _, j, rfl, rfl, by rw [← Z_eq]; exact hz, e3, q m H _ (Ext.refl _ _) a1 rfl⟩ hs
    · cases e3
  · rename_i i
    split at e
    · rename_i xs ex
      split at e
      · obtain ⟨z, e1, e2⟩ := map_some e
        cases e2
        obtain ⟨p, vs, rfl, mp, hp, gp⟩ := ref_lst (xs := xs) a1 ra (by unfold lstAt; rw [ex])
        rw [show y = _ from rb] at ry
        obtain ⟨v', g1, g2⟩ := atI_rel gp e1
        exact ix_list value slice pins s σ H _ _ v u Q I rx ry ⟨p, vs, _, v', rfl, rfl, SqL.of hp, g1, q m H _ (Ext.refl _ _) a1 g2⟩ hs
      · cases e
    · split at e
      · rename_i z e1
        cases e
        obtain ⟨p, o', rfl, g1, g2, g3⟩ := dGet_rel a1 rfl e1 ra rb
        obtain ⟨v', rfl, g4⟩ := g3 _ rfl
        cases (show v = Value.ref p from rx)
        exact tail_any (dict_typeIs I g1) PySem.F.slot_dict_getitem.lookup (d_getItem (by omega) I g1 ry fun w' s' I' rw' => ⟨v', H, I', rw', q m H _ (Ext.refl _ _) a1 g4⟩) hs
      · cases e
    · cases e
  · split at e
    · rename_i z e1
      cases e
      obtain ⟨p, es, n, zz, rfl, kd, rfl, wa⟩ := wdGet_rel e1 ra rb
      obtain ⟨u0, v0, h1, h2, h3⟩ := wa
      refine tail_any (T := "dict") ?_ PySem.F.slot_dict_getitem.lookup (op_item_kd kd pins s σ H _ _ v u Q I rx ry ⟨zz, u0, v0, rfl, rfl, h1, h2, q m H _ (Ext.refl _ _) a1 (RelK.relD _ _ h3)⟩) hs
      cases (show v = Value.ref p from rx)
      exact kd_type kd I
    · cases e
  · cases e
def rDSl (G : Pc) : V → Option Int → Option Int → Hp → VK → Prop := fun x lo hi H Q =>
  ∃ m h a d h', G.H m h H ∧ G.R m H a x ∧ sliceD a lo hi h = some (d, h') ∧ ∀ m' H' v, Ext m H m' H' → G.H m' h' H' → G.R m' H' d v → Q v H'
theorem s_slice : SlR X (rDSl G) := by
  obtain ⟨K, W, cls, fld, Wx, hk⟩ := G
  cases hK
  cases hw
  intro pins s σ H x v vl vu lo hi sl Q I rx hs pl pu ⟨m, h, a, d, h', a1, ra, e, q⟩
  unfold sliceD at e
  cases a with
  | tup xs =>
    cases e
    obtain ⟨p, vs, rfl, hp, gp⟩ := ra
    refine sl_tupA pins s σ H _ v vl vu lo hi sl Q I rx hs pl pu ⟨p, vs, rfl, SqT.of hp, fun hwh => ?_, fun _ t ht => ?_⟩
    · have e0 : cutD xs lo hi = xs := by
        unfold cutD
        rw [← gp.length, hwh.1, hwh.2, List.drop_zero, Nat.sub_zero, gp.length, List.take_length]
      rw [e0] at q
      exact q m H _ (Ext.refl _ _) a1 ⟨p, vs, rfl, hp, gp⟩
    · obtain ⟨b1, b2, b3⟩ := new_tup a1 ht (cut_rel gp lo hi)
      exact q m _ _ b2 b1 b3
  | ref i =>
    dsimp only at e
    split at e
    · rename_i xs ex
      cases e
      obtain ⟨p, vs, rfl, mp, hp, gp⟩ := ref_lst a1 ra ex
      refine sl_list pins s σ H _ v vl vu lo hi sl Q I rx hs pl pu ⟨p, vs, rfl, SqL.of hp, fun t ht => ?_⟩
      obtain ⟨b1, b2, b3⟩ := new_lst a1 ht (cut_rel gp lo hi)
      exact q _ _ _ b2 b1 b3
    · cases e
  | _ => cases e
end
end Dd

set_option Elab.async false
set_option linter.all false
set_option maxRecDepth 100000
set_option maxHeartbeats 4000000
namespace Dd
open PySem PySem.Spec PyProof.Rows L2

/-! # 10. Built-ins and methods by values -/
section
variable {K : PySem.W.Frag} {w : World} {m : List Addr} {h : DH} {H : Hp}
theorem Rs1 {d : D} {xs : List V} (g : RelDs K w m H [d] xs) : ∃ x, xs = [x] ∧ RelD K w m H d x := by
  obtain ⟨v, vs, e, g1, g2⟩ := g
  rw [show vs = [] from g2] at e
  exact ⟨v, e, g1⟩
theorem Rs2 {d d' : D} {xs : List V} (g : RelDs K w m H [d, d'] xs) : ∃ x y, xs = [x, y] ∧ RelD K w m H d x ∧ RelD K w m H d' y := by
  obtain ⟨v, vs, e, g1, g2⟩ := g
  obtain ⟨y, e2, g3⟩ := Rs1 g2
  subst e2
  exact ⟨v, y, e, g1, g3⟩
theorem ints_rel : ∀ ns : List Int, RelDs K w m H (ns.map D.int) (ns.map V.int)
  | [] => rfl
  | n :: r => ⟨_, _, rfl, rfl, ints_rel r⟩
theorem bools_rel : ∀ {ds : List D} {bs : List Bool} {vs : List V}, bools ds = some bs → RelDs K w m H ds vs → vs = bs.map V.bl
  | [], bs, vs, q, g => by cases q; rw [show vs = [] from g]; rfl
  | d :: ds, bs, vs, q, g => by
    obtain ⟨v, vs', e, g1, g2⟩ := g
    cases d with
    | bl b =>
      obtain ⟨r, e1, e2⟩ := map_some q
      subst e2 e
      rw [show v = _ from g1, bools_rel e1 g2]
      rfl
    | _ => cases q
theorem txts_rel : ∀ {ds : List D} {bs : List Str} {vs : List V}, txts ds = some bs → RelDs K w m H ds vs → vs = bs.map V.str
  | [], bs, vs, q, g => by cases q; rw [show vs = [] from g]; rfl
  | d :: ds, bs, vs, q, g => by
    obtain ⟨v, vs', e, g1, g2⟩ := g
    cases d with
    | str b =>
      obtain ⟨r, e1, e2⟩ := map_some q
      subst e2 e
      rw [show v = _ from g1, txts_rel e1 g2]
      rfl
    | _ => cases q
end
section
variable {X : Cx} {G : Pc} (hK : X.K = G.K) (hw : X.w = G.w)
include hK hw
theorem c_len : CallR X (.builtin "len") (rDN G (bltD .len)) := by
  obtain ⟨K, W, cls, fld, Wx, hk⟩ := G
  cases hK
  cases hw
  intro pins s σ H xs us Q I r ⟨m, h, as, d, h', a1, ra, e, q⟩
  unfold bltD at e
  split at e
  case h_1 =>
    rename_i z _ _
    split at e
    · rename_i hz
      cases e
      obtain ⟨x, rfl, g⟩ := Rs1 ra
      rw [show x = _ from g] at r
      exact call_len pins s σ H _ us Q I r ⟨_, _, rfl, ⟨by rw [← Z_eq]; exact hz, rfl⟩, q m H _ (Ext.refl _ _) a1 rfl⟩
    · cases e
  case h_2 =>
    cases e
    obtain ⟨x, rfl, p, vs, rfl, hp, gp⟩ := Rs1 ra
    exact call_len pins s σ H _ us Q I r ⟨_, _, rfl, .inr ⟨vs, SqT.of hp, rfl⟩, q m H _ (Ext.refl _ _) a1 (by rw [gp.length]; rfl)⟩
  case h_3 =>
    cases e
    obtain ⟨x, rfl, p, vs, rfl, hp, gp⟩ := Rs1 ra
    have gp : RelDs X.K X.w m H _ vs := RelKs.relDs _ vs gp
    exact call_len pins s σ H _ us Q I r ⟨_, _, rfl, .inr ⟨vs, hp.sq, rfl⟩, q m H _ (Ext.refl _ _) a1 (by rw [gp.length]; rfl)⟩
  case h_4 =>
    cases e
    obtain ⟨x, rfl, p, rfl, hp⟩ := Rs1 ra
    exact call_len pins s σ H _ us Q I r ⟨_, _, rfl, .inl ⟨_, hp.sq, rfl⟩, q m H _ (Ext.refl _ _) a1 (by rw [List.length_map]; rfl)⟩
  case h_5 =>
    split at e
    · rename_i ds ex
      cases e
      obtain ⟨x, rfl, g⟩ := Rs1 ra
      obtain ⟨p, vs, rfl, mp, hp, gp⟩ := ref_lst (xs := ds) a1 g (by unfold lstAt; rw [ex])
      exact call_len pins s σ H _ us Q I r ⟨_, _, rfl, .inl ⟨vs, SqL.of hp, rfl⟩, q m H _ (Ext.refl _ _) a1 (by rw [gp.length]; rfl)⟩
    · rename_i ds ex
      cases e
      obtain ⟨x, rfl, p, mp, rfl⟩ := Rs1 ra
      obtain ⟨ob, e3, vs, e4, gp⟩ := a1.get mp ex
      subst e4
      exact call_lenD pins s σ H _ us Q I r ⟨p, vs, rfl, e3, q m H _ (Ext.refl _ _) a1 (by rw [(KV_any gp).2]; rfl)⟩
    · cases e
  all_goals first | contradiction | cases e
theorem c_abs : CallR X (.builtin "abs") (rDN G (bltD .abs)) := by
  obtain ⟨K, W, cls, fld, Wx, hk⟩ := G
  cases hK
  cases hw
  intro pins s σ H xs us Q I r ⟨m, h, as, d, h', a1, ra, e, q⟩
  match as, e with
  | [.int i], e =>
    cases e
    obtain ⟨x, rfl, g⟩ := Rs1 ra
    rw [show x = _ from g] at r
    exact call_abs pins s σ H _ us Q I r ⟨i, rfl, q m H _ (Ext.refl _ _) a1 rfl⟩
theorem c_int : CallR X (.type "int") (rDN G (bltD .int)) := by
  obtain ⟨K, W, cls, fld, Wx, hk⟩ := G
  cases hK
  cases hw
  intro pins s σ H xs us Q I r ⟨m, h, as, d, h', a1, ra, e, q⟩
  match as, e with
  | [.int i], e =>
    cases e
    obtain ⟨x, rfl, g⟩ := Rs1 ra
    rw [show x = _ from g] at r
    exact call_int1 pins s σ H _ us Q I r (.inl ⟨i, rfl, q m H _ (Ext.refl _ _) a1 rfl⟩)
  | [.bl i], e =>
    cases e
    obtain ⟨x, rfl, g⟩ := Rs1 ra
    rw [show x = _ from g] at r
    exact call_int1 pins s σ H _ us Q I r (.inr ⟨i, rfl, q m H _ (Ext.refl _ _) a1 rfl⟩)
theorem c_str : CallR X (.type "str") (rDN G (bltD .str)) := by
  obtain ⟨K, W, cls, fld, Wx, hk⟩ := G
  cases hK
  cases hw
  intro pins s σ H xs us Q I r ⟨m, h, as, d, h', a1, ra, e, q⟩
  match as, e with
  | [.int i], e =>
    simp only [bltD] at e
    split at e
    · rename_i hz
      cases e
      obtain ⟨x, rfl, g⟩ := Rs1 ra
      rw [show x = _ from g] at r
      exact call_str_int pins s σ H _ us Q I r ⟨i, rfl, hz, q m H _ (Ext.refl _ _) a1 rfl⟩
    · cases e
theorem c_tuple : CallR X (.type "tuple") (rDN G (bltD .tuple)) := by
  obtain ⟨K, W, cls, fld, Wx, hk⟩ := G
  cases hK
  cases hw
  intro pins s σ H xs us Q I r ⟨m, h, as, d, h', a1, ra, e, q⟩
  match as, e with
  | [.ref i], e =>
    simp only [bltD] at e
    split at e
    · rename_i ds ex
      cases e
      obtain ⟨x, rfl, g⟩ := Rs1 ra
      obtain ⟨p, vs, rfl, mp, hp, gp⟩ := ref_lst a1 g ex
      refine call_tuple_of pins s σ H _ us Q I r ⟨p, vs, rfl, .inl ⟨SqL.of hp, fun t ht => ?_⟩⟩
      obtain ⟨b1, b2, b3⟩ := new_tup a1 ht gp
      exact q m _ _ b2 b1 b3
    · cases e
  | [.tup ds], e =>
    cases e
    obtain ⟨x, rfl, p, vs, rfl, hp, gp⟩ := Rs1 ra
    exact call_tuple_of pins s σ H _ us Q I r ⟨p, vs, rfl, .inr ⟨SqT.of hp, q m H _ (Ext.refl _ _) a1 ⟨p, vs, rfl, hp, gp⟩⟩⟩
theorem c_list : CallR X (.type "list") (rDN G (bltD .list)) := by
  obtain ⟨K, W, cls, fld, Wx, hk⟩ := G
  cases hK
  cases hw
  intro pins s σ H xs us Q I r ⟨m, h, as, d, h', a1, ra, e, q⟩
  match as, e with
  | [.ref i], e =>
    simp only [bltD] at e
    split at e
    · rename_i ds ex
      cases e
      obtain ⟨x, rfl, g⟩ := Rs1 ra
      obtain ⟨p, vs, rfl, mp, hp, gp⟩ := ref_lst a1 g ex
      refine call_list_of pins s σ H _ us Q I r ⟨p, vs, rfl, .inl (SqL.of hp), fun t ht => ?_⟩
      obtain ⟨b1, b2, b3⟩ := new_lst a1 ht gp
      exact q _ _ _ b2 b1 b3
    · cases e
  | [.tup ds], e =>
    cases e
    obtain ⟨x, rfl, p, vs, rfl, hp, gp⟩ := Rs1 ra
    refine call_list_of pins s σ H _ us Q I r ⟨p, vs, rfl, .inr (SqT.of hp), fun t ht => ?_⟩
    obtain ⟨b1, b2, b3⟩ := new_lst a1 ht gp
    exact q _ _ _ b2 b1 b3
  | [.frz ns], e =>
    cases e
    obtain ⟨x, rfl, p, rfl, hp⟩ := Rs1 ra
    refine call_list_of pins s σ H _ us Q I r ⟨p, _, rfl, .inl hp.sq, fun t ht => ?_⟩
    obtain ⟨b1, b2, b3⟩ := new_lst a1 ht (ints_rel ns)
    exact q _ _ _ b2 b1 b3
theorem c_all (hc : X.calm = true) : CallR X (.builtin "all") (rDN G (bltD .all)) := by
  obtain ⟨K, W, cls, fld, Wx, hk⟩ := G
  cases hK
  cases hw
  intro pins s σ H xs us Q I r ⟨m, h, as, d, h', a1, ra, e, q⟩
  match as, e with
  | [.ref i], e =>
    simp only [bltD] at e
    split at e
    · rename_i ds ex
      obtain ⟨bs, e1, e2⟩ := map_some e
      cases e2
      obtain ⟨x, rfl, g⟩ := Rs1 ra
      obtain ⟨p, vs, rfl, mp, hp, gp⟩ := ref_lst a1 g ex
      have ev := bools_rel e1 gp
      subst ev
      exact cr_all hc pins s σ H _ us Q I r ⟨p, bs, rfl, SqL.of hp, q m H _ (Ext.refl _ _) a1 rfl⟩
    · cases e
theorem c_any (hc : X.calm = true) : CallR X (.builtin "any") (rDN G (bltD .any)) := by
  obtain ⟨K, W, cls, fld, Wx, hk⟩ := G
  cases hK
  cases hw
  intro pins s σ H xs us Q I r ⟨m, h, as, d, h', a1, ra, e, q⟩
  match as, e with
  | [.ref i], e =>
    simp only [bltD] at e
    split at e
    · rename_i ds ex
      obtain ⟨bs, e1, e2⟩ := map_some e
      cases e2
      obtain ⟨x, rfl, g⟩ := Rs1 ra
      obtain ⟨p, vs, rfl, mp, hp, gp⟩ := ref_lst a1 g ex
      have ev := bools_rel e1 gp
      subst ev
      exact cr_any hc pins s σ H _ us Q I r ⟨p, bs, rfl, SqL.of hp, q m H _ (Ext.refl _ _) a1 rfl⟩
    · cases e
theorem c_ord : CallR X (.builtin "ord") (rDN G (bltD .ord)) := by
  obtain ⟨K, W, cls, fld, Wx, hk⟩ := G
  cases hK
  cases hw
  intro pins s σ H xs us Q I r ⟨m, h, as, d, h', a1, ra, e, q⟩
  match as, e with
  | [.str i], e =>
    simp only [bltD] at e
    split at e
    · rename_i hz
      cases e
      obtain ⟨x, rfl, g⟩ := Rs1 ra
      rw [show x = _ from g] at r
      exact call_ord pins s σ H _ us Q I r ⟨i, rfl, hz, q m H _ (Ext.refl _ _) a1 rfl⟩
    · cases e
theorem c_min (hc : X.calm = true) : CallR X (.builtin "min") (rDN G (bltD .min)) := by
  obtain ⟨K, W, cls, fld, Wx, hk⟩ := G
  cases hK
  cases hw
  intro pins s σ H xs us Q I r ⟨m, h, as, d, h', a1, ra, e, q⟩
  match as, e with
  | [.int i, .int j], e =>
    cases e
    obtain ⟨x, y, rfl, g, g2⟩ := Rs2 ra
    rw [show x = _ from g, show y = _ from g2] at r
    exact call_min2 hc pins s σ H _ us Q I r ⟨i, j, rfl, q m H _ (Ext.refl _ _) a1 rfl⟩
theorem c_max (hc : X.calm = true) : CallR X (.builtin "max") (rDN G (bltD .max)) := by
  obtain ⟨K, W, cls, fld, Wx, hk⟩ := G
  cases hK
  cases hw
  intro pins s σ H xs us Q I r ⟨m, h, as, d, h', a1, ra, e, q⟩
  match as, e with
  | [.int i, .int j], e =>
    cases e
    obtain ⟨x, y, rfl, g, g2⟩ := Rs2 ra
    rw [show x = _ from g, show y = _ from g2] at r
    exact call_max2 hc pins s σ H _ us Q I r ⟨i, j, rfl, q m H _ (Ext.refl _ _) a1 rfl⟩
theorem c_repr (hu : X.A.units + 100 < cLine) (hg : X.A.guards = some []) : CallR X (.builtin "repr") (rDN G (bltD .repr)) := by
  obtain ⟨K, W, cls, fld, Wx, hk⟩ := G
  cases hK
  cases hw
  intro pins s σ H xs us Q I r ⟨m, h, as, d, h', a1, ra, e, q⟩
  have core : ∀ (a : D) (x : V) (p : Addr) (t : PyData), x = .ref p → as = [a] → RelD X.K X.w m H a x → xs = [x] → toPy h 20 a = some t → (if reprOk t then some (D.str t.shown, h) else none) = some (d, h') →
      wpAny (model X.prog X.w) X.A (call (.builtin "repr") us) (EP X pins σ Q) X.xe s := by
    intro a x p t ex ea ga exs et e
    subst ex exs
    split at e
    · rename_i hz
      cases e
      unfold reprOk at hz
      simp only [Bool.and_eq_true, Bool.not_eq_true', decide_eq_true_eq] at hz
      obtain ⟨⟨⟨z1, z2⟩, z3⟩, z4⟩ := hz
      obtain ⟨u, rfl, ru⟩ := vals1 r
      obtain ⟨rs, rr⟩ := Dp.reads I t _ u (toPy_dp a1 20 a _ t et ga) ru
      cases ru
      refine repr_of_reads' rr z1 (fun z => by rw [z2] at z; cases z) hg (by omega) (fun b o e => e) (fun hh uu tk k => ⟨.str t.shown, H, I.kept k, ⟨_, rfl⟩, q m H _ (Ext.refl _ _) a1 rfl⟩) ?_
      have := Z_eq
      omega
    · cases e
  match as, e, core with
  | [.ref i], e, core =>
    simp only [bltD] at e
    obtain ⟨x, rfl, p, mp, rfl⟩ := Rs1 ra
    split at e
    · rename_i t et
      exact core _ _ p t rfl rfl ⟨p, mp, rfl⟩ rfl et e
    · cases e
  | [.tup i], e, core =>
    simp only [bltD] at e
    obtain ⟨x, rfl, p, vs, rfl, gp⟩ := Rs1 ra
    split at e
    · rename_i t et
      exact core _ _ p t rfl rfl ⟨p, vs, rfl, gp⟩ rfl et e
    · cases e
end
end Dd

set_option Elab.async false
set_option linter.all false
set_option maxRecDepth 100000
set_option maxHeartbeats 4000000
namespace Dd
open PySem PySem.Spec PyProof.Rows L2

/-- a method by values -/
def rDM (G : Pc) (f : D → List D → DH → Option (D × DH)) : V → List V → Hp → VK → Prop := fun x xs H Q =>
  ∃ m h a as d h', G.H m h H ∧ G.R m H a x ∧ G.Rs m H as xs ∧ f a as h = some (d, h') ∧ ∀ m' H' v, Ext m H m' H' → G.H m' h' H' → G.R m' H' d v → Q v H'
section
variable {X : Cx} {G : Pc} (hK : X.K = G.K) (hw : X.w = G.w)
include hK hw
theorem m_append : MtR X "list.append" (rDM G (mthD .append)) := by
  obtain ⟨K, W, cls, fld, Wx, hk⟩ := G
  cases hK
  cases hw
  intro pins s σ H x xs v us Q I rx rs ⟨m, h, a, as, d, h', a1, ra, ras, e, q⟩
  match a, as, e with
  | .ref i, [y], e =>
    simp only [mthD] at e
    split at e
    · rename_i ds ex
      split at e
      · rename_i hz
        cases e
        obtain ⟨p, vs, rfl, mp, hp, gp⟩ := ref_lst a1 ra ex
        obtain ⟨u, rfl, gu⟩ := Rs1 ras
        refine mt_append pins s σ H _ _ v us Q I rx rs ⟨p, vs, u, rfl, rfl, hp, by rw [gp.length, ← Z_eq]; exact hz, ?_⟩
        obtain ⟨b1, b2⟩ := a1.write (ob := .lst (ds ++ [y])) (o := .lst (vs ++ [u])) mp ⟨_, rfl, gp.append (RelDs.one gu)⟩
        exact q _ _ _ b2 b1 rfl
      · cases e
    · cases e
theorem m_extend : MtR X "list.extend" (rDM G (mthD .extend)) := by
  obtain ⟨K, W, cls, fld, Wx, hk⟩ := G
  cases hK
  cases hw
  intro pins s σ H x xs v us Q I rx rs ⟨m, h, a, as, d, h', a1, ra, ras, e, q⟩
  match a, as, e with
  | .ref i, [.ref j], e =>
    simp only [mthD] at e
    split at e
    · rename_i ds es ex ey
      split at e
      · rename_i hz
        cases e
        obtain ⟨p, vs, rfl, mp, hp, gp⟩ := ref_lst a1 ra ex
        obtain ⟨u, rfl, gu⟩ := Rs1 ras
        obtain ⟨p', vs', rfl, mp', hp', gp'⟩ := ref_lst a1 gu ey
        refine mt_extend pins s σ H _ _ v us Q I rx rs ⟨p, p', vs, vs', rfl, rfl, hp, hp', by rw [gp.length, gp'.length, ← Z_eq]; exact hz, ?_⟩
        obtain ⟨b1, b2⟩ := a1.write (ob := .lst (ds ++ es)) (o := .lst (vs ++ vs')) mp ⟨_, rfl, gp.append gp'⟩
        exact q _ _ _ b2 b1 rfl
      · cases e
    · cases e
theorem m_pop : MtR X "list.pop" (rDM G (mthD .pop)) := by
  obtain ⟨K, W, cls, fld, Wx, hk⟩ := G
  cases hK
  cases hw
  intro pins s σ H x xs v us Q I rx rs ⟨m, h, a, as, d, h', a1, ra, ras, e, q⟩
  match a, as, e with
  | .ref i, [], e =>
    simp only [mthD] at e
    split at e
    · rename_i ds ex
      split at e
      · rename_i z hz
        cases e
        obtain ⟨p, vs, rfl, mp, hp, gp⟩ := ref_lst a1 ra ex
        rw [List.getLast?_eq_getElem?] at hz
        obtain ⟨y, g1, g2⟩ := gp.get hz
        refine mt_pop pins s σ H _ _ v us Q I rx rs ⟨p, vs, y, rfl, ras, hp, by rw [gp.length]; exact g1, ?_⟩
        have gd : RelDs X.K X.w m H ds.dropLast vs.dropLast := by
          rw [List.dropLast_eq_take, List.dropLast_eq_take, gp.length]
          exact gp.take _
        obtain ⟨b1, b2⟩ := a1.write (ob := .lst ds.dropLast) (o := .lst vs.dropLast) mp ⟨_, rfl, gd⟩
        exact q _ _ _ b2 b1 (g2.ext b2)
      · cases e
    · cases e
theorem m_join : MtR X "str.join" (rDM G (mthD .join)) := by
  obtain ⟨K, W, cls, fld, Wx, hk⟩ := G
  cases hK
  cases hw
  intro pins s σ H x xs v us Q I rx rs ⟨m, h, a, as, d, h', a1, ra, ras, e, q⟩
  match a, as, e with
  | .str z, [.ref j], e =>
    simp only [mthD] at e
    split at e
    · rename_i ds ex
      split at e
      · rename_i ys ey
        split at e
        · rename_i hz
          cases e
          rw [show x = _ from ra] at rx
          obtain ⟨u, rfl, gu⟩ := Rs1 ras
          obtain ⟨p, vs, rfl, mp, hp, gp⟩ := ref_lst a1 gu ex
          have ev := txts_rel ey gp
          subst ev
          exact mt_join pins s σ H _ _ v us Q I rx rs ⟨z, p, ys, rfl, rfl, .inl (SqL.of hp), hz, q m H _ (Ext.refl _ _) a1 (by rw [TL.join_eq]; rfl)⟩
        · cases e
      · cases e
    · cases e
end
end Dd

set_option Elab.async false
set_option linter.all false
set_option maxRecDepth 100000
set_option maxHeartbeats 4000000
namespace Dd
open PySem PySem.Spec PyProof.Rows L2

/-! # 11. Calls: a def's word, with the guards told -/
def FnG (P : Program) (w : World) (K : PySem.W.Frag) (mg : Str → Option Value) (base : Heap) (n : Nat) (f : Addr) (sp : Sp) : Prop :=
  ∀ (A : Around) (outer : List Env) (s : Shared) (H : Hp) (us : List Value) (vs : List V) (Q : VK) (E : XK), Room n A → A.guards = some [] → Env0 P w K mg base A outer s H → Vals vs us → sp vs H Q E →
    codeAny (model P w) A (.call (.ref f) ⟨us, []⟩) (CR (L2.CX P w) outer P w H s Q E) s
theorem pe_callG {X : Cx} {W : WX} {n : Nat} {f : Addr} {sp : Sp} {x : Str} {p pos : Pos} {e : Expr} {es : List Expr} {t : TA} (F : FnG X.prog X.w X.K X.mg X.base n f sp) (hr : Room n X.A) (hgd : X.A.guards = some [])
    (hg : Gl X x) (hm : X.mg x = some (.ref f)) (hk : PySem.W.keepIn X.K (.ref f) = true) (tk : Takes X W) (ha : PA X (e :: es) t) (hdb : (x == ("__debug__" : Str)) = false)
    (he : starEach (e :: es) X.env = (false, eval e X.env) :: starEach es X.env) (hpl : (backTo pos (starEach es X.env)).any (·.1) = false) : PE X (.Call (.Name x p) (e :: es) [] pos) (tCallS sp (WE W) t) := by
  refine ⟨fun pins s σ H Q I h => wpAny_Call_Name_kw (ld_glob I hg hm ?_ hdb)⟩
  refine PySem.W.callWith_K (h₀ := X.base) I.ok.mod.kin hk (thn (ha.run pos pins s σ H _ I h) fun us s1 hh => ?_) he hpl
  obtain ⟨vs, H1, I1, r, q⟩ := hh
  refine ⟨I1.kIn, wpAny_call (codeAny_mono (F X.A X.stack s1 H1 us vs Q (WE W σ) hr hgd I1.env0 r q) fun res s' hq => ?_)⟩
  cases res with
  | error u => exact passAt tk σ pins H1 s1 u s' I1 hq
  | ok fl =>
    cases fl with
    | ret u => exact I1.after hq
    | next => exact (show False from hq).elim
    | brk => exact (show False from hq).elim
    | cont => exact (show False from hq).elim
/-- a def of the text by its body -/
theorem fnG_of {P : Program} {w : World} {K : PySem.W.Frag} {mg : Str → Option Value} {base : Heap} {n : Nat} {f : Addr} {fd : FuncData} {x : Str} {st : Stmt} {N ps : List Str} {sp : Sp}
    (F : Fun K x x st f fd) (S : FnScope N ps (defScope st)) (hb : Binds K fd ps []) (len : ∀ vs H Q E, sp vs H Q E → vs.length = ps.length)
    (body : ∀ (cdv : Value) (A : Around) (outer : List Env) (s : Shared) (H : Hp) (vs : List V) (Q : VK) (E : XK), Room n (A.deeper (envOfC x (defScope st) s.heap.objs.size f cdv)) → A.guards = some [] → sp vs H Q E →
      ∃ t, PSs (cxOf (L2.CX P w) P w K mg base N x (defScope st) f cdv A outer s H E) (defBody st) t ∧ t { nx := fun _ H' => Q .non H', rt := Q } (start N vs) H) :
    FnG P w K mg base (n + 1) f sp := by
  obtain ⟨oc, od, kV, doc, pm, an, cdv, ct, osl, rfl, lk, hcd⟩ := F.ex
  intro A outer s H us vs Q E hr hg e0 r hsp
  have hl := len _ _ _ _ hsp
  have kin : K.In s.heap := e0.mod.kin.keeps fun b o e => (e0.bs b o e).1
  have hlim : s.heap.NoLimit := e0.mod.nolimit.keeps fun b o e => (e0.bs b o e).1
  have hbind := hb s us kin (by rw [List.append_nil, ← r.length]; exact hl)
  rw [List.append_nil] at hbind
  have kinds : ∀ y ∈ ps.zip us, (defScope st).names.lookup y.1 = some .local ∨ ((defScope st).names.lookup y.1 = some .cell ∧ ((cellsFrom (s.heap.objs.size + 1) (defScope st).names []).lookup y.1).isSome = true) := by
    rintro ⟨z, v⟩ hy
    rcases S.par z (List.of_mem_zip hy).1 with q | q
    · exact .inl q
    · exact .inr ⟨q, PySem.W.cellsFrom_some _ _ _ (.inl q)⟩
  refine codeAny_call_function hr.depth (kin _ _ lk) rfl S.co S.gen rfl (PySem.W.codeRec_of kin hcd) (hbind _ _ _ _ ?_)
  refine wpAny_newFunctionEnv_cells S.kind kinds fun env he s1 z => ?_
  cases he
  refine ⟨hlim.keeps z.toInCall.keep, codeAny_func ?_⟩
  obtain ⟨t, ht, hq⟩ := body cdv A outer s H vs Q E (hr.deeper _) hg hsp
  have J : L2.Inv (cxOf (L2.CX P w) P w K mg base N x (defScope st) f cdv A outer s H E) [] (start N vs) H s1 := inv_start S hr.hd e0 hl r z
  refine wpAny_mono (ht.run [] s1 (start N vs) H _ J hq) (fun fl s' hs => ?_) fun _ _ he => he
  cases fl with
  | ret u =>
    obtain ⟨v, σ2, H2, J2, rv, q2⟩ := hs
    exact ⟨v, H2, J2.os, J2.bare, J2.base, J2.hok, rv, q2⟩
  | next =>
    obtain ⟨σ2, H2, J2, q2⟩ := hs
    exact ⟨V.non, H2, J2.os, J2.bare, J2.base, J2.hok, rfl, q2⟩
  | brk => exact (show False from hs.choose_spec.choose_spec.2).elim
  | cont => exact (show False from hs.choose_spec.choose_spec.2).elim
/-- the head: the script's list, frozen; then the law's own word -/
theorem law_callG {P : Program} {w : World} {K : PySem.W.Frag} {mg mb : Str → Option Value} {n : Nat} {fa a : Addr} {sp : Sp} {s1 : Shared} {vs : List Value} {ns : List Int}
    (KX : K.In s1.heap) (hns : s1.heap.Ns mainGlobals mg) (hb : s1.heap.Ns builtinsNs mb) (hbb : ∀ x : Str, x ≠ "__name__" → mb x = bootBuiltins x) (lim : s1.heap.NoLimit) (hg : s1.gens = #[])
    (ha : s1.heap.get? a = some { cls := .type "list", data := .seq vs.toArray }) (hi : IntsAre vs ns) (hl : ns.length ≤ sizeLine) (hr : Room n callerA)
    (F : ∀ base : Heap, K.In base → base.Ns mainGlobals mg → FnG P w K mg base n fa sp)
    (hsp : ∀ H : Hp, Only H → FrzL K H a (ns.map V.int) → sp [.ref a] H (fun v _ => v = .bl true) fun _ _ _ => False) :
    codeAny (model P w) callerA (.call (.ref fa) ⟨[.ref a], []⟩) (fun r s' => r = .ok (.ret (.bool true)) ∧ OldK s1.heap s'.heap ∧ s'.os = s1.os ∧ AllBare s'.gens) s1 := by
  have rv := vals_ints hi
  have hlen := hi.length
  have core : ∀ H : Hp, Only H → FrzL K H a (ns.map V.int) → HOk P w H s1.heap → (∀ b, H b ≠ none → b = a) → (H a ≠ none → K.lookup a = none) →
      codeAny (model P w) callerA (.call (.ref fa) ⟨[.ref a], []⟩) (fun r s' => r = .ok (.ret (.bool true)) ∧ OldK s1.heap s'.heap ∧ s'.os = s1.os ∧ AllBare s'.gens) s1 := by
    intro H hO hS hok only kno
    have isA : ∀ {b : Addr} {u : HO}, H b = some u → b = a := fun {b u} e => only b (by rw [e]; exact fun z => nomatch z)
    have noDict : ∀ {b : Addr} {o : Obj} {es : Array DictEntry} {ep : Nat}, s1.heap.get? b = some o → o.data = .dict es ep → H b = none := by
      intro b o es ep e d
      cases q : H b with
      | none => rfl
      | some u =>
        cases isA q
        rw [ha] at e; cases e
        exact nomatch (show Data.seq vs.toArray _ = Data.dict es ep from d)
    have keepNs : ∀ {b : Addr} {m : Str → Option Value}, s1.heap.Ns b m → (hidT s1.heap H).Ns b m := by
      rintro b m ⟨o, es, ep, e, d, r⟩
      exact ⟨o, es, ep, hidT_get e (noDict e d), d, r⟩
    have kin : K.In (hidT s1.heap H) := by
      intro b o e
      refine hidT_get (KX b o e) ?_
      cases q : H b with
      | none => rfl
      | some u =>
        cases isA q
        rw [kno (by rw [q]; exact fun z => nomatch z)] at e
        cases e
    have hM : Mod K mg (hidT s1.heap H) := by
      obtain ⟨mc, l1, l2⟩ := lim
      exact ⟨kin, keepNs hns, ⟨mb, keepNs hb, hbb⟩, mc, keepNs l1, l2⟩
    have e0 : Env0 P w K mg (hidT s1.heap H) callerA [] s1 H :=
      ⟨rfl, hM, fun b o e => of_hidT e, Nat.le_of_eq (hidT_size _ _), trivial, fun b hb => (nomatch (show b ∈ ([] : List Addr) from hb)), hok, .of_eq hg⟩
    refine codeAny_mono (F _ kin (keepNs hns) callerA [] s1 H [.ref a] [.ref a] _ _ hr rfl e0 (.cons rfl .nil) (hsp H hO hS)) fun r s' h => ?_
    match r, h with
    | .error e, h =>
      obtain ⟨_, _, _, _, _, _, _, _, _, _, _, _, z⟩ := h
      exact z.elim
    | .ok .next, h => exact (show False from h).elim
    | .ok .brk, h => exact (show False from h).elim
    | .ok .cont, h => exact (show False from h).elim
    | .ok (.ret u), h =>
      obtain ⟨v, H', os, bare, un, hok', r', q⟩ := h
      cases (show v = .bl true from q)
      cases (show u = Value.bool true from r')
      refine ⟨rfl, OldK.of_keep fun b o e => ?_, os, bare⟩
      cases q : H b with
      | none => exact un.keep b o e q (fun z => nomatch (show b ∈ ([] : List Addr) from z)) (fun z => nomatch z)
      | some u =>
        rcases hO b with z | ⟨ob, xs, z⟩
        · rw [q] at z; cases z
        · have e1 := (hok b _ z).1
          have e2 := (hok' b _ (un.frzs b ob _ z)).1
          rw [e] at e1; cases e1
          exact e2
  cases hk : K.lookup a with
  | some o =>
    have e := KX a o hk
    rw [ha] at e
    cases e
    exact core (fun _ => none) (fun _ => .inl rfl) (.inr ⟨_, vs.toArray, _, hk, rfl, rfl, rfl, by rw [List.size_toArray, hlen]; exact hl, by simpa using rv⟩) (fun b u z => nomatch z) (fun b z => absurd rfl z) (fun z => absurd rfl z)
  | none =>
    have one : ∀ b, (if b = a then some (HO.frz { cls := .type "list", data := .seq vs.toArray } (.lst (ns.map V.int))) else none) = none ∨ b = a := fun b => by
      by_cases hb : b = a
      · exact .inr hb
      · exact .inl (if_neg hb)
    refine core (fun b => if b = a then some (.frz { cls := .type "list", data := .seq vs.toArray } (.lst (ns.map V.int))) else none) (fun b => ?_) (.inl ⟨_, if_pos rfl⟩) (fun b u z => ?_) (fun b z => (one b).resolve_left z) (fun _ => hk)
    · rcases one b with h | h
      · exact .inl h
      · exact .inr ⟨_, _, if_pos h⟩
    · rcases one b with h | h
      · exact nomatch (h.symm.trans z)
      · subst h
        have z' := (if_pos rfl).symm.trans z
        cases z'
        exact ⟨ha, by rw [List.length_map]; exact hl, vs, _, rv, ha⟩
/-- the goal that the head leaves -/
theorem walkG {l : PySem.W.OpenLaw} {n k : Nat} {q : Program} {loose : List Str} {XP : (Str → Option Value) → Heap → Prop} {YP : World → Heap → Prop} {d : DefRec} {K : Params → PySem.W.Frag} {sp : World → Sp}
    (hn : l.most = some n) (hn2 : n ≤ sizeLine) (hdf : d.params.defaults = []) (hr : Room k callerA) (hY : ∀ (w : World) (h : Heap), YP w h → (K w.params).In h)
    (F : ∀ (w : World) (mg : Str → Option Value) (fa : Addr) (h : Heap), (K w.params).In h → h.Ns mainGlobals mg → mg d.name = some (.ref fa) →
      ∀ base : Heap, (K w.params).In base → base.Ns mainGlobals mg → FnG l.prog w (K w.params) mg base k fa (sp w))
    (hsp : ∀ (w : World) (H : Hp) (a : Addr) (ns : List Int), ns.length ≤ n → Only H → FrzL (K w.params) H a (ns.map V.int) → sp w [.ref a] H (fun v _ => v = .bl true) fun _ _ _ => False) :
    PySem.W.WalkO q loose XP YP l.row.toRowW d [] (fun f vs => PySem.call f vs) := by
  refine Att.attach_call hn hdf fun w s₀ s₁ mg mb fa o pm cd doc a vs ns G Y ho hd hcd hmg hobj hints hlen hg => ?_
  have KX := hY w _ Y
  exact law_callG KX G.T.g G.T.b G.T.builtins G.T.nolimit hg hobj hints (Nat.le_trans hlen hn2) hr (F w mg fa _ KX G.T.g hmg) (fun H hO hS => hsp w H a ns hlen hO hS)
end Dd

set_option Elab.async false
set_option linter.all false
set_option maxRecDepth 100000
set_option maxHeartbeats 4000000
/-! # 12. Own errors with one field -/
namespace PySem
namespace OWhy
open PySem.W PySem.Calls PyProof.Rows PySem.HandSPX
/-! ### the text of __init__ -/
def iA (p1 p2 : Pos) : Arguments := { posonlyargs := [], args := [{ arg := "self", annotation := none, pos := p1 }, { arg := "why", annotation := none, pos := p2 }], vararg := none, kwonlyargs := [], kw_defaults := [], kwarg := none, defaults := [] }
def iB (q1 q2 q3 q4 : Pos) : List Stmt := [.Assign [.Attribute (.Name "self" q1) "why" q2] (.Name "why" q3) q4]
def iS : Scope := { kind := .function, names := [(PySem.Str.ofString "self", .local), (PySem.Str.ofString "why", .local)], isGenerator := false, isCoroutine := false, more := [] }
/-- what the written part says of Low, at C, and of its __init__, at fI -/
structure OTxt (K : Frag) (mg : Str → Option Value) (x : Str) (C fI : Addr) : Prop where
  gC : mg x = some (.ref C)
  cls : ∃ nm q N bs bm sn sub ab col dd k0 k1 k2 k3 k5, K.lookup C = some (excClassObj nm q C N bs bm true sn sub ab col dd k0 k1 k2 k3 k5 "ValueError.__new__") ∧ refsVE bm = true
  sa : findIn K (.ref C) "__setattr__" = some (some (.builtin "object.__setattr__"))
  ga : findIn K (.ref C) "__getattribute__" = some (some (.builtin "BaseException.__getattribute__"))
  gg : findIn K (.ref C) "__getattr__" = some none
  noN : findIn K (.ref C) "why" = some none
  iC : findIn K (.ref C) "__init__" = some (some (.ref fI))
  tC : typeIn K (.ref fI) = some (.type "function")
  kC : keepIn K (.ref C) = true
  exC : subIn K (.ref C) (.type "BaseException") = some true
  tyC : typeIn K (.ref C) = some (.type "type")
  hdC : hasDictIn K C = true
  te : exmOne K (.ref C) (.ref C) = some true
  fn : ∃ (qn : Str) (oc : Value) (od : Option Addr) (doc pm : Value) (an : Option Addr) (cdv ct : Value) (osl : Array (Option Value)) (p1 p2 q1 q2 q3 q4 : Pos),
    K.lookup fI = some ⟨oc, od, .func (fnOf "__init__" qn (iA p1 p2) (iB q1 q2 q3 q4) iS .none .none doc pm an cdv ct), osl⟩ ∧ codeIn K cdv qn = true
theorem one_size (v : Value) : [v].length ≤ sizeLine := by
  rw [sizeLine_eq]
  exact (by decide : 1 ≤ 16777216)
theorem kept_but {K : Frag} {h h' : Heap} {x : Addr} (X : K.In h) (hx : K.lookup x = none) (k : ∀ b o, b ≠ x → h.get? b = some o → h'.get? b = some o) : K.In h' := fun a o e =>
  k a o (fun z => by rw [z, hx] at e; cases e) (X a o e)
theorem ldC {M : Model} {s : Shared} {name : Str} {scope : Scope} {L a : Addr} {cd : Value} {m : Str → Option Value} {x : Str} {pos : Pos} {v : Value} {Q : Value → Shared → Prop} {A : Around} {E : Value → Shared → Prop} (hn : s.heap.Ns L m) (hv : m x = some v) (h : Q v s)
    (hk : scope.kind = .function := by rfl) (hl : (envOfC name scope L a cd).kindOf x = some .local := by rfl) (hd : (x == ("__debug__" : Str)) = false := by decide) :
    wpAny M A (eval (.Name x pos) (envOfC name scope L a cd)) Q E s := wpAny_Name (wpAny_loadName_local hk hl hn hv h) hd
/-- what __init__ leaves of a fresh exception at x -/
structure InitEnd (h h' : Heap) (x C dx t1 : Addr) (v : Value) : Prop where
  keep : ∀ b o, b ≠ x → h.get? b = some o → h'.get? b = some o
  obj : h'.get? x = some { cls := .ref C, dict := some dx, data := .fields #[.ref t1, .none, .none, .none, .bool false, .none] }
  dbig : h.objs.size ≤ dx
  dne : dx ≠ x
  ns : h'.Ns1 dx (fun y => if y = "why" then some v else none)
/-- a made Low -/
structure OwnMade (h h' : Heap) (e C d : Addr) (v : Value) : Prop where
  keep : ∀ b o, h.get? b = some o → h'.get? b = some o
  new : h.objs.size ≤ e
  obj : ∃ oe vs, h'.get? e = some oe ∧ oe.cls = .ref C ∧ oe.dict = some d ∧ oe.data = .fields vs ∧ vs[1]? = some .none
  dbig : h.objs.size ≤ d
  dne : d ≠ e
  ns : h'.Ns1 d (fun y => if y = "why" then some v else none)
section
variable {prog : Program} {w : World} {A : Around} {E : Value → Shared → Prop} {R : Result → Shared → Prop} {s : Shared} {K : Frag} {mg : Str → Option Value} {x0 : Str} {C fI : Addr}
theorem low_init (T : OTxt K mg x0 C fI) {x t0 : Addr} {v : Value} (X : K.In s.heap) (hlim : s.heap.NoLimit) (hx : s.heap.get? x = some (excO C t0)) (hnx : K.lookup x = none) (hroom : A.depth < recursionLimit)
    (hq : ∀ h' tk dx, InitEnd s.heap h' x C dx t0 v → R (.ok (.ret .none)) { s with heap := h', toks := tk }) :
    codeAny (model prog w) A (.call (.ref fI) ⟨[.ref x, v], []⟩) R s := by
  obtain ⟨qn, oc, od, doc, pm, an, cdv, ct, osl, p1, p2, q1, q2, q3, q4, ho, hcd⟩ := T.fn
  obtain ⟨nm, q, N, bs, bm, sn, sub, ab, col, dd, k0, k1, k2, k3, k5, hC, hbm⟩ := T.cls
  have hcl : clsIn K C = some { name := nm, bases := bs, mro := .ref C :: bm, ns := N, qualname := q, hasDict := true, slotNames := sn, subclasses := sub, abstract := ab, collection := col, hasDel := false } := by unfold clsIn; rw [hC] <;> rfl
  refine Att.call_fn (binds := [("self", .ref x), ("why", v)]) X hlim ho hcd hroom (BindsTo.of_eq (by first | rfl | with_unfolding_all rfl)) (by first | rfl | decide | with_unfolding_all rfl) (fun s₁ IC => ?_) rfl rfl rfl
  obtain ⟨h₁, tk₁, rfl⟩ := IC.toInCall.same
  have k : ∀ b o, s.heap.get? b = some o → h₁.get? b = some o := IC.toInCall.keep
  have hn := IC.toInCall.ns
  have hxL : s.heap.objs.size ≠ x := Nat.ne_of_gt (Heap.lt_size hx)
  have X₁ : K.In h₁ := X.keeps k
  have hx₁ := k _ _ hx
  -- self.by = by
  show wpAny _ _ (execs _ _) _ _ _
  refine wpAny_execs_cons (plainObj_wpAny_Assign_Attribute ?_)
  refine ldC (v := v) hn (by first | rfl | with_unfolding_all rfl | kernel_rfl) (ldC (v := .ref x) hn (by first | rfl | with_unfolding_all rfl | kernel_rfl) ?_)
  refine set_plain X₁ (ox := excO C t0) (od := none) ⟨hx₁, rfl, rfl, trivial⟩ T.sa ?_
  refine exc_osa X₁ hx₁ hcl (show refsVE (.ref C :: bm) = true from hbm) rfl T.noN (fun h₃ tk₃ dx k₃ dn dne hx₃ hn₃ => ?_)
  show wpAny _ _ (execs _ _) _ _ _
  have z : s.heap.objs.size < h₁.objs.size := hn.lt
  exact wpAny_execs_nil (hq h₃ tk₃ dx ⟨fun b o hb e => k₃ b o hb (k b o e), hx₃, Nat.le_of_lt (Nat.lt_of_lt_of_le z dn), dne, hn₃⟩)
theorem low_made (T : OTxt K mg x0 C fI) {v : Value} (X : K.In s.heap) (hlim : s.heap.NoLimit) (hroom : A.depth + 1 < recursionLimit)
    (hq : ∀ h' tk e d, OwnMade s.heap h' e C d v → R (.ok (.ret (.ref e))) { s with heap := h', toks := tk }) :
    codeAny (model prog w) A (.call (.ref C) ⟨[v], []⟩) R s := by
  obtain ⟨nm, q, N, bs, bm, sn, sub, ab, col, dd, k0, k1, k2, k3, k5, hC, hbm⟩ := T.cls
  obtain ⟨hp, g, dr, tk, os⟩ := s
  have k : ∀ b o, hp.get? b = some o → ((hp.push (kdv_tup [v])).push (excO C hp.objs.size)).get? b = some o := fun b o e => Heap.get?_push_of_some _ (Heap.get?_push_of_some _ e)
  have hget : ((hp.push (kdv_tup [v])).push (excO C hp.objs.size)).get? (hp.objs.size + 1) = some (excO C hp.objs.size) := by heap_get
  have hnx : K.lookup (hp.objs.size + 1) = none := by
    cases e : K.lookup (hp.objs.size + 1) with
    | none => rfl
    | some o =>
      have z : hp.get? (hp.objs.size + 1) = some o := X _ _ e
      exact absurd (Nat.lt_of_succ_lt (Heap.lt_size z)) (Nat.lt_irrefl _)
  refine call_own F.excBase_ValueError (fun X => refsVE_contains X bm hbm) (X _ _ hC) (looks_findIn X T.iC) (fun self => bind_fn X self T.tC) (one_size v) ?_
  refine low_init (s := ⟨(hp.push (kdv_tup [v])).push (excO C hp.objs.size), g, dr, tk, os⟩) T (X.keeps k) (hlim.keeps k) hget hnx ?_ fun h' tk' dx ⟨k', hx, dn, dne, hns⟩ => ?_
  · show A.depth + 1 < recursionLimit
    exact hroom
  · have old : ∀ b o, hp.get? b = some o → h'.get? b = some o := fun b o e => k' b o (Nat.ne_of_lt (Nat.lt_succ_of_lt (Heap.lt_size e))) (k b o e)
    have z : hp.objs.size + 1 + 1 ≤ dx := by
      first
        | (simpa only [Heap.size_push] using dn)
        | exact dn
        | (have q := dn; rw [Heap.size_push, Heap.size_push] at q; exact q)
    exact ⟨rfl, hq h' tk' (hp.objs.size + 1) dx ⟨old, Nat.le_succ _, ⟨_, _, hx, rfl, rfl, rfl, rfl⟩, Nat.le_trans (Nat.le_trans (Nat.le_succ _) (Nat.le_succ _)) z, dne, hns⟩⟩
end
end OWhy
end PySem
namespace L2
namespace OWhy
open PySem PySem.Spec PyProof.Rows
theorem relO_low {v : V} {v' : Value} (r : RelV v v') (f : Str) : RelO (List.lookup f [(("why" : Str), v)]) (if f = "why" then some v' else none) := by
  by_cases hw : f = "why"
  · subst hw
    rw [if_pos rfl]
    have q : List.lookup ("why" : Str) [(("why" : Str), v)] = some v := by simp [List.lookup]
    rw [q]
    exact r
  · rw [if_neg hw]
    have qw : (f == ("why" : Str)) = false := by simpa using hw
    have q2 : List.lookup f [(("why" : Str), v)] = none := by simp [List.lookup, qw]
    rw [q2]
    trivial
section
variable {X : Cx} {x0 : Str} {C fI : Addr}
/-- Low(e) -/
def tMkLow (C : Addr) (ta : TA) : St → Hp → XK → Prop := fun σ H Q => ta σ H fun vs H1 => ∃ v, vs = [v] ∧ ∀ d, H1 d = none → Q (.ref C) (some d) (upd H1 d (.xd [(("why" : Str), v)]))
theorem pmk_low {a : Expr} {ta : TA} {p pos : Pos} {k : Nat} (T : PySem.OWhy.OTxt X.K X.mg x0 C fI) (hr : Room k X.A) (ha : PA X [a] ta) (hg : Gl X x0) (hdb : (x0 == ("__debug__" : Str)) = false)
    (he : starEach (a :: []) X.env = (false, eval a X.env) :: starEach [] X.env := by rfl) (hpl : (backTo pos (starEach [] X.env)).any (·.1) = false := by rfl) :
    PMk X (.Call (.Name x0 p) [a] [] pos) (tMkLow C ta) := by
  intro pins s σ H Q I h
  refine wpAny_Call_Name_kw (ld_glob I hg T.gC ?_ hdb)
  refine PySem.W.callWith_K (h₀ := X.base) I.ok.mod.kin T.kC (thn (ha.run pos pins s σ H _ I h) fun us s1 hh => ?_) he hpl
  obtain ⟨vs, H1, I1, r1, v, ev, q1⟩ := hh
  subst ev
  refine ⟨I1.kIn, ?_⟩
  cases r1 with
  | cons rv rn =>
    rename_i v' us'
    cases rn
    show wpAny _ _ (call (.ref C) [v']) _ _ _
    have hlim := I1.nolimit
    obtain ⟨hp, g, dr, tk, os⟩ := s1
    refine wpAny_call (PySem.OWhy.low_made T I1.kIn hlim (by have := hr.dp; omega) fun h' tk' e d M => ?_)
    show MkP X pins σ Q (.ref e) ⟨h', g, dr, tk', os⟩
    obtain ⟨oe, fv, hoe, hc, hd, hdat, h1⟩ := M.obj
    have hns := M.ns
    obtain ⟨G', g1, g2⟩ := restrict h' fun b => decide (b ≠ e)
    have gk : ∀ b, b ≠ e → G'.get? b = h'.get? b := fun b hb => g1 b (decide_eq_true hb)
    have ge : G'.get? e = none := g2 e (by simp)
    have old : ∀ b o, hp.get? b = some o → G'.get? b = some o := fun b o q => (gk b (Nat.ne_of_lt (Nat.lt_of_lt_of_le (Heap.lt_size q) M.new))).trans (M.keep b o q)
    have ob : ObjOk X.prog X.w (upd H1 d (.xd [(("why" : Str), v)])) G' d (.xd [(("why" : Str), v)]) :=
      ⟨_, hns.at (fun o q => (gk d M.dne).trans q), fun f => relO_low rv f⟩
    have J : Inv X pins σ (upd H1 d (.xd [(("why" : Str), v)])) ⟨G', g, dr, tk', os⟩ := I1.laid (t' := tk') old M.dbig ob
    refine ⟨e, oe, fv, ⟨G', g, dr, tk', os⟩, _, .ref C, some d, rfl, J, fun b o q => ?_, ge, hoe, ⟨hc, hd⟩, hdat, h1, ?_, rfl, I1.bare, raises_own T.exC T.tyC, q1 d (I1.hok.fresh M.dbig)⟩
    · by_cases hb : b = e
      · have q' : G'.get? b = some o := q
        rw [hb, ge] at q'; cases q'
      · exact (gk b hb).symm.trans q
    · rw [upd_ne (Ne.symm M.dne)]
      exact I1.hok.fresh M.new
/-- raise Low(e) -/
def tRaiseLow (C : Addr) (W : WX) (ta : TA) : TS := fun _ σ H => tMkLow C ta σ H fun cls d H' => W cls d σ H'
theorem ps_raiseLow {a : Expr} {ta : TA} {W : WX} {p pos pos2 : Pos} {k : Nat} (hc : X.calm = true) (T : PySem.OWhy.OTxt X.K X.mg x0 C fI) (hr : Room k X.A) (tk : Takes X W) (ha : PA X [a] ta) (hg : Gl X x0) (hdb : (x0 == ("__debug__" : Str)) = false)
    (he : starEach (a :: []) X.env = (false, eval a X.env) :: starEach [] X.env := by rfl) (hpl : (backTo pos (starEach [] X.env)).any (·.1) = false := by rfl) :
    PS X (.Raise (some (.Call (.Name x0 p) [a] [] pos)) none pos2) (tRaiseLow C W ta) := ps_raise hc tk (pmk_low T hr ha hg hdb he hpl)
/-- low.by, low the exception that the suite holds (at a; its class cls, its dict d) -/
def tByLow (C : Addr) (a : Addr) (cls : Value) (d : Option Addr) (te : TE) : TE := fun σ H Q => te σ H fun x H1 => x = .ref a ∧ cls = .ref C ∧ ∃ (dd : Addr) (v : V), d = some dd ∧ H1 dd = some (.xd [(("why" : Str), v)]) ∧ Q v H1
theorem pe_byLow {a : Addr} {oe : Obj} {cls : Value} {d : Option Addr} {pn : List (Addr × Obj)} {e : Expr} {te : TE} {pos : Pos} (T : PySem.OWhy.OTxt X.K X.mg x0 C fI) (hz : Zc cls d oe) (hf : ∃ vs, oe.data = .fields vs) (he : PE (X.suite a ((a, oe) :: pn)) e te)
    (hb : attributeBase e "why" X.env (eval e X.env) = eval e X.env := by rfl) :
    PE (X.suite a ((a, oe) :: pn)) (.Attribute e "why" pos) (tByLow C a cls d te) := by
  refine ⟨fun pins s σ H Q I h => ?_⟩
  refine attr_of hb (thn (he.run pins s σ H _ I h) fun u s1 hh => ?_)
  obtain ⟨x, H1, I1, rx, ex, ec, dd, v, ed, ea, q⟩ := hh
  subst ex
  obtain rfl : u = Value.ref a := rx
  subst ec
  subst ed
  obtain ⟨ha, _⟩ := I1.pin (a, oe) (List.mem_append_left _ List.mem_cons_self)
  obtain ⟨vs, hd⟩ := hf
  have hx : ObjOk X.prog X.w H1 s1.heap dd (.xd [(("why" : Str), v)]) := I1.hok dd _ ea
  obtain ⟨mA, hns, hr⟩ := hx
  obtain ⟨od, ho, hl⟩ := lookIn_ns hns
  have l : List.lookup ("why" : Str) [(("why" : Str), v)] = some v := by simp [List.lookup]
  obtain ⟨u, hu, ru⟩ := RelO.some_of (v := v) (o := mA "why") (by rw [← l]; exact hr "why")
  have J : PySem.W.InstAt s1.heap a oe C (some od) := ⟨ha, hz.1, by unfold PySem.W.notCls; rw [hd] <;> rfl, by rw [hz.2]; exact ho⟩
  exact HandSPX.exc_get I1.kIn J T.ga T.gg T.exC (PySem.W.findObj_own T.hdC T.noN rfl (by rw [hl, hu])) (handed_of ru) ⟨v, H1, I1.tok _, ru, q⟩
end
end OWhy
end L2
namespace PySem
namespace OPath
open PySem.W PySem.Calls PyProof.Rows PySem.HandSPX
/-! ### the text of __init__ -/
def iA (p1 p2 : Pos) : Arguments := { posonlyargs := [], args := [{ arg := "self", annotation := none, pos := p1 }, { arg := "path", annotation := none, pos := p2 }], vararg := none, kwonlyargs := [], kw_defaults := [], kwarg := none, defaults := [] }
def iB (q1 q2 q3 q4 : Pos) : List Stmt := [.Assign [.Attribute (.Name "self" q1) "path" q2] (.Name "path" q3) q4]
def iS : Scope := { kind := .function, names := [(PySem.Str.ofString "self", .local), (PySem.Str.ofString "path", .local)], isGenerator := false, isCoroutine := false, more := [] }
/-- what the written part says of Low, at C, and of its __init__, at fI -/
structure OTxt (K : Frag) (mg : Str → Option Value) (x : Str) (C fI : Addr) : Prop where
  gC : mg x = some (.ref C)
  cls : ∃ nm q N bs bm sn sub ab col dd k0 k1 k2 k3 k5, K.lookup C = some (excClassObj nm q C N bs bm true sn sub ab col dd k0 k1 k2 k3 k5 "ValueError.__new__") ∧ refsVE bm = true
  sa : findIn K (.ref C) "__setattr__" = some (some (.builtin "object.__setattr__"))
  ga : findIn K (.ref C) "__getattribute__" = some (some (.builtin "BaseException.__getattribute__"))
  gg : findIn K (.ref C) "__getattr__" = some none
  noN : findIn K (.ref C) "path" = some none
  iC : findIn K (.ref C) "__init__" = some (some (.ref fI))
  tC : typeIn K (.ref fI) = some (.type "function")
  kC : keepIn K (.ref C) = true
  exC : subIn K (.ref C) (.type "BaseException") = some true
  tyC : typeIn K (.ref C) = some (.type "type")
  hdC : hasDictIn K C = true
  te : exmOne K (.ref C) (.ref C) = some true
  fn : ∃ (qn : Str) (oc : Value) (od : Option Addr) (doc pm : Value) (an : Option Addr) (cdv ct : Value) (osl : Array (Option Value)) (p1 p2 q1 q2 q3 q4 : Pos),
    K.lookup fI = some ⟨oc, od, .func (fnOf "__init__" qn (iA p1 p2) (iB q1 q2 q3 q4) iS .none .none doc pm an cdv ct), osl⟩ ∧ codeIn K cdv qn = true
theorem one_size (v : Value) : [v].length ≤ sizeLine := by
  rw [sizeLine_eq]
  exact (by decide : 1 ≤ 16777216)
theorem kept_but {K : Frag} {h h' : Heap} {x : Addr} (X : K.In h) (hx : K.lookup x = none) (k : ∀ b o, b ≠ x → h.get? b = some o → h'.get? b = some o) : K.In h' := fun a o e =>
  k a o (fun z => by rw [z, hx] at e; cases e) (X a o e)
theorem ldC {M : Model} {s : Shared} {name : Str} {scope : Scope} {L a : Addr} {cd : Value} {m : Str → Option Value} {x : Str} {pos : Pos} {v : Value} {Q : Value → Shared → Prop} {A : Around} {E : Value → Shared → Prop} (hn : s.heap.Ns L m) (hv : m x = some v) (h : Q v s)
    (hk : scope.kind = .function := by rfl) (hl : (envOfC name scope L a cd).kindOf x = some .local := by rfl) (hd : (x == ("__debug__" : Str)) = false := by decide) :
    wpAny M A (eval (.Name x pos) (envOfC name scope L a cd)) Q E s := wpAny_Name (wpAny_loadName_local hk hl hn hv h) hd
/-- what __init__ leaves of a fresh exception at x -/
structure InitEnd (h h' : Heap) (x C dx t1 : Addr) (v : Value) : Prop where
  keep : ∀ b o, b ≠ x → h.get? b = some o → h'.get? b = some o
  obj : h'.get? x = some { cls := .ref C, dict := some dx, data := .fields #[.ref t1, .none, .none, .none, .bool false, .none] }
  dbig : h.objs.size ≤ dx
  dne : dx ≠ x
  ns : h'.Ns1 dx (fun y => if y = "path" then some v else none)
/-- a made Low -/
structure OwnMade (h h' : Heap) (e C d : Addr) (v : Value) : Prop where
  keep : ∀ b o, h.get? b = some o → h'.get? b = some o
  new : h.objs.size ≤ e
  obj : ∃ oe vs, h'.get? e = some oe ∧ oe.cls = .ref C ∧ oe.dict = some d ∧ oe.data = .fields vs ∧ vs[1]? = some .none
  dbig : h.objs.size ≤ d
  dne : d ≠ e
  ns : h'.Ns1 d (fun y => if y = "path" then some v else none)
section
variable {prog : Program} {w : World} {A : Around} {E : Value → Shared → Prop} {R : Result → Shared → Prop} {s : Shared} {K : Frag} {mg : Str → Option Value} {x0 : Str} {C fI : Addr}
theorem low_init (T : OTxt K mg x0 C fI) {x t0 : Addr} {v : Value} (X : K.In s.heap) (hlim : s.heap.NoLimit) (hx : s.heap.get? x = some (excO C t0)) (hnx : K.lookup x = none) (hroom : A.depth < recursionLimit)
    (hq : ∀ h' tk dx, InitEnd s.heap h' x C dx t0 v → R (.ok (.ret .none)) { s with heap := h', toks := tk }) :
    codeAny (model prog w) A (.call (.ref fI) ⟨[.ref x, v], []⟩) R s := by
  obtain ⟨qn, oc, od, doc, pm, an, cdv, ct, osl, p1, p2, q1, q2, q3, q4, ho, hcd⟩ := T.fn
  obtain ⟨nm, q, N, bs, bm, sn, sub, ab, col, dd, k0, k1, k2, k3, k5, hC, hbm⟩ := T.cls
  have hcl : clsIn K C = some { name := nm, bases := bs, mro := .ref C :: bm, ns := N, qualname := q, hasDict := true, slotNames := sn, subclasses := sub, abstract := ab, collection := col, hasDel := false } := by unfold clsIn; rw [hC] <;> rfl
  refine Att.call_fn (binds := [("self", .ref x), ("path", v)]) X hlim ho hcd hroom (BindsTo.of_eq (by first | rfl | with_unfolding_all rfl)) (by first | rfl | decide | with_unfolding_all rfl) (fun s₁ IC => ?_) rfl rfl rfl
  obtain ⟨h₁, tk₁, rfl⟩ := IC.toInCall.same
  have k : ∀ b o, s.heap.get? b = some o → h₁.get? b = some o := IC.toInCall.keep
  have hn := IC.toInCall.ns
  have hxL : s.heap.objs.size ≠ x := Nat.ne_of_gt (Heap.lt_size hx)
  have X₁ : K.In h₁ := X.keeps k
  have hx₁ := k _ _ hx
  -- self.by = by
  show wpAny _ _ (execs _ _) _ _ _
  refine wpAny_execs_cons (plainObj_wpAny_Assign_Attribute ?_)
  refine ldC (v := v) hn (by first | rfl | with_unfolding_all rfl | kernel_rfl) (ldC (v := .ref x) hn (by first | rfl | with_unfolding_all rfl | kernel_rfl) ?_)
  refine set_plain X₁ (ox := excO C t0) (od := none) ⟨hx₁, rfl, rfl, trivial⟩ T.sa ?_
  refine exc_osa X₁ hx₁ hcl (show refsVE (.ref C :: bm) = true from hbm) rfl T.noN (fun h₃ tk₃ dx k₃ dn dne hx₃ hn₃ => ?_)
  show wpAny _ _ (execs _ _) _ _ _
  have z : s.heap.objs.size < h₁.objs.size := hn.lt
  exact wpAny_execs_nil (hq h₃ tk₃ dx ⟨fun b o hb e => k₃ b o hb (k b o e), hx₃, Nat.le_of_lt (Nat.lt_of_lt_of_le z dn), dne, hn₃⟩)
theorem low_made (T : OTxt K mg x0 C fI) {v : Value} (X : K.In s.heap) (hlim : s.heap.NoLimit) (hroom : A.depth + 1 < recursionLimit)
    (hq : ∀ h' tk e d, OwnMade s.heap h' e C d v → R (.ok (.ret (.ref e))) { s with heap := h', toks := tk }) :
    codeAny (model prog w) A (.call (.ref C) ⟨[v], []⟩) R s := by
  obtain ⟨nm, q, N, bs, bm, sn, sub, ab, col, dd, k0, k1, k2, k3, k5, hC, hbm⟩ := T.cls
  obtain ⟨hp, g, dr, tk, os⟩ := s
  have k : ∀ b o, hp.get? b = some o → ((hp.push (kdv_tup [v])).push (excO C hp.objs.size)).get? b = some o := fun b o e => Heap.get?_push_of_some _ (Heap.get?_push_of_some _ e)
  have hget : ((hp.push (kdv_tup [v])).push (excO C hp.objs.size)).get? (hp.objs.size + 1) = some (excO C hp.objs.size) := by heap_get
  have hnx : K.lookup (hp.objs.size + 1) = none := by
    cases e : K.lookup (hp.objs.size + 1) with
    | none => rfl
    | some o =>
      have z : hp.get? (hp.objs.size + 1) = some o := X _ _ e
      exact absurd (Nat.lt_of_succ_lt (Heap.lt_size z)) (Nat.lt_irrefl _)
  refine call_own F.excBase_ValueError (fun X => refsVE_contains X bm hbm) (X _ _ hC) (looks_findIn X T.iC) (fun self => bind_fn X self T.tC) (one_size v) ?_
  refine low_init (s := ⟨(hp.push (kdv_tup [v])).push (excO C hp.objs.size), g, dr, tk, os⟩) T (X.keeps k) (hlim.keeps k) hget hnx ?_ fun h' tk' dx ⟨k', hx, dn, dne, hns⟩ => ?_
  · show A.depth + 1 < recursionLimit
    exact hroom
  · have old : ∀ b o, hp.get? b = some o → h'.get? b = some o := fun b o e => k' b o (Nat.ne_of_lt (Nat.lt_succ_of_lt (Heap.lt_size e))) (k b o e)
    have z : hp.objs.size + 1 + 1 ≤ dx := by
      first
        | (simpa only [Heap.size_push] using dn)
        | exact dn
        | (have q := dn; rw [Heap.size_push, Heap.size_push] at q; exact q)
    exact ⟨rfl, hq h' tk' (hp.objs.size + 1) dx ⟨old, Nat.le_succ _, ⟨_, _, hx, rfl, rfl, rfl, rfl⟩, Nat.le_trans (Nat.le_trans (Nat.le_succ _) (Nat.le_succ _)) z, dne, hns⟩⟩
end
end OPath
end PySem
namespace L2
namespace OPath
open PySem PySem.Spec PyProof.Rows
theorem relO_low {v : V} {v' : Value} (r : RelV v v') (f : Str) : RelO (List.lookup f [(("path" : Str), v)]) (if f = "path" then some v' else none) := by
  by_cases hw : f = "path"
  · subst hw
    rw [if_pos rfl]
    have q : List.lookup ("path" : Str) [(("path" : Str), v)] = some v := by simp [List.lookup]
    rw [q]
    exact r
  · rw [if_neg hw]
    have qw : (f == ("path" : Str)) = false := by simpa using hw
    have q2 : List.lookup f [(("path" : Str), v)] = none := by simp [List.lookup, qw]
    rw [q2]
    trivial
section
variable {X : Cx} {x0 : Str} {C fI : Addr}
/-- Low(e) -/
def tMkLow (C : Addr) (ta : TA) : St → Hp → XK → Prop := fun σ H Q => ta σ H fun vs H1 => ∃ v, vs = [v] ∧ ∀ d, H1 d = none → Q (.ref C) (some d) (upd H1 d (.xd [(("path" : Str), v)]))
theorem pmk_low {a : Expr} {ta : TA} {p pos : Pos} {k : Nat} (T : PySem.OPath.OTxt X.K X.mg x0 C fI) (hr : Room k X.A) (ha : PA X [a] ta) (hg : Gl X x0) (hdb : (x0 == ("__debug__" : Str)) = false)
    (he : starEach (a :: []) X.env = (false, eval a X.env) :: starEach [] X.env := by rfl) (hpl : (backTo pos (starEach [] X.env)).any (·.1) = false := by rfl) :
    PMk X (.Call (.Name x0 p) [a] [] pos) (tMkLow C ta) := by
  intro pins s σ H Q I h
  refine wpAny_Call_Name_kw (ld_glob I hg T.gC ?_ hdb)
  refine PySem.W.callWith_K (h₀ := X.base) I.ok.mod.kin T.kC (thn (ha.run pos pins s σ H _ I h) fun us s1 hh => ?_) he hpl
  obtain ⟨vs, H1, I1, r1, v, ev, q1⟩ := hh
  subst ev
  refine ⟨I1.kIn, ?_⟩
  cases r1 with
  | cons rv rn =>
    rename_i v' us'
    cases rn
    show wpAny _ _ (call (.ref C) [v']) _ _ _
    have hlim := I1.nolimit
    obtain ⟨hp, g, dr, tk, os⟩ := s1
    refine wpAny_call (PySem.OPath.low_made T I1.kIn hlim (by have := hr.dp; omega) fun h' tk' e d M => ?_)
    show MkP X pins σ Q (.ref e) ⟨h', g, dr, tk', os⟩
    obtain ⟨oe, fv, hoe, hc, hd, hdat, h1⟩ := M.obj
    have hns := M.ns
    obtain ⟨G', g1, g2⟩ := restrict h' fun b => decide (b ≠ e)
    have gk : ∀ b, b ≠ e → G'.get? b = h'.get? b := fun b hb => g1 b (decide_eq_true hb)
    have ge : G'.get? e = none := g2 e (by simp)
    have old : ∀ b o, hp.get? b = some o → G'.get? b = some o := fun b o q => (gk b (Nat.ne_of_lt (Nat.lt_of_lt_of_le (Heap.lt_size q) M.new))).trans (M.keep b o q)
    have ob : ObjOk X.prog X.w (upd H1 d (.xd [(("path" : Str), v)])) G' d (.xd [(("path" : Str), v)]) :=
      ⟨_, hns.at (fun o q => (gk d M.dne).trans q), fun f => relO_low rv f⟩
    have J : Inv X pins σ (upd H1 d (.xd [(("path" : Str), v)])) ⟨G', g, dr, tk', os⟩ := I1.laid (t' := tk') old M.dbig ob
    refine ⟨e, oe, fv, ⟨G', g, dr, tk', os⟩, _, .ref C, some d, rfl, J, fun b o q => ?_, ge, hoe, ⟨hc, hd⟩, hdat, h1, ?_, rfl, I1.bare, raises_own T.exC T.tyC, q1 d (I1.hok.fresh M.dbig)⟩
    · by_cases hb : b = e
      · have q' : G'.get? b = some o := q
        rw [hb, ge] at q'; cases q'
      · exact (gk b hb).symm.trans q
    · rw [upd_ne (Ne.symm M.dne)]
      exact I1.hok.fresh M.new
/-- raise Low(e) -/
def tRaiseLow (C : Addr) (W : WX) (ta : TA) : TS := fun _ σ H => tMkLow C ta σ H fun cls d H' => W cls d σ H'
theorem ps_raiseLow {a : Expr} {ta : TA} {W : WX} {p pos pos2 : Pos} {k : Nat} (hc : X.calm = true) (T : PySem.OPath.OTxt X.K X.mg x0 C fI) (hr : Room k X.A) (tk : Takes X W) (ha : PA X [a] ta) (hg : Gl X x0) (hdb : (x0 == ("__debug__" : Str)) = false)
    (he : starEach (a :: []) X.env = (false, eval a X.env) :: starEach [] X.env := by rfl) (hpl : (backTo pos (starEach [] X.env)).any (·.1) = false := by rfl) :
    PS X (.Raise (some (.Call (.Name x0 p) [a] [] pos)) none pos2) (tRaiseLow C W ta) := ps_raise hc tk (pmk_low T hr ha hg hdb he hpl)
/-- low.by, low the exception that the suite holds (at a; its class cls, its dict d) -/
def tByLow (C : Addr) (a : Addr) (cls : Value) (d : Option Addr) (te : TE) : TE := fun σ H Q => te σ H fun x H1 => x = .ref a ∧ cls = .ref C ∧ ∃ (dd : Addr) (v : V), d = some dd ∧ H1 dd = some (.xd [(("path" : Str), v)]) ∧ Q v H1
theorem pe_byLow {a : Addr} {oe : Obj} {cls : Value} {d : Option Addr} {pn : List (Addr × Obj)} {e : Expr} {te : TE} {pos : Pos} (T : PySem.OPath.OTxt X.K X.mg x0 C fI) (hz : Zc cls d oe) (hf : ∃ vs, oe.data = .fields vs) (he : PE (X.suite a ((a, oe) :: pn)) e te)
    (hb : attributeBase e "path" X.env (eval e X.env) = eval e X.env := by rfl) :
    PE (X.suite a ((a, oe) :: pn)) (.Attribute e "path" pos) (tByLow C a cls d te) := by
  refine ⟨fun pins s σ H Q I h => ?_⟩
  refine attr_of hb (thn (he.run pins s σ H _ I h) fun u s1 hh => ?_)
  obtain ⟨x, H1, I1, rx, ex, ec, dd, v, ed, ea, q⟩ := hh
  subst ex
  obtain rfl : u = Value.ref a := rx
  subst ec
  subst ed
  obtain ⟨ha, _⟩ := I1.pin (a, oe) (List.mem_append_left _ List.mem_cons_self)
  obtain ⟨vs, hd⟩ := hf
  have hx : ObjOk X.prog X.w H1 s1.heap dd (.xd [(("path" : Str), v)]) := I1.hok dd _ ea
  obtain ⟨mA, hns, hr⟩ := hx
  obtain ⟨od, ho, hl⟩ := lookIn_ns hns
  have l : List.lookup ("path" : Str) [(("path" : Str), v)] = some v := by simp [List.lookup]
  obtain ⟨u, hu, ru⟩ := RelO.some_of (v := v) (o := mA "path") (by rw [← l]; exact hr "path")
  have J : PySem.W.InstAt s1.heap a oe C (some od) := ⟨ha, hz.1, by unfold PySem.W.notCls; rw [hd] <;> rfl, by rw [hz.2]; exact ho⟩
  exact HandSPX.exc_get I1.kIn J T.ga T.gg T.exC (PySem.W.findObj_own T.hdC T.noN rfl (by rw [hl, hu])) (handed_of ru) ⟨v, H1, I1.tok _, ru, q⟩
end
end OPath
end L2
namespace PySem
namespace OPart
open PySem.W PySem.Calls PyProof.Rows PySem.HandSPX
/-! ### the text of __init__ -/
def iA (p1 p2 : Pos) : Arguments := { posonlyargs := [], args := [{ arg := "self", annotation := none, pos := p1 }, { arg := "part", annotation := none, pos := p2 }], vararg := none, kwonlyargs := [], kw_defaults := [], kwarg := none, defaults := [] }
def iB (q1 q2 q3 q4 : Pos) : List Stmt := [.Assign [.Attribute (.Name "self" q1) "part" q2] (.Name "part" q3) q4]
def iS : Scope := { kind := .function, names := [(PySem.Str.ofString "self", .local), (PySem.Str.ofString "part", .local)], isGenerator := false, isCoroutine := false, more := [] }
/-- what the written part says of Low, at C, and of its __init__, at fI -/
structure OTxt (K : Frag) (mg : Str → Option Value) (x : Str) (C fI : Addr) : Prop where
  gC : mg x = some (.ref C)
  cls : ∃ nm q N bs bm sn sub ab col dd k0 k1 k2 k3 k5, K.lookup C = some (excClassObj nm q C N bs bm true sn sub ab col dd k0 k1 k2 k3 k5 "ValueError.__new__") ∧ refsVE bm = true
  sa : findIn K (.ref C) "__setattr__" = some (some (.builtin "object.__setattr__"))
  ga : findIn K (.ref C) "__getattribute__" = some (some (.builtin "BaseException.__getattribute__"))
  gg : findIn K (.ref C) "__getattr__" = some none
  noN : findIn K (.ref C) "part" = some none
  iC : findIn K (.ref C) "__init__" = some (some (.ref fI))
  tC : typeIn K (.ref fI) = some (.type "function")
  kC : keepIn K (.ref C) = true
  exC : subIn K (.ref C) (.type "BaseException") = some true
  tyC : typeIn K (.ref C) = some (.type "type")
  hdC : hasDictIn K C = true
  te : exmOne K (.ref C) (.ref C) = some true
  fn : ∃ (qn : Str) (oc : Value) (od : Option Addr) (doc pm : Value) (an : Option Addr) (cdv ct : Value) (osl : Array (Option Value)) (p1 p2 q1 q2 q3 q4 : Pos),
    K.lookup fI = some ⟨oc, od, .func (fnOf "__init__" qn (iA p1 p2) (iB q1 q2 q3 q4) iS .none .none doc pm an cdv ct), osl⟩ ∧ codeIn K cdv qn = true
theorem one_size (v : Value) : [v].length ≤ sizeLine := by
  rw [sizeLine_eq]
  exact (by decide : 1 ≤ 16777216)
theorem kept_but {K : Frag} {h h' : Heap} {x : Addr} (X : K.In h) (hx : K.lookup x = none) (k : ∀ b o, b ≠ x → h.get? b = some o → h'.get? b = some o) : K.In h' := fun a o e =>
  k a o (fun z => by rw [z, hx] at e; cases e) (X a o e)
theorem ldC {M : Model} {s : Shared} {name : Str} {scope : Scope} {L a : Addr} {cd : Value} {m : Str → Option Value} {x : Str} {pos : Pos} {v : Value} {Q : Value → Shared → Prop} {A : Around} {E : Value → Shared → Prop} (hn : s.heap.Ns L m) (hv : m x = some v) (h : Q v s)
    (hk : scope.kind = .function := by rfl) (hl : (envOfC name scope L a cd).kindOf x = some .local := by rfl) (hd : (x == ("__debug__" : Str)) = false := by decide) :
    wpAny M A (eval (.Name x pos) (envOfC name scope L a cd)) Q E s := wpAny_Name (wpAny_loadName_local hk hl hn hv h) hd
/-- what __init__ leaves of a fresh exception at x -/
structure InitEnd (h h' : Heap) (x C dx t1 : Addr) (v : Value) : Prop where
  keep : ∀ b o, b ≠ x → h.get? b = some o → h'.get? b = some o
  obj : h'.get? x = some { cls := .ref C, dict := some dx, data := .fields #[.ref t1, .none, .none, .none, .bool false, .none] }
  dbig : h.objs.size ≤ dx
  dne : dx ≠ x
  ns : h'.Ns1 dx (fun y => if y = "part" then some v else none)
/-- a made Low -/
structure OwnMade (h h' : Heap) (e C d : Addr) (v : Value) : Prop where
  keep : ∀ b o, h.get? b = some o → h'.get? b = some o
  new : h.objs.size ≤ e
  obj : ∃ oe vs, h'.get? e = some oe ∧ oe.cls = .ref C ∧ oe.dict = some d ∧ oe.data = .fields vs ∧ vs[1]? = some .none
  dbig : h.objs.size ≤ d
  dne : d ≠ e
  ns : h'.Ns1 d (fun y => if y = "part" then some v else none)
section
variable {prog : Program} {w : World} {A : Around} {E : Value → Shared → Prop} {R : Result → Shared → Prop} {s : Shared} {K : Frag} {mg : Str → Option Value} {x0 : Str} {C fI : Addr}
theorem low_init (T : OTxt K mg x0 C fI) {x t0 : Addr} {v : Value} (X : K.In s.heap) (hlim : s.heap.NoLimit) (hx : s.heap.get? x = some (excO C t0)) (hnx : K.lookup x = none) (hroom : A.depth < recursionLimit)
    (hq : ∀ h' tk dx, InitEnd s.heap h' x C dx t0 v → R (.ok (.ret .none)) { s with heap := h', toks := tk }) :
    codeAny (model prog w) A (.call (.ref fI) ⟨[.ref x, v], []⟩) R s := by
  obtain ⟨qn, oc, od, doc, pm, an, cdv, ct, osl, p1, p2, q1, q2, q3, q4, ho, hcd⟩ := T.fn
  obtain ⟨nm, q, N, bs, bm, sn, sub, ab, col, dd, k0, k1, k2, k3, k5, hC, hbm⟩ := T.cls
  have hcl : clsIn K C = some { name := nm, bases := bs, mro := .ref C :: bm, ns := N, qualname := q, hasDict := true, slotNames := sn, subclasses := sub, abstract := ab, collection := col, hasDel := false } := by unfold clsIn; rw [hC] <;> rfl
  refine Att.call_fn (binds := [("self", .ref x), ("part", v)]) X hlim ho hcd hroom (BindsTo.of_eq (by first | rfl | with_unfolding_all rfl)) (by first | rfl | decide | with_unfolding_all rfl) (fun s₁ IC => ?_) rfl rfl rfl
  obtain ⟨h₁, tk₁, rfl⟩ := IC.toInCall.same
  have k : ∀ b o, s.heap.get? b = some o → h₁.get? b = some o := IC.toInCall.keep
  have hn := IC.toInCall.ns
  have hxL : s.heap.objs.size ≠ x := Nat.ne_of_gt (Heap.lt_size hx)
  have X₁ : K.In h₁ := X.keeps k
  have hx₁ := k _ _ hx
  -- self.by = by
  show wpAny _ _ (execs _ _) _ _ _
  refine wpAny_execs_cons (plainObj_wpAny_Assign_Attribute ?_)
  refine ldC (v := v) hn (by first | rfl | with_unfolding_all rfl | kernel_rfl) (ldC (v := .ref x) hn (by first | rfl | with_unfolding_all rfl | kernel_rfl) ?_)
  refine set_plain X₁ (ox := excO C t0) (od := none) ⟨hx₁, rfl, rfl, trivial⟩ T.sa ?_
  refine exc_osa X₁ hx₁ hcl (show refsVE (.ref C :: bm) = true from hbm) rfl T.noN (fun h₃ tk₃ dx k₃ dn dne hx₃ hn₃ => ?_)
  show wpAny _ _ (execs _ _) _ _ _
  have z : s.heap.objs.size < h₁.objs.size := hn.lt
  exact wpAny_execs_nil (hq h₃ tk₃ dx ⟨fun b o hb e => k₃ b o hb (k b o e), hx₃, Nat.le_of_lt (Nat.lt_of_lt_of_le z dn), dne, hn₃⟩)
theorem low_made (T : OTxt K mg x0 C fI) {v : Value} (X : K.In s.heap) (hlim : s.heap.NoLimit) (hroom : A.depth + 1 < recursionLimit)
    (hq : ∀ h' tk e d, OwnMade s.heap h' e C d v → R (.ok (.ret (.ref e))) { s with heap := h', toks := tk }) :
    codeAny (model prog w) A (.call (.ref C) ⟨[v], []⟩) R s := by
  obtain ⟨nm, q, N, bs, bm, sn, sub, ab, col, dd, k0, k1, k2, k3, k5, hC, hbm⟩ := T.cls
  obtain ⟨hp, g, dr, tk, os⟩ := s
  have k : ∀ b o, hp.get? b = some o → ((hp.push (kdv_tup [v])).push (excO C hp.objs.size)).get? b = some o := fun b o e => Heap.get?_push_of_some _ (Heap.get?_push_of_some _ e)
  have hget : ((hp.push (kdv_tup [v])).push (excO C hp.objs.size)).get? (hp.objs.size + 1) = some (excO C hp.objs.size) := by heap_get
  have hnx : K.lookup (hp.objs.size + 1) = none := by
    cases e : K.lookup (hp.objs.size + 1) with
    | none => rfl
    | some o =>
      have z : hp.get? (hp.objs.size + 1) = some o := X _ _ e
      exact absurd (Nat.lt_of_succ_lt (Heap.lt_size z)) (Nat.lt_irrefl _)
  refine call_own F.excBase_ValueError (fun X => refsVE_contains X bm hbm) (X _ _ hC) (looks_findIn X T.iC) (fun self => bind_fn X self T.tC) (one_size v) ?_
  refine low_init (s := ⟨(hp.push (kdv_tup [v])).push (excO C hp.objs.size), g, dr, tk, os⟩) T (X.keeps k) (hlim.keeps k) hget hnx ?_ fun h' tk' dx ⟨k', hx, dn, dne, hns⟩ => ?_
  · show A.depth + 1 < recursionLimit
    exact hroom
  · have old : ∀ b o, hp.get? b = some o → h'.get? b = some o := fun b o e => k' b o (Nat.ne_of_lt (Nat.lt_succ_of_lt (Heap.lt_size e))) (k b o e)
    have z : hp.objs.size + 1 + 1 ≤ dx := by
      first
        | (simpa only [Heap.size_push] using dn)
        | exact dn
        | (have q := dn; rw [Heap.size_push, Heap.size_push] at q; exact q)
    exact ⟨rfl, hq h' tk' (hp.objs.size + 1) dx ⟨old, Nat.le_succ _, ⟨_, _, hx, rfl, rfl, rfl, rfl⟩, Nat.le_trans (Nat.le_trans (Nat.le_succ _) (Nat.le_succ _)) z, dne, hns⟩⟩
end
end OPart
end PySem
namespace L2
namespace OPart
open PySem PySem.Spec PyProof.Rows
theorem relO_low {v : V} {v' : Value} (r : RelV v v') (f : Str) : RelO (List.lookup f [(("part" : Str), v)]) (if f = "part" then some v' else none) := by
  by_cases hw : f = "part"
  · subst hw
    rw [if_pos rfl]
    have q : List.lookup ("part" : Str) [(("part" : Str), v)] = some v := by simp [List.lookup]
    rw [q]
    exact r
  · rw [if_neg hw]
    have qw : (f == ("part" : Str)) = false := by simpa using hw
    have q2 : List.lookup f [(("part" : Str), v)] = none := by simp [List.lookup, qw]
    rw [q2]
    trivial
section
variable {X : Cx} {x0 : Str} {C fI : Addr}
/-- Low(e) -/
def tMkLow (C : Addr) (ta : TA) : St → Hp → XK → Prop := fun σ H Q => ta σ H fun vs H1 => ∃ v, vs = [v] ∧ ∀ d, H1 d = none → Q (.ref C) (some d) (upd H1 d (.xd [(("part" : Str), v)]))
theorem pmk_low {a : Expr} {ta : TA} {p pos : Pos} {k : Nat} (T : PySem.OPart.OTxt X.K X.mg x0 C fI) (hr : Room k X.A) (ha : PA X [a] ta) (hg : Gl X x0) (hdb : (x0 == ("__debug__" : Str)) = false)
    (he : starEach (a :: []) X.env = (false, eval a X.env) :: starEach [] X.env := by rfl) (hpl : (backTo pos (starEach [] X.env)).any (·.1) = false := by rfl) :
    PMk X (.Call (.Name x0 p) [a] [] pos) (tMkLow C ta) := by
  intro pins s σ H Q I h
  refine wpAny_Call_Name_kw (ld_glob I hg T.gC ?_ hdb)
  refine PySem.W.callWith_K (h₀ := X.base) I.ok.mod.kin T.kC (thn (ha.run pos pins s σ H _ I h) fun us s1 hh => ?_) he hpl
  obtain ⟨vs, H1, I1, r1, v, ev, q1⟩ := hh
  subst ev
  refine ⟨I1.kIn, ?_⟩
  cases r1 with
  | cons rv rn =>
    rename_i v' us'
    cases rn
    show wpAny _ _ (call (.ref C) [v']) _ _ _
    have hlim := I1.nolimit
    obtain ⟨hp, g, dr, tk, os⟩ := s1
    refine wpAny_call (PySem.OPart.low_made T I1.kIn hlim (by have := hr.dp; omega) fun h' tk' e d M => ?_)
    show MkP X pins σ Q (.ref e) ⟨h', g, dr, tk', os⟩
    obtain ⟨oe, fv, hoe, hc, hd, hdat, h1⟩ := M.obj
    have hns := M.ns
    obtain ⟨G', g1, g2⟩ := restrict h' fun b => decide (b ≠ e)
    have gk : ∀ b, b ≠ e → G'.get? b = h'.get? b := fun b hb => g1 b (decide_eq_true hb)
    have ge : G'.get? e = none := g2 e (by simp)
    have old : ∀ b o, hp.get? b = some o → G'.get? b = some o := fun b o q => (gk b (Nat.ne_of_lt (Nat.lt_of_lt_of_le (Heap.lt_size q) M.new))).trans (M.keep b o q)
    have ob : ObjOk X.prog X.w (upd H1 d (.xd [(("part" : Str), v)])) G' d (.xd [(("part" : Str), v)]) :=
      ⟨_, hns.at (fun o q => (gk d M.dne).trans q), fun f => relO_low rv f⟩
    have J : Inv X pins σ (upd H1 d (.xd [(("part" : Str), v)])) ⟨G', g, dr, tk', os⟩ := I1.laid (t' := tk') old M.dbig ob
    refine ⟨e, oe, fv, ⟨G', g, dr, tk', os⟩, _, .ref C, some d, rfl, J, fun b o q => ?_, ge, hoe, ⟨hc, hd⟩, hdat, h1, ?_, rfl, I1.bare, raises_own T.exC T.tyC, q1 d (I1.hok.fresh M.dbig)⟩
    · by_cases hb : b = e
      · have q' : G'.get? b = some o := q
        rw [hb, ge] at q'; cases q'
      · exact (gk b hb).symm.trans q
    · rw [upd_ne (Ne.symm M.dne)]
      exact I1.hok.fresh M.new
/-- raise Low(e) -/
def tRaiseLow (C : Addr) (W : WX) (ta : TA) : TS := fun _ σ H => tMkLow C ta σ H fun cls d H' => W cls d σ H'
theorem ps_raiseLow {a : Expr} {ta : TA} {W : WX} {p pos pos2 : Pos} {k : Nat} (hc : X.calm = true) (T : PySem.OPart.OTxt X.K X.mg x0 C fI) (hr : Room k X.A) (tk : Takes X W) (ha : PA X [a] ta) (hg : Gl X x0) (hdb : (x0 == ("__debug__" : Str)) = false)
    (he : starEach (a :: []) X.env = (false, eval a X.env) :: starEach [] X.env := by rfl) (hpl : (backTo pos (starEach [] X.env)).any (·.1) = false := by rfl) :
    PS X (.Raise (some (.Call (.Name x0 p) [a] [] pos)) none pos2) (tRaiseLow C W ta) := ps_raise hc tk (pmk_low T hr ha hg hdb he hpl)
/-- low.by, low the exception that the suite holds (at a; its class cls, its dict d) -/
def tByLow (C : Addr) (a : Addr) (cls : Value) (d : Option Addr) (te : TE) : TE := fun σ H Q => te σ H fun x H1 => x = .ref a ∧ cls = .ref C ∧ ∃ (dd : Addr) (v : V), d = some dd ∧ H1 dd = some (.xd [(("part" : Str), v)]) ∧ Q v H1
theorem pe_byLow {a : Addr} {oe : Obj} {cls : Value} {d : Option Addr} {pn : List (Addr × Obj)} {e : Expr} {te : TE} {pos : Pos} (T : PySem.OPart.OTxt X.K X.mg x0 C fI) (hz : Zc cls d oe) (hf : ∃ vs, oe.data = .fields vs) (he : PE (X.suite a ((a, oe) :: pn)) e te)
    (hb : attributeBase e "part" X.env (eval e X.env) = eval e X.env := by rfl) :
    PE (X.suite a ((a, oe) :: pn)) (.Attribute e "part" pos) (tByLow C a cls d te) := by
  refine ⟨fun pins s σ H Q I h => ?_⟩
  refine attr_of hb (thn (he.run pins s σ H _ I h) fun u s1 hh => ?_)
  obtain ⟨x, H1, I1, rx, ex, ec, dd, v, ed, ea, q⟩ := hh
  subst ex
  obtain rfl : u = Value.ref a := rx
  subst ec
  subst ed
  obtain ⟨ha, _⟩ := I1.pin (a, oe) (List.mem_append_left _ List.mem_cons_self)
  obtain ⟨vs, hd⟩ := hf
  have hx : ObjOk X.prog X.w H1 s1.heap dd (.xd [(("part" : Str), v)]) := I1.hok dd _ ea
  obtain ⟨mA, hns, hr⟩ := hx
  obtain ⟨od, ho, hl⟩ := lookIn_ns hns
  have l : List.lookup ("part" : Str) [(("part" : Str), v)] = some v := by simp [List.lookup]
  obtain ⟨u, hu, ru⟩ := RelO.some_of (v := v) (o := mA "part") (by rw [← l]; exact hr "part")
  have J : PySem.W.InstAt s1.heap a oe C (some od) := ⟨ha, hz.1, by unfold PySem.W.notCls; rw [hd] <;> rfl, by rw [hz.2]; exact ho⟩
  exact HandSPX.exc_get I1.kIn J T.ga T.gg T.exC (PySem.W.findObj_own T.hdC T.noN rfl (by rw [hl, hu])) (handed_of ru) ⟨v, H1, I1.tok _, ru, q⟩
end
end OPart
end L2

set_option Elab.async false
set_option linter.all false
set_option maxRecDepth 100000
set_option maxHeartbeats 4000000
namespace Dd
open PySem PySem.Spec PyProof.Rows L2

/-! # 13. Where a text stands -/
/-- what is raised with one argument, kept in one field -/
def tMkX (C : Addr) (f : Str) (ta : TA) : L2.St → Hp → XK → Prop := fun σ H Q => ta σ H fun vs H1 => ∃ v, vs = [v] ∧ ∀ d, H1 d = none → Q (.ref C) (some d) (upd H1 d (.xd [(f, v)]))
structure ExcT (K : PySem.W.Frag) (mg : Str → Option Value) (x f : Str) (C : Addr) : Prop where
  gC : mg x = some (.ref C)
  mkx : ∀ (X : Cx), X.K = K → X.mg = mg → ∀ (a : Expr) (ta : TA) (p pos : Pos) (k : Nat), Room k X.A → PA X [a] ta → Gl X x → (x == ("__debug__" : Str)) = false → noStar a = true → PMk X (.Call (.Name x p) [a] [] pos) (tMkX C f ta)
  rd : ∀ (X : Cx), X.K = K → X.mg = mg → ∀ (a : Addr) (oe : Obj) (cls : Value) (d : Option Addr) (pn : List (Addr × Obj)) (e : Expr) (te : TE) (pos : Pos), Zc cls d oe → (∃ vs, oe.data = .fields vs) → PE (X.suite a ((a, oe) :: pn)) e te →
    attributeBase e f X.env (eval e X.env) = eval e X.env →
    PE (X.suite a ((a, oe) :: pn)) (.Attribute e f pos) (fun σ H Q => te σ H fun y H1 => y = .ref a ∧ cls = .ref C ∧ ∃ (dd : Addr) (v : V), d = some dd ∧ H1 dd = some (.xd [(f, v)]) ∧ Q v H1)
  te : PySem.W.exmOne K (.ref C) (.ref C) = some true
theorem star1 {a : Expr} {env : Env} (h : noStar a = true) (es : List Expr) : starEach (a :: es) env = (false, eval a env) :: starEach es env := by
  cases a <;> first | rfl | cases h
theorem star_any {env : Env} {pos : Pos} : ∀ {es : List Expr}, es.all noStar = true → (backTo pos (starEach es env)).any (·.1) = false
  | [], _ => rfl
  | e :: es, h => by
    rw [List.all_cons, Bool.and_eq_true] at h
    rw [star1 h.1]
    show (false || (backTo pos (starEach es env)).any (·.1)) = false
    rw [star_any h.2]
    rfl
theorem ExcT.of_why {K : PySem.W.Frag} {mg : Str → Option Value} {x : Str} {C fI : Addr} (T : PySem.OWhy.OTxt K mg x C fI) : ExcT K mg x "why" C where
  gC := T.gC
  mkx := by
    intro X eK eM a ta p pos k hr ha hg hd hs
    subst eK eM
    exact L2.OWhy.pmk_low T hr ha hg hd (star1 hs []) rfl
  rd := by
    intro X eK eM a oe cls d pn e te pos hz hf he hb
    subst eK eM
    exact L2.OWhy.pe_byLow T hz hf he hb
  te := T.te
theorem ExcT.of_path {K : PySem.W.Frag} {mg : Str → Option Value} {x : Str} {C fI : Addr} (T : PySem.OPath.OTxt K mg x C fI) : ExcT K mg x "path" C where
  gC := T.gC
  mkx := by
    intro X eK eM a ta p pos k hr ha hg hd hs
    subst eK eM
    exact L2.OPath.pmk_low T hr ha hg hd (star1 hs []) rfl
  rd := by
    intro X eK eM a oe cls d pn e te pos hz hf he hb
    subst eK eM
    exact L2.OPath.pe_byLow T hz hf he hb
  te := T.te
theorem ExcT.of_part {K : PySem.W.Frag} {mg : Str → Option Value} {x : Str} {C fI : Addr} (T : PySem.OPart.OTxt K mg x C fI) : ExcT K mg x "part" C where
  gC := T.gC
  mkx := by
    intro X eK eM a ta p pos k hr ha hg hd hs
    subst eK eM
    exact L2.OPart.pmk_low T hr ha hg hd (star1 hs []) rfl
  rd := by
    intro X eK eM a oe cls d pn e te pos hz hf he hb
    subst eK eM
    exact L2.OPart.pe_byLow T hz hf he hb
  te := T.te
def spF (G : Pc) (F : Call) (i : Nat) : Sp := fun vs H Q E =>
  ∃ m h ds r h', G.H m h H ∧ G.Rs m H ds vs ∧ F i ds h = some (r, h') ∧ ∀ m' H', Ext m H m' H' → G.H m' h' H' → match r with
    | .ok d => ∀ v, G.R m' H' d v → Q v H'
    | .ex c p => ∀ cv d, ExcAt G m' H' c p cv d → E cv d H'
structure Fit (X : Cx) (C : CE) (G : Pc) (F : Call) : Prop where
  N : X.N = C.N
  nd : C.N.Nodup
  sc : X.env.scope = C.sc
  calm : X.calm = C.calm
  fn : ∀ x, (C.own || decide (C.blk.lookup x = some .cell)) = true → X.fn x = true
  K : X.K = G.K
  w : X.w = G.w
  tk : Takes X G.W
  pass : PassesOwn (model X.prog X.w) X.A X.env X.xe
  un : X.A.units + 100 < cLine
  gd : X.A.guards = some []
  blt : ∀ x ∈ bltNms, X.mg x = none
  con : ∀ x d, C.con.lookup x = some d → ∃ u v, X.mg x = some u ∧ RelV v u ∧ ∀ m H, G.R m H d v
  fns : C.calm = true → ∀ x i ar, fnIx x C.fns 0 = some (i, ar) → ∃ f n, X.mg x = some (.ref f) ∧ PySem.W.keepIn X.K (.ref f) = true ∧ Room n X.A ∧ FnG X.prog X.w X.K X.mg X.base n f (spF G F i)
  own : C.own = true → X.stack = X.env :: X.outer ∧ X.env.frame = some X.env.locals
  exc : ∀ x c, exIx x C.exc 0 = some c → ExcT X.K X.mg x (G.fld c) (G.cls c)
  excF : ∀ c x f, C.exc[c]? = some (x, f) → f = G.fld c
  room : C.calm = true → ∃ k, Room k X.A
  hkc : C.calm = true → C.hk = none
  hk0 : C.hk = none → G.hk = none
  hk1 : ∀ i c, C.hk = some (i, c) → ∃ a dd, G.hk = some (i, a, dd, G.fld c) ∧ ∀ (e : Expr) (j : Nat) (pos : Pos), PE X e (tVar j) → attributeBase e (G.fld c) X.env (eval e X.env) = eval e X.env →
    PE X (.Attribute e (G.fld c) pos) (fun σ H Q => tVar j σ H fun y H1 => y = .ref a ∧ ∃ v, H1 dd = some (.xd [(G.fld c, v)]) ∧ Q v H1)
theorem ixOf_get {x : Str} : ∀ {l : List Str} {i : Nat}, ixOf x l = some i → l[i]? = some x
  | [], i, h => by cases h
  | y :: r, i, h => by
    unfold ixOf at h
    split at h
    · rename_i e
      cases h
      rw [e]; rfl
    · obtain ⟨j, e1, e2⟩ := map_some h
      subst e2
      simpa using ixOf_get e1
theorem plain_ne {x : Str} (h : plainNm x = true) : (x == ("__debug__" : Str)) = false ∧ (x == ("__classdict__" : Str)) = false ∧ x ≠ "__name__" := by
  unfold plainNm at h
  simp only [Bool.and_eq_true, Bool.not_eq_true'] at h
  exact ⟨h.1.1, h.1.2, fun e => by rw [e] at h; simp at h⟩
section
variable {X : Cx} {C : CE} {G : Pc} {F : Call} (f : Fit X C G F)
include f
theorem Fit.vis {x : Str} {i : Nat} (h : visIx C x = some i) : X.N[i]? = some x ∧ Vis X.env.scope x ∧ plainNm x = true := by
  unfold visIx at h
  split at h
  · rename_i hp
    rw [f.N, f.sc]
    split at h
    · rename_i e; exact ⟨ixOf_get h, .inl e, hp⟩
    · rename_i e; exact ⟨ixOf_get h, .inr (.inl e), hp⟩
    · rename_i e; exact ⟨ixOf_get h, .inr (.inr e), hp⟩
    · cases h
  · cases h
theorem Fit.glb {x : Str} (h : glb C x = true) : Gl X x ∧ plainNm x = true := by
  unfold Dd.glb at h
  rw [Bool.and_eq_true] at h
  exact ⟨by show X.env.scope.names.lookup x = _; rw [f.sc]; exact of_decide_eq_true h.2, h.1⟩
theorem Fit.noHk {i : Nat} (h : isHk C i = false) : notHk G i := by
  intro q hq e
  unfold isHk at h
  cases hc : C.hk with
  | none => rw [f.hk0 hc] at hq; cases hq
  | some p =>
    obtain ⟨j, c⟩ := p
    obtain ⟨a, dd, e1, _⟩ := f.hk1 j c hc
    rw [e1] at hq
    cases hq
    rw [hc] at h
    exact absurd e (of_decide_eq_false h)
theorem Fit.loc {x : Str} {i : Nat} (h : locIx C x = some i) : X.N[i]? = some x ∧ Loc X.env.scope x ∧ (X.fn x = true ∨ X.env.scope.names.lookup x = some .local) := by
  unfold locIx at h
  rw [f.N, f.sc]
  split at h
  · rename_i e; exact ⟨ixOf_get h, .inl e, .inr e⟩
  · rename_i e
    split at h
    · rename_i hb; exact ⟨ixOf_get h, .inr e, .inl (f.fn x hb)⟩
    · cases h
  · cases h
end

/-! # 14. Expressions -/
def OkE (S : Sm) (F : Call) : Prop := ∀ (X : Cx) (C : CE) (G : Pc), Fit X C G F → ∀ e, PE X e (tG G G.R (S.E C e))
def OkT (S : Sm) (F : Call) : Prop := ∀ (X : Cx) (C : CE) (G : Pc), Fit X C G F → ∀ e, PT X e (tG G relB (S.T C e))
def OkW (S : Sm) (F : Call) : Prop := ∀ (X : Cx) (C : CE) (G : Pc), Fit X C G F → ∀ op es p, PW X (.BoolOp op es p) (tG G relB (S.T C (.BoolOp op es p)))
def relQ {α : Type} : List Addr → Hp → α → α → Prop := fun _ _ a b => a = b
def OkO (S : Sm) (F : Call) : Prop := ∀ (X : Cx) (C : CE) (G : Pc), Fit X C G F → ∀ o, PO X o (tG G relQ (S.O C o))
section
variable {G : Pc} {σ : L2.St} {H : Hp}
theorem args_tG {α : Type} {rel : List Addr → Hp → α → V → Prop} : True := trivial
/-- a list of values -/
theorem tG_bndL {α β : Type} {rel : List Addr → Hp → α → β → Prop} {Q : β → Hp → Prop} {M : M (List D)} {k : List D → Dd.M α} (hyp : tG G rel (bnd M k) σ H Q) : tG G G.Rs M σ H (fun xs H1 => tA G xs rel k σ H1 Q) := by
  obtain ⟨m, e, h, r, h', a1, a2, a3, a4⟩ := hyp
  dsimp only [bnd] at a3
  cases hm : M e h with
  | none => rw [hm] at a3; cases a3
  | some q =>
    obtain ⟨r1, h1⟩ := q
    rw [hm] at a3
    refine ⟨m, e, h, r1, h1, a1, a2, hm, fun m1 H1 x1 y1 => ?_⟩
    cases r1 with
    | ex c p =>
      cases a3
      exact a4 m1 H1 x1 y1
    | ok a => exact fun b hb => ⟨m1, e, h1, a, r, h', y1, a2.ext x1, hb, a3, fun m2 H2 x2 y2 => a4 m2 H2 (x1.trans x2) y2⟩
theorem tA1_bndL {α β : Type} {rel : List Addr → Hp → α → β → Prop} {Q : β → Hp → Prop} {x : V} {M : M (List D)} {k : D → List D → Dd.M α} (hyp : tA1 G x rel (fun a => bnd M (k a)) σ H Q) :
    tG G G.Rs M σ H (fun xs H1 => ∃ m e h a ds r h', G.H m h H1 ∧ EnvR G m H1 e σ ∧ G.R m H1 a x ∧ G.Rs m H1 ds xs ∧ k a ds e h = some (r, h') ∧ ∀ m' H', Ext m H1 m' H' → G.H m' h' H' → Post G rel σ r m' H' Q) := by
  obtain ⟨m, e, h, a, r, h', a1, a2, ra, a3, a4⟩ := hyp
  dsimp only [bnd] at a3
  cases hm : M e h with
  | none => rw [hm] at a3; cases a3
  | some q =>
    obtain ⟨r1, h1⟩ := q
    rw [hm] at a3
    refine ⟨m, e, h, r1, h1, a1, a2, hm, fun m1 H1 x1 y1 => ?_⟩
    cases r1 with
    | ex c p =>
      cases a3
      exact a4 m1 H1 x1 y1
    | ok b => exact fun y hb => ⟨m1, e, h1, a, b, r, h', y1, a2.ext x1, ra.ext x1, hb, a3, fun m2 H2 x2 y2 => a4 m2 H2 (x1.trans x2) y2⟩
theorem pa_all {X : Cx} {g : Expr → M D} (hE : ∀ e, PE X e (tG G G.R (g e))) : ∀ {es : List Expr}, es.all noStar = true → PA X es (tG G G.Rs (args (es.map g)))
  | [], _ => PA.of pa_nil fun σ H Q h => by
    obtain ⟨m, e, hh, a1, a2, a3⟩ := tG_ret h
    exact a3 [] rfl
  | e :: es, hs => by
    rw [List.all_cons, Bool.and_eq_true] at hs
    refine PA.of (pa_cons (hE e) (pa_all hE hs.2) (star1 hs.1 es)) fun σ H Q h => ?_
    refine (tG_bnd h).mono fun x H1 h1 => (tA1_bndL h1).mono fun xs H2 h2 => ?_
    obtain ⟨m, e', hh, a, ds, r, h', a1, a2, ra, rds, a3, a4⟩ := h2
    cases a3
    exact a4 m H2 (Ext.refl _ _) a1 (x :: xs) ⟨x, xs, rfl, ra, rds⟩
theorem tA_op {xs : List V} {f : List D → DH → Option (D × DH)} {Q : VK} (hyp : tA G xs G.R (fun ds => lift (f ds)) σ H Q) : rDN G f xs H Q := by
  obtain ⟨m, e, h, as, r, h', a1, a2, ra, a3, a4⟩ := hyp
  obtain ⟨d, rfl, e3⟩ := lift_some a3
  exact ⟨m, h, as, d, h', a1, ra, e3, fun m' H' v x y z => a4 m' H' x y v z⟩
theorem opN_tG {as : List (M D)} {f : List D → DH → Option (D × DH)} {Q : VK} (hyp : tG G G.R (opN f as) σ H Q) : tCB (rDN G f) (tG G G.Rs (args as)) σ H Q :=
  (tG_bndL hyp).mono fun xs H1 h1 => tA_op h1
end
section
variable {X : Cx} {C : CE} {G : Pc} {F : Call} {S : Sm}
theorem setMark {op : CmpOp} {b : Expr} (h : isSetE b = false) : behindInMarks op b = false := by
  cases b <;> first | rfl | cases h
theorem e_name (f : Fit X C G F) (x : Str) (pos : Pos) : PE X (.Name x pos) (tG G G.R (stepE F S C (.Name x pos))) := by
  dsimp only [stepE]
  cases hv : visIx C x with
  | some i =>
    dsimp only
    obtain ⟨h1, h2, h3⟩ := f.vis hv
    obtain ⟨p1, p2, _⟩ := plain_ne h3
    cases hk : isHk C i with
    | true => exact PE.never fun σ H Q h => tG_stuck h
    | false =>
      refine PE.of (pe_var h1 h2 p1 p2) fun σ H Q h => ?_
      obtain ⟨m, e, hh, r, h', a1, a2, a3, a4⟩ := h
      have a3 : var i e hh = some (r, h') := a3
      dsimp only [var] at a3
      split at a3
      · rename_i d ed
        cases a3
        obtain ⟨v, e1, e2⟩ := a2.get (f.noHk hk) ed
        exact ⟨v, e1, a4 m H (Ext.refl _ _) a1 v e2⟩
      · cases a3
  | none =>
    dsimp only
    cases hg : glb C x with
    | false => exact PE.never fun σ H Q h => tG_stuck h
    | true =>
      simp only [if_true]
      cases hc : C.con.lookup x with
      | none => exact PE.never fun σ H Q h => tG_stuck h
      | some d =>
        dsimp only
        obtain ⟨g1, g2⟩ := f.glb hg
        obtain ⟨u, v, c1, c2, c3⟩ := f.con x d hc
        refine PE.of (pe_glob g1 c1 c2 (plain_ne g2).1) fun σ H Q h => ?_
        obtain ⟨m, e, hh, a1, a2, a3⟩ := tG_ret h
        exact a3 v (c3 m H)
theorem tA1_not {x : V} {σ : L2.St} {H : Hp} {Q : VK} (h : tA1 G x G.R (fun x => match x with | .bl b => (ret (.bl (!b)) : M D) | _ => stuck) σ H Q) : ∃ c, x = .bl c ∧ Q (.bl (!c)) H := by
  obtain ⟨m, e, hh, a, r, h', a1, a2, ra, a3, a4⟩ := h
  cases a with
  | bl b =>
    cases a3
    exact ⟨b, ra, a4 m H (Ext.refl _ _) a1 _ rfl⟩
  | _ => cases a3
theorem tA1_if {x : V} {σ : L2.St} {H : Hp} {Q : VK} {n1 n2 : M D} (h : tA1 G x G.R (fun x => match x with | .bl b => if b then n1 else n2 | _ => stuck) σ H Q) : ∃ c, x = .bl c ∧ (if c = true then tG G G.R n1 σ H Q else tG G G.R n2 σ H Q) := by
  obtain ⟨m, e, hh, a, r, h', a1, a2, ra, a3, a4⟩ := h
  cases a with
  | bl b =>
    refine ⟨b, ra, ?_⟩
    cases b with
    | true => exact ⟨m, e, hh, r, h', a1, a2, a3, a4⟩
    | false => exact ⟨m, e, hh, r, h', a1, a2, a3, a4⟩
  | _ => cases a3
theorem ret_bl {σ : L2.St} {H : Hp} {Q : VK} {b : Bool} (h : tG G G.R (ret (.bl b)) σ H Q) : Q (.bl b) H := by
  obtain ⟨m, e, hh, a1, a2, a3⟩ := tG_ret h
  exact a3 _ rfl
theorem andV_tG {ma mb : M D} {σ : L2.St} {H : Hp} {Q : VK} (h : tG G G.R (andV ma mb) σ H Q) : tAndV (tG G G.R ma) (tG G G.R mb) σ H Q :=
  (tG_bnd h).mono fun x H1 h1 => by
    obtain ⟨c, e, q⟩ := tA1_if h1
    refine ⟨c, e, ?_⟩
    cases c with
    | true => exact q
    | false => exact ret_bl q
theorem orV_tG {ma mb : M D} {σ : L2.St} {H : Hp} {Q : VK} (h : tG G G.R (orV ma mb) σ H Q) : tOrV (tG G G.R ma) (tG G G.R mb) σ H Q :=
  (tG_bnd h).mono fun x H1 h1 => by
    obtain ⟨c, e, q⟩ := tA1_if h1
    refine ⟨c, e, ?_⟩
    cases c with
    | true => exact ret_bl q
    | false => exact q
theorem ite_tG {α β : Type} {rel : List Addr → Hp → α → β → Prop} {t : M Bool} {ma mb : M α} {σ : L2.St} {H : Hp} {Q : β → Hp → Prop} (h : tG G rel (bnd t fun c => if c then ma else mb) σ H Q) :
    tG G relB t σ H fun c H1 => if c = true then tG G rel ma σ H1 Q else tG G rel mb σ H1 Q :=
  (tG_bndB h).mono fun c H1 h1 => by
    cases c with
    | true => exact h1
    | false => exact h1
theorem chn_tG {g1 g2 : D → D → DH → Option (D × DH)} {ma mb mc : M D} {σ : L2.St} {H : Hp} {Q : VK} (h : tG G G.R (chn g1 g2 ma mb mc) σ H Q) : tChain (rD2 G g1) (rD2 G g2) (tG G G.R ma) (tG G G.R mb) (tG G G.R mc) σ H Q := by
  refine (tG_bnd h).mono fun x H1 h1 => (tA1_bnd h1).mono fun y H2 h2 => ?_
  obtain ⟨m, e, hh, a, b, r, h', a1, a2, ra, rb, a3, a4⟩ := h2
  dsimp only [bnd, lift] at a3
  cases hg : g1 a b hh with
  | none => rw [hg] at a3; cases a3
  | some q =>
    obtain ⟨z, h1'⟩ := q
    rw [hg] at a3
    refine ⟨m, hh, a, b, z, h1', a1, ra, rb, hg, fun m' H' v xe rh rv => ?_⟩
    cases z with
    | bl k =>
      refine ⟨k, rv, ?_⟩
      cases k with
      | true =>
        have t : tA1 G y G.R (fun b => bnd mc fun u => lift (g2 b u)) σ H' Q := ⟨m', e, h1', b, r, h', rh, a2.ext xe, rb.ext xe, a3, fun m2 H2 x2 y2 => a4 m2 H2 (xe.trans x2) y2⟩
        exact (tA1_bnd t).mono fun u H3 h3 => tA2_op h3
      | false =>
        cases a3
        exact a4 m' H' xe rh _ rfl
    | _ => cases a3
end
end Dd

set_option Elab.async false
set_option linter.all false
set_option maxRecDepth 100000
set_option maxHeartbeats 4000000
namespace Dd
open PySem PySem.Spec PyProof.Rows L2

/-! # 15. Calls of built-ins, methods, displays -/
theorem lookup_mem {β : Type} : ∀ {l : List (Str × β)} {x : Str} {b : β}, l.lookup x = some b → (x, b) ∈ l
  | [], _, _, h => by cases h
  | (y, c) :: r, x, b, h => by
    rw [List.lookup_cons] at h
    cases hb : x == y with
    | true =>
      rw [hb] at h
      cases h
      rw [eq_of_beq hb]
      exact List.mem_cons_self
    | false =>
      rw [hb] at h
      exact List.mem_cons_of_mem _ (lookup_mem h)
theorem blt_nm {x : Str} {b : Blt} (h : (x, b) ∈ blts) : x ∈ bltNms :=
  List.mem_append_left _ (List.mem_append_left _ (List.mem_map.mpr ⟨(x, b), h, rfl⟩))
theorem typ_nm {x : Str} {b : String} (h : (x, b) ∈ typNames) : x ∈ bltNms :=
  List.mem_append_left _ (List.mem_append_right _ (List.mem_map.mpr ⟨(x, b), h, rfl⟩))
theorem kits : ∀ n ∈ ["NoneType", "bool", "int", "str", "tuple", "list", "dict"], ∀ T ∈ ["tuple", "str", "int", "bool", "list", "dict"], kitB n T = some (isTy T n) := by decide +kernel
theorem ty_rel {K : PySem.W.Frag} {w : World} {m : List Addr} {h : DH} {H : Hp} (r : RH K w m h H) {d : D} {x : V} {n : String} (q : tyName d h = some n) (g : RelD K w m H d x) : TyX K H x (.type n) ∧ n ∈ ["NoneType", "bool", "int", "str", "tuple", "list", "dict"] := by
  cases d with
  | non => cases q; rw [show x = _ from g]; exact ⟨.base .non, by decide⟩
  | bl b => cases q; rw [show x = _ from g]; exact ⟨.base (.bl b), by decide⟩
  | int b => cases q; rw [show x = _ from g]; exact ⟨.base (.int b), by decide⟩
  | str b => cases q; rw [show x = _ from g]; exact ⟨.base (.str b), by decide⟩
  | tup xs => cases q; obtain ⟨a, vs, rfl, ha, _⟩ := g; exact ⟨.base (.tup ha), by decide⟩
  | kt xs => cases q; obtain ⟨a, vs, rfl, ⟨o, _, _, e, c, _⟩, _⟩ := g; exact ⟨.kTuple e c, by decide⟩
  | frz xs =>
    cases q
    obtain ⟨a, rfl, hf⟩ := g
    rcases hf with ⟨o, hf⟩ | ⟨o, _, _, e, c, _⟩
    · exact ⟨.base (.frz hf), by decide⟩
    · exact ⟨.kList e c, by decide⟩
  | wd kvs => cases q; obtain ⟨a, es, k, rfl, kd, _⟩ := g; exact ⟨.kDict kd.at_ rfl, by decide⟩
  | ref i =>
    obtain ⟨a, ma, rfl⟩ := g
    unfold tyName at q
    dsimp only at q
    split at q
    · rename_i xs e
      cases q
      obtain ⟨ob, e3, vs, e4, _⟩ := r.get ma e
      subst e4
      exact ⟨.base (.lst e3), by decide⟩
    · rename_i xs e
      cases q
      obtain ⟨ob, e3, vs, e4, _⟩ := r.get ma e
      subst e4
      exact ⟨.base (.dK e3), by decide⟩
    · rename_i xs e
      cases q
      obtain ⟨ob, e3, vs, e4, _⟩ := r.get ma e
      subst e4
      exact ⟨.base (.dT e3), by decide⟩
    · cases q
theorem base_eq {o : Expr} {name : Str} {env : Env} (h : baseOk o = true) : attributeBase o name env (eval o env) = eval o env := by
  unfold attributeBase
  split
  · cases h
  · rfl
theorem nameBase (x : Str) (p : Pos) (name : Str) (env : Env) : attributeBase (.Name x p) name env (eval (.Name x p) env) = eval (.Name x p) env := rfl
section
variable {X : Cx} {C : CE} {G : Pc} {F : Call} {S : Sm}
theorem e_isin (f : Fit X C G F) {a : Expr} {T : Str} {t : String} {ma : M D} {p pT pos : Pos} (ha : PE X a (tG G G.R ma)) (hs : noStar a = true) (hg : glb C "isinstance" = true) (hT : glb C T = true) (ht : typNames.lookup T = some t) :
    PE X (.Call (.Name "isinstance" p) [a, .Name T pT] [] pos) (tG G G.R (op1 (isinD t) ma)) := by
  obtain ⟨K, W, cls, fld, Wx, hk⟩ := G
  have hK : X.K = K := f.K
  have hw : X.w = W := f.w
  subst hK hw
  have hm := lookup_mem ht
  have hTn := f.blt T (typ_nm hm)
  obtain ⟨g1, g2⟩ := f.glb hg
  obtain ⟨t1, t2⟩ := f.glb hT
  have hb : bootBuiltins T = some (.type t) ∧ t ∈ ["tuple", "str", "int", "bool", "list", "dict"] := by
    simp only [typNames, List.mem_cons, Prod.mk.injEq, List.not_mem_nil, or_false] at hm
    rcases hm with ⟨rfl, rfl⟩ | ⟨rfl, rfl⟩ | ⟨rfl, rfl⟩ | ⟨rfl, rfl⟩ | ⟨rfl, rfl⟩ | ⟨rfl, rfl⟩ <;> exact ⟨by decide +kernel, by decide⟩
  have hi : X.mg "isinstance" = none := f.blt _ (List.mem_append_right _ List.mem_cons_self)
  refine PE.of (pe_callB call_isi g1 hi (by decide +kernel) (pa_cons ha (pa_cons (pe_bltn (v := .ty t) t1 hTn hb.1 rfl (plain_ne t2).2.2 (plain_ne t2).1) pa_nil (star1 rfl [])) (star1 hs _)) (by decide) (by decide) (star1 hs _) rfl) fun σ H Q h => ?_
  refine (tG_bnd h).mono fun x H1 h1 => ?_
  obtain ⟨m, h, d, z, h', a1, ra, e, q⟩ := tA1_op h1
  obtain ⟨n, e1, e2⟩ := map_some e
  cases e2
  obtain ⟨y1, y2⟩ := ty_rel a1 e1 ra
  exact ⟨x, .ty t, _, _, _, rfl, .ty t, y1, kit_ty (kits n y2 t hb.2), q m H1 _ (Ext.refl _ _) a1 rfl⟩
theorem e_blt (f : Fit X C G F) {x : Str} {b : Blt} {e : Expr} {es : List Expr} {as : List (M D)} {p pos : Pos} (hb : blts.lookup x = some b) (hg : glb C x = true) (hc : (needsCalm b && !C.calm) = false)
    (hs : (e :: es).all noStar = true) (ha : PA X (e :: es) (tG G G.Rs (args as))) : PE X (.Call (.Name x p) (e :: es) [] pos) (tG G G.R (opN (bltD b) as)) := by
  have hm := lookup_mem hb
  have hx := f.blt x (blt_nm hm)
  obtain ⟨g1, g2⟩ := f.glb hg
  have hs' := hs
  rw [List.all_cons, Bool.and_eq_true] at hs'
  have he : starEach (e :: es) X.env = (false, eval e X.env) :: starEach es X.env := star1 hs'.1 es
  have hp : (backTo pos (starEach es X.env)).any (·.1) = false := star_any hs'.2
  have cal : needsCalm b = true → X.calm = true := fun z => by
    rw [z, Bool.true_and] at hc
    rw [f.calm]
    cases hcc : C.calm with
    | true => rfl
    | false => rw [hcc] at hc; cases hc
  simp only [blts, List.mem_cons, Prod.mk.injEq, List.not_mem_nil, or_false] at hm
  rcases hm with ⟨rfl, rfl⟩ | ⟨rfl, rfl⟩ | ⟨rfl, rfl⟩ | ⟨rfl, rfl⟩ | ⟨rfl, rfl⟩ | ⟨rfl, rfl⟩ | ⟨rfl, rfl⟩ | ⟨rfl, rfl⟩ | ⟨rfl, rfl⟩ | ⟨rfl, rfl⟩ | ⟨rfl, rfl⟩ | ⟨rfl, rfl⟩
  · exact PE.of (pe_callB (c_len f.K f.w) g1 hx (by decide +kernel) ha (by decide) (by decide) he hp) fun σ H Q h => opN_tG h
  · exact PE.of (pe_callB (c_abs f.K f.w) g1 hx (by decide +kernel) ha (by decide) (by decide) he hp) fun σ H Q h => opN_tG h
  · exact PE.of (pe_callTy (c_int f.K f.w) g1 hx (by decide +kernel) ha (by decide) (by decide) he hp) fun σ H Q h => opN_tG h
  · exact PE.of (pe_callTy (c_str f.K f.w) g1 hx (by decide +kernel) ha (by decide) (by decide) he hp) fun σ H Q h => opN_tG h
  · exact PE.of (pe_callTy (c_tuple f.K f.w) g1 hx (by decide +kernel) ha (by decide) (by decide) he hp) fun σ H Q h => opN_tG h
  · exact PE.of (pe_callTy (c_list f.K f.w) g1 hx (by decide +kernel) ha (by decide) (by decide) he hp) fun σ H Q h => opN_tG h
  · exact PE.of (pe_callB (c_all f.K f.w (cal rfl)) g1 hx (by decide +kernel) ha (by decide) (by decide) he hp) fun σ H Q h => opN_tG h
  · exact PE.of (pe_callB (c_any f.K f.w (cal rfl)) g1 hx (by decide +kernel) ha (by decide) (by decide) he hp) fun σ H Q h => opN_tG h
  · exact PE.of (pe_callB (c_ord f.K f.w) g1 hx (by decide +kernel) ha (by decide) (by decide) he hp) fun σ H Q h => opN_tG h
  · exact PE.of (pe_callB (c_repr f.K f.w f.un f.gd) g1 hx (by decide +kernel) ha (by decide) (by decide) he hp) fun σ H Q h => opN_tG h
  · exact PE.of (pe_callB (c_min f.K f.w (cal rfl)) g1 hx (by decide +kernel) ha (by decide) (by decide) he hp) fun σ H Q h => opN_tG h
  · exact PE.of (pe_callB (c_max f.K f.w (cal rfl)) g1 hx (by decide +kernel) ha (by decide) (by decide) he hp) fun σ H Q h => opN_tG h
/-- a def of the program -/
theorem e_fn (f : Fit X C G F) {x : Str} {i ar : Nat} {e : Expr} {es : List Expr} {as : List (M D)} {p pos : Pos} (hx : fnIx x C.fns 0 = some (i, ar)) (hg : glb C x = true) (hc : C.calm = true) (hs : (e :: es).all noStar = true)
    (ha : PA X (e :: es) (tG G G.Rs (args as))) : PE X (.Call (.Name x p) (e :: es) [] pos) (tG G G.R (callM F i as)) := by
  obtain ⟨fa, n, h1, h2, h3, h4⟩ := f.fns hc x i ar hx
  obtain ⟨g1, g2⟩ := f.glb hg
  have hs' := hs
  rw [List.all_cons, Bool.and_eq_true] at hs'
  refine PE.of (pe_callG h4 h3 f.gd g1 h1 h2 f.tk ha (plain_ne g2).1 (star1 hs'.1 es) (star_any hs'.2)) fun σ H Q h => ?_
  refine (tG_bndL h).mono fun xs H1 h1 => ?_
  obtain ⟨m, e', hh, ds, r, h', a1, a2, ra, a3, a4⟩ := h1
  refine ⟨m, hh, ds, r, h', a1, ra, a3, fun m' H' x' y' => ?_⟩
  have z := a4 m' H' x' y'
  cases r with
  | ok d => exact z
  | ex c p => exact z
theorem mths_nm {x : Str} {b : Mth} (h : mths.lookup x = some b) : (x = "append" ∧ b = .append) ∨ (x = "extend" ∧ b = .extend) ∨ (x = "pop" ∧ b = .pop) ∨ (x = "join" ∧ b = .join) := by
  have hm := lookup_mem h
  simp only [mths, List.mem_cons, Prod.mk.injEq, List.not_mem_nil, or_false] at hm
  exact hm
def mthTy : Mth → String
  | .join => "str"
  | _ => "list"
/-- the type of a receiver of ours -/
theorem mth_ty (hK : X.K = G.K) (hw : X.w = G.w) {m : List Addr} {h : DH} {H : Hp} (r : G.H m h H) {k : Mth} {d : D} {x : V} (q : mthOk k d h = true) (g : G.R m H d x) : tyV X.K (mthTy k) x H := by
  obtain ⟨K, W, cls, fld, Wx, hk⟩ := G
  cases hK
  cases hw
  have lst : ∀ {i : Nat}, (lstAt h i).isSome = true → RelD X.K X.w m H (.ref i) x → tyV X.K "list" x H := fun {i} e g => by
    obtain ⟨xs, ex⟩ := Option.isSome_iff_exists.mp e
    obtain ⟨p, vs, rfl, mp, hp, gp⟩ := ref_lst r g ex
    exact .inl ⟨rfl, vs, SqL.of hp⟩
  cases k with
  | join => cases d <;> first | (cases q; done) | (rw [show x = _ from g]; exact rfl)
  | append => cases d <;> first | (cases q; done) | exact lst q g
  | extend => cases d <;> first | (cases q; done) | exact lst q g
  | pop => cases d <;> first | (cases q; done) | exact lst q g
theorem e_mth (f : Fit X C G F) {x : Str} {k : Mth} {o : Expr} {es : List Expr} {mo : M D} {as : List (M D)} {ap pos : Pos} (hx : mths.lookup x = some k) (hl : (ap.endLine == pos.line) = true) (hb : baseOk o = true)
    (hs : es.all noStar = true) (hn : es.length < 30) (ho : PE X o (tG G G.R mo)) (ha : PA X es (tG G G.Rs (args as))) (hz : es = [] → k = .pop ∧ as = []) : PE X (.Call (.Attribute o x ap) es [] pos) (tG G G.R (mthM k mo as)) := by
  have main : ∀ {σ H Q}, tG G G.R (mthM k mo as) σ H Q → tBM X.K (mthTy k) (rDM G (mthD k)) (tG G G.R mo) (tG G G.Rs (args as)) σ H Q := by
    intro σ H Q h
    refine (tG_bnd h).mono fun x H1 h1 => ?_
    obtain ⟨m, e, hh, a, r, h', a1, a2, ra, a3, a4⟩ := h1
    dsimp only [bnd, lift] at a3
    cases hk : mthOk k a hh with
    | false => rw [hk] at a3; cases a3
    | true =>
      rw [hk] at a3
      refine ⟨mth_ty f.K f.w a1 hk ra, ?_⟩
      have t : tA1 G x G.R (fun a => bnd (args as) fun xs => lift (mthD k a xs)) σ H1 Q := ⟨m, e, hh, a, r, h', a1, a2, ra, a3, a4⟩
      refine (tA1_bndL t).mono fun xs H2 h2 => ?_
      obtain ⟨m2, e2, h2', b, ds, r2, h3, b1, b2, rb, rds, b3, b4⟩ := h2
      obtain ⟨d, rfl, e3⟩ := lift_some b3
      exact ⟨m2, h2', b, ds, d, h3, b1, rb, rds, e3, fun m' H' v x y z => b4 m' H' x y v z⟩
  cases es with
  | nil =>
    obtain ⟨rfl, rfl⟩ := hz rfl
    have ex : x = "pop" := by
      rcases mths_nm hx with ⟨_, z⟩ | ⟨_, z⟩ | ⟨z, _⟩ | ⟨_, z⟩ <;> first | exact z | cases z
    subst ex
    refine PE.of (pe_bm0 PySem.F.plainAttrs_list PySem.F.slot_list_pop PySem.F.type_list_pop (m_pop f.K f.w) ho (base_eq hb) hl) fun σ H Q h => (main h).mono fun x H1 h1 => ⟨h1.1, ?_⟩
    obtain ⟨m, e, hh, r, h', a1, a2, a3, a4⟩ := h1.2
    cases a3
    exact a4 m H1 (Ext.refl _ _) a1 [] rfl
  | cons e es =>
    have hs' := hs
    rw [List.all_cons, Bool.and_eq_true] at hs'
    have he : starEach (e :: es) X.env = (false, eval e X.env) :: starEach es X.env := star1 hs'.1 es
    have hp : (backTo pos (starEach es X.env)).any (·.1) = false := star_any hs'.2
    have hf : ((backTo pos (starEach (e :: es) X.env)).all (fun x => !x.1) && (backToKw pos (keywordEach [] X.env)).all (fun x => x.1.isSome) && decide ((e :: es).length + ([] : List Keyword).length + (if ([] : List Keyword).isEmpty then 0 else 1) < 30)) = true := by
      have z := star_any (env := X.env) (pos := pos) hs
      have z1 : (backTo pos (starEach (e :: es) X.env)).all (fun x => !x.1) = true := by
        rw [List.all_eq_true]
        intro y hy
        cases hyy : y.1 with
        | false => rfl
        | true =>
          have : (backTo pos (starEach (e :: es) X.env)).any (·.1) = true := List.any_eq_true.mpr ⟨y, hy, hyy⟩
          rw [z] at this; cases this
      rw [z1]
      exact decide_eq_true hn
    rcases mths_nm hx with ⟨rfl, rfl⟩ | ⟨rfl, rfl⟩ | ⟨rfl, rfl⟩ | ⟨rfl, rfl⟩
    · exact PE.of (pe_bm PySem.F.plainAttrs_list PySem.F.slot_list_append PySem.F.type_list_append (m_append f.K f.w) ho ha (base_eq hb) hf hl he hp) fun σ H Q h => main h
    · exact PE.of (pe_bm PySem.F.plainAttrs_list PySem.F.slot_list_extend PySem.F.type_list_extend (m_extend f.K f.w) ho ha (base_eq hb) hf hl he hp) fun σ H Q h => main h
    · exact PE.of (pe_bm PySem.F.plainAttrs_list PySem.F.slot_list_pop PySem.F.type_list_pop (m_pop f.K f.w) ho ha (base_eq hb) hf hl he hp) fun σ H Q h => main h
    · exact PE.of (pe_bm PySem.F.plainAttrs_str PySem.F.slot_str_join PySem.F.type_str_join (m_join f.K f.w) ho ha (base_eq hb) hf hl he hp) fun σ H Q h => main h
end
end Dd

set_option Elab.async false
set_option linter.all false
set_option maxRecDepth 100000
set_option maxHeartbeats 4000000
namespace Dd
open PySem PySem.Spec PyProof.Rows L2

/-! # 16. What is walked -/
def Drv (G : Pc) (s : Src) (m0 : List Addr) (H0 : Hp) (J : It) : Prop := ∀ m h H, Ext m0 H0 m H → G.H m h H →
  (∀ k d, s.at_ k h = some d → J.go k H ∧ ∀ x H', J.yld k H x H' → Ext m H m H' ∧ G.H m h H' ∧ G.R m H' d x) ∧ (s.done h = true → J.stop s.len H)
def iG (G : Pc) (M : M Src) : TI := fun σ H R => ∃ m e h r h', G.H m h H ∧ EnvR G m H e σ ∧ M e h = some (r, h') ∧ ∀ m' H', Ext m H m' H' → G.H m' h' H' → match r with
  | .ok s => ∀ J, Drv G s m' H' J → R J H'
  | .ex c p => ∀ cv d, ExcAt G m' H' c p cv d → G.W cv d σ H'
def OkI (S : Sm) (F : Call) : Prop := ∀ (X : Cx) (C : CE) (G : Pc), Fit X C G F → ∀ tg e, PI X tg e (iG G (S.I C tg e))
theorem PI.of {X : Cx} {tg e : Expr} {t t' : TI} (h : PI X tg e t) (w : ∀ σ H Q, t' σ H Q → t σ H Q) : PI X tg e t' := ⟨fun pins s σ H Q I q => h.run pins s σ H Q I (w σ H Q q)⟩
section
variable {K : PySem.W.Frag} {w : World} {cls : Nat → Addr} {fld : Nat → Str} {Wx : WX} {hk : Option (Nat × Addr × Addr × Str)} {m0 : List Addr} {H0 : Hp}
theorem drv_tup {a : Addr} {xs : List D} {vs : List V} (ha : SqT K H0 a vs) (st : ∀ m H, Ext m0 H0 m H → SqT K H a vs) (g : RelDs K w m0 H0 xs vs) : Drv ⟨K, w, cls, fld, Wx, hk⟩ (.items xs) m0 H0 (Itt K a) := by
  intro m h H x r
  refine ⟨fun k d e => ?_, fun _ => ⟨vs, st m H x, by rw [g.length]; exact Nat.le_refl _⟩⟩
  have e : xs[k]? = some d := e
  obtain ⟨v, e1, e2⟩ := g.get e
  refine ⟨⟨vs, v, st m H x, e1⟩, fun y H' hy => ?_⟩
  obtain ⟨rfl, hy⟩ := hy
  have := hy vs (st m _ x)
  rw [e1] at this; cases this
  exact ⟨Ext.refl _ _, r, e2.ext x⟩
theorem drv_frz {a : Addr} {ns : List Int} (ha : FrzL K H0 a (ns.map V.int)) : Drv ⟨K, w, cls, fld, Wx, hk⟩ (.items (ns.map D.int)) m0 H0 (Itl K a) := by
  intro m h H x r
  have st : SqL K H a (ns.map V.int) := (ha.ext x).sq
  refine ⟨fun k d e => ?_, fun _ => ⟨_, st, by rw [List.length_map]; exact Nat.le_of_eq (List.length_map _).symm⟩⟩
  have e : (ns.map D.int)[k]? = some d := e
  obtain ⟨v, e1, e2⟩ := RelDs.get (K := K) (w := w) (m := m) (H := H) (ints_rel ns) e
  refine ⟨⟨_, v, st, e1⟩, fun y H' hy => ?_⟩
  obtain ⟨rfl, hy⟩ := hy
  have := hy _ st
  rw [e1] at this; cases this
  exact ⟨Ext.refl _ _, r, e2⟩
theorem drv_live {i : Nat} {a : Addr} {n : Nat} (ha : m0[i]? = some a) : Drv ⟨K, w, cls, fld, Wx, hk⟩ (.live i n) m0 H0 (Itl K a) := by
  intro m h H x r
  have ma := x.ix ha
  refine ⟨fun k d e => ?_, fun e => ?_⟩
  · dsimp only [Src.at_] at e
    split at e
    · rename_i xs ex
      split at e
      · obtain ⟨p, vs, e1, mp, hp, gp⟩ := ref_lst (K := K) (w := w) r (x := .ref a) ⟨a, ma, rfl⟩ ex
        cases e1
        obtain ⟨v, e2, e3⟩ := gp.get e
        refine ⟨⟨vs, v, SqL.of hp, e2⟩, fun y H' hy => ?_⟩
        obtain ⟨rfl, hy⟩ := hy
        have := hy vs (SqL.of hp)
        rw [e2] at this; cases this
        exact ⟨Ext.refl _ _, r, e3⟩
      · cases e
    · cases e
  · dsimp only [Src.done] at e
    split at e
    · rename_i xs ex
      obtain ⟨p, vs, e1, mp, hp, gp⟩ := ref_lst (K := K) (w := w) r (x := .ref a) ⟨a, ma, rfl⟩ ex
      cases e1
      exact ⟨vs, SqL.of hp, by rw [gp.length, of_decide_eq_true e]; exact Nat.le_refl _⟩
    · cases e
theorem drv_str (x : Str) : Drv ⟨K, w, cls, fld, Wx, hk⟩ (.items (signs x)) m0 H0 (Its x) := by
  intro m h H _ r
  refine ⟨fun k d e => ?_, fun _ => ?_⟩
  · have e : (signs x)[k]? = some d := e
    unfold signs at e
    rw [List.getElem?_map] at e
    obtain ⟨c, e1, e2⟩ := map_some e
    subst e2
    have e1 : x.cps[k]? = some c := by rw [← Array.getElem?_toList]; exact e1
    refine ⟨(Array.getElem?_eq_some_iff.mp e1).1, fun y H' hy => ?_⟩
    obtain ⟨rfl, c', e3, rfl⟩ := hy
    rw [e1] at e3; cases e3
    exact ⟨Ext.refl _ _, r, rfl⟩
  · show x.cps.size ≤ (signs x).length
    unfold signs
    rw [List.length_map, Array.length_toList]
    exact Nat.le_refl _
theorem drv_rng (lo : Int) (n : Nat) : Drv ⟨K, w, cls, fld, Wx, hk⟩ (rngs lo n) m0 H0 (Itr lo n) := by
  intro m h H _ r
  refine ⟨fun k d e => ?_, fun _ => ?_⟩
  · have e : ((List.range n).map fun k => D.int (lo + (k : Nat)))[k]? = some d := e
    rw [List.getElem?_map] at e
    obtain ⟨c, e1, e2⟩ := map_some e
    subst e2
    obtain ⟨hk, e1⟩ := List.getElem?_eq_some_iff.mp e1
    rw [List.length_range] at hk
    rw [List.getElem_range] at e1
    subst e1
    refine ⟨hk, fun y H' hy => ?_⟩
    obtain ⟨rfl, rfl⟩ := hy
    exact ⟨Ext.refl _ _, r, rfl⟩
  · show n ≤ ((List.range n).map _).length
    rw [List.length_map, List.length_range]
    exact Nat.le_refl _
theorem drv_zip {a b : Addr} {xs ys : List D} {vs us : List V} (ha : H0 a = some (.tup vs)) (hb : H0 b = some (.tup us)) (ga : RelDs K w m0 H0 xs vs) (gb : RelDs K w m0 H0 ys us) :
    Drv ⟨K, w, cls, fld, Wx, hk⟩ (.items ((xs.zip ys).map fun p => .tup [p.1, p.2])) m0 H0 (RZ.ItzT K a b) := by
  intro m h H x r
  have sa : SqT K H a vs := SqT.of (x.imm a _ rfl ha)
  have sb : SqT K H b us := SqT.of (x.imm b _ rfl hb)
  refine ⟨fun k d e => ?_, fun _ => ?_⟩
  · have e : ((xs.zip ys).map fun p => D.tup [p.1, p.2])[k]? = some d := e
    rw [List.getElem?_map] at e
    obtain ⟨p, e1, e2⟩ := map_some e
    subst e2
    obtain ⟨e3, e4⟩ := List.getElem?_zip_eq_some.mp e1
    obtain ⟨v, v1, v2⟩ := ga.get e3
    obtain ⟨u, u1, u2⟩ := gb.get e4
    refine ⟨⟨vs, us, v, u, sa, sb, v1, u1⟩, fun y H' hy => ?_⟩
    obtain ⟨T, y1, y2, rfl, hT, rfl, f1, f2⟩ := hy
    have q1 := f1 vs sa
    have q2 := f2 us sb
    rw [v1] at q1; cases q1
    rw [u1] at q2; cases q2
    have gd : RelDs K w m H [p.1, p.2] [v, u] := .cons (v2.ext x) (.cons (u2.ext x) .nil)
    obtain ⟨b1, b2, b3⟩ := new_tup r hT gd
    exact ⟨b2, b1, b3⟩
  · refine ⟨vs, us, sa, sb, ?_⟩
    show vs.length ≤ ((xs.zip ys).map _).length ∨ us.length ≤ ((xs.zip ys).map _).length
    rw [List.length_map, List.length_zip, ga.length, gb.length]
    omega
end
section
variable {X : Cx} {C : CE} {G : Pc} {F : Call} {S : Sm}
theorem bnd_some {α β : Type} {M : Dd.M α} {k : α → Dd.M β} {e : DE} {h h' : DH} {r : Rs β} (q : bnd M k e h = some (r, h')) : (∃ c p, M e h = some (.ex c p, h') ∧ r = .ex c p) ∨ ∃ a h1, M e h = some (.ok a, h1) ∧ k a e h1 = some (r, h') := by
  dsimp only [bnd] at q
  cases hm : M e h with
  | none => rw [hm] at q; cases q
  | some p =>
    obtain ⟨r1, h1⟩ := p
    rw [hm] at q
    cases r1 with
    | ex c p => cases q; exact .inl ⟨c, p, rfl, rfl⟩
    | ok a => exact .inr ⟨a, h1, rfl, q⟩
/-- anything that may be walked by its value -/
theorem i_any (f : Fit X C G F) {tg e : Expr} (hE : PE X e (tG G G.R (S.E C e))) : PI X tg e (iG G (anyI S C e)) := by
  obtain ⟨K, W, cls, fld, Wx, hk⟩ := G
  have hK : X.K = K := f.K
  have hw : X.w = W := f.w
  subst hK hw
  refine ⟨fun pins s σ H R I hyp => ?_⟩
  obtain ⟨m, e0, h, r, h', a1, a2, a3, a4⟩ := hyp
  unfold anyI at a3
  split at a3
  · cases a3
  rcases bnd_some a3 with ⟨c, p, e1, rfl⟩ | ⟨d, h1, e1, e2⟩
  · exact (pi_list (tg := tg) hE).run pins s σ H R I ⟨m, e0, h, _, h', a1, a2, e1, fun m' H' x y => a4 m' H' x y⟩
  · obtain ⟨sr, rfl, e3⟩ := lift_some e2
    unfold srcD at e3
    cases d with
    | tup xs =>
      cases e3
      refine (pi_tup (tg := tg) hE).run pins s σ H R I ⟨m, e0, h, _, h', a1, a2, e1, fun m' H' x y v g => ?_⟩
      obtain ⟨a, vs, rfl, ha, ga⟩ := g
      exact ⟨a, rfl, ⟨vs, SqT.of ha⟩, a4 m' H' x y _ (drv_tup (SqT.of ha) (fun m2 H2 x2 => SqT.of (x2.imm a _ rfl ha)) ga)⟩
    | kt xs =>
      cases e3
      refine (pi_tup (tg := tg) hE).run pins s σ H R I ⟨m, e0, h, _, h', a1, a2, e1, fun m' H' x y v g => ?_⟩
      obtain ⟨a, vs, rfl, ha, ga⟩ := g
      exact ⟨a, rfl, ⟨vs, ha.sq⟩, a4 m' H' x y _ (drv_tup ha.sq (fun m2 H2 x2 => ha.sq) (RelKs.relDs xs vs ga))⟩
    | str z =>
      cases e3
      refine (pi_str (tg := tg) hE).run pins s σ H R I ⟨m, e0, h, _, h', a1, a2, e1, fun m' H' x y v g => ?_⟩
      exact ⟨z, g, a4 m' H' x y _ (drv_str z)⟩
    | frz ns =>
      cases e3
      refine (pi_list (tg := tg) hE).run pins s σ H R I ⟨m, e0, h, _, h', a1, a2, e1, fun m' H' x y v g => ?_⟩
      obtain ⟨a, rfl, ha⟩ := g
      exact ⟨a, rfl, ⟨_, ha.sq⟩, a4 m' H' x y _ (drv_frz ha)⟩
    | ref i =>
      obtain ⟨xs, ex, e4⟩ := map_some e3
      cases e4
      refine (pi_list (tg := tg) hE).run pins s σ H R I ⟨m, e0, h, _, h', a1, a2, e1, fun m' H' x y v g => ?_⟩
      obtain ⟨p, vs, rfl, mp, hp, gp⟩ := ref_lst y g ex
      exact ⟨p, rfl, ⟨vs, SqL.of hp⟩, a4 m' H' x y _ (drv_live mp)⟩
    | _ => cases e3
theorem in62_iff {i : Int} (h : in62 i = true) : -(2 ^ 62) ≤ i ∧ i < 2 ^ 62 := by
  have z := below_iff.mp h
  omega
theorem ok_I (hE : OkE S F) : OkI (stepQ F S) F := by
  intro X C G f tg e
  have iE := hE X C G f
  have iA := i_any f (tg := tg) (iE e)
  show PI X tg e (iG G (stepI S C tg e))
  unfold stepI
  split
  · rename_i fn a hc
    split
    · rename_i hf
      subst hf
      split
      · rename_i hg
        rw [Bool.and_eq_true] at hg
        obtain ⟨g1, g2⟩ := f.glb hg.1
        have he : ∃ p pos, e = .Call (.Name "range" p) [a] [] pos := by
          unfold callOf at hc
          split at hc
          · cases hc; exact ⟨_, _, rfl⟩
          · cases hc
        obtain ⟨p, pos, rfl⟩ := he
        have hm : X.mg "range" = none := f.blt _ (List.mem_append_right _ (List.mem_cons_of_mem _ List.mem_cons_self))
        refine PI.of (pi_range1 g1 hm (pa_cons (iE a) pa_nil (star1 hg.2 [])) (star1 hg.2 [])) fun σ H R h => ?_
        obtain ⟨m, e0, hh, r, h', a1, a2, a3, a4⟩ := h
        rcases bnd_some a3 with ⟨c, p, e1, rfl⟩ | ⟨d, h1, e1, e2⟩
        · exact ⟨m, e0, hh, _, h', a1, a2, e1, fun m' H' x y => a4 m' H' x y⟩
        · obtain ⟨sr, rfl, e3⟩ := lift_some e2
          refine ⟨m, e0, hh, _, h1, a1, a2, e1, fun m' H' x y v g => ?_⟩
          unfold rng1 at e3
          split at e3
          · split at e3
            · rename_i j hz
              cases e3
              obtain ⟨z1, z2⟩ := in62_iff hz
              obtain ⟨K, W, cls, fld, Wx, hk⟩ := G
              exact ⟨j, by rw [show v = _ from g], z1, z2, a4 m' H' x y _ (drv_rng 0 _)⟩
            · cases e3
          · cases e3
      · exact PI.of iA (fun σ H R h => by
          obtain ⟨m, e0, hh, r, h', a1, a2, a3, a4⟩ := h
          cases a3)
    · exact iA
  · rename_i fn a b hc
    split
    · rename_i hf
      subst hf
      split
      · rename_i hg
        rw [Bool.and_eq_true, Bool.and_eq_true] at hg
        obtain ⟨g1, g2⟩ := f.glb hg.1.1
        have he : ∃ p pos, e = .Call (.Name "range" p) [a, b] [] pos := by
          unfold callOf at hc
          split at hc
          · cases hc; exact ⟨_, _, rfl⟩
          · cases hc
        obtain ⟨p, pos, rfl⟩ := he
        have hm : X.mg "range" = none := f.blt _ (List.mem_append_right _ (List.mem_cons_of_mem _ List.mem_cons_self))
        refine PI.of (pi_range2 g1 hm (pa_cons (iE a) (pa_cons (iE b) pa_nil (star1 hg.2 [])) (star1 hg.1.2 _)) (by rw [star1 hg.1.2, star1 hg.2]; rfl) (star1 hg.2 [])) fun σ H R h => ?_
        have t1 : tG G G.R (S.E C a) σ H (fun x H1 => ∃ m e h d r h', G.H m h H1 ∧ EnvR G m H1 e σ ∧ G.R m H1 d x ∧ bnd (S.E C b) (fun y => lift (rng2 d y)) e h = some (r, h') ∧ ∀ m' H', Ext m H1 m' H' → G.H m' h' H' → match r with
            | .ok s => ∀ J, Drv G s m' H' J → R J H'
            | .ex c p => ∀ cv d, ExcAt G m' H' c p cv d → G.W cv d σ H') := by
          obtain ⟨m, e0, hh, r, h', a1, a2, a3, a4⟩ := h
          rcases bnd_some a3 with ⟨c, p, e1, rfl⟩ | ⟨d, h1, e1, e2⟩
          · exact ⟨m, e0, hh, _, h', a1, a2, e1, fun m' H' x y => a4 m' H' x y⟩
          · exact ⟨m, e0, hh, _, h1, a1, a2, e1, fun m' H' x y v g => ⟨m', e0, h1, d, r, h', y, a2.ext x, g, e2, fun m2 H2 x2 y2 => a4 m2 H2 (x.trans x2) y2⟩⟩
        refine t1.mono fun x H1 h1 => ?_
        obtain ⟨m, e0, hh, d, r, h', a1, a2, rd, a3, a4⟩ := h1
        rcases bnd_some a3 with ⟨c, p, e1, rfl⟩ | ⟨d2, h2, e1, e2⟩
        · exact ⟨m, e0, hh, _, h', a1, a2, e1, fun m' H' x y => a4 m' H' x y⟩
        · obtain ⟨sr, rfl, e3⟩ := lift_some e2
          refine ⟨m, e0, hh, _, h2, a1, a2, e1, fun m' H' x' y' v g => ?_⟩
          unfold rng2 at e3
          split at e3
          · split at e3
            · rename_i i j hz
              cases e3
              rw [Bool.and_eq_true] at hz
              obtain ⟨z1, z2⟩ := in62_iff hz.1
              obtain ⟨z3, z4⟩ := in62_iff hz.2
              obtain ⟨K, W, cls, fld, Wx, hk⟩ := G
              exact ⟨i, j, by rw [show v = _ from g, show x = _ from rd], ⟨z1, z2, z3, z4⟩, a4 m' H' x' y' _ (drv_rng i _)⟩
            · cases e3
          · cases e3
      · exact PI.of iA (fun σ H R h => by
          obtain ⟨m, e0, hh, r, h', a1, a2, a3, a4⟩ := h
          cases a3)
    · split
      · rename_i hf
        subst hf
        split
        · rename_i hg
          rw [Bool.and_eq_true, Bool.and_eq_true, Bool.and_eq_true] at hg
          obtain ⟨⟨⟨hg0, hg1⟩, hg2⟩, hg3⟩ := hg
          obtain ⟨g1, g2⟩ := f.glb hg0
          have he : ∃ p pos, e = .Call (.Name "zip" p) [a, b] [] pos := by
            unfold callOf at hc
            split at hc
            · cases hc; exact ⟨_, _, rfl⟩
            · cases hc
          obtain ⟨p, pos, rfl⟩ := he
          have ht : ∃ es k tp, tg = .Tuple es k tp := by
            cases tg <;> first | exact ⟨_, _, _, rfl⟩ | cases hg3
          obtain ⟨es, kk, tp, rfl⟩ := ht
          have hm : X.mg "zip" = none := f.blt _ (List.mem_append_right _ (List.mem_cons_of_mem _ (List.mem_cons_of_mem _ (List.mem_cons_of_mem _ List.mem_cons_self))))
          refine PI.of (RZ.pi_zipA g1 hm (pa_cons (iE a) (pa_cons (iE b) pa_nil (star1 hg2 [])) (star1 hg1 _)) (star1 hg1 _) (by rw [star1 hg2]; rfl)) fun σ H R h => ?_
          have t1 : tG G G.R (S.E C a) σ H (fun x H1 => ∃ m e h d r h', G.H m h H1 ∧ EnvR G m H1 e σ ∧ G.R m H1 d x ∧ bnd (S.E C b) (fun y => lift (zipD d y)) e h = some (r, h') ∧ ∀ m' H', Ext m H1 m' H' → G.H m' h' H' → match r with
              | .ok s => ∀ J, Drv G s m' H' J → R J H'
              | .ex c p => ∀ cv d, ExcAt G m' H' c p cv d → G.W cv d σ H') := by
            obtain ⟨m, e0, hh, r, h', a1, a2, a3, a4⟩ := h
            rcases bnd_some a3 with ⟨c, p, e1, rfl⟩ | ⟨d, h1, e1, e2⟩
            · exact ⟨m, e0, hh, _, h', a1, a2, e1, fun m' H' x y => a4 m' H' x y⟩
            · exact ⟨m, e0, hh, _, h1, a1, a2, e1, fun m' H' x y v g => ⟨m', e0, h1, d, r, h', y, a2.ext x, g, e2, fun m2 H2 x2 y2 => a4 m2 H2 (x.trans x2) y2⟩⟩
          refine t1.mono fun x H1 h1 => ?_
          obtain ⟨m, e0, hh, d, r, h', a1, a2, rd, a3, a4⟩ := h1
          rcases bnd_some a3 with ⟨c, p, e1, rfl⟩ | ⟨d2, h2, e1, e2⟩
          · exact ⟨m, e0, hh, _, h', a1, a2, e1, fun m' H' x y => a4 m' H' x y⟩
          · obtain ⟨sr, rfl, e3⟩ := lift_some e2
            refine ⟨m, e0, hh, _, h2, a1, a2, e1, fun m' H' x' y' v g => ?_⟩
            unfold zipD at e3
            split at e3
            · cases e3
              have hK := f.K
              have rd2 := rd.ext x'
              obtain ⟨K, W, cls, fld, Wx, hk⟩ := G
              have hK : X.K = K := hK
              subst hK
              obtain ⟨a, vs, rfl, ha, ga⟩ := rd2
              obtain ⟨b, us, rfl, hb, gb⟩ := g
              exact ⟨a, b, vs, us, rfl, .inr ⟨SqT.of ha, SqT.of hb, a4 m' H' x' y' _ (drv_zip ha hb ga gb)⟩⟩
            · cases e3
        · exact PI.of iA (fun σ H R h => by
            obtain ⟨m, e0, hh, r, h', a1, a2, a3, a4⟩ := h
            cases a3)
      · exact iA
  · exact iA
end
end Dd

set_option Elab.async false
set_option linter.all false
set_option maxRecDepth 100000
set_option maxHeartbeats 4000000
namespace Dd
open PySem PySem.Spec PyProof.Rows L2

/-! # 17. Targets -/
theorem wipe_get : ∀ (vs : List Nat) (σ : L2.St) (j : Nat), (wipe σ vs)[j]? = if j ∈ vs then (σ[j]?).map (fun _ => none) else σ[j]? := by
  intro vs
  induction vs with
  | nil => intro σ j; rfl
  | cons v vs ih =>
    intro σ j
    unfold wipe
    rw [List.getElem?_set]
    by_cases e : v = j
    · subst e
      rw [if_pos rfl, if_pos List.mem_cons_self, wipe_length]
      by_cases hl : v < σ.length
      · rw [if_pos hl, List.getElem?_eq_getElem hl]; rfl
      · rw [if_neg hl, List.getElem?_eq_none (Nat.le_of_not_lt hl)]; rfl
    · rw [if_neg e, ih]
      by_cases h2 : j ∈ vs
      · rw [if_pos h2, if_pos (List.mem_cons_of_mem _ h2)]
      · rw [if_neg h2, if_neg (fun z => (List.mem_cons.mp z).elim (fun z => e z.symm) h2)]
theorem wipe_set {σ : L2.St} {i : Nat} {y : Option V} {vs : List Nat} (hv : i ∈ vs) : wipe (σ.set i y) vs = wipe σ vs := by
  apply List.ext_getElem?
  intro j
  rw [wipe_get, wipe_get, List.getElem?_set]
  by_cases e : i = j
  · subst e
    rw [if_pos hv, if_pos hv, if_pos rfl]
    by_cases hl : i < σ.length
    · rw [if_pos hl, List.getElem?_eq_getElem hl]; rfl
    · rw [if_neg hl, List.getElem?_eq_none (Nat.le_of_not_lt hl)]
  · rw [if_neg e]
theorem wipe_wipe {σ : L2.St} {vs : List Nat} : wipe (wipe σ vs) vs = wipe σ vs := by
  apply List.ext_getElem?
  intro j
  rw [wipe_get, wipe_get]
  split
  · cases σ[j]? <;> rfl
  · rfl
/-- what a target does -/
def gG (G : Pc) (t : Tg) : TG := fun x σ H Q => ∃ m e h d e1, G.H m h H ∧ EnvR G m H e σ ∧ G.R m H d x ∧ t.put d h e = some e1 ∧
  ∀ σ', EnvR G m H e1 σ' → (∀ vs, (∀ i ∈ t.ixs, i ∈ vs) → wipe σ' vs = wipe σ vs) → Q σ' H
def gsG (G : Pc) (is : List Nat) : TGs := fun xs σ H Q => ∃ m e ds e1, EnvR G m H e σ ∧ G.Rs m H ds xs ∧ setAll is ds e = some e1 ∧
  ∀ σ', EnvR G m H e1 σ' → (∀ vs, (∀ i ∈ is, i ∈ vs) → wipe σ' vs = wipe σ vs) → Q σ' H
theorem PG.of {X : Cx} {e : Expr} {t t' : TG} (h : PG X e t) (w : ∀ v σ H Q, t' v σ H Q → t v σ H Q) : PG X e t' := ⟨fun pins s σ H v u Q I r q => h.run pins s σ H v u Q I r (w v σ H Q q)⟩
theorem PG.or {X : Cx} {e : Expr} {t t' u : TG} (h : PG X e t) (h' : PG X e t') (w : ∀ v σ H Q, u v σ H Q → t v σ H Q ∨ t' v σ H Q) : PG X e u :=
  ⟨fun pins s σ H v u Q I r q => (w v σ H Q q).elim (h.run pins s σ H v u Q I r) (h'.run pins s σ H v u Q I r)⟩
section
variable {X : Cx} {C : CE} {G : Pc} {F : Call} {S : Sm}
theorem nmIx_some {e : Expr} {i : Nat} (h : nmIx C e = some i) : ∃ x p, e = .Name x p ∧ locIx C x = some i ∧ isHk C i = false := by
  unfold nmIx at h
  split at h
  · split at h
    · split at h
      · cases h
      · rename_i hn
        cases h
        exact ⟨_, _, rfl, by assumption, by simpa using hn⟩
    · cases h
  · cases h
theorem pg_nm (f : Fit X C G F) {e : Expr} {i : Nat} (h : nmIx C e = some i) : PG X e (gName i) := by
  obtain ⟨x, p, rfl, hl, _⟩ := nmIx_some h
  obtain ⟨a1, a2, a3⟩ := f.loc hl
  exact pg_name (by rw [f.N]; exact f.nd) a1 a2 a3
theorem nmsIx_len : ∀ {es : List Expr} {is : List Nat}, nmsIx C es = some is → es.length = is.length
  | [], _, h => by cases h; rfl
  | e :: es, _, h => by
    unfold nmsIx at h
    split at h
    · rename_i i is h1 h2
      cases h
      rw [List.length_cons, List.length_cons, nmsIx_len h2]
    · cases h
theorem pgs_nm (f : Fit X C G F) : ∀ {es : List Expr} {is : List Nat}, nmsIx C es = some is → PGs X es (gsG G is) ∧ (assignEach es X.env).length = es.length ∧ (assignEach es X.env).findIdx? (·.1) = none
  | [], _, h => by
    cases h
    refine ⟨⟨fun pins s σ H vs us Q I r q => pgs_nil.run pins s σ H vs us Q I r ?_⟩, rfl, rfl⟩
    obtain ⟨m, e, ds, e1, a1, a2, a3, a4⟩ := q
    cases ds with
    | nil => cases a3; cases (show vs = [] from a2); exact ⟨rfl, a4 σ a1 fun _ _ => rfl⟩
    | cons => cases a3
  | e :: es, _, h => by
    unfold nmsIx at h
    split at h
    · rename_i i is h1 h2
      cases h
      obtain ⟨b1, b2, b3⟩ := pgs_nm f h2
      have h1' := h1
      obtain ⟨x, p, rfl, hl, hk⟩ := nmIx_some h1
      have b4 : assignEach (.Name x p :: es) X.env = (false, assign (.Name x p) X.env) :: assignEach es X.env := rfl
      refine ⟨⟨fun pins s σ H vs us Q I r q => (pgs_cons (pg_nm f h1') b1 rfl).run pins s σ H vs us Q I r ?_⟩, by rw [b4, List.length_cons, List.length_cons, b2], by rw [b4, List.findIdx?_cons, b3]; rfl⟩
      obtain ⟨m, e, ds, e1, a1, a2, a3, a4⟩ := q
      cases ds with
      | nil => cases a3
      | cons d ds =>
        obtain ⟨v, vr, rfl, rv, rr⟩ := a2
        refine ⟨v, vr, rfl, m, e.set i (some d), ds, e1, a1.set (f.noHk hk) rv, rr, a3, fun σ' y1 y2 => a4 σ' y1 fun ws hw => ?_⟩
        rw [y2 ws fun j hj => hw j (List.mem_cons_of_mem _ hj), wipe_set (hw i List.mem_cons_self)]
    · cases h
theorem pg_tg (f : Fit X C G F) {tg : Expr} {t : Tg} (h : tgOf C tg = some t) : PG X tg (gG G t) := by
  unfold tgOf at h
  split at h
  · obtain ⟨i, e1, e2⟩ := map_some h
    subst e2
    refine PG.of (pg_nm f e1) fun v σ H Q q => ?_
    obtain ⟨m, e, hh, d, e', a1, a2, a3, a4, a5⟩ := q
    obtain ⟨x, p, e0, hl, hk⟩ := nmIx_some e1
    cases a4
    exact a5 _ (a2.set (f.noHk hk) a3) fun vs hv => wipe_set (hv i (List.mem_singleton.mpr rfl))
  · split at h
    · rename_i hc
      obtain ⟨is, e1, e2⟩ := map_some h
      subst e2
      obtain ⟨b1, b2, b3⟩ := pgs_nm f e1
      have hc : X.calm = true := by rw [f.calm]; exact hc
      refine PG.or (pg_tup hc b1 b2 b3) (pg_lst hc b1 b2 b3) fun v σ H Q q => ?_
      obtain ⟨K, W, cls, fld, Wx, hk⟩ := G
      have hK : X.K = K := f.K
      subst hK
      obtain ⟨m, e, hh, d, e', a1, a2, a3, a4, a5⟩ := q
      have a4 : (match unpk d hh with | some ds => setAll is ds e | none => none) = some e' := a4
      have sal : ∀ {is : List Nat} {ds : List D} {e e' : DE}, setAll is ds e = some e' → ds.length = is.length := by
        intro is
        induction is with
        | nil => intro ds e e' h; cases ds with
          | nil => rfl
          | cons => cases h
        | cons i is ih => intro ds e e' h; cases ds with
          | nil => cases h
          | cons d ds => rw [List.length_cons, List.length_cons, ih h]
      cases d with
      | tup xs =>
        obtain ⟨a, vs, rfl, ha, ga⟩ := a3
        exact .inl ⟨a, vs, rfl, SqT.of ha, by rw [nmsIx_len e1, ga.length, sal a4], m, e, xs, e', a2, ga, a4, a5⟩
      | kt xs =>
        obtain ⟨a, vs, rfl, ha, ga⟩ := a3
        have ga := RelKs.relDs (w := W) (m := m) (H := H) xs vs ga
        exact .inl ⟨a, vs, rfl, ha.sq, by rw [nmsIx_len e1, ga.length, sal a4], m, e, xs, e', a2, ga, a4, a5⟩
      | ref i =>
        cases hu : lstAt hh i with
        | none => unfold unpk at a4; dsimp only at a4; rw [hu] at a4; cases a4
        | some xs =>
          unfold unpk at a4
          dsimp only at a4
          rw [hu] at a4
          obtain ⟨a, vs, rfl, ma, ha, ga⟩ := ref_lst a1 a3 hu
          exact .inr ⟨a, vs, rfl, SqL.of ha, by rw [nmsIx_len e1, ga.length, sal a4], m, e, xs, e', a2, ga, a4, a5⟩
      | _ => cases a4
    · cases h
  · cases h
end
/-! # 18. Comprehensions -/
/-- in a block nothing goes out -/
def Pc.blk (G : Pc) : Pc := { G with W := fun _ _ _ _ => False }
theorem EnvR.toBlk {G : Pc} {m : List Addr} {H : Hp} {e : DE} {σ : L2.St} (h : EnvR G m H e σ) : EnvR G.blk m H e σ := ⟨h.len, h.slot⟩
section
variable {X : Cx} {C : CE} {G : Pc} {F : Call} {S : Sm}
theorem Fit.blk (f : Fit X C G F) (hc : C.calm = true) (scope : Scope) (s : Shared) (H : Hp) (c : Addr) (cl : List (Str × Addr)) (fp : List Addr) :
    Fit (X.blk s H scope (compEnvC scope cl c X.env) fp) (C.inBlk scope) G.blk F where
  N := f.N
  nd := f.nd
  sc := by show relS scope X.env.scope = relS scope C.sc; rw [f.sc]
  calm := f.calm
  fn := fun x h => by
    have h : (false || decide (scope.names.lookup x = some .cell)) = true := h
    rw [Bool.false_or] at h
    show (scope.names.lookup x == some .cell) = true
    rw [of_decide_eq_true h]; rfl
  K := f.K
  w := f.w
  tk := takes0
  pass := PassesOwn.never
  un := f.un
  gd := f.gd
  blt := f.blt
  con := f.con
  fns := f.fns
  own := fun h => nomatch (show false = true from h)
  exc := f.exc
  excF := f.excF
  room := f.room
  hkc := f.hkc
  hk0 := f.hk0
  hk1 := fun i c h => nomatch (show none = some (i, c) from (f.hkc hc).symm.trans h)
end
end Dd

set_option Elab.async false
set_option linter.all false
set_option maxRecDepth 100000
set_option maxHeartbeats 4000000
namespace Dd
open PySem PySem.Spec PyProof.Rows L2

section
variable {G : Pc} {σ : L2.St} {H : Hp} {Q : VK}
/-- the walk of a list comprehension, by the plain loop -/
theorem lc_main {it : M Src} {t : Tg} {c : M Bool} {mm : M D} {vs : List Nat} (ht : ∀ i ∈ t.ixs, i ∈ vs) (hyp : tG G G.R (lcM vs it t c mm) σ H Q) :
    tLc (iG G it) (gG G.blk t) (tG G.blk relB c) (tG G.blk G.blk.R mm) vs σ H Q := by
  obtain ⟨m, e, h, r, h', a1, a2, a3, a4⟩ := hyp
  rcases bnd_some a3 with ⟨k, p, e1, rfl⟩ | ⟨s, h1, e1, e2⟩
  · exact ⟨m, e, h, _, h', a1, a2, e1, a4⟩
  refine ⟨m, e, h, _, h1, a1, a2, e1, fun m1 H1 x1 y1 J dr D hD => ?_⟩
  obtain ⟨hz, e3, e4⟩ := map_some e2
  cases e4
  generalize hhz : h' = h'0 at e3 a4
  obtain ⟨b1, b2, b3⟩ := new_lst (K := G.K) (w := G.w) (m := m1) (h := h1) (H := H1) (p := D) (ds := []) (vs := []) y1 hD RelDs.nil
  have e0 := ((a2.ext x1).ext b2).wipe vs
  obtain ⟨p, q1, q2⟩ := b3
  cases q2
  refine ⟨fun i n H' => n = s.len - i ∧ ∃ m' h', Ext (m1 ++ [D]) (upd H1 D (.lst [])) m' H' ∧ G.H m' h' H' ∧ i ≤ s.len ∧ lcLoop s t c mm h1.length (wipeE e vs) (s.len - i) i h' = some h'0, ⟨s.len, rfl, _, _, Ext.refl _ _, b1, Nat.zero_le _, e3⟩, ?_⟩
  rintro i n H' ⟨rfl, m', h', c1, c2, c3, c4⟩
  obtain ⟨d1, d2⟩ := dr m' h' H' (b2.trans c1) c2
  by_cases hi : i = s.len
  · subst hi
    rw [Nat.sub_self] at c4
    have c4 : (if s.done h' then some h' else none) = some h'0 := c4
    split at c4
    · rename_i hd
      cases c4
      exact .inl ⟨d2 hd, a4 m' H' (x1.trans (b2.trans c1)) c2 _ ⟨D, c1.ix q1, rfl⟩⟩
    · cases c4
  · obtain ⟨k, hk⟩ : ∃ k, s.len - i = k + 1 := ⟨s.len - i - 1, by omega⟩
    rw [hk] at c4
    dsimp only [lcLoop] at c4
    split at c4
    · cases c4
    rename_i d hd
    obtain ⟨j1, j2⟩ := d1 i d hd
    refine .inr ⟨j1, fun H' => ∃ m' h', Ext (m1 ++ [D]) (upd H1 D (.lst [])) m' H' ∧ G.H m' h' H' ∧ lcLoop s t c mm h1.length (wipeE e vs) k (i + 1) h' = some h'0,
      fun H'' ⟨m', h', l1, l2, l3⟩ => ⟨k, by omega, by omega, m', h', l1, l2, by omega, by rw [show s.len - (i + 1) = k by omega]; exact l3⟩, fun x H'' hy => ?_⟩
    obtain ⟨z1, z2, z3⟩ := j2 x H'' hy
    split at c4
    · cases c4
    rename_i e1' he1
    refine ⟨m', wipeE e vs, h', d, e1', z2, (e0.ext (c1.trans z1)).toBlk, z3, he1, fun σ2 s1 s2 => ⟨(s2 vs ht).trans wipe_wipe, ?_⟩⟩
    split at c4
    · rename_i h2 hc2
      refine ⟨m', e1', h', _, h2, z2, s1, hc2, fun m3 H3 x3 y3 b hb => ?_⟩
      cases (show true = b from hb)
      rw [if_pos rfl]
      split at c4
      · rename_i xd h3 hm2
        refine ⟨m3, e1', h2, _, h3, y3, s1.ext x3, hm2, fun m4 H4 x4 y4 y hy => ?_⟩
        split at c4
        · rename_i acc hacc
          split at c4
          · rename_i hlt
            obtain ⟨p, us, w0, q2, q3, q4⟩ := ref_lst y4 (x := .ref D) ⟨D, (c1.trans (z1.trans (x3.trans x4))).ix q1, rfl⟩ hacc
            cases w0
            obtain ⟨w1, w2⟩ := y4.write (ob := .lst (acc ++ [xd])) (o := .lst (us ++ [y])) q2 ⟨_, rfl, q4.append (RelDs.one hy)⟩
            exact ⟨us, q3, by rw [q4.length, ← Z_eq]; exact hlt, m4, _, c1.trans (z1.trans (x3.trans (x4.trans w2))), w1, c4⟩
          · cases c4
        · cases c4
      · cases c4
    · rename_i h2 hc2
      refine ⟨m', e1', h', _, h2, z2, s1, hc2, fun m3 H3 x3 y3 b hb => ?_⟩
      cases (show false = b from hb)
      rw [if_neg (fun z => nomatch z)]
      exact ⟨m3, h2, c1.trans (z1.trans x3), y3, c4⟩
    · cases c4
end
section
variable {X : Cx} {C : CE} {G : Pc} {F : Call} {S : Sm}
theorem folded {it : Expr} (h : isSetE it = false) : ∀ x, foldedSetIterable it X.env x = pure x := by
  intro x
  cases it <;> first | rfl | cases h
theorem blk_ok (f : Fit X C G F) {sc : Scope} {own : List (Str × Nat)} (h : blkC C.N C.sc sc own = true) : BlkOk X.N X.env.scope sc own := by
  rw [f.N, f.sc]
  exact blkOk_by h
theorem ixs_in {t : Tg} {vs : List Nat} (h : (t.ixs.all fun i => decide (i ∈ vs)) = true) : ∀ i ∈ t.ixs, i ∈ vs := fun i hi => of_decide_eq_true (List.all_eq_true.mp h i hi)
/-- what a comprehension asks -/
theorem compT_some {C : CE} {tg it : Expr} {sc : Scope} {t : Tg} (h : compT C tg it sc = some t) : C.calm = true ∧ blkC C.N C.sc sc (ownOf C.N sc) = true ∧ isSetE it = false ∧ tgOf (C.inBlk sc) tg = some t ∧ ∀ i ∈ t.ixs, i ∈ (ownOf C.N sc).map (·.2) := by
  unfold compT at h
  split at h
  · rename_i hc
    simp only [Bool.and_eq_true, Bool.not_eq_true'] at hc
    split at h
    · rename_i t' ht
      split at h
      · rename_i hi
        cases h
        exact ⟨hc.1.1, hc.1.2, hc.2, ht, ixs_in hi⟩
      · cases h
    · cases h
  · cases h
theorem yes_ret {σ : L2.St} {H : Hp} {Q : Bool → Hp → Prop} (h : tG G relB (ret true) σ H Q) : tYes σ H Q := by
  obtain ⟨m, e, hh, a1, a2, a3⟩ := tG_ret h
  exact a3 true rfl
theorem PTs.of {es : List Expr} {t t' : TT} (h : PTs X es t) (w : ∀ σ H Q, t' σ H Q → t σ H Q) : PTs X es t' := ⟨fun pins s σ H Q I q => h.run pins s σ H Q I (w σ H Q q)⟩
theorem comp_main {elt tg it : Expr} {ifs : List Expr} {sc : Scope} (hE : OkE S F) (hT : OkT S F) (hI : OkI S F) (f : Fit X C G F) {σ : L2.St} {H : Hp} {Q : VK} (h : tG G G.R (compE S C elt tg it ifs sc) σ H Q) :
    ∃ t c, compT C tg it sc = some t ∧ (∀ (s : Shared) (H : Hp) (a : Addr) (cl : List (Str × Addr)) (fp : List Addr), PTs (X.blk s H sc (compEnvC sc cl a X.env) fp) ifs (tG G.blk relB c)) ∧
      tLc (iG G (S.I C tg it)) (gG G.blk t) (tG G.blk relB c) (tG G.blk G.blk.R (S.E (C.inBlk sc) elt)) ((ownOf C.N sc).map (·.2)) σ H Q := by
  unfold compE at h
  split at h
  · rename_i t ht
    obtain ⟨c1, c2, c3, c4, c5⟩ := compT_some ht
    split at h
    · exact ⟨t, _, ht, fun s H a cl fp => PTs.of pts_nil fun σ H Q q => yes_ret q, lc_main c5 h⟩
    · exact ⟨t, _, ht, fun s H a cl fp => pts_one (hT _ _ _ (f.blk c1 sc s H a cl fp) _), lc_main c5 h⟩
    · exact (tG_stuck h).elim
  · exact (tG_stuck h).elim
theorem e_lc {elt tg it : Expr} {ifs : List Expr} {sc : Scope} {pos : Pos} (hE : OkE S F) (hT : OkT S F) (hI : OkI S F) (f : Fit X C G F) :
    PE X (.ListComp elt [⟨tg, it, ifs, 0⟩] sc pos) (tG G G.R (compE S C elt tg it ifs sc)) := by
  refine ⟨fun pins s σ H Q I q => ?_⟩
  obtain ⟨t, c, ht, pt, q⟩ := comp_main hE hT hI f q
  obtain ⟨c1, c2, c3, c4, c5⟩ := compT_some ht
  exact (pe_lc (by rw [f.calm]; exact c1) (by rw [f.N]; exact f.nd) (hI X C G f tg it) (blk_ok f c2) (fun s H a cl fp => pg_tg (f.blk c1 sc s H a cl fp) c4) pt
    (fun s H a cl fp => hE _ _ _ (f.blk c1 sc s H a cl fp) elt) (folded c3)).run pins s σ H Q I q
theorem s_lc {elt tg it : Expr} {ifs : List Expr} {sc : Scope} {pos spos py : Pos} {i : Nat} {y : Str} (hE : OkE S F) (hT : OkT S F) (hI : OkI S F) (f : Fit X C G F) (hy : X.N[i]? = some y) (hyl : X.env.scope.names.lookup y = some .local)
    (hsw : swapsWith (.ListComp elt [⟨tg, it, ifs, 0⟩] sc pos) (some (.Name y py)) spos.line X.env = pure true) :
    PS X (.Assign [.Name y py] (.ListComp elt [⟨tg, it, ifs, 0⟩] sc pos) spos) (tAsg (tG G G.R (compE S C elt tg it ifs sc)) (gName i)) := by
  refine ⟨fun pins s σ H D I q => ?_⟩
  obtain ⟨t, c, ht, pt, q⟩ := comp_main hE hT hI f q
  obtain ⟨c1, c2, c3, c4, c5⟩ := compT_some ht
  exact (ps_setLc (by rw [f.calm]; exact c1) (by rw [f.N]; exact f.nd) hy hyl hsw (hI X C G f tg it) (blk_ok f c2) (fun s H a cl fp => pg_tg (f.blk c1 sc s H a cl fp) c4) pt
    (fun s H a cl fp => hE _ _ _ (f.blk c1 sc s H a cl fp) elt) (folded c3)).run pins s σ H D I q
end
end Dd

set_option Elab.async false
set_option linter.all false
set_option maxRecDepth 100000
set_option maxHeartbeats 4000000
namespace Dd
open PySem PySem.Spec PyProof.Rows L2

/-! # 19. {k: v for ..}, the keys tuples -/
/-- one more pair -/
theorem put_tup {X : Cx} {pins : List (Addr × Obj)} {σ : L2.St} {H : Hp} {s : Shared} {E : Value → Shared → Prop} {p b : Addr} {kvs : List (List Key × V)} {k : List Key} {v : V} {r : Value} {Q : Unit → Shared → Prop}
    (hu : X.A.units + 1 < cLine) (I : Inv X pins σ H s) (hp : H p = some (.dT kvs)) (hb : H b = some (.tup (k.map kV))) (hz : kvs.length < sizeLine) (rv : RelV v r) (q : ∀ t, Inv X pins σ (upd H p (.dT (putK kvs k v))) t → Q () t) :
    wpAny (model X.prog X.w) X.A (dictSet p (.ref b) r) Q E s := by
  obtain ⟨z, nd, xs, rel, dd⟩ := dt_of I.hok hp
  refine wpAny_dictSet_heap (hsz := by rw [← Paired.length rel]; exact z) (show X.A.units < cLine from Nat.lt_of_succ_lt hu) (key_of I.hok hb) dd fun h' ⟨o, es, ep, e1, e2, e3, e4, _, e5⟩ sb => q _ ?_
  have z' : (putK kvs k v).length ≤ sizeLine := Nat.le_trans (length_putK kvs k v) hz
  exact d_write I (by rw [hp]; exact True.intro) sb ⟨o, e1⟩
    ⟨z', nd, _, (rel.put k hb rv).keeps fun c ys ec => (upd_ne (ne_of ec hp (fun z => nomatch z))).trans ec, o, es, ep, e1, e2, e3, e4, e5⟩
section
variable {X : Cx}
def tDcT (wi : TI) (g : TG) (tk tv : TE) (vs : List Nat) : TE := fun σ H Q => wi σ H fun J H1 => ∀ p, H1 p = none → ∃ W : Nat → Nat → Hp → Prop, (∃ n, W 0 n (upd H1 p (.dT []))) ∧ ∀ i n H2, W i n H2 →
  (J.stop i H2 ∧ Q (.ref p) H2) ∨ (J.go i H2 ∧ ∃ Nx : Hp → Prop, (∀ H3, Nx H3 → ∃ n', n' < n ∧ W (i + 1) n' H3) ∧ ∀ x H3, J.yld i H2 x H3 → g x (wipe σ vs) H3 fun σ4 H4 => wipe σ4 vs = wipe σ vs ∧
    tk σ4 H4 fun y H5 => tv σ4 H5 fun z H6 => ∃ kvs k b, y = .ref b ∧ H6 b = some (.tup (k.map kV)) ∧ H6 p = some (.dT kvs) ∧ kvs.length < sizeLine ∧ Nx (upd H6 p (.dT (putK kvs k z))))
theorem dcT_core {pins : List (Addr × Obj)} {s : Shared} {σ : L2.St} {H : Hp} {Q : VK} {kx vx tg iter : Expr} {scope : Scope} {own : List (Str × Nat)} {pos pos' : Pos} {wi : TI} {g : TG} {tk tv : TE} {use : Option (Value → Sem Unit)} {Qf : Value → Shared → Prop}
    (hu : X.A.units + 1 < cLine) (hc : X.calm = true) (hN : X.N.Nodup) (I : Inv X pins σ H s) (hi : PI X tg iter wi) (ok : BlkOk X.N X.env.scope scope own)
    (hg : ∀ (s : Shared) (H : Hp) (a : Addr) (cl : List (Str × Addr)) (fp : List Addr), PG (X.blk s H scope (compEnvC scope cl a X.env) fp) tg g)
    (hk : ∀ (s : Shared) (H : Hp) (a : Addr) (cl : List (Str × Addr)) (fp : List Addr), PE (X.blk s H scope (compEnvC scope cl a X.env) fp) kx tk)
    (hv : ∀ (s : Shared) (H : Hp) (a : Addr) (cl : List (Str × Addr)) (fp : List Addr), PE (X.blk s H scope (compEnvC scope cl a X.env) fp) vx tv) (hs : ∀ x, foldedSetIterable iter X.env x = pure x)
    (h : tDcT wi g tk tv (own.map (·.2)) σ H Q)
    (fin : ∀ p c s' m H', Inv X pins σ H' s' → Q (.ref p) H' → s'.heap.Ns c m → FpOk X pins H' c → compPost (model X.prog X.w) X.A X.xe use Qf (.ref p) c (.ok .next) s') :
    wpAny (model X.prog X.w) X.A (comprehension (.DictComp kx vx [⟨tg, iter, [], 0⟩] scope pos) scope X.env pos' newDict false (eval iter X.env) use) Qf X.xe s := by
  have clo : ∀ y ∈ scope.names, y.2 = .free → ∃ c, X.env.cells.lookup y.1 = some c := fun y hy e => (ok.free y hy e).elim (fun k => I.ok.has _ (.inl k)) (fun k => I.ok.has _ (.inr k))
  refine wpAny_comprehension_free (use := use) rfl hs (closure_ok clo) ok.kind (fun y hy e => by rw [ok.uniq y hy, e]) (thn (hi.run pins s σ H _ I h) fun xv s1 hx => thn hx fun itv s2 h2 => ?_)
  obtain ⟨it, fp, tn, J, H2, rfl, I2, T, st2, f2, q⟩ := h2
  refine wpAny_newObj_type (newEnv_comp ?_)
  obtain ⟨p, hp⟩ : ∃ p, s2.heap.objs.size = p := ⟨_, rfl⟩
  obtain ⟨W, ⟨n0, w0⟩, turn⟩ := q p (I2.hok.fresh (Nat.le_of_eq hp))
  -- the dict
  obtain ⟨s3, e3⟩ : ∃ s3 : Shared, s3 = { s2 with heap := s2.heap.push { cls := .type "dict", data := .dict #[] } } := ⟨_, rfl⟩
  obtain ⟨H3, eH⟩ : ∃ H3, H3 = upd H2 p (.dT []) := ⟨_, rfl⟩
  have kp2 : ∀ b o, s2.heap.get? b = some o → s3.heap.get? b = some o := fun b o e => by rw [e3]; exact Heap.get?_push_of_some _ e
  have I3 : Inv X pins σ H3 s3 := by
    rw [e3, eH]
    refine I2.laid (t' := s2.toks) (fun b o e => Heap.get?_push_of_some _ e) (Nat.le_of_eq hp) ?_
    rw [← hp]
    exact dt_empty s2.heap I2.big
  have f3 : ∀ b ∈ fp, FpOk X pins H3 b ∧ b < s3.heap.objs.size := fun b hb => by
    obtain ⟨o, e, _⟩ := T.obj _ _ st2 b hb
    refine ⟨⟨?_, (f2 b hb).2⟩, Heap.lt_size (kp2 b o e)⟩
    rw [eH, upd_ne (by rw [← hp]; exact Nat.ne_of_lt (Heap.lt_size e))]
    exact (f2 b hb).1
  have st3 : tn 0 s3.heap := T.keep _ _ _ st2 fun b _ o e => kp2 b o e
  have I4 := block_start I3 ok hN f3
  obtain ⟨ce, ece⟩ : ∃ ce, ce = compEnvC scope (cellsFrom (s3.heap.objs.size + 1) scope.names (cloFrom X.env.cells scope.names [])) s3.heap.objs.size X.env := ⟨_, rfl⟩
  have pg := hg s3 H3 s3.heap.objs.size (cellsFrom (s3.heap.objs.size + 1) scope.names (cloFrom X.env.cells scope.names [])) fp
  have pk := hk s3 H3 s3.heap.objs.size (cellsFrom (s3.heap.objs.size + 1) scope.names (cloFrom X.env.cells scope.names [])) fp
  have pv := hv s3 H3 s3.heap.objs.size (cellsFrom (s3.heap.objs.size + 1) scope.names (cloFrom X.env.cells scope.names [])) fp
  obtain ⟨s4, e4⟩ : ∃ s4 : Shared, s4 = { s3 with heap := pushCells (s3.heap.push { cls := .type "dict", data := .dict #[] }) scope.names } := ⟨_, rfl⟩
  have st4 : tn 0 s4.heap := T.keep _ _ _ st3 fun b _ o e => by rw [e4]; exact pushCells_keeps _ _ _ _ (Heap.get?_push_of_some _ e)
  rw [← ece] at I4 pg pk pv
  rw [← e4] at I4
  have cl : ce.locals = s3.heap.objs.size := by rw [ece]; rfl
  have goal : codeAny (model X.prog X.w) X.A (.compStart (.DictComp kx vx [⟨tg, iter, [], 0⟩] scope pos) 0 (.ref it) (.ref p) ce) (compPost (model X.prog X.w) X.A X.xe use Qf (.ref p) s3.heap.objs.size) s4 := by
    have stat : ∀ {σ' : L2.St} {H' : Hp} {s' : Shared}, Inv (X.blk s3 H3 scope ce fp) [] σ' H' s' → (∀ b ∈ fp, H' b = none) → ∀ b ∈ fp, FpOk (X.blk s3 H3 scope ce fp) [] H' b := fun {σ' H' s'} J hn b hb =>
      ⟨hn b hb, (J.ok.exf b hb).1, J.ok.exfs b hb, .inl hb, fun x c e => (J.ok.exf b hb).2 x c e, fun p hp => absurd (show p ∈ ([] : List (Addr × Obj)) ++ [] from hp) (by simp)⟩
    have loop : codeAny (model X.prog X.w) X.A (.compLoop (.DictComp kx vx [⟨tg, iter, [], 0⟩] scope pos) 0 (.ref it) (.ref p) ce) (compPost (model X.prog X.w) X.A X.xe use Qf (.ref p) s3.heap.objs.size) s4 := by
      refine compLoop_anyD (fun n s' => ∃ i H', Inv (X.blk s3 H3 scope ce fp) [] (wipe σ (own.map (·.2))) H' s' ∧ tn i s'.heap ∧ (∀ b ∈ fp, H' b = none) ∧ W i n H') ?_ n0 ⟨0, H3, I4, st4, fun b hb => (f3 b hb).1.1, by rw [eH]; exact w0⟩
      rintro n s5 ⟨i, H5, I5, st5, n5, w5⟩
      rcases turn i n H5 w5 with ⟨stop, qq⟩ | ⟨go, Nx, hNx, step⟩
      · refine thnF (T.done (X.blk s3 H3 scope ce fp) rfl rfl rfl hc i [] s5 _ H5 (fun _ _ => False) I5 (stat I5 n5) st5 stop) fun r s6 ⟨hr, I6⟩ => ?_
        subst hr
        have I7 : Inv X pins σ H5 s6 := I3.call' (ch := fp) I6.os I6.base I6.hok I6.bare fun b hb => ⟨(f3 b hb).1.2.2.2.1, (f3 b hb).1.2.1, (f3 b hb).1.2.2.2.2.1, (f3 b hb).1.2.2.2.2.2⟩
        have z : H5 ce.locals = none := I6.free
        obtain ⟨mm, hn, _⟩ := I6.loc
        have hn : s6.heap.Ns ce.locals mm := hn
        rw [cl] at hn z
        exact fin p _ s6 mm H5 I7 qq hn (I3.fpOk (Nat.le_refl _) z)
      · refine thnF (T.item (X.blk s3 H3 scope ce fp) rfl rfl rfl hc i [] s5 _ H5 (fun _ _ => False) I5 (stat I5 n5) st5 go) fun r s6 ⟨u, hr, h6⟩ => ?_
        subst hr
        refine thnF h6 fun _ s7 ⟨x, H7, I7, r7, y7, st7, n7⟩ => ?_
        refine thnF (pg.run _ s7 _ H7 x u _ (I7.pinned (stat I7 n7) (T.obj _ _ st7)) r7 (step x H7 y7)) fun _ s8 ⟨σ8, H8, I8, hw8, q8⟩ => ?_
        refine thnF ((pts_nil (X := X.blk s3 H3 scope ce fp)).run _ s8 σ8 H8 (fun b H' => b = true ∧ H' = H8) I8 ⟨rfl, rfl⟩) fun b s9 ⟨H9, I9, hb, hH⟩ => ?_
        subst hb hH
        rw [if_pos rfl]
        refine thnF (pk.run _ s9 σ8 H9 _ I9 q8) fun ku s10 ⟨yk, H10, I10, r10, q10⟩ => ?_
        refine thnF (pv.run _ s10 σ8 H10 _ I10 q10) fun vu s11 ⟨yv, H11, I11, r11, kvs, k, b, ek, hb11, hp11, hz11, nx⟩ => ?_
        subst ek
        cases (show ku = Value.ref b from r10)
        refine put_tup (X := X.blk s3 H3 scope ce fp) hu I11 hp11 hb11 hz11 r11 fun s12 I12 => ?_
        obtain ⟨n', hn', w'⟩ := hNx _ nx
        have hold : ∀ b ∈ fp, ∀ o, s7.heap.get? b = some o → s12.heap.get? b = some o ∧ (upd H11 p (.dT (putK kvs k yv))) b = none := fun b hb o e =>
          let z := I12.pin (b, o) (List.mem_append_right _ (List.mem_append_right _ (mem_pinsAt hb e)))
          ⟨z.1, z.2.1⟩
        refine ⟨n', hn', i + 1, _, (I12.unpinned (pins := [])).weak (by rw [← hw8, wipe_length]) (fun j v e => ?_), T.keep _ _ _ st7 fun b hb o e => (hold b hb o e).1, fun b hb => ?_, w'⟩
        · rw [← hw8] at e
          exact (wipe_some e).1
        · obtain ⟨o, e, _⟩ := T.obj _ _ st7 b hb
          exact (hold b hb o e).2
    exact codeAny_compStart_dict loop (T.self X.A 0 _ _ _ st4 loop)
  rw [ece, e4] at goal
  rw [hp, ← e3]
  exact goal
theorem pe_dcT {kx vx tg iter : Expr} {scope : Scope} {own : List (Str × Nat)} {pos : Pos} {wi : TI} {g : TG} {tk tv : TE} (hu : X.A.units + 1 < cLine) (hc : X.calm = true) (hN : X.N.Nodup) (hi : PI X tg iter wi) (ok : BlkOk X.N X.env.scope scope own)
    (hg : ∀ (s : Shared) (H : Hp) (a : Addr) (cl : List (Str × Addr)) (fp : List Addr), PG (X.blk s H scope (compEnvC scope cl a X.env) fp) tg g)
    (hk : ∀ (s : Shared) (H : Hp) (a : Addr) (cl : List (Str × Addr)) (fp : List Addr), PE (X.blk s H scope (compEnvC scope cl a X.env) fp) kx tk)
    (hv : ∀ (s : Shared) (H : Hp) (a : Addr) (cl : List (Str × Addr)) (fp : List Addr), PE (X.blk s H scope (compEnvC scope cl a X.env) fp) vx tv) (hs : ∀ x, foldedSetIterable iter X.env x = pure x) :
    PE X (.DictComp kx vx [⟨tg, iter, [], 0⟩] scope pos) (tDcT wi g tk tv (own.map (·.2))) := by
  refine ⟨fun pins s σ H Q I h => ?_⟩
  rw [arm_eval_DictComp]
  refine dcT_core hu hc hN I hi ok hg hk hv hs h fun p c s' m H' I' q hn ⟨f0, f1, f2, f3, f4, f5⟩ => ⟨m, hn, fun h'' sb => ?_⟩
  exact ⟨.ref p, H', I'.turned (t' := s'.toks) (fun b o hb e => (sb.2 b hb).trans e) f0 f1 f3 f4 f5, rfl, q⟩
theorem ps_setDcT {i : Nat} {y : Str} {py spos : Pos} {kx vx tg iter : Expr} {scope : Scope} {own : List (Str × Nat)} {pos : Pos} {wi : TI} {g : TG} {tk tv : TE} (hu : X.A.units + 1 < cLine) (hc : X.calm = true) (hN : X.N.Nodup)
    (hy : X.N[i]? = some y) (hyl : X.env.scope.names.lookup y = some .local) (hsw : swapsWith (.DictComp kx vx [⟨tg, iter, [], 0⟩] scope pos) (some (.Name y py)) spos.line X.env = pure true) (hi : PI X tg iter wi) (ok : BlkOk X.N X.env.scope scope own)
    (hg : ∀ (s : Shared) (H : Hp) (a : Addr) (cl : List (Str × Addr)) (fp : List Addr), PG (X.blk s H scope (compEnvC scope cl a X.env) fp) tg g)
    (hk : ∀ (s : Shared) (H : Hp) (a : Addr) (cl : List (Str × Addr)) (fp : List Addr), PE (X.blk s H scope (compEnvC scope cl a X.env) fp) kx tk)
    (hv : ∀ (s : Shared) (H : Hp) (a : Addr) (cl : List (Str × Addr)) (fp : List Addr), PE (X.blk s H scope (compEnvC scope cl a X.env) fp) vx tv) (hs : ∀ x, foldedSetIterable iter X.env x = pure x) :
    PS X (.Assign [.Name y py] (.DictComp kx vx [⟨tg, iter, [], 0⟩] scope pos) spos) (tAsg (tDcT wi g tk tv (own.map (·.2))) (gName i)) := by
  refine ⟨fun pins s σ H D I h => ?_⟩
  rw [exec_Assign_Name_used _ _ _ _ hsw]
  refine wpAny_bind (wpAny_standAt (wpAny_bind ?_))
  show wpAny _ X.A (do let _ ← comprehension (.DictComp kx vx [⟨tg, iter, [], 0⟩] scope pos) scope X.env (firstIterPos [⟨tg, iter, [], 0⟩] pos) newDict false (eval iter X.env) (some (assign (.Name y py) X.env))) _ _ s
  have h : tDcT wi g tk tv (own.map (·.2)) σ H (fun x H1 => gName i x σ H1 D.nx) := h
  refine wpAny_bind (thn (dcT_core (Qf := fun _ s' => SP X pins D .next s') hu hc hN I hi ok hg hk hv hs h fun p c s' m H' I' q hn ⟨f0, f1, f2, f3, f4, f5⟩ => ?_) fun _ s' hq => wpAny_pure (wpAny_pure hq))
  refine wpAny_assign_Name (store_ok2 (v := V.ref p) I' hN hy (.inl hyl) rfl (fun s2 I2 ⟨a, sb, ha⟩ => ?_) (.inr hyl))
  have nc : c ≠ a := ha.elim (fun z => by rw [z]; exact f1) (fun z e => f4 y a z e.symm)
  exact ⟨m, hn.sameBut sb nc, fun h3 sb3 => ⟨_, H', I2.turned (t' := s2.toks) (fun b o hb e => (sb3.2 b hb).trans e) f0 f1 f3 f4 f5, q⟩⟩
end
end Dd

set_option Elab.async false
set_option linter.all false
set_option maxRecDepth 100000
set_option maxHeartbeats 4000000
namespace Dd
open PySem PySem.Spec PyProof.Rows L2

section
variable {κ : Type} [DecidableEq κ] {K : PySem.W.Frag} {w : World} {m : List Addr} {H : Hp}
theorem KV_any2 (k : κ) : ∀ {kvs : List (κ × D)} {vs : List (κ × V)}, RelKV K w m H kvs vs → (vs.any fun p => decide (p.1 = k)) = (kvs.any fun p => decide (p.1 = k))
  | [], vs, g => by cases (show vs = [] from g); rfl
  | p :: ps, vs, g => by
    obtain ⟨v, r, rfl, g1, g2⟩ := g
    rw [List.any_cons, List.any_cons, KV_any2 k g2]
theorem KV_repl (k : κ) {d : D} {v : V} (gd : RelD K w m H d v) : ∀ {kvs : List (κ × D)} {vs : List (κ × V)}, RelKV K w m H kvs vs →
    RelKV K w m H (kvs.map fun p => if p.1 = k then (p.1, d) else p) (vs.map fun p => if p.1 = k then (p.1, v) else p)
  | [], vs, g => by cases (show vs = [] from g); rfl
  | p :: ps, vs, g => by
    obtain ⟨u, r, rfl, g1, g2⟩ := g
    rw [List.map_cons, List.map_cons]
    by_cases e : p.1 = k
    · rw [if_pos e, if_pos e]
      exact ⟨v, _, rfl, gd, KV_repl k gd g2⟩
    · rw [if_neg e, if_neg e]
      exact ⟨u, _, rfl, g1, KV_repl k gd g2⟩
theorem KV_snoc (k : κ) {d : D} {v : V} (gd : RelD K w m H d v) : ∀ {kvs : List (κ × D)} {vs : List (κ × V)}, RelKV K w m H kvs vs → RelKV K w m H (kvs ++ [(k, d)]) (vs ++ [(k, v)])
  | [], vs, g => by cases (show vs = [] from g); exact ⟨v, [], rfl, gd, rfl⟩
  | p :: ps, vs, g => by
    obtain ⟨u, r, rfl, g1, g2⟩ := g
    exact ⟨u, _, rfl, g1, KV_snoc k gd g2⟩
theorem KV_put {kvs : List (κ × D)} {vs : List (κ × V)} (k : κ) {d : D} {v : V} (g : RelKV K w m H kvs vs) (gd : RelD K w m H d v) : RelKV K w m H (putD kvs k d) (putK vs k v) := by
  unfold putD putK
  rw [KV_any2 k g]
  split
  · exact KV_repl k gd g
  · exact KV_snoc k gd g
theorem KV_len : ∀ {kvs : List (κ × D)} {vs : List (κ × V)}, RelKV K w m H kvs vs → vs.length = kvs.length := fun g => (KV_any g).2
end
theorem ref_dt {K : PySem.W.Frag} {w : World} {m : List Addr} {h : DH} {H : Hp} (r : RH K w m h H) {i : Nat} {a : Addr} (ha : m[i]? = some a) {kvs : List (List Key × D)} (e : h[i]? = some (.dt kvs)) : ∃ vs, H a = some (.dT vs) ∧ RelKV K w m H kvs vs := by
  obtain ⟨o, e1, vs, rfl, g⟩ := r.get ha e
  exact ⟨vs, e1, g⟩
theorem ref_dk {K : PySem.W.Frag} {w : World} {m : List Addr} {h : DH} {H : Hp} (r : RH K w m h H) {i : Nat} {a : Addr} (ha : m[i]? = some a) {kvs : List (Key × D)} (e : h[i]? = some (.dk kvs)) : ∃ vs, H a = some (.dK vs) ∧ RelKV K w m H kvs vs := by
  obtain ⟨o, e1, vs, rfl, g⟩ := r.get ha e
  exact ⟨vs, e1, g⟩
section
variable {G : Pc} {σ : L2.St} {H : Hp} {Q : VK}
/-- the walk of a dict comprehension -/
theorem dc_main {it : M Src} {t : Tg} {mk mv : M D} {vs : List Nat} (ht : ∀ i ∈ t.ixs, i ∈ vs) (hyp : tG G G.R (dcM vs it t mk mv) σ H Q) :
    tDcT (iG G it) (gG G.blk t) (tG G.blk G.blk.R mk) (tG G.blk G.blk.R mv) vs σ H Q := by
  obtain ⟨m, e, h, r, h', a1, a2, a3, a4⟩ := hyp
  rcases bnd_some a3 with ⟨k, p, e1, rfl⟩ | ⟨s, h1, e1, e2⟩
  · exact ⟨m, e, h, _, h', a1, a2, e1, a4⟩
  refine ⟨m, e, h, _, h1, a1, a2, e1, fun m1 H1 x1 y1 J dr D hD => ?_⟩
  obtain ⟨hz, e3, e4⟩ := map_some e2
  cases e4
  obtain ⟨b1, b2⟩ := y1.alloc (p := D) (ob := .dt []) (o := .dT []) hD ⟨[], rfl, rfl⟩
  have q1 : (m1 ++ [D])[h1.length]? = some D := ix_last y1
  have e0 := ((a2.ext x1).ext b2).wipe vs
  refine ⟨fun i n H' => n = s.len - i ∧ ∃ m' h'', Ext (m1 ++ [D]) (upd H1 D (.dT [])) m' H' ∧ G.H m' h'' H' ∧ i ≤ s.len ∧ dcLoop s t mk mv h1.length (wipeE e vs) (s.len - i) i h'' = some h', ⟨s.len, rfl, _, _, Ext.refl _ _, b1, Nat.zero_le _, e3⟩, ?_⟩
  rintro i n H' ⟨rfl, m', h'', c1, c2, c3, c4⟩
  obtain ⟨d1, d2⟩ := dr m' h'' H' (b2.trans c1) c2
  by_cases hi : i = s.len
  · subst hi
    rw [Nat.sub_self] at c4
    have c4 : (if s.done h'' then some h'' else none) = some h' := c4
    split at c4
    · rename_i hd
      cases c4
      exact .inl ⟨d2 hd, a4 m' H' (x1.trans (b2.trans c1)) c2 _ ⟨D, c1.ix q1, rfl⟩⟩
    · cases c4
  · obtain ⟨k, hk⟩ : ∃ k, s.len - i = k + 1 := ⟨s.len - i - 1, by omega⟩
    rw [hk] at c4
    dsimp only [dcLoop] at c4
    split at c4
    · cases c4
    rename_i d hd
    obtain ⟨j1, j2⟩ := d1 i d hd
    refine .inr ⟨j1, fun H' => ∃ m' h'', Ext (m1 ++ [D]) (upd H1 D (.dT [])) m' H' ∧ G.H m' h'' H' ∧ dcLoop s t mk mv h1.length (wipeE e vs) k (i + 1) h'' = some h',
      fun H'' ⟨m', h'', l1, l2, l3⟩ => ⟨k, by omega, by omega, m', h'', l1, l2, by omega, by rw [show s.len - (i + 1) = k by omega]; exact l3⟩, fun x H'' hy => ?_⟩
    obtain ⟨z1, z2, z3⟩ := j2 x H'' hy
    split at c4
    · cases c4
    rename_i e1' he1
    refine ⟨m', wipeE e vs, h'', d, e1', z2, (e0.ext (c1.trans z1)).toBlk, z3, he1, fun σ2 s1 s2 => ⟨(s2 vs ht).trans wipe_wipe, ?_⟩⟩
    split at c4
    · rename_i ks h2 hc2
      refine ⟨m', e1', h'', _, h2, z2, s1, hc2, fun m3 H3 x3 y3 y gy => ?_⟩
      split at c4
      · rename_i xd h3 hm2
        refine ⟨m3, e1', h2, _, h3, y3, s1.ext x3, hm2, fun m4 H4 x4 y4 z gz => ?_⟩
        split at c4
        · rename_i kk kvs hkk hacc
          split at c4
          · rename_i hlt
            have ix := (c1.trans (z1.trans (x3.trans x4))).ix q1
            obtain ⟨us, q3, q4⟩ := ref_dt y4 ix hacc
            obtain ⟨b, bs, rfl, hb, gb⟩ := RelD.ext x4 (.tup ks) y gy
            obtain ⟨w1, w2⟩ := y4.write (ob := .dt (putD kvs kk xd)) (o := .dT (putK us kk z)) ix ⟨_, rfl, KV_put kk q4 gz⟩
            exact ⟨us, kk, b, rfl, by rw [hb, keysD_rel hkk gb], q3, by rw [KV_len q4, ← Z_eq]; exact hlt, m4, _, c1.trans (z1.trans (x3.trans (x4.trans w2))), w1, c4⟩
          · cases c4
        · cases c4
      · cases c4
    · cases c4
end
section
variable {X : Cx} {C : CE} {G : Pc} {F : Call} {S : Sm}
theorem dcomp_main {k v tg it : Expr} {sc : Scope} {σ : L2.St} {H : Hp} {Q : VK} (h : tG G G.R (dcompE S C k v tg it sc) σ H Q) :
    ∃ t, compT C tg it sc = some t ∧ tDcT (iG G (S.I C tg it)) (gG G.blk t) (tG G.blk G.blk.R (S.E (C.inBlk sc) k)) (tG G.blk G.blk.R (S.E (C.inBlk sc) v)) ((ownOf C.N sc).map (·.2)) σ H Q := by
  unfold dcompE at h
  split at h
  · rename_i t ht
    exact ⟨t, ht, dc_main (compT_some ht).2.2.2.2 h⟩
  · exact (tG_stuck h).elim
theorem e_dc {k v tg it : Expr} {sc : Scope} {pos : Pos} (hE : OkE S F) (hI : OkI S F) (f : Fit X C G F) : PE X (.DictComp k v [⟨tg, it, [], 0⟩] sc pos) (tG G G.R (dcompE S C k v tg it sc)) := by
  refine ⟨fun pins s σ H Q I q => ?_⟩
  obtain ⟨t, ht, q⟩ := dcomp_main q
  obtain ⟨c1, c2, c3, c4, c5⟩ := compT_some ht
  exact (pe_dcT (by have := f.un; omega) (by rw [f.calm]; exact c1) (by rw [f.N]; exact f.nd) (hI X C G f tg it) (blk_ok f c2) (fun s H a cl fp => pg_tg (f.blk c1 sc s H a cl fp) c4)
    (fun s H a cl fp => hE _ _ _ (f.blk c1 sc s H a cl fp) k) (fun s H a cl fp => hE _ _ _ (f.blk c1 sc s H a cl fp) v) (folded c3)).run pins s σ H Q I q
theorem s_dc {k v tg it : Expr} {sc : Scope} {pos spos py : Pos} {i : Nat} {y : Str} (hE : OkE S F) (hI : OkI S F) (f : Fit X C G F) (hy : X.N[i]? = some y) (hyl : X.env.scope.names.lookup y = some .local)
    (hsw : swapsWith (.DictComp k v [⟨tg, it, [], 0⟩] sc pos) (some (.Name y py)) spos.line X.env = pure true) :
    PS X (.Assign [.Name y py] (.DictComp k v [⟨tg, it, [], 0⟩] sc pos) spos) (tAsg (tG G G.R (dcompE S C k v tg it sc)) (gName i)) := by
  refine ⟨fun pins s σ H D I q => ?_⟩
  obtain ⟨t, ht, q⟩ := dcomp_main q
  obtain ⟨c1, c2, c3, c4, c5⟩ := compT_some ht
  exact (ps_setDcT (by have := f.un; omega) (by rw [f.calm]; exact c1) (by rw [f.N]; exact f.nd) hy hyl hsw (hI X C G f tg it) (blk_ok f c2) (fun s H a cl fp => pg_tg (f.blk c1 sc s H a cl fp) c4)
    (fun s H a cl fp => hE _ _ _ (f.blk c1 sc s H a cl fp) k) (fun s H a cl fp => hE _ _ _ (f.blk c1 sc s H a cl fp) v) (folded c3)).run pins s σ H D I q
/-! # 20. Displays of dicts -/
def RelPs (K : PySem.W.Frag) (w : World) (m : List Addr) (H : Hp) (ds : List (D × D)) (vs : List (V × V)) : Prop := RelDs K w m H (ds.map (·.1)) (vs.map (·.1)) ∧ RelDs K w m H (ds.map (·.2)) (vs.map (·.2))
theorem pairs_main {σ : L2.St} : ∀ {ms : List (M D × M D)} {H : Hp} {Q : List (V × V) → Hp → Prop} {m : List Addr} {e : DE} {h h' : DH} {kvs : List (D × D)}, G.H m h H → EnvR G m H e σ → dispL ms e h = some (.ok kvs, h') →
    (∀ m' H', Ext m H m' H' → G.H m' h' H' → ∀ ps, RelPs G.K G.w m' H' kvs ps → Q ps H') → tPairs (ms.map fun p => (tG G G.R p.1, tG G G.R p.2)) σ H Q
  | [], H, Q, m, e, h, h', kvs, a1, a2, a3, a4 => by
    cases a3
    exact a4 m H (Ext.refl _ _) a1 [] ⟨rfl, rfl⟩
  | p :: ms, H, Q, m, e, h, h', kvs, a1, a2, a3, a4 => by
    rcases bnd_some a3 with ⟨c, q, _, z⟩ | ⟨k, h1, e1, e2⟩
    · cases z
    rcases bnd_some e2 with ⟨c, q, _, z⟩ | ⟨v, h2, e3, e4⟩
    · cases z
    rcases bnd_some e4 with ⟨c, q, _, z⟩ | ⟨rs, h3, e5, e6⟩
    · cases z
    cases e6
    refine ⟨m, e, h, _, h1, a1, a2, e1, fun m1 H1 x1 y1 x gx => ?_⟩
    refine ⟨m1, e, h1, _, h2, y1, a2.ext x1, e3, fun m2 H2 x2 y2 y gy => ?_⟩
    refine pairs_main y2 ((a2.ext x1).ext x2) e5 fun m3 H3 x3 y3 ps gp => ?_
    exact a4 m3 H3 (x1.trans (x2.trans x3)) y3 _ ⟨⟨x, _, rfl, gx.ext (x2.trans x3), gp.1⟩, ⟨y, _, rfl, gy.ext x3, gp.2⟩⟩
theorem dispKV_rel {K : PySem.W.Frag} {w : World} {m : List Addr} {H : Hp} : ∀ {ds : List (D × D)} {l : List (Key × D)} {ps : List (V × V)}, dispKV ds = some l → RelPs K w m H ds ps → ∃ vs : List (Key × V), ps = vs.map (fun kv => (kV kv.1, kv.2)) ∧ RelKV K w m H l vs
  | [], l, ps, e, g => by
    cases (show some [] = some l from e)
    have : ps = [] := List.map_eq_nil_iff.mp (show ps.map (·.1) = [] from g.1)
    subst this
    exact ⟨[], rfl, rfl⟩
  | d :: ds, l, ps, e, g => by
    obtain ⟨g1, g2⟩ := g
    cases ps with
    | nil => obtain ⟨v, r, z, _⟩ := g1; cases z
    | cons p ps =>
      obtain ⟨v, r, z, h1, h2⟩ := g1
      cases z
      obtain ⟨v', r', z', h3, h4⟩ := g2
      cases z'
      obtain ⟨q, qs, e1, e2, e3⟩ := mapM_cons_some e
      cases e3
      obtain ⟨k, e4, e5⟩ := map_some e1
      subst e5
      obtain ⟨vs, rfl, gr⟩ := dispKV_rel (ps := ps) e2 ⟨h2, h4⟩
      exact ⟨(k, p.2) :: vs, by rw [List.map_cons]; dsimp only; rw [← keyD_rel e4 h1], p.2, vs, rfl, h3, gr⟩
theorem KV_merge {K : PySem.W.Frag} {w : World} {m : List Addr} {H : Hp} : ∀ {l : List (Key × D)} {vs : List (Key × V)} {acc : List (Key × D)} {av : List (Key × V)}, RelKV K w m H l vs → RelKV K w m H acc av →
    RelKV K w m H (l.foldl (fun acc kv => putD acc kv.1 kv.2) acc) (mergeK av vs)
  | [], vs, acc, av, g, ga => by cases (show vs = [] from g); exact ga
  | p :: l, vs, acc, av, g, ga => by
    obtain ⟨v, r, rfl, g1, g2⟩ := g
    have z := KV_merge (l := l) (vs := r) g2 (KV_put p.1 ga g1)
    exact z
theorem disp_main {ms : List (M D × M D)} {σ : L2.St} {H : Hp} {Q : VK} (hyp : tG G G.R (dispM ms) σ H Q) : tDisp (ms.map fun p => (tG G G.R p.1, tG G G.R p.2)) σ H Q := by
  obtain ⟨m, e, h, r, h', a1, a2, a3, a4⟩ := hyp
  intro p hp
  unfold dispM at a3
  split at a3
  · rename_i kvs h1 e1
    split at a3
    · rename_i l e2 e3
      split at a3
      · rename_i hl
        cases a3
        obtain ⟨b1, b2⟩ := a1.alloc (p := p) (ob := .dk []) (o := .dK []) hp ⟨[], rfl, rfl⟩
        have q1 : (m ++ [p])[h.length]? = some p := ix_last a1
        refine pairs_main b1 (a2.ext b2) e1 fun m' H' x y ps gp => ?_
        obtain ⟨us, q3, q4⟩ := ref_dk y (x.ix q1) e2
        cases (show us = [] from q4)
        obtain ⟨vs, rfl, gv⟩ := dispKV_rel e3 gp
        have gm := KV_merge gv (acc := []) (av := []) (show RelKV G.K G.w m' H' [] [] from rfl)
        obtain ⟨w1, w2⟩ := y.write (ob := .dk (l.foldl (fun acc kv => putD acc kv.1 kv.2) [])) (o := .dK (mergeK [] vs)) (x.ix q1) ⟨_, rfl, gm⟩
        exact ⟨q3, vs, rfl, by rw [KV_len gv]; exact hl, a4 m' _ (b2.trans (x.trans w2)) w1 _ ⟨p, x.ix q1, rfl⟩⟩
      · cases a3
    · cases a3
  · cases a3
theorem pps_all {pos : Pos} {g : Expr → M D} (hE : ∀ e, PE X e (tG G G.R (g e))) : ∀ {keys : List (Option Expr)} {vals : List Expr}, keys.all Option.isSome = true → keys.length = vals.length →
    PPs X pos keys vals (((keys.zip vals).map fun p => ((match p.1 with | some k => g k | none => (stuck : M D)), g p.2)).map fun p => (tG G G.R p.1, tG G G.R p.2))
  | [], [], _, _ => pps_nil
  | some k :: ks, v :: vs, h1, h2 => pps_cons (hE k) (hE v) (pps_all hE (by simpa using h1) (by simpa using h2))
  | none :: ks, v :: vs, h1, h2 => by simp at h1
theorem e_disp {keys : List (Option Expr)} {vals : List Expr} {pos : Pos} (hE : ∀ e, PE X e (tG G G.R (S.E C e))) (h1 : keys.all Option.isSome = true) (h2 : keys.length = vals.length) (h3 : keys ≠ []) (h4 : keys.length ≤ 15) :
    PE X (.Dict keys vals pos) (tG G G.R (dispM ((keys.zip vals).map fun p => (match p.1 with | some k => S.E C k | none => stuck, S.E C p.2)))) :=
  PE.of (pe_disp (pps_all hE h1 h2) h1 h2 h3 h4) fun σ H Q h => disp_main h
end
end Dd

set_option Elab.async false
set_option linter.all false
set_option maxRecDepth 100000
set_option maxHeartbeats 4000000
namespace Dd
open PySem PySem.Spec PyProof.Rows L2

/-! # 21. Every expression of the semantics is walked -/
theorem plainIx {b : Expr} (h : isSl b = false) : PlainIx b := by
  intro o i
  cases b <;> first | rfl | cases h
theorem marks2 {op op' : PySem.CmpOp} {f g : D → D → DH → Option (D × DH)} {b c : Expr} (h : ordD op = some f) (h' : ordD op' = some g) : lastMarks [op, op'] [b, c] = false :=
  nomark c (fun e => by subst e; cases h') (fun e => by subst e; cases h')
section
variable {G : Pc} {σ : L2.St} {H : Hp} {Q : VK}
theorem ret_val {d : D} {v : V} (hv : ∀ m H, G.R m H d v) (h : tG G G.R (ret d) σ H Q) : Q v H := by
  obtain ⟨m, e, hh, a1, a2, a3⟩ := tG_ret h
  exact a3 v (hv m H)
theorem notV_tG {ma : M D} (h : tG G G.R (notV ma) σ H Q) : tNotV (tG G G.R ma) σ H Q := (tG_bnd h).mono fun x H1 h1 => tA1_not h1
theorem tup_main {xs : List V} (h : rDN G tupM xs H Q) : xs.length ≤ sizeLine ∧ ∀ p, H p = none → Q (.ref p) (upd H p (.tup xs)) := by
  obtain ⟨m, hh, as, d, h', a1, ra, e, q⟩ := h
  unfold tupM at e
  split at e
  · rename_i hz
    cases e
    refine ⟨by rw [RelDs.length ra, ← Z_eq]; exact hz, fun p hp => ?_⟩
    obtain ⟨b1, b2, b3⟩ := new_tup (K := G.K) (w := G.w) a1 hp ra
    exact q m _ _ b2 b1 b3
  · cases e
theorem lst_main {xs : List V} (h : rDN G lstM xs H Q) : xs.length ≤ sizeLine ∧ ∀ p, H p = none → Q (.ref p) (upd H p (.lst xs)) := by
  obtain ⟨m, hh, as, d, h', a1, ra, e, q⟩ := h
  unfold lstM at e
  split at e
  · rename_i hz
    cases e
    refine ⟨by rw [RelDs.length ra, ← Z_eq]; exact hz, fun p hp => ?_⟩
    obtain ⟨b1, b2, b3⟩ := new_lst (K := G.K) (w := G.w) a1 hp ra
    exact q _ _ _ b2 b1 b3
  · cases e
/-- a slice -/
theorem slice_main {ma : M D} {lo hi : M (Option Int)} (h : tG G G.R (sliceM ma lo hi) σ H Q) : tSl (rDSl G) (tG G G.R ma) (tG G relQ lo) (tG G relQ hi) σ H Q := by
  obtain ⟨m, e, hh, r, h', a1, a2, a3, a4⟩ := h
  rcases bnd_some a3 with ⟨c, p, e1, rfl⟩ | ⟨d, h1, e1, e2⟩
  · exact ⟨m, e, hh, _, h', a1, a2, e1, a4⟩
  refine ⟨m, e, hh, _, h1, a1, a2, e1, fun m1 H1 x1 y1 x gx => ?_⟩
  rcases bnd_some e2 with ⟨c, p, e3, rfl⟩ | ⟨l, h2, e3, e4⟩
  · exact ⟨m1, e, h1, _, h', y1, a2.ext x1, e3, fun m' H' x y => a4 m' H' (x1.trans x) y⟩
  refine ⟨m1, e, h1, _, h2, y1, a2.ext x1, e3, fun m2 H2 x2 y2 l' hl => ?_⟩
  cases (show l = l' from hl)
  rcases bnd_some e4 with ⟨c, p, e5, rfl⟩ | ⟨u, h3, e5, e6⟩
  · exact ⟨m2, e, h2, _, h', y2, (a2.ext x1).ext x2, e5, fun m' H' x y => a4 m' H' (x1.trans (x2.trans x)) y⟩
  refine ⟨m2, e, h2, _, h3, y2, (a2.ext x1).ext x2, e5, fun m3 H3 x3 y3 u' hu => ?_⟩
  cases (show u = u' from hu)
  obtain ⟨z, rfl, e7⟩ := lift_some e6
  exact ⟨m3, h3, d, z, h', y3, (gx.ext x2).ext x3, e7, fun m' H' v x y z => a4 m' H' (x1.trans (x2.trans (x3.trans x))) y v z⟩
end
section
variable {X : Cx} {C : CE} {G : Pc} {F : Call} {S : Sm}
theorem e_call (hE : OkE S F) (f : Fit X C G F) (fn : Str) (as : List Expr) (p pos : Pos) : PE X (.Call (.Name fn p) as [] pos) (tG G G.R (callE F S C fn as)) := by
  have iE := hE X C G f
  unfold callE
  split
  · rename_i hg
    simp only [Bool.and_eq_true, decide_eq_true_eq] at hg
    obtain ⟨⟨hs, h30⟩, hgl⟩ := hg
    split
    · rename_i i ar hx
      split
      · rename_i hc
        simp only [Bool.and_eq_true, decide_eq_true_eq] at hc
        obtain ⟨⟨c1, c2⟩, c3⟩ := hc
        cases as with
        | nil => rw [← c2] at c3; exact absurd c3 (Nat.lt_irrefl _)
        | cons a as => exact e_fn f hx hgl c1 hs (pa_all iE hs)
      · exact PE.never fun σ H Q h => tG_stuck h
    · split
      · rename_i hf
        subst hf
        split
        · rename_i a T pT
          split
          · rename_i hT
            split
            · rename_i t ht
              rw [List.all_cons, Bool.and_eq_true] at hs
              exact e_isin f (iE a) hs.1 hgl hT ht
            · exact PE.never fun σ H Q h => tG_stuck h
          · exact PE.never fun σ H Q h => tG_stuck h
        · exact PE.never fun σ H Q h => tG_stuck h
      · split
        · rename_i b hb
          split
          · exact PE.never fun σ H Q h => tG_stuck h
          · rename_i hc
            cases as with
            | nil => simp at hc
            | cons a as =>
              refine e_blt f hb hgl ?_ hs (pa_all iE hs)
              cases hh : (needsCalm b && !C.calm) with
              | false => rfl
              | true => rw [hh] at hc; exact absurd rfl hc
        · exact PE.never fun σ H Q h => tG_stuck h
  · exact PE.never fun σ H Q h => tG_stuck h
theorem e_attr (f : Fit X C G F) (x nm : Str) (p pos : Pos) : PE X (.Attribute (.Name x p) nm pos) (tG G G.R (stepE F S C (.Attribute (.Name x p) nm pos))) := by
  dsimp only [stepE]
  cases hk : C.hk with
  | none => exact PE.never fun σ H Q h => tG_stuck h
  | some q =>
    obtain ⟨i, c⟩ := q
    dsimp only
    split
    · rename_i hc
      rw [Bool.and_eq_true] at hc
      have hv : visIx C x = some i := of_decide_eq_true hc.1
      obtain ⟨y, e1, e2⟩ := map_some (of_decide_eq_true hc.2).symm.symm
      obtain ⟨y1, y2⟩ := y
      have e2 : nm = y2 := e2
      subst e2
      have e3 := f.excF c y1 nm e1
      subst e3
      obtain ⟨a, dd, g1, g2⟩ := f.hk1 i c hk
      obtain ⟨h1, h2, h3⟩ := f.vis hv
      obtain ⟨p1, p2, _⟩ := plain_ne h3
      refine PE.of (g2 _ _ pos (pe_var h1 h2 p1 p2) rfl) fun σ H Q h => ?_
      obtain ⟨m, e, hh, r, h', a1, a2, a3, a4⟩ := h
      have a3 : var i e hh = some (r, h') := a3
      dsimp only [var] at a3
      split at a3
      · rename_i d ed
        cases a3
        have sl := a2.slot i d ed
        unfold SlotR at sl
        rw [g1] at sl
        dsimp only at sl
        rw [if_pos rfl] at sl
        obtain ⟨s1, u, s2, s3⟩ := sl
        exact ⟨_, s1, rfl, u, s2, a4 m H (Ext.refl _ _) a1 u s3⟩
      · cases a3
    · exact PE.never fun σ H Q h => tG_stuck h
theorem ok_E (hE : OkE S F) (hT : OkT S F) (hI : OkI S F) (hO : OkO S F) : OkE (stepQ F S) F := by
  intro X C G f e
  have iE := hE X C G f
  have nv : ∀ {e : Expr}, PE X e (tG G G.R (stuck : M D)) := PE.never fun σ H Q h => tG_stuck h
  show PE X e (tG G G.R (stepE F S C e))
  unfold stepE
  split
  · exact PE.of pe_int fun σ H Q h => ret_val (G := G) (d := .int _) (fun m H => rfl) h
  · exact PE.of pe_bl fun σ H Q h => ret_val (G := G) (d := .bl _) (fun m H => rfl) h
  · exact PE.of pe_non fun σ H Q h => ret_val (G := G) (d := .non) (fun m H => rfl) h
  · exact PE.of pe_str fun σ H Q h => ret_val (G := G) (d := .str _) (fun m H => rfl) h
  · exact e_name (S := S) f _ _
  · split
    · rename_i hf
      exact PE.of (pe_op (o_bin f.K f.w hf) (iE _) (iE _)) fun σ H Q h => op2_tG h
    · exact nv
  · exact PE.of (pe_un (o_neg f.K f.w) (iE _)) fun σ H Q h => op1_tG h
  · exact PE.of (pe_not (iE _)) fun σ H Q h => notV_tG h
  · exact pe_one (iE _)
  · exact PE.of (pe_and (iE _) (iE _)) fun σ H Q h => andV_tG h
  · exact PE.of (pe_or (iE _) (iE _)) fun σ H Q h => orV_tG h
  · exact PE.of (pe_ifExp (hT X C G f _) (iE _) (iE _)) fun σ H Q h => ite_tG h
  · split
    · exact nv
    · rename_i hb
      split
      · rename_i hf
        exact PE.of (pe_cmpR (o_cmp f.K f.w hf f.un) (iE _) (iE _) (setMark (by simpa using hb))) fun σ H Q h => op2_tG h
      · exact nv
  · split
    · rename_i h1 h2
      exact PE.of (pe_chain (o_ord f.K f.w h1) (o_ord f.K f.w h2) (iE _) (iE _) (iE _) (marks2 h1 h2)) fun σ H Q h => chn_tG h
    · exact nv
  · split
    · rename_i hs
      exact PE.of (pe_tup (pa_all iE hs)) fun σ H Q h => (opN_tG h).mono fun xs H1 h1 => tup_main h1
    · exact nv
  · split
    · rename_i hs
      exact PE.of (pe_lst (pa_all iE hs)) fun σ H Q h => (opN_tG h).mono fun xs H1 h1 => lst_main h1
    · exact nv
  · split
    · rename_i hh
      simp only [Bool.and_eq_true, decide_eq_true_eq, Bool.not_eq_true'] at hh
      obtain ⟨⟨⟨h1, h2⟩, h3⟩, h4⟩ := hh
      exact e_disp iE h1 h2 (fun z => by rw [z] at h3; cases h3) h4
    · exact nv
  · exact PE.of (pe_slice (s_slice f.K f.w) (iE _) (hO X C G f _) (hO X C G f _)) fun σ H Q h => slice_main h
  · split
    · exact nv
    · rename_i hb
      exact PE.of (pe_ix (x_ix f.K f.w f.un) (iE _) (iE _) (plainIx (by simpa using hb))) fun σ H Q h => op2_tG h
  · exact e_attr (S := S) f _ _ _ _
  · exact e_call hE f _ _ _ _
  · split
    · rename_i hh
      simp only [Bool.and_eq_true, decide_eq_true_eq] at hh
      obtain ⟨⟨⟨h1, h2⟩, h3⟩, h4⟩ := hh
      split
      · rename_i k hk
        split
        · exact nv
        · rename_i hz
          refine e_mth f hk h1 h2 h3 h4 (iE _) (pa_all iE h3) fun z => ?_
          subst z
          refine ⟨?_, rfl⟩
          cases k <;> first | rfl | exact absurd rfl hz
      · exact nv
    · exact nv
  · exact e_lc hE hT hI f
  · exact e_dc hE hI f
  · exact nv
end
end Dd

set_option Elab.async false
set_option linter.all false
set_option maxRecDepth 100000
set_option maxHeartbeats 4000000
namespace Dd
open PySem PySem.Spec PyProof.Rows L2

/-! # 22. Tests and parts of slices -/
section
variable {G : Pc} {σ : L2.St} {H : Hp}
theorem tst_tG {ma : M D} {Q : Bool → Hp → Prop} (h : tG G relB (tst ma) σ H Q) : tTest (tG G G.R ma) σ H Q := by
  obtain ⟨m, e, hh, r, h', a1, a2, a3, a4⟩ := h
  rcases bnd_some a3 with ⟨c, p, e1, rfl⟩ | ⟨d, h1, e1, e2⟩
  · exact ⟨m, e, hh, _, h', a1, a2, e1, a4⟩
  refine ⟨m, e, hh, _, h1, a1, a2, e1, fun m1 H1 x1 y1 x gx => ?_⟩
  cases d with
  | bl b =>
    cases e2
    exact ⟨b, gx, a4 m1 H1 x1 y1 b rfl⟩
  | _ => cases e2
theorem tru_tG {ma : M D} {Q : Bool → Hp → Prop} (h : tG G relB (tru truD ma) σ H Q) : tG G G.R ma σ H fun x H' => ∃ k, TruV G.K x H' k ∧ Q k H' := by
  obtain ⟨m, e, hh, r, h', a1, a2, a3, a4⟩ := h
  rcases bnd_some a3 with ⟨c, p, e1, rfl⟩ | ⟨d, h1, e1, e2⟩
  · exact ⟨m, e, hh, _, h', a1, a2, e1, a4⟩
  refine ⟨m, e, hh, _, h1, a1, a2, e1, fun m1 H1 x1 y1 x gx => ?_⟩
  obtain ⟨b, rfl, e3⟩ := lift_some e2
  obtain ⟨b', e4, e5⟩ := map_some e3
  cases e5
  exact ⟨b, tru_rel y1 e4 gx, a4 m1 H1 x1 y1 b rfl⟩
theorem notT_tG {ma : M Bool} {Q : Bool → Hp → Prop} (h : tG G relB (notT ma) σ H Q) : tNot (tG G relB ma) σ H Q :=
  (tG_bndB h).mono fun c H1 h1 => by
    obtain ⟨m, e, hh, a1, a2, a3⟩ := tG_ret h1
    exact a3 _ rfl
theorem andT_tG {ma mb : M Bool} {Q : Bool → Hp → Prop} (h : tG G relB (andT ma mb) σ H Q) : tAnd (tG G relB ma) (tG G relB mb) σ H Q :=
  (tG_bndB h).mono fun c H1 h1 => by
    cases c with
    | true => exact h1
    | false =>
      obtain ⟨m, e, hh, a1, a2, a3⟩ := tG_ret h1
      exact a3 _ rfl
theorem orT_tG {ma mb : M Bool} {Q : Bool → Hp → Prop} (h : tG G relB (orT ma mb) σ H Q) : tOr (tG G relB ma) (tG G relB mb) σ H Q :=
  (tG_bndB h).mono fun c H1 h1 => by
    cases c with
    | false => exact h1
    | true =>
      obtain ⟨m, e, hh, a1, a2, a3⟩ := tG_ret h1
      exact a3 _ rfl
theorem intOf_tG {ma : M D} {Q : Option Int → Hp → Prop} (h : tG G relQ (intOf ma) σ H Q) : tPart (tG G G.R ma) σ H Q := by
  obtain ⟨m, e, hh, r, h', a1, a2, a3, a4⟩ := h
  rcases bnd_some a3 with ⟨c, p, e1, rfl⟩ | ⟨d, h1, e1, e2⟩
  · exact ⟨m, e, hh, _, h', a1, a2, e1, a4⟩
  refine ⟨m, e, hh, _, h1, a1, a2, e1, fun m1 H1 x1 y1 x gx => ?_⟩
  cases d with
  | int b =>
    cases e2
    exact ⟨b, gx, a4 m1 H1 x1 y1 _ rfl⟩
  | _ => cases e2
end
theorem truth_by {e : Expr} (h : isTst e = false) (env : Env) : ∀ whole, isTrue e env whole = (do let v ← whole; standAt e.pos; holding [v] (truthy v)) := by
  intro whole
  unfold isTst at h
  cases e with
  | UnaryOp op a p => cases op <;> first | rfl | cases h
  | BoolOp => cases h
  | IfExp => cases h
  | Compare => cases h
  | _ => rfl
section
variable {X : Cx} {C : CE} {G : Pc} {F : Call} {S : Sm}
theorem PO.of {e : Option Expr} {t t' : TO} (h : PO X e t) (w : ∀ σ H Q, t' σ H Q → t σ H Q) : PO X e t' := ⟨fun pins s σ H Q I q => h.run pins s σ H Q I (w σ H Q q)⟩
theorem PW.of {e : Expr} {t t' : TT} (h : PW X e t) (w : ∀ σ H Q, t' σ H Q → t σ H Q) : PW X e t' := ⟨fun wh pins s σ H Q I q => h.run wh pins s σ H Q I (w σ H Q q)⟩
theorem PW.never {e : Expr} {t : TT} (w : ∀ σ H Q, t σ H Q → False) : PW X e t := ⟨fun wh pins s σ H Q I q => (w σ H Q q).elim⟩
theorem ok_O (hE : OkE S F) : OkO (stepQ F S) F := by
  intro X C G f o
  show PO X o (tG G relQ (stepO S C o))
  cases o with
  | none =>
    refine PO.of po_none fun σ H Q h => ?_
    obtain ⟨m, e, hh, a1, a2, a3⟩ := tG_ret h
    exact a3 _ rfl
  | some e => exact PO.of (po_some (hE X C G f e)) fun σ H Q h => intOf_tG h
theorem ok_W (hT : OkT S F) (hW : OkW S F) : OkW (stepQ F S) F := by
  intro X C G f op es p
  have iT := hT X C G f
  show PW X (.BoolOp op es p) (tG G relB (stepT F S C (.BoolOp op es p)))
  cases op with
  | And =>
    match es with
    | [] => exact PW.never fun σ H Q h => tG_stuck h
    | [a] => exact pw_and1 (iT a)
    | a :: b :: r => exact PW.of (pw_and (iT a) (hW X C G f _ _ _)) fun σ H Q h => andT_tG h
  | Or =>
    match es with
    | [] => exact PW.never fun σ H Q h => tG_stuck h
    | [a] => exact pw_or1 (iT a)
    | a :: b :: r => exact PW.of (pw_or (iT a) (hW X C G f _ _ _)) fun σ H Q h => orT_tG h
theorem ok_T (hE : OkE S F) (hT : OkT S F) (hW : OkW (stepQ F S) F) : OkT (stepQ F S) F := by
  intro X C G f e
  have iE := hE X C G f
  have iT := hT X C G f
  have nv : ∀ {e : Expr}, PT X e (tG G relB (stuck : M Bool)) := PT.never fun σ H Q h => tG_stuck h
  show PT X e (tG G relB (stepT F S C e))
  have other : ∀ (h : stepT F S C e = if isTst e then stuck else tru truD (S.E C e)), PT X e (tG G relB (stepT F S C e)) := by
    intro h
    rw [h]
    split
    · exact nv
    · rename_i ht
      refine PT.of (pt_truth (iE e) (truth_by (by simpa using ht) _)) fun σ H Q h => ?_
      have z := tru_tG h
      rw [← f.K] at z
      exact z
  cases e with
  | UnaryOp op a p =>
    cases op with
    | Not => exact PT.of (pt_not (iT a)) fun σ H Q h => notT_tG h
    | _ => exact other rfl
  | BoolOp op es p => exact (hW X C G f op es p).pt
  | Compare a ops bs p =>
    show PT X _ (tG G relB (tst (stepE F S C (.Compare a ops bs p))))
    match ops, bs with
    | [op], [b] =>
      show PT X _ (tG G relB (tst (if isSetE b then stuck else match cmpD op with | some f => op2 f (S.E C a) (S.E C b) | none => stuck)))
      split
      · exact PT.never fun σ H Q h => tG_stuck (tst_tG h)
      · rename_i hb
        split
        · rename_i hf
          exact PT.of (pt_cmpR (o_cmp f.K f.w hf f.un) (iE _) (iE _) (setMark (by simpa using hb))) fun σ H Q h => op2_tG (tst_tG h)
        · exact PT.never fun σ H Q h => tG_stuck (tst_tG h)
    | [op, op'], [b, c] =>
      show PT X _ (tG G relB (tst (match ordD op, ordD op' with | some f, some g => chn f g (S.E C a) (S.E C b) (S.E C c) | _, _ => stuck)))
      split
      · rename_i h1 h2
        exact PT.of (pt_chain (o_ord f.K f.w h1) (o_ord f.K f.w h2) (iE _) (iE _) (iE _) (marks2 h1 h2)) fun σ H Q h => chn_tG (tst_tG h)
      · exact PT.never fun σ H Q h => tG_stuck (tst_tG h)
    | [], _ => exact PT.never fun σ H Q h => tG_stuck (tst_tG h)
    | [_], [] => exact PT.never fun σ H Q h => tG_stuck (tst_tG h)
    | [_], _ :: _ :: _ => exact PT.never fun σ H Q h => tG_stuck (tst_tG h)
    | [_, _], [] => exact PT.never fun σ H Q h => tG_stuck (tst_tG h)
    | [_, _], [_] => exact PT.never fun σ H Q h => tG_stuck (tst_tG h)
    | _ :: _ :: _ :: _, [] => exact PT.never fun σ H Q h => tG_stuck (tst_tG h)
    | _ :: _ :: _ :: _, [_] => exact PT.never fun σ H Q h => tG_stuck (tst_tG h)
    | [_, _], _ :: _ :: _ :: _ => exact PT.never fun σ H Q h => tG_stuck (tst_tG h)
    | _ :: _ :: _ :: _, _ :: _ :: _ => exact PT.never fun σ H Q h => tG_stuck (tst_tG h)
  | _ => exact other rfl
end
end Dd

set_option Elab.async false
set_option linter.all false
set_option maxRecDepth 100000
set_option maxHeartbeats 4000000
namespace Dd
open PySem PySem.Spec PyProof.Rows L2

/-! # 23. Statements: what is asked -/
def FinS (G : Pc) (D : Ends) (f : Fl) (σ : L2.St) (m : List Addr) (H : Hp) : Prop :=
  match f with
  | .next => D.nx σ H
  | .brk => D.bk σ H
  | .cont => D.ct σ H
  | .ret d => ∀ v, G.R m H d v → D.rt v H
  | .ex c p => ∀ cv d, ExcAt G m H c p cv d → G.W cv d σ H
/-- what is to come, from here -/
def KS (G : Pc) (D : Ends) (m : List Addr) (H : Hp) (f : Fl) (e : DE) (h : DH) : Prop :=
  ∀ m' H' σ', Ext m H m' H' → G.H m' h H' → EnvR G m' H' e σ' → FinS G D f σ' m' H'
theorem KS.ext {G : Pc} {D : Ends} {m m1 : List Addr} {H H1 : Hp} {f : Fl} {e : DE} {h : DH} (k : KS G D m H f e h) (x : Ext m H m1 H1) : KS G D m1 H1 f e h := fun m' H' σ' y => k m' H' σ' (x.trans y)
def tS (G : Pc) (M : MS) : TS := fun D σ H => ∃ m e h f e' h', G.H m h H ∧ EnvR G m H e σ ∧ M e h = some (f, e', h') ∧ KS G D m H f e' h'
def OkS (S : Sm) (F : Call) : Prop := ∀ (X : Cx) (C : CE) (G : Pc), Fit X C G F → ∀ st, PS X st (tS G (S.S C st))
def OkB (S : Sm) (F : Call) : Prop := ∀ (X : Cx) (C : CE) (G : Pc), Fit X C G F → ∀ st, PSs X st (tS G (S.B C st))
section
variable {G : Pc} {σ : L2.St} {H : Hp} {K : Ends}
theorem tS_stuck (h : tS G stuckS K σ H) : False := by
  obtain ⟨m, e, hh, f, e', h', a1, a2, a3, a4⟩ := h
  cases a3
theorem withM_some {α : Type} {M : M α} {k : α → MS} {e e' : DE} {h h' : DH} {f : Fl} (q : withM M k e h = some (f, e', h')) : (∃ c p, M e h = some (.ex c p, h') ∧ f = .ex c p ∧ e' = e) ∨ ∃ a h1, M e h = some (.ok a, h1) ∧ k a e h1 = some (f, e', h') := by
  unfold withM at q
  cases hm : M e h with
  | none => rw [hm] at q; cases q
  | some p =>
    obtain ⟨r1, h1⟩ := p
    rw [hm] at q
    cases r1 with
    | ex c p => cases q; exact .inl ⟨c, p, rfl, rfl, rfl⟩
    | ok a => exact .inr ⟨a, h1, rfl, q⟩
/-- a value, then -/
theorem tS_with {α β : Type} {rel : List Addr → Hp → α → β → Prop} {M : M α} {k : α → MS} (h : tS G (withM M k) K σ H) :
    tG G rel M σ H fun b H1 => ∃ m a e h f e' h', rel m H1 a b ∧ G.H m h H1 ∧ EnvR G m H1 e σ ∧ k a e h = some (f, e', h') ∧ KS G K m H1 f e' h' := by
  obtain ⟨m, e, hh, f, e', h', a1, a2, a3, a4⟩ := h
  rcases withM_some a3 with ⟨c, p, e1, rfl, rfl⟩ | ⟨a, h1, e1, e2⟩
  · exact ⟨m, _, hh, _, h', a1, a2, e1, fun m' H' x y cv d q => a4 m' H' σ x y (a2.ext x) cv d q⟩
  · exact ⟨m, e, hh, _, h1, a1, a2, e1, fun m1 H1 x1 y1 b hb => ⟨m1, a, e, h1, f, e', h', hb, y1, a2.ext x1, e2, a4.ext x1⟩⟩
theorem skip_tS (h : tS G skip K σ H) : K.nx σ H := by
  obtain ⟨m, e, hh, f, e', h', a1, a2, a3, a4⟩ := h
  cases a3
  exact a4 m H σ (Ext.refl _ _) a1 a2
theorem seq_tS {a b : MS} (h : tS G (seq a b) K σ H) : tSeq (tS G a) (tS G b) K σ H := by
  obtain ⟨m, e, hh, f, e', h', a1, a2, a3, a4⟩ := h
  unfold seq at a3
  split at a3
  · rename_i e1 h1 ha
    exact ⟨m, e, hh, .next, e1, h1, a1, a2, ha, fun m1 H1 σ1 x1 y1 z1 => ⟨m1, e1, h1, f, e', h', y1, z1, a3, a4.ext x1⟩⟩
  · rename_i hn
    refine ⟨m, e, hh, f, e', h', a1, a2, a3, fun m1 H1 σ1 x1 y1 z1 => ?_⟩
    have q := a4 m1 H1 σ1 x1 y1 z1
    cases f with
    | next => exact absurd a3 (hn e' h')
    | _ => exact q
theorem drop_tS {M : M D} (h : tS G (drop M) K σ H) : tDrop (tG G G.R M) K σ H := by
  refine (tS_with h).mono fun b H1 h1 => ?_
  obtain ⟨m, a, e, hh, f, e', h', rb, a1, a2, a3, a4⟩ := h1
  cases a3
  exact a4 m H1 σ (Ext.refl _ _) a1 a2
theorem ret_tS {M : M D} (h : tS G (retS M) K σ H) : tRet (tG G G.R M) K σ H := by
  refine (tS_with h).mono fun b H1 h1 => ?_
  obtain ⟨m, a, e, hh, f, e', h', rb, a1, a2, a3, a4⟩ := h1
  cases a3
  exact a4 m H1 σ (Ext.refl _ _) a1 a2 b rb
theorem asg_tS {t : Tg} {M : M D} (h : tS G (asg t M) K σ H) : tAsg (tG G G.R M) (gG G t) K σ H := by
  refine (tS_with (rel := G.R) h).mono fun b H1 h1 => ?_
  obtain ⟨m, a, e, hh, f, e', h', rb, a1, a2, a3, a4⟩ := h1
  obtain ⟨e1, a5, a6⟩ := map_some a3
  cases a6
  exact ⟨m, e, hh, a, e', a1, a2, rb, a5, fun σ' y1 y2 => a4 m H1 σ' (Ext.refl _ _) a1 y1⟩
theorem asgN_tS {i : Nat} {M : M D} (hn : notHk G i) (h : tS G (asg (.nm i) M) K σ H) : tAsg (tG G G.R M) (gName i) K σ H := by
  refine (tS_with (rel := G.R) h).mono fun b H1 h1 => ?_
  obtain ⟨m, a, e, hh, f, e', h', rb, a1, a2, a3, a4⟩ := h1
  cases a3
  exact a4 m H1 _ (Ext.refl _ _) a1 (a2.set hn rb)
theorem if_tS {t : M Bool} {a b : MS} (h : tS G (ifS t a b) K σ H) : tIfS (tG G relB t) (tS G a) (tS G b) K σ H := by
  refine (tS_with (rel := relB) h).mono fun c H1 h1 => ?_
  obtain ⟨m, a', e, hh, f, e', h', rb, a1, a2, a3, a4⟩ := h1
  cases (show a' = c from rb)
  cases c with
  | true => exact ⟨m, e, hh, f, e', h', a1, a2, a3, a4⟩
  | false => exact ⟨m, e, hh, f, e', h', a1, a2, a3, a4⟩
end
end Dd

set_option Elab.async false
set_option linter.all false
set_option maxRecDepth 100000
set_option maxHeartbeats 4000000
namespace Dd
open PySem PySem.Spec PyProof.Rows L2

/-! # 24. Loops, stores, raise, try: by the plain semantics -/
section
variable {G : Pc} {σ : L2.St} {H : Hp} {K : Ends}
theorem for_tS {it : M Src} {t : Tg} {b : MS} (h : tS G (forS it t b) K σ H) : tFor (iG G it) (gG G t) (tS G b) K σ H := by
  obtain ⟨m, e, hh, f, e', h', a1, a2, a3, a4⟩ := h
  rcases withM_some a3 with ⟨c, p, e1, rfl, rfl⟩ | ⟨s, h1, e1, e2⟩
  · exact ⟨m, _, hh, _, h', a1, a2, e1, fun m' H' x y cv d q => a4 m' H' σ x y (a2.ext x) cv d q⟩
  refine ⟨m, e, hh, _, h1, a1, a2, e1, fun m1 H1 x1 y1 J dr => ?_⟩
  refine ⟨fun i n σ' H' => n = s.len - i ∧ ∃ m' ee hx, Ext m1 H1 m' H' ∧ G.H m' hx H' ∧ EnvR G m' H' ee σ' ∧ i ≤ s.len ∧ forL s t b (s.len - i) i ee hx = some (f, e', h'), ⟨s.len, rfl, m1, e, h1, Ext.refl _ _, y1, a2.ext x1, Nat.zero_le _, e2⟩, ?_⟩
  rintro i n σ' H' ⟨rfl, m', ee, hx, c1, c2, c3, c4, c5⟩
  obtain ⟨d1, d2⟩ := dr m' hx H' c1 c2
  by_cases hi : i = s.len
  · subst hi
    rw [Nat.sub_self] at c5
    have c5 : (if s.done hx then some (.next, ee, hx) else none) = some (f, e', h') := c5
    split at c5
    · rename_i hd
      cases c5
      exact .inl ⟨d2 hd, a4 m' H' σ' (x1.trans c1) c2 c3⟩
    · cases c5
  · obtain ⟨k, hk⟩ : ∃ k, s.len - i = k + 1 := ⟨s.len - i - 1, by omega⟩
    rw [hk] at c5
    dsimp only [forL] at c5
    split at c5
    · cases c5
    rename_i d hd
    obtain ⟨j1, j2⟩ := d1 i d hd
    refine .inr ⟨j1, fun σ' H' => ∃ m' ee hx, Ext m1 H1 m' H' ∧ G.H m' hx H' ∧ EnvR G m' H' ee σ' ∧ forL s t b k (i + 1) ee hx = some (f, e', h'),
      fun σ'' H'' ⟨m', ee, hx, l1, l2, l3, l4⟩ => ⟨k, by omega, by omega, m', ee, hx, l1, l2, l3, by omega, by rw [show s.len - (i + 1) = k by omega]; exact l4⟩, fun x H'' hy => ?_⟩
    obtain ⟨z1, z2, z3⟩ := j2 x H'' hy
    split at c5
    · cases c5
    rename_i e2' he2
    refine ⟨m', ee, hx, d, e2', z2, c3.ext z1, z3, he2, fun σ2 s1 _ => ?_⟩
    split at c5
    · rename_i e3 h3 hb
      exact ⟨m', e2', hx, .next, e3, h3, z2, s1, hb, fun m3 H3 σ3 x3 y3 w3 => ⟨m3, e3, h3, c1.trans (z1.trans x3), y3, w3, c5⟩⟩
    · rename_i e3 h3 hb
      exact ⟨m', e2', hx, .cont, e3, h3, z2, s1, hb, fun m3 H3 σ3 x3 y3 w3 => ⟨m3, e3, h3, c1.trans (z1.trans x3), y3, w3, c5⟩⟩
    · rename_i e3 h3 hb
      cases c5
      exact ⟨m', e2', hx, .brk, _, _, z2, s1, hb, fun m3 H3 σ3 x3 y3 w3 => a4 m3 H3 σ3 (x1.trans (c1.trans (z1.trans x3))) y3 w3⟩
    · rename_i n1 n2 n3
      refine ⟨m', e2', hx, f, e', h', z2, s1, c5, fun m3 H3 σ3 x3 y3 w3 => ?_⟩
      have q := a4 m3 H3 σ3 (x1.trans (c1.trans (z1.trans x3))) y3 w3
      cases f with
      | next => exact absurd c5 (n1 _ _)
      | cont => exact absurd c5 (n2 _ _)
      | brk => exact absurd c5 (n3 _ _)
      | _ => exact q
theorem while_tS {t : M Bool} {b : MS} {n : Nat} (h : tS G (whileL t b n) K σ H) : tWhile (tG G relB t) (tS G b) K σ H := by
  obtain ⟨m, e, hh, f, e', h', a1, a2, a3, a4⟩ := h
  refine ⟨fun n σ' H' => ∃ m' ee hx, Ext m H m' H' ∧ G.H m' hx H' ∧ EnvR G m' H' ee σ' ∧ whileL t b n ee hx = some (f, e', h'), ⟨n, m, e, hh, Ext.refl _ _, a1, a2, a3⟩, ?_⟩
  rintro n σ' H' ⟨m', ee, hx, c1, c2, c3, c4⟩
  cases n with
  | zero => cases c4
  | succ r =>
    unfold whileL at c4
    rcases withM_some c4 with ⟨c, p, e1, rfl, rfl⟩ | ⟨c, h1, e1, e2⟩
    · exact ⟨m', _, hx, _, h', c2, c3, e1, fun m2 H2 x y cv d q => a4 m2 H2 σ' (c1.trans x) y (c3.ext x) cv d q⟩
    refine ⟨m', ee, hx, _, h1, c2, c3, e1, fun m1 H1 x1 y1 c' hc => ?_⟩
    cases (show c = c' from hc)
    cases c with
    | false =>
      cases e2
      exact a4 m1 H1 σ' (c1.trans x1) y1 (c3.ext x1)
    | true =>
      refine ⟨fun σ' H' => ∃ m' ee hx, Ext m H m' H' ∧ G.H m' hx H' ∧ EnvR G m' H' ee σ' ∧ whileL t b r ee hx = some (f, e', h'), fun σ2 H2 w => ⟨r, Nat.lt_succ_self r, w⟩, ?_⟩
      have e2 : (match b ee h1 with
        | some (.next, e2, h2) => whileL t b r e2 h2
        | some (.cont, e2, h2) => whileL t b r e2 h2
        | some (.brk, e2, h2) => some (.next, e2, h2)
        | r => r) = some (f, e', h') := e2
      split at e2
      · rename_i e3 h3 hb
        exact ⟨m1, ee, h1, .next, e3, h3, y1, c3.ext x1, hb, fun m3 H3 σ3 x3 y3 w3 => ⟨m3, e3, h3, c1.trans (x1.trans x3), y3, w3, e2⟩⟩
      · rename_i e3 h3 hb
        exact ⟨m1, ee, h1, .cont, e3, h3, y1, c3.ext x1, hb, fun m3 H3 σ3 x3 y3 w3 => ⟨m3, e3, h3, c1.trans (x1.trans x3), y3, w3, e2⟩⟩
      · rename_i e3 h3 hb
        cases e2
        exact ⟨m1, ee, h1, .brk, _, _, y1, c3.ext x1, hb, fun m3 H3 σ3 x3 y3 w3 => a4 m3 H3 σ3 (c1.trans (x1.trans x3)) y3 w3⟩
      · rename_i n1 n2 n3
        refine ⟨m1, ee, h1, f, e', h', y1, c3.ext x1, e2, fun m3 H3 σ3 x3 y3 w3 => ?_⟩
        have q := a4 m3 H3 σ3 (c1.trans (x1.trans x3)) y3 w3
        cases f with
        | next => exact absurd e2 (n1 _ _)
        | cont => exact absurd e2 (n2 _ _)
        | brk => exact absurd e2 (n3 _ _)
        | _ => exact q
/-- o[i] = v -/
def rSet (G : Pc) : TSet := fun o i v H Q => ∃ m h a b c h', G.H m h H ∧ G.R m H a o ∧ G.R m H b i ∧ G.R m H c v ∧ putAt a b c h = some h' ∧ ∀ m' H', Ext m H m' H' → G.H m' h' H' → Q H'
theorem set_tS {mo mk mv : M D} (h : tS G (setS mo mk mv) K σ H) : tAsg (tG G G.R mv) (gSub (tG G G.R mo) (tG G G.R mk) (rSet G)) K σ H := by
  obtain ⟨m, e, hh, f, e', h', a1, a2, a3, a4⟩ := h
  rcases withM_some a3 with ⟨c, p, e1, rfl, rfl⟩ | ⟨v, h1, e1, e2⟩
  · exact ⟨m, _, hh, _, h', a1, a2, e1, fun m' H' x y cv d q => a4 m' H' σ x y (a2.ext x) cv d q⟩
  refine ⟨m, e, hh, _, h1, a1, a2, e1, fun m1 H1 x1 y1 vv gv => ?_⟩
  rcases withM_some e2 with ⟨c, p, e3, rfl, rfl⟩ | ⟨o, h2, e3, e4⟩
  · exact ⟨m1, _, h1, _, h', y1, a2.ext x1, e3, fun m' H' x y cv d q => a4 m' H' σ (x1.trans x) y ((a2.ext x1).ext x) cv d q⟩
  refine ⟨m1, e, h1, _, h2, y1, a2.ext x1, e3, fun m2 H2 x2 y2 ov go => ?_⟩
  rcases withM_some e4 with ⟨c, p, e5, rfl, rfl⟩ | ⟨k, h3, e5, e6⟩
  · exact ⟨m2, _, h2, _, h', y2, (a2.ext x1).ext x2, e5, fun m' H' x y cv d q => a4 m' H' σ (x1.trans (x2.trans x)) y (((a2.ext x1).ext x2).ext x) cv d q⟩
  refine ⟨m2, e, h2, _, h3, y2, (a2.ext x1).ext x2, e5, fun m3 H3 x3 y3 kv gk => ?_⟩
  obtain ⟨h4, e7, e8⟩ := map_some e6
  cases e8
  exact ⟨m3, h3, o, k, v, h', y3, go.ext x3, gk, (gv.ext x2).ext x3, e7, fun m' H' x y => a4 m' H' σ (x1.trans (x2.trans (x3.trans x))) y ((((a2.ext x1).ext x2).ext x3).ext x)⟩
theorem aug_tS {fi : Int → Int → Int} {i : Nat} {M : M D} (hn : notHk G i) (h : tS G (augS (augI fi) i M) K σ H) : tAug i (tG G G.R M) (ipI fi) K σ H := by
  obtain ⟨m, e, hh, f, e', h', a1, a2, a3, a4⟩ := h
  rcases withM_some a3 with ⟨c, p, e1, rfl, rfl⟩ | ⟨x, h1, e1, e2⟩
  · unfold var at e1
    split at e1 <;> cases e1
  unfold var at e1
  split at e1
  · rename_i d ed
    cases e1
    obtain ⟨xv, g1, g2⟩ := a2.get hn ed
    refine ⟨xv, g1, ?_⟩
    rcases withM_some e2 with ⟨c, p, e3, rfl, rfl⟩ | ⟨y, h2, e3, e4⟩
    · exact ⟨m, _, hh, _, h', a1, a2, e3, fun m' H' x y cv d q => a4 m' H' σ x y (a2.ext x) cv d q⟩
    refine ⟨m, e, hh, _, h2, a1, a2, e3, fun m1 H1 x1 y1 yv gy => ?_⟩
    rcases withM_some e4 with ⟨c, p, e5, rfl, rfl⟩ | ⟨z, h3, e5, e6⟩
    · unfold lift at e5
      split at e5 <;> cases e5
    obtain ⟨z', e7, e8⟩ := lift_some e5
    cases e7
    cases e6
    have gx := g2.ext x1
    unfold augI at e8
    split at e8
    · cases e8
      exact ⟨_, _, gx, gy, a4 m1 H1 _ x1 y1 ((a2.ext x1).set hn rfl)⟩
    · cases e8
  · cases e1
theorem raise_tS {c : Nat} {M : M D} (h : tS G (raiS c M) K σ H) : tMkX (G.cls c) (G.fld c) (tG G G.Rs (args [M])) σ H fun cls d H' => G.W cls d σ H' := by
  obtain ⟨m, e, hh, f, e', h', a1, a2, a3, a4⟩ := h
  rcases withM_some a3 with ⟨c', p, e1, rfl, rfl⟩ | ⟨p, h1, e1, e2⟩
  · refine ⟨m, _, hh, .ex c' p, h', a1, a2, ?_, fun m' H' x y cv d q => a4 m' H' σ x y (a2.ext x) cv d q⟩
    show bnd M _ _ _ = _
    unfold bnd
    rw [e1]
  · cases e2
    refine ⟨m, e, hh, .ok [p], h', a1, a2, ?_, fun m1 H1 x1 y1 vs gv => ?_⟩
    · show bnd M _ _ _ = _
      unfold bnd
      rw [e1]
      rfl
    obtain ⟨v, r, rfl, g1, g2⟩ := gv
    cases (show r = [] from g2)
    refine ⟨v, rfl, fun d hd => ?_⟩
    obtain ⟨b1, b2⟩ := y1.imm (o := .xd [(G.fld c, v)]) hd
    exact a4 m1 _ σ (x1.trans b2) b1 (a2.ext (x1.trans b2)) _ _ ⟨rfl, d, v, rfl, upd_same, g1.ext b2⟩
/-- in a suite -/
def Pc.suite (G : Pc) (hk : Option (Nat × Addr × Addr × Str)) : Pc := { G with W := fun _ _ _ _ => False, hk := hk }
def Pc.wish (G : Pc) (W : WX) : Pc := { G with W := W }
theorem EnvR.toHk {m : List Addr} {e : DE} {i : Nat} {a dd : Addr} {fl : Str} {p : D} {u : V} (hk : G.hk = none) (h : EnvR G m H e σ) (hd : H dd = some (.xd [(fl, u)])) (g : G.R m H p u) :
    EnvR (G.suite (some (i, a, dd, fl))) m H (e.set i (some p)) (σ.set i (some (.ref a))) := by
  refine ⟨by rw [List.length_set, List.length_set]; exact h.len, fun j x q => ?_⟩
  unfold SlotR
  show if j = i then _ else _
  by_cases hj : j = i
  · subst hj
    have hl : j < e.length := by
      have := (List.getElem?_eq_some_iff.mp q).1
      rwa [List.length_set] at this
    rw [List.getElem?_set_self hl] at q
    cases q
    rw [if_pos rfl, List.getElem?_set_self (by rw [← h.len]; exact hl)]
    exact ⟨rfl, u, hd, g⟩
  · rw [if_neg hj]
    rw [List.getElem?_set_ne (fun z => hj z.symm)] at q ⊢
    have z := h.slot j x q
    unfold SlotR at z
    rw [hk] at z
    exact z
theorem EnvR.ofHk {m : List Addr} {e : DE} {i : Nat} {a dd : Addr} {fl : Str} (hk : G.hk = none) (h : EnvR (G.suite (some (i, a, dd, fl))) m H e σ) : EnvR G m H (e.set i none) (σ.set i none) := by
  refine ⟨by rw [List.length_set, List.length_set]; exact h.len, fun j x q => ?_⟩
  unfold SlotR
  rw [hk]
  by_cases hj : j = i
  · subst hj
    have hl : j < e.length := by
      have := (List.getElem?_eq_some_iff.mp q).1
      rwa [List.length_set] at this
    rw [List.getElem?_set_self hl] at q
    cases q
  · rw [List.getElem?_set_ne (fun z => hj z.symm)] at q ⊢
    have z := h.slot j x q
    unfold SlotR at z
    have z : if j = i then _ else _ := z
    rw [if_neg hj] at z
    exact z
theorem EnvR.wish {m : List Addr} {e : DE} {W : WX} (h : EnvR G m H e σ) : EnvR (G.wish W) m H e σ := ⟨h.len, h.slot⟩
theorem EnvR.unwish {m : List Addr} {e : DE} {W : WX} (h : EnvR (G.wish W) m H e σ) : EnvR G m H e σ := ⟨h.len, h.slot⟩
theorem EnvR.toS {m : List Addr} {e : DE} (hk : G.hk = none) (h : EnvR G m H e σ) : EnvR (G.suite none) m H e σ := ⟨h.len, fun i d q => by
  have z := h.slot i d q
  unfold SlotR at z ⊢
  rw [hk] at z
  exact z⟩
theorem EnvR.ofS {m : List Addr} {e : DE} (hk : G.hk = none) (h : EnvR (G.suite none) m H e σ) : EnvR G m H e σ := ⟨h.len, fun i d q => by
  have z := h.slot i d q
  unfold SlotR
  rw [hk]
  exact z⟩
theorem noEx_some {r : Option (Fl × DE × DH)} {f : Fl} {e : DE} {h : DH} (q : noEx r = some (f, e, h)) : r = some (f, e, h) ∧ ∀ c p, f ≠ .ex c p := by
  unfold noEx at q
  split at q
  · cases q
  · rename_i hn
    exact ⟨q, fun c p z => by subst z; exact hn _ _ _ _ q⟩
/-- the suite by what is caught -/
def tSuite (G : Pc) (c : Nat) (i : Option Nat) (s : MS) : Addr → Value → Option Addr → TS := fun a cls d K σ H =>
  ∃ dd, d = some dd ∧ cls = .ref (G.cls c) ∧ tS (G.suite (i.map fun j => (j, a, dd, G.fld c))) s K σ H
theorem try_tS {c i : Nat} {b s : MS} (hk : G.hk = none) (te : PySem.W.exmOne G.K (.ref (G.cls c)) (.ref (G.cls c)) = some true) (h : tS G (tryS b c (some i) s) K σ H) :
    tS (G.wish (wAs G.K (.ref (G.cls c)) i (tSuite G c (some i) s) G.W K)) b K σ H := by
  obtain ⟨m, e, hh, f, e', h', a1, a2, a3, a4⟩ := h
  unfold tryS at a3
  split at a3
  · rename_i c' p e1 h1 hb
    split at a3
    · rename_i hc
      subst hc
      dsimp only at a3
      split at a3
      · rename_i f2 e2 h2 hs
        cases a3
        obtain ⟨hs, nex⟩ := noEx_some hs
        refine ⟨m, e, hh, _, e1, h1, a1, a2.wish, hb, fun m1 H1 σ1 x1 y1 z1 cv d q => ?_⟩
        obtain ⟨rfl, dd, u, rfl, g1, g2⟩ := q
        refine ⟨true, te, fun _ a ha => ⟨dd, rfl, rfl, m1, e1.set i (some p), h1, f, e2, h', y1, z1.unwish.toHk hk g1 g2, hs, fun m2 H2 σ2 x2 y2 z2 => ?_⟩, fun z => nomatch z⟩
        have q := a4 m2 H2 _ (x1.trans x2) y2 (z2.ofHk hk)
        cases f with
        | ex c p => exact absurd rfl (nex c p)
        | _ => exact q
      · cases a3
    · cases a3
  · rename_i hn
    refine ⟨m, e, hh, f, e', h', a1, a2.wish, a3, fun m1 H1 σ1 x1 y1 z1 => ?_⟩
    have q := a4 m1 H1 σ1 x1 y1 z1.unwish
    cases f with
    | ex c p => exact absurd a3 (hn _ _ _ _)
    | _ => exact q
theorem try0_tS {c : Nat} {b s : MS} (hk : G.hk = none) (te : PySem.W.exmOne G.K (.ref (G.cls c)) (.ref (G.cls c)) = some true) (h : tS G (tryS b c none s) K σ H) :
    tS (G.wish (wOnly G.K (.ref (G.cls c)) (tSuite G c none s) G.W K)) b K σ H := by
  obtain ⟨m, e, hh, f, e', h', a1, a2, a3, a4⟩ := h
  unfold tryS at a3
  split at a3
  · rename_i c' p e1 h1 hb
    split at a3
    · rename_i hc
      subst hc
      dsimp only at a3
      obtain ⟨hs, nex⟩ := noEx_some a3
      refine ⟨m, e, hh, _, e1, h1, a1, a2.wish, hb, fun m1 H1 σ1 x1 y1 z1 cv d q => ?_⟩
      obtain ⟨rfl, dd, u, rfl, g1, g2⟩ := q
      refine ⟨true, te, fun _ a ha => ⟨dd, rfl, rfl, m1, e1, h1, f, e', h', y1, z1.unwish.toS hk, hs, fun m2 H2 σ2 x2 y2 z2 => ?_⟩, fun z => nomatch z⟩
      have q := a4 m2 H2 _ (x1.trans x2) y2 (z2.ofS hk)
      cases f with
      | ex c p => exact absurd rfl (nex c p)
      | _ => exact q
    · cases a3
  · rename_i hn
    refine ⟨m, e, hh, f, e', h', a1, a2.wish, a3, fun m1 H1 σ1 x1 y1 z1 => ?_⟩
    have q := a4 m1 H1 σ1 x1 y1 z1.unwish
    cases f with
    | ex c p => exact absurd a3 (hn _ _ _ _)
    | _ => exact q
end
end Dd

set_option Elab.async false
set_option linter.all false
set_option maxRecDepth 100000
set_option maxHeartbeats 4000000
namespace Dd
open PySem PySem.Spec PyProof.Rows L2

/-! # 25. Every statement of the semantics is walked -/
section
variable {X : Cx} {C : CE} {G : Pc} {F : Call} {S : Sm}
theorem set_any (f : Fit X C G F) : PSet X (rSet G) := by
  have hu := f.un
  obtain ⟨K, W, cls, fld, Wx, hk⟩ := G
  have hK : X.K = K := f.K
  have hw : X.w = W := f.w
  subst hK hw
  intro pins s σ H o i v ov iv u Q I ro ri rv ⟨m, h, a, b, c, h', a1, ga, gb, gc, e, q⟩
  have dict : ∀ {H'}, (∃ p, o = .ref p ∧ DPut H p i v H') → Q H' → wpAny (model X.prog X.w) X.A (setItem ov iv u) (fun _ s' => ∃ H', Inv X pins σ H' s' ∧ Q H') X.xe s := by
    rintro H' ⟨p, rfl, g⟩ q
    cases (show ov = Value.ref p from ro)
    exact d_setItem (by omega) I g ri rv fun s' I' => ⟨H', I', q⟩
  cases a with
  | ref j =>
    obtain ⟨p, mp, rfl⟩ := ga
    unfold putAt at e
    dsimp only at e
    split at e
    · rename_i xs k ex
      split at e
      · rename_i n hn
        cases e
        obtain ⟨ob, h1, vs, rfl, gv⟩ := a1.get mp ex
        obtain ⟨b1, b2⟩ := a1.write (ob := .lst (xs.set n c)) (o := .lst (vs.set n v)) mp ⟨_, rfl, gv.set n gc⟩
        exact set_list pins s σ H _ _ _ ov iv u Q I ro ri rv ⟨p, vs, k, n, rfl, gb, h1, by rw [gv.length]; exact hn, q m _ b2 b1⟩
      · cases e
    · rename_i kvs ex
      split at e
      · rename_i kk hkk
        split at e
        · rename_i hz
          cases e
          obtain ⟨vs, h1, gv⟩ := ref_dk a1 mp ex
          obtain ⟨b1, b2⟩ := a1.write (ob := .dk (putD kvs kk c)) (o := .dK (putK vs kk v)) mp ⟨_, rfl, KV_put kk gv gc⟩
          exact dict ⟨p, rfl, .inl ⟨vs, kk, h1, keyD_rel hkk gb, by rw [KV_len gv, ← Z_eq]; exact hz, rfl⟩⟩ (q m _ b2 b1)
        · cases e
      · cases e
    · rename_i kvs ks ex
      split at e
      · rename_i kk hkk
        split at e
        · rename_i hz
          cases e
          obtain ⟨vs, h1, gv⟩ := ref_dt a1 mp ex
          obtain ⟨bp, bs, rfl, hb, gbs⟩ := gb
          obtain ⟨b1, b2⟩ := a1.write (ob := .dt (putD kvs kk c)) (o := .dT (putK vs kk v)) mp ⟨_, rfl, KV_put kk gv gc⟩
          exact dict ⟨p, rfl, .inr ⟨vs, kk, bp, h1, rfl, by rw [hb, keysD_rel hkk gbs], by rw [KV_len gv, ← Z_eq]; exact hz, rfl⟩⟩ (q m _ b2 b1)
        · cases e
      · cases e
    · cases e
  | _ => cases e
theorem Fit.tr (f : Fit X C G F) (hc : C.hk = none) {W : WX} {pn : List (Addr × Obj)} {xe : Value → Shared → Prop} (tk : Takes (X.tr pn xe) W) (ps : PassesOwn (model X.prog X.w) X.A X.env xe) : Fit (X.tr pn xe) C (G.wish W) F where
  N := f.N
  nd := f.nd
  sc := f.sc
  calm := f.calm
  fn := f.fn
  K := f.K
  w := f.w
  tk := tk
  pass := ps
  un := f.un
  gd := f.gd
  blt := f.blt
  con := f.con
  fns := f.fns
  own := f.own
  exc := f.exc
  excF := f.excF
  room := f.room
  hkc := f.hkc
  hk0 := f.hk0
  hk1 := fun i c h => nomatch hc.symm.trans h
theorem Fit.suite (f : Fit X C G F) {a dd : Addr} {oe : Obj} {cls : Value} {c i : Nat} {x : Str} {pn : List (Addr × Obj)} (hz : Zc cls (some dd) oe) (hf : ∃ vs, oe.data = .fields vs) (hc : cls = .ref (G.cls c)) (hx : ExcT X.K X.mg x (G.fld c) (G.cls c)) :
    Fit (X.suite a ((a, oe) :: pn)) { C with calm := false, hk := some (i, c) } (G.suite (some (i, a, dd, G.fld c))) F where
  N := f.N
  nd := f.nd
  sc := f.sc
  calm := rfl
  fn := f.fn
  K := f.K
  w := f.w
  tk := takes0
  pass := PassesOwn.never
  un := f.un
  gd := f.gd
  blt := f.blt
  con := f.con
  fns := fun h => nomatch (show false = true from h)
  own := f.own
  exc := f.exc
  excF := f.excF
  room := fun h => nomatch (show false = true from h)
  hkc := fun h => nomatch (show false = true from h)
  hk0 := fun h => nomatch (show some (i, c) = none from h)
  hk1 := by
    intro i' c' h
    cases (show some (i, c) = some (i', c') from h)
    refine ⟨a, dd, rfl, fun e j pos he hb => ?_⟩
    refine PE.of (hx.rd X rfl rfl a oe cls (some dd) pn e _ pos hz hf he hb) fun σ H Q q => ?_
    obtain ⟨v, e1, e2, u, e3, e4⟩ := q
    exact ⟨v, e1, e2, hc, dd, u, rfl, e3, e4⟩
theorem Fit.suite0 (f : Fit X C G F) {a : Addr} {pn : List (Addr × Obj)} : Fit (X.suite a pn) { C with calm := false, hk := none } (G.suite none) F where
  N := f.N
  nd := f.nd
  sc := f.sc
  calm := rfl
  fn := f.fn
  K := f.K
  w := f.w
  tk := takes0
  pass := PassesOwn.never
  un := f.un
  gd := f.gd
  blt := f.blt
  con := f.con
  fns := fun h => nomatch (show false = true from h)
  own := f.own
  exc := f.exc
  excF := f.excF
  room := fun h => nomatch (show false = true from h)
  hkc := fun h => nomatch (show false = true from h)
  hk0 := fun h => rfl
  hk1 := fun i c h => nomatch (show none = some (i, c) from h)
/-- try -/
theorem s_try (hB : OkB S F) (f : Fit X C G F) (body : List Stmt) (x : Str) (n : Option Str) (su : List Stmt) (np pos' pos : Pos) : PS X (.Try body [.ExceptHandler (some (.Name x np)) n su pos'] [] [] pos) (tS G (tryE S C body x n su)) := by
  have nv : ∀ {s : Stmt}, PS X s (tS G stuckS) := PS.never fun D σ H h => tS_stuck h
  unfold tryE
  split
  · rename_i hh
    simp only [Bool.and_eq_true] at hh
    obtain ⟨⟨⟨h1, h2⟩, h3⟩, h4⟩ := hh
    obtain ⟨g1, g2⟩ := f.glb h3
    have hkc := f.hkc h1
    obtain ⟨o1, o2⟩ := f.own h2
    cases su with
    | nil => cases h4
    | cons b0 su =>
      split
      · rename_i c hc
        have ex := f.exc x c hc
        have nm : Names X x (.ref (G.cls c)) := ⟨g1, (plain_ne g2).1, .inl ex.gC⟩
        have te := ex.te
        rw [f.K] at te
        cases n with
        | some n =>
          dsimp only
          split
          · rename_i i hl hi
            refine PS.of (ps_try_as (i := i) (ts := tSuite G c (some i) (S.B { C with calm := false, hk := some (i, c) } (b0 :: su))) (tb := fun W => tS (G.wish W) (S.B C body)) o1 o2 (by rw [f.N]; exact f.nd) (by rw [f.N]; exact ixOf_get hi)
              (show X.env.scope.names.lookup n = some .local from by rw [f.sc]; exact hl) nm f.tk (fun W pn xe tk ps => hB _ _ _ (f.tr hkc tk ps) body) (fun a oe cls d pn hz hf => ?_)) fun D σ H h => ?_
            · refine ⟨fun pins s σ H D I q => ?_⟩
              obtain ⟨dd, rfl, hcl, q⟩ := q
              exact (hB _ _ _ (f.suite (i := i) hz hf hcl ex) (b0 :: su)).run pins s σ H D I q
            · have z := try_tS (f.hk0 hkc) te h
              rw [← f.K] at z
              exact z
          · exact nv
        | none =>
          dsimp only
          refine PS.of (ps_try_only (ts := tSuite G c none (S.B { C with calm := false, hk := none } (b0 :: su))) (tb := fun W => tS (G.wish W) (S.B C body)) o1 o2 nm f.tk (fun W pn xe tk ps => hB _ _ _ (f.tr hkc tk ps) body)
            (fun a oe cls d pn hz hf => ?_)) fun D σ H h => ?_
          · refine ⟨fun pins s σ H D I q => ?_⟩
            obtain ⟨dd, rfl, hcl, q⟩ := q
            exact (hB _ _ _ (f.suite0 (a := a) (pn := (a, oe) :: pn)) (b0 :: su)).run pins s σ H D I q
          · have z := try0_tS (f.hk0 hkc) te h
            rw [← f.K] at z
            exact z
      · exact nv
  · exact nv
theorem sw_none {e : Expr} (h : isComp e = false) (l : Nat) (env : Env) : swapsWith e none l env = pure false := by
  cases e <;> first | rfl | cases h
theorem sw_name {e : Expr} (h : isComp e = false) (t : Option Expr) (l : Nat) (env : Env) : swapsWith e t l env = pure false := by
  cases e <;> first | rfl | cases h
theorem ok_B (hS : OkS S F) (h0 : OkS (stepQ F S) F → True) : OkB (stepQ F S) F := by
  intro X C G f st
  show PSs X st (tS G (stepB S C st))
  induction st with
  | nil => exact PSs.of pss_nil fun D σ H h => skip_tS h
  | cons s r ih => exact PSs.of (pss_cons (hS X C G f s) ih) fun D σ H h => seq_tS h
theorem lc_other {elt : Expr} {gens : List Comprehension} {sc : Scope} {cp : Pos} (h : ¬ ∃ tg it ifs, gens = [⟨tg, it, ifs, 0⟩]) : stepE F S C (.ListComp elt gens sc cp) = stuck := by
  unfold stepE
  split <;> first
    | rfl
    | (rename_i e; injection e with e1 e2; exact absurd ⟨_, _, _, e2⟩ h)
    | (rename_i e; cases e)
theorem dc_other {k v : Expr} {gens : List Comprehension} {sc : Scope} {cp : Pos} (h : ¬ ∃ tg it, gens = [⟨tg, it, [], 0⟩]) : stepE F S C (.DictComp k v gens sc cp) = stuck := by
  unfold stepE
  split <;> first
    | rfl
    | (rename_i e; injection e with e1 e2 e3; exact absurd ⟨_, _, e3⟩ h)
    | (rename_i e; cases e)
/-- name = value -/
theorem s_name (hE : OkE S F) (hT : OkT S F) (hI : OkI S F) (f : Fit X C G F) {e : Expr} {tg : Expr} {i : Nat} (hi : nmIx C tg = some i) (pos : Pos) (iE' : PE X e (tG G G.R (stepE F S C e))) :
    PS X (.Assign [tg] e pos) (tS G (asg (.nm i) (if isComp e then stepE F S C e else S.E C e))) := by
  obtain ⟨x, p, rfl, hl, hk⟩ := nmIx_some hi
  obtain ⟨a1, a2, a3⟩ := f.loc hl
  have nd : X.N.Nodup := by rw [f.N]; exact f.nd
  have hn := f.noHk hk
  have iE := hE X C G f
  have nv : ∀ {s : Stmt} {t : Tg}, PS X s (tS G (asg t (stuck : M D))) := PS.never fun D σ H h => by
    obtain ⟨m, e, hh, f, e', h', b1, b2, b3, b4⟩ := h
    cases b3
  cases hc : isComp e with
  | false =>
    exact PS.of (ps_set nd a1 a2 (iE e) (sw_name hc _ _ _) a3) fun D σ H h => asgN_tS hn h
  | true =>
    cases e <;> first | (cases hc; done) | skip
    · rename_i elt gens sc cp
      by_cases hg : ∃ tg it ifs, gens = [⟨tg, it, ifs, 0⟩]
      · obtain ⟨tg', it, ifs, rfl⟩ := hg
        have hsw : swapsWith (.ListComp elt [⟨tg', it, ifs, 0⟩] sc cp) (some (.Name x p)) pos.line X.env = pure (X.env.blockKind == .function && X.env.kindOf x == some .local && p.line == cp.line && !(sc.names.any fun (n, k) => n == x && (k == .local || k == .cell))) := rfl
        cases hb : (X.env.blockKind == .function && X.env.kindOf x == some .local && p.line == cp.line && !(sc.names.any fun (n, k) => n == x && (k == .local || k == .cell))) with
        | false => rw [hb] at hsw; exact PS.of (ps_set nd a1 a2 iE' hsw a3) fun D σ H h => asgN_tS hn h
        | true =>
          rw [hb] at hsw
          simp only [Bool.and_eq_true] at hb
          exact PS.of (s_lc hE hT hI f a1 (eq_of_beq hb.1.1.2) hsw) fun D σ H h => asgN_tS hn h
      · rw [lc_other hg]
        exact nv
    · exact nv
    · rename_i kx vx gens sc cp
      by_cases hg : ∃ tg it, gens = [⟨tg, it, [], 0⟩]
      · obtain ⟨tg', it, rfl⟩ := hg
        have hsw : swapsWith (.DictComp kx vx [⟨tg', it, [], 0⟩] sc cp) (some (.Name x p)) pos.line X.env = pure (X.env.blockKind == .function && X.env.kindOf x == some .local && p.line == cp.line && !(sc.names.any fun (n, k) => n == x && (k == .local || k == .cell))) := rfl
        cases hb : (X.env.blockKind == .function && X.env.kindOf x == some .local && p.line == cp.line && !(sc.names.any fun (n, k) => n == x && (k == .local || k == .cell))) with
        | false => rw [hb] at hsw; exact PS.of (ps_set nd a1 a2 iE' hsw a3) fun D σ H h => asgN_tS hn h
        | true =>
          rw [hb] at hsw
          simp only [Bool.and_eq_true] at hb
          exact PS.of (s_dc hE hI f a1 (eq_of_beq hb.1.1.2) hsw) fun D σ H h => asgN_tS hn h
      · rw [dc_other hg]
        exact nv
end
end Dd

set_option Elab.async false
set_option linter.all false
set_option maxRecDepth 100000
set_option maxHeartbeats 4000000
namespace Dd
open PySem PySem.Spec PyProof.Rows L2

section
variable {X : Cx} {C : CE} {G : Pc} {F : Call} {S : Sm}
theorem tg_sub {o k e : Expr} {p : Pos} (l : Nat) (env : Env) : swapsWithSole [.Subscript o k p] e l env = pure false ∧ swappedStores [.Subscript o k p] e env = pure none := by
  refine ⟨?_, ?_⟩
  · show swapsWith e (some (.Subscript o k p)) l env = pure false
    cases e <;> rfl
  · cases e <;> rfl
theorem tg_tup {es : List Expr} {k : Nat} {e : Expr} {p : Pos} (h : isTupE e = false) (hc : isComp e = false) (l : Nat) (env : Env) : swapsWithSole [.Tuple es k p] e l env = pure false ∧ swappedStores [.Tuple es k p] e env = pure none := by
  refine ⟨?_, ?_⟩
  · show swapsWith e (some (.Tuple es k p)) l env = pure false
    exact sw_name hc _ _ _
  · cases e <;> first | rfl | cases h
theorem aug_some {op : PySem.Operator} {f : D → D → DH → Option (D × DH)} (h : augD op = some f) : ∃ fi, f = augI fi ∧ ∀ X : Cx, PIp X op (ipI fi) := by
  cases op <;> first | cases h | skip
  · exact ⟨_, rfl, fun X => ip_add⟩
  · exact ⟨_, rfl, fun X => ip_sub⟩
theorem ok_S (hE : OkE S F) (hT : OkT S F) (hI : OkI S F) (hO : OkO S F) (hB : OkB S F) (hE' : OkE (stepQ F S) F) : OkS (stepQ F S) F := by
  intro X C G f st
  have iE := hE X C G f
  have nd : X.N.Nodup := by rw [f.N]; exact f.nd
  have nv : ∀ {s : Stmt}, PS X s (tS G stuckS) := PS.never fun D σ H h => tS_stuck h
  show PS X st (tS G (stepS F S C st))
  unfold stepS
  split
  · exact PS.of (ps_ret (iE _)) fun D σ H h => ret_tS h
  · refine PS.of ps_retN fun D σ H h => ?_
    obtain ⟨m, e, hh, fl, e', h', a1, a2, a3, a4⟩ := h
    cases a3
    exact a4 m H σ (Ext.refl _ _) a1 a2 _ rfl
  · exact PS.of ps_pass fun D σ H h => skip_tS h
  · refine PS.of ps_break fun D σ H h => ?_
    obtain ⟨m, e, hh, fl, e', h', a1, a2, a3, a4⟩ := h
    cases a3
    exact a4 m H σ (Ext.refl _ _) a1 a2
  · refine PS.of ps_continue fun D σ H h => ?_
    obtain ⟨m, e, hh, fl, e', h', a1, a2, a3, a4⟩ := h
    cases a3
    exact a4 m H σ (Ext.refl _ _) a1 a2
  · exact PS.of ps_doc fun D σ H h => skip_tS h
  · split
    · exact nv
    · rename_i hc
      exact PS.of (ps_expr (iE _) (sw_none (by simpa using hc) _ _)) fun D σ H h => drop_tS h
  · split
    · exact nv
    · rename_i o k p e pos hc
      simp only [Bool.or_eq_true, not_or, Bool.not_eq_true] at hc
      have sub := tg_sub (o := o) (k := k) (e := e) (p := p) pos.line X.env
      refine PS.of (ps_asg (iE e) (pg_sub (iE o) (iE k) (set_any f) ?_) sub.1 sub.2 rfl) fun D σ H h => set_tS h
      intro v
      have := hc.1
      cases k <;> first | rfl | cases this
  · split
    · rename_i tg e pos hn _ t ht
      split
      · exact nv
      · rename_i hc
        simp only [Bool.or_eq_true, Bool.and_eq_true, not_or, not_and, Bool.not_eq_true] at hc
        unfold tgOf at ht
        split at ht
        · obtain ⟨i, e1, e2⟩ := map_some ht
          subst e2
          exact s_name hE hT hI f e1 pos (hE' X C G f e)
        · rename_i es kk tp
          have c2 : isComp e = false := by
            cases hh : isComp e with
            | false => rfl
            | true => exact absurd (hc.2 hh) (by intro z; cases z)
          have c1 : isTupE e = false := hc.1 rfl
          rw [c2]
          have tp' : tgOf C (.Tuple es kk tp) = some t := ht
          have sub := tg_tup (es := es) (k := kk) (p := tp) c1 c2 pos.line X.env
          exact PS.of (ps_asg (iE e) (pg_tg f tp') sub.1 sub.2 rfl) fun D σ H h => asg_tS h
        · cases ht
    · exact nv
  · split
    · rename_i x p op e pos _ _ i g hi hf
      split
      · exact nv
      · rename_i hk
        obtain ⟨fi, rfl, hp⟩ := aug_some hf
        obtain ⟨a1, a2, a3⟩ := f.loc hi
        exact PS.of (ps_aug nd a1 a2 (iE e) (hp X) a3) fun D σ H h => aug_tS (f.noHk (by simpa using hk)) h
    · exact nv
  · exact PS.of (ps_if (hT X C G f _) (hB X C G f _) (hB X C G f _)) fun D σ H h => if_tS h
  · split
    · rename_i hc
      rw [Bool.and_eq_true] at hc
      split
      · rename_i t ht
        exact PS.of (ps_for f.pass (by rw [f.calm]; exact hc.1) (hI X C G f _ _) (pg_tg f ht) (hB X C G f _) (folded (by simpa using hc.2))) fun D σ H h => for_tS h
      · exact nv
    · exact nv
  · exact PS.of (ps_while f.pass (hT X C G f _) (hB X C G f _)) fun D σ H h => while_tS h
  · split
    · rename_i x p a p2 pos hc
      simp only [Bool.and_eq_true] at hc
      obtain ⟨⟨⟨h1, h2⟩, h3⟩, h4⟩ := hc
      obtain ⟨g1, g2⟩ := f.glb h3
      split
      · rename_i c hx
        obtain ⟨k, hr⟩ := f.room h1
        have hall : ([a] : List Expr).all noStar = true := by rw [List.all_cons, h4]; rfl
        exact PS.of (ps_raise (by rw [f.calm]; exact h1) f.tk ((f.exc x c hx).mkx X rfl rfl a _ p p2 k hr (pa_all iE hall) g1 (plain_ne g2).1 h4)) fun D σ H h => raise_tS h
      · exact nv
    · exact nv
  · exact s_try hB f _ _ _ _ _ _ _
  · exact nv
structure OkSm (S : Sm) (F : Call) : Prop where
  E : OkE S F
  T : OkT S F
  W : OkW S F
  O : OkO S F
  I : OkI S F
  St : OkS S F
  B : OkB S F
theorem ok_sem (F : Call) : ∀ n, OkSm (sem F n) F
  | 0 => by
    refine ⟨fun X C G f e => PE.never fun σ H Q h => tG_stuck h, fun X C G f e => PT.never fun σ H Q h => tG_stuck h, fun X C G f op es p => PW.never fun σ H Q h => tG_stuck h, fun X C G f o => ⟨fun pins s σ H Q I q => (tG_stuck q).elim⟩,
      fun X C G f tg e => ⟨fun pins s σ H R I q => ?_⟩, fun X C G f st => PS.never fun D σ H h => tS_stuck h, fun X C G f st => ⟨fun pins s σ H D I q => (tS_stuck q).elim⟩⟩
    obtain ⟨m, e0, hh, r, h', a1, a2, a3, a4⟩ := q
    cases a3
  | n + 1 => by
    have ih := ok_sem F n
    have e := ok_E ih.E ih.T ih.I ih.O
    have w := ok_W ih.T ih.W
    exact ⟨e, ok_T ih.E ih.T w, w, ok_O ih.E, ok_I ih.E, ok_S ih.E ih.T ih.I ih.O ih.B e, ok_B ih.St (fun _ => trivial)⟩
end
end Dd

set_option Elab.async false
set_option linter.all false
set_option maxRecDepth 100000
set_option maxHeartbeats 4000000
namespace Dd
open PySem PySem.Spec PyProof.Rows L2

/-! # 26. Every def of the program does what the plain program does -/
structure Lk (w : World) (K : PySem.W.Frag) (mg : Str → Option Value) (p : Pg) (cls : Nat → Addr) (fld : Nat → Str) : Prop where
  fns : ∀ (k : Nat) (f : Fn), p.fns[k]? = some f → ∃ (a : Addr) (fd : FuncData) (st : Stmt), mg f.name = some (.ref a) ∧ PySem.W.keepIn K (.ref a) = true ∧ Fun K f.name f.name st a fd ∧ FnScope f.N f.ps (defScope st) ∧ Binds K fd f.ps [] ∧ f.sc = defScope st ∧ f.body = defBody st
  blt : ∀ x ∈ bltNms, mg x = none
  con : ∀ x d, p.con.lookup x = some d → ∃ u v, mg x = some u ∧ RelV v u ∧ ∀ m H, RelD K w m H d v
  exc : ∀ x c, exIx x p.exc 0 = some c → ExcT K mg x (fld c) (cls c)
  excF : ∀ c x f, p.exc[c]? = some (x, f) → f = fld c
theorem fnIx_get {x : Str} : ∀ {l : List (Str × Nat)} {k i ar : Nat}, fnIx x l k = some (i, ar) → ∃ j, i = k + j ∧ l[j]? = some (x, ar)
  | [], _, _, _, h => by cases h
  | (y, a) :: r, k, i, ar, h => by
    unfold fnIx at h
    split at h
    · rename_i e
      cases h
      exact ⟨0, rfl, by rw [e]; rfl⟩
    · obtain ⟨j, e1, e2⟩ := fnIx_get h
      exact ⟨j + 1, by omega, e2⟩
theorem start_env {G : Pc} {m : List Addr} {H : Hp} (hk : G.hk = none) {N : List Str} : ∀ {ds : List D} {vs : List V}, G.Rs m H ds vs → EnvR G m H (startD N ds) (L2.start N vs) := by
  intro ds vs g
  have hl : vs.length = ds.length := RelDs.length g
  refine ⟨?_, fun i d q => ?_⟩
  · unfold startD L2.start
    rw [List.length_append, List.length_append, List.length_map, List.length_map, hl, List.length_replicate, List.length_replicate]
  · unfold SlotR
    rw [hk]
    show ∃ v, (L2.start N vs)[i]? = some (some v) ∧ G.R m H d v
    unfold startD at q
    by_cases hi : i < ds.length
    · rw [List.getElem?_append_left (by rw [List.length_map]; exact hi), List.getElem?_map] at q
      obtain ⟨d', e1, e2⟩ := map_some q
      cases e2
      obtain ⟨v, e3, e4⟩ := RelDs.get g e1
      refine ⟨v, ?_, e4⟩
      unfold L2.start
      rw [List.getElem?_append_left (by rw [List.length_map, hl]; exact hi), List.getElem?_map, e3]
      rfl
    · rw [List.getElem?_append_right (by rw [List.length_map]; omega)] at q
      rw [List.getElem?_replicate] at q
      split at q <;> cases q
section
variable {P : Program} {w : World} {K : PySem.W.Frag} {mg : Str → Option Value} {base : Heap} {p : Pg} {cls : Nat → Addr} {fld : Nat → Str}
def pcOf (K : PySem.W.Frag) (w : World) (cls : Nat → Addr) (fld : Nat → Str) (W : WX) : Pc := ⟨K, w, cls, fld, W, none⟩
theorem fit_def (L : Lk w K mg p cls fld) {f : Fn} {n : Nat} {F : Call} {st : Stmt} {fa : Addr} {cdv : Value} {A : Around} {outer : List Env} {s : Shared} {H : Hp} {E : XK} (S : FnScope f.N f.ps (defScope st)) (hsc : f.sc = defScope st)
    (hr : Room n (A.deeper (envOfC f.name (defScope st) s.heap.objs.size fa cdv))) (hg : A.guards = some [])
    (ih : ∀ (k : Nat) (g : Fn) (a : Addr), p.fns[k]? = some g → mg g.name = some (.ref a) → FnG P w K mg base n a (spF (pcOf K w cls fld fun _ _ _ _ => False) F k)) :
    Fit (cxOf (L2.CX P w) P w K mg base f.N f.name (defScope st) fa cdv A outer s H E) (p.ce f) (pcOf K w cls fld fun cv d _ H => E cv d H) F where
  N := rfl
  nd := S.nd
  sc := hsc.symm
  calm := rfl
  fn := fun x _ => rfl
  K := rfl
  w := rfl
  tk := takes_of rfl rfl rfl rfl
  pass := passes_of rfl
  un := by
    have := hr.un
    show (A.deeper (envOfC f.name (defScope st) s.heap.objs.size fa cdv)).units + 100 < cLine
    omega
  gd := hg
  blt := L.blt
  con := L.con
  fns := by
    intro _ x i ar h
    obtain ⟨j, e1, e2⟩ := fnIx_get h
    rw [Nat.zero_add] at e1
    subst e1
    have e2 : (p.fns.map fun g => (g.name, g.ps.length))[i]? = some (x, ar) := e2
    rw [List.getElem?_map] at e2
    obtain ⟨g, e3, e4⟩ := map_some e2
    cases e4
    obtain ⟨a, fd, st', h1, h2, _⟩ := L.fns i g e3
    exact ⟨a, n, h1, h2, hr, ih i g a e3 h1⟩
  own := fun _ => ⟨rfl, rfl⟩
  exc := L.exc
  excF := L.excF
  room := fun _ => ⟨n, hr⟩
  hkc := fun _ => rfl
  hk0 := fun _ => rfl
  hk1 := fun i c h => nomatch (show (none : Option (Nat × Nat)) = some (i, c) from h)
theorem run_ok (L : Lk w K mg p cls fld) : ∀ (n k : Nat) (f : Fn) (a : Addr), p.fns[k]? = some f → mg f.name = some (.ref a) → FnG P w K mg base n a (spF (pcOf K w cls fld fun _ _ _ _ => False) (p.run n) k)
  | 0, k, f, a, _, _ => fun A outer s H us vs Q E _ _ _ _ ⟨m, h, ds, r, h', _, _, e, _⟩ => nomatch (show none = some (r, h') from e)
  | n + 1, k, f, a, hf, ha => by
    obtain ⟨a', fd, st, h1, h2, h3, h4, h5, h6, h7⟩ := L.fns k f hf
    rw [ha] at h1
    cases h1
    have ih := run_ok L n
    refine fnG_of h3 h4 h5 (fun vs H Q E h => ?_) fun cdv A outer s H vs Q E hr hg h => ?_
    · obtain ⟨m, hh, ds, r, h', a1, a2, a3, a4⟩ := h
      have a3 : (match p.fns[k]? with | some f => f.run p (p.run n) ds hh | none => none) = some (r, h') := a3
      rw [hf] at a3
      have a3 : f.run p (p.run n) ds hh = some (r, h') := a3
      unfold Fn.run at a3
      split at a3
      · rename_i hl
        rw [RelDs.length a2, hl]
      · cases a3
    · have fit := fit_def (P := P) (base := base) L (cdv := cdv) (outer := outer) (H := H) (E := E) h4 h6 hr hg ih
      refine ⟨_, (ok_sem (p.run n) fuel).B _ _ _ fit (defBody st), ?_⟩
      obtain ⟨m, hh, ds, r, h', a1, a2, a3, a4⟩ := h
      have a3 : (match p.fns[k]? with | some f => f.run p (p.run n) ds hh | none => none) = some (r, h') := a3
      rw [hf] at a3
      have a3 : f.run p (p.run n) ds hh = some (r, h') := a3
      unfold Fn.run at a3
      split at a3
      · rw [h7] at a3
        have en : EnvR (pcOf K w cls fld fun cv d _ H => E cv d H) m H (startD f.N ds) (L2.start f.N vs) := start_env rfl a2
        split at a3
        · rename_i d e1 h1 hs
          cases a3
          exact ⟨m, _, hh, _, _, _, a1, en, hs, fun m' H' σ' x y z v g => a4 m' H' x y v g⟩
        · rename_i e1 h1 hs
          cases a3
          exact ⟨m, _, hh, _, _, _, a1, en, hs, fun m' H' σ' x y z => a4 m' H' x y _ rfl⟩
        · rename_i c q e1 h1 hs
          cases a3
          exact ⟨m, _, hh, _, _, _, a1, en, hs, fun m' H' σ' x y z cv d ex => a4 m' H' x y cv d ex⟩
        · cases a3
      · cases a3
end
end Dd

set_option Elab.async false
set_option linter.all false
set_option maxRecDepth 100000
set_option maxHeartbeats 4000000
namespace Dd
open PySem PySem.Spec PyProof.Rows L2

/-! # 27. What the program's top has left -/
/-- of the written part that is meant -/
abbrev KOf {K : PySem.W.Frag} {h : Heap} (_ : K.In h) (Q : PySem.W.Frag → Prop) : Prop := Q K
/-- a def stands there -/
def DefAt (K : PySem.W.Frag) (mg : Str → Option Value) (x : Str) (st : Stmt) : Prop := ∃ (a : Addr) (fd : FuncData), mg x = some (.ref a) ∧ PySem.W.keepIn K (.ref a) = true ∧ Fun K x x st a fd
theorem def_mk {K : PySem.W.Frag} {h : Heap} {mg : Str → Option Value} {x : Str} {st : Stmt} (X : K.In h) (G : h.Ns mainGlobals mg) {f : Addr} {oc : Value} {od an : Option Addr} {osl : Array (Option Value)} {kV doc pm cdv ct : Value}
    (a : PySem.W.nsIn K mainGlobals x = some (some (.ref f))) (l : K.lookup f = some ⟨oc, od, .func (PySem.W.fnOf x x (defArgs st) (defBody st) (defScope st) .none kV doc pm an cdv ct), osl⟩)
    (c : PySem.W.codeIn K cdv x = true) (k : PySem.W.keepIn K (.ref f) = true) : DefAt K mg x st := ⟨f, _, PySem.W.mg_of X G a, k, fun_mk l c k⟩
/-- a def of the plain program, of the text st -/
structure FnOf (f : Fn) (st : Stmt) : Prop where
  sc : f.sc = defScope st
  body : f.body = defBody st
  scope : FnScope f.N f.ps (defScope st)
  binds : ∀ (kV doc pm : Value) (an : Option Addr) (cdv ct : Value) (us : List Value), us.length = f.ps.length → bindArgs (PySem.W.fnOf f.name f.name (defArgs st) (defBody st) (defScope st) .none kV doc pm an cdv ct) ⟨us, []⟩ = pure (f.ps.zip us)
def LkF (K : PySem.W.Frag) (mg : Str → Option Value) (f : Fn) : Prop := ∃ (a : Addr) (fd : FuncData) (st : Stmt), mg f.name = some (.ref a) ∧ PySem.W.keepIn K (.ref a) = true ∧ Fun K f.name f.name st a fd ∧ FnScope f.N f.ps (defScope st) ∧ Binds K fd f.ps [] ∧ f.sc = defScope st ∧ f.body = defBody st
theorem lkF {K : PySem.W.Frag} {mg : Str → Option Value} {f : Fn} {st : Stmt} (o : FnOf f st) (d : DefAt K mg f.name st) : LkF K mg f := by
  obtain ⟨a, fd, h1, h2, h3⟩ := d
  exact ⟨a, fd, st, h1, h2, h3, o.scope, h3.binds o.binds, o.sc, o.body⟩
def ConAt (K : PySem.W.Frag) (w : World) (mg : Str → Option Value) (x : Str) (d : D) : Prop := ∃ u v, mg x = some u ∧ RelV v u ∧ ∀ m H, RelD K w m H d v
section
variable {K : PySem.W.Frag} {w : World} {h : Heap} {mg : Str → Option Value} {x : Str}
theorem con_int (X : K.In h) (G : h.Ns mainGlobals mg) {i : Int} {t : Tok} (a : PySem.W.nsIn K mainGlobals x = some (some (.int i t))) : ConAt K w mg x (.int i) := ⟨_, .int i, PySem.W.mg_of X G a, ⟨t, rfl⟩, fun m H => rfl⟩
theorem con_str (X : K.In h) (G : h.Ns mainGlobals mg) {i : Str} {t : Tok} (a : PySem.W.nsIn K mainGlobals x = some (some (.str i t))) : ConAt K w mg x (.str i) := ⟨_, .str i, PySem.W.mg_of X G a, ⟨t, rfl⟩, fun m H => rfl⟩
theorem con_kt (X : K.In h) (G : h.Ns mainGlobals mg) {xs : List D} {p : Addr} (a : PySem.W.nsIn K mainGlobals x = some (some (.ref p))) (k : RelK K (.kt xs) (.ref p)) : ConAt K w mg x (.kt xs) := ⟨_, .ref p, PySem.W.mg_of X G a, rfl, fun m H => k⟩
theorem con_wd (X : K.In h) (G : h.Ns mainGlobals mg) {kvs : List (Str × D)} {p : Addr} (a : PySem.W.nsIn K mainGlobals x = some (some (.ref p))) (k : RelW K w kvs (.ref p)) : ConAt K w mg x (.wd kvs) := ⟨_, .ref p, PySem.W.mg_of X G a, rfl, fun m H => k⟩
theorem kt_mk {xs : List D} {vs : List V} {p : Addr} {c : Value} {dd : Option Addr} {its : Array Value} {n : Nat} {sl : Array (Option Value)} (l : K.lookup p = some ⟨c, dd, .seq its n, sl⟩) (hc : c = .type "tuple") (hz : its.size ≤ 1000) (hv : Vals vs its.toList) (hr : RelKs K xs vs) : RelK K (.kt xs) (.ref p) :=
  ⟨p, vs, rfl, ⟨_, its, n, l, hc, rfl, Nat.le_trans hz (by decide), hv⟩, hr⟩
/-- the entries of a written dict -/
def EntR (K : PySem.W.Frag) : List DictEntry → List (Str × D) → Prop
  | [], kvs => kvs = []
  | e :: es, kvs => ∃ x d r t v0, kvs = (x, d) :: r ∧ e.key = .str x t ∧ RelV v0 e.val ∧ RelK K d v0 ∧ EntR K es r
theorem ent_find {a : Addr} (z : Str) : ∀ {es : List DictEntry} {kvs : List (Str × D)}, EntR K es kvs → match kvs.lookup z with
    | some d => ∃ e v0, es.find? (·.key.isStr z) = some e ∧ RelV v0 e.val ∧ RelK K d v0
    | none => es.find? (·.key.isStr z) = none ∧ es.any (·.refKey) = false
  | [], kvs, h => by cases (show kvs = [] from h); exact ⟨rfl, rfl⟩
  | e :: es, kvs, h => by
    obtain ⟨x, d, r, t, v0, rfl, hk, h1, h2, h3⟩ := h
    have ih := ent_find (a := a) z h3
    have hs : e.key.isStr z = (x == z) := by rw [hk]; rfl
    have hr : e.refKey = false := by unfold DictEntry.refKey; rw [hk]
    rw [List.lookup_cons, List.find?_cons, hs]
    cases hb : x == z with
    | true =>
      have : (z == x) = true := by rw [eq_of_beq hb]; exact beq_self_eq_true z
      rw [this]
      exact ⟨e, v0, rfl, h1, h2⟩
    | false =>
      have : (z == x) = false := by
        cases hh : z == x with
        | false => rfl
        | true => rw [eq_of_beq hh, beq_self_eq_true] at hb; cases hb
      rw [this, List.any_cons, hr, Bool.false_or]
      exact ih
theorem wd_mk {kvs : List (Str × D)} {p : Addr} {es : Array DictEntry} {n : Nat} (l : K.lookup p = some ⟨.type "dict", none, .dict es n, #[]⟩) (lit : PySem.W.KeysLit w.params es.toList) (low : (p == sysModules) = false) (e : EntR K es.toList kvs) : RelW K w kvs (.ref p) := by
  refine ⟨p, es, n, rfl, ⟨l, lit, low⟩, fun z => ?_⟩
  have q := ent_find (a := p) z e
  unfold WdAt
  split at q
  · rename_i d hd
    try rw [hd]
    obtain ⟨e, v0, h1, h2, h3⟩ := q
    refine ⟨e.val, v0, ?_, h2, h3⟩
    unfold PySem.W.nsIn
    rw [l]
    dsimp only
    rw [h1]
  · rename_i hd
    try rw [hd]
    show PySem.W.nsIn K p z = some none
    unfold PySem.W.nsIn
    rw [l]
    dsimp only
    rw [q.1, q.2]
    rfl
end
/-- an error with one field is what except of its class names -/
theorem exm_own {K : PySem.W.Frag} {c : Addr} (h1 : PySem.W.subIn K (.ref c) (.type "BaseException") = some true) (h2 : PySem.W.isClsIn K c = true) (h3 : PySem.W.typeIn K (.ref c) = some (.type "type")) (h4 : PySem.W.subIn K (.ref c) (.ref c) = some true) :
    PySem.W.exmOne K (.ref c) (.ref c) = some true := by
  have h2' : (PySem.W.clsIn K c).isSome = true := h2
  simp [PySem.W.exmOne, PySem.W.kitCls, h1, h2', h3, h4]
theorem ex0 {x y : Str} {l : List (Str × Str)} {f : Str} {k c : Nat} (h : exIx x ((y, f) :: l) k = some c) : (x = y ∧ c = k) ∨ exIx x l (k + 1) = some c := by
  unfold exIx at h
  split at h
  · rename_i e; cases h; exact .inl ⟨e, rfl⟩
  · exact .inr h
theorem own_why {K : PySem.W.Frag} {h : Heap} {mg : Str → Option Value} {x : Str} (X : K.In h) (G : h.Ns mainGlobals mg) {C fI : Addr} {nm q : Str} {N : Addr} {bs bm : List Value} {sn : List Str} {sub : List Value} {ab : Bool} {col : Option Bool} {dd : Option Addr} {m0 m1 m2 m3 m5 : Option Value}
    {od an : Option Addr} {sl : Array (Option Value)} {oc dc pm cd ct : Value} {qn : Str} {p1 p2 q1 q2 q3 q4 : Pos}
    (aC : PySem.W.nsIn K mainGlobals x = some (some (.ref C)))
    (xL : K.lookup C = some (excClassObj nm q C N bs bm true sn sub ab col dd m0 m1 m2 m3 m5 "ValueError.__new__")) (rv : PySem.HandSPX.refsVE bm = true)
    (sa : PySem.W.findIn K (.ref C) "__setattr__" = some (some (.builtin "object.__setattr__"))) (ga : PySem.W.findIn K (.ref C) "__getattribute__" = some (some (.builtin "BaseException.__getattribute__"))) (gg : PySem.W.findIn K (.ref C) "__getattr__" = some none) (nb : PySem.W.findIn K (.ref C) "why" = some none)
    (a1 : PySem.W.findIn K (.ref C) "__init__" = some (some (.ref fI))) (t1 : PySem.W.typeIn K (.ref fI) = some (.type "function"))
    (l1 : K.lookup fI = some ⟨oc, od, .func (PySem.W.fnOf "__init__" qn (PySem.OWhy.iA p1 p2) (PySem.OWhy.iB q1 q2 q3 q4) PySem.OWhy.iS .none .none dc pm an cd ct), sl⟩) (c1 : PySem.W.codeIn K cd qn = true)
    (kC : PySem.W.keepIn K (.ref C) = true) (eC : PySem.W.subIn K (.ref C) (.type "BaseException") = some true) (tC : PySem.W.typeIn K (.ref C) = some (.type "type")) (hC : PySem.W.hasDictIn K C = true) (iC : PySem.W.isClsIn K C = true) (sC : PySem.W.subIn K (.ref C) (.ref C) = some true) :
    ∃ C fI, PySem.OWhy.OTxt K mg x C fI :=
  ⟨C, fI, { gC := PySem.W.mg_of X G aC, cls := ⟨nm, q, N, bs, bm, sn, sub, ab, col, dd, m0, m1, m2, m3, m5, xL, rv⟩, sa := sa, ga := ga, gg := gg, noN := nb, iC := a1, tC := t1, kC := kC, exC := eC, tyC := tC, hdC := hC, te := exm_own eC iC tC sC,
            fn := ⟨_, _, _, _, _, _, _, _, _, _, _, _, _, _, _, l1, c1⟩ }⟩
theorem own_path {K : PySem.W.Frag} {h : Heap} {mg : Str → Option Value} {x : Str} (X : K.In h) (G : h.Ns mainGlobals mg) {C fI : Addr} {nm q : Str} {N : Addr} {bs bm : List Value} {sn : List Str} {sub : List Value} {ab : Bool} {col : Option Bool} {dd : Option Addr} {m0 m1 m2 m3 m5 : Option Value}
    {od an : Option Addr} {sl : Array (Option Value)} {oc dc pm cd ct : Value} {qn : Str} {p1 p2 q1 q2 q3 q4 : Pos}
    (aC : PySem.W.nsIn K mainGlobals x = some (some (.ref C)))
    (xL : K.lookup C = some (excClassObj nm q C N bs bm true sn sub ab col dd m0 m1 m2 m3 m5 "ValueError.__new__")) (rv : PySem.HandSPX.refsVE bm = true)
    (sa : PySem.W.findIn K (.ref C) "__setattr__" = some (some (.builtin "object.__setattr__"))) (ga : PySem.W.findIn K (.ref C) "__getattribute__" = some (some (.builtin "BaseException.__getattribute__"))) (gg : PySem.W.findIn K (.ref C) "__getattr__" = some none) (nb : PySem.W.findIn K (.ref C) "path" = some none)
    (a1 : PySem.W.findIn K (.ref C) "__init__" = some (some (.ref fI))) (t1 : PySem.W.typeIn K (.ref fI) = some (.type "function"))
    (l1 : K.lookup fI = some ⟨oc, od, .func (PySem.W.fnOf "__init__" qn (PySem.OPath.iA p1 p2) (PySem.OPath.iB q1 q2 q3 q4) PySem.OPath.iS .none .none dc pm an cd ct), sl⟩) (c1 : PySem.W.codeIn K cd qn = true)
    (kC : PySem.W.keepIn K (.ref C) = true) (eC : PySem.W.subIn K (.ref C) (.type "BaseException") = some true) (tC : PySem.W.typeIn K (.ref C) = some (.type "type")) (hC : PySem.W.hasDictIn K C = true) (iC : PySem.W.isClsIn K C = true) (sC : PySem.W.subIn K (.ref C) (.ref C) = some true) :
    ∃ C fI, PySem.OPath.OTxt K mg x C fI :=
  ⟨C, fI, { gC := PySem.W.mg_of X G aC, cls := ⟨nm, q, N, bs, bm, sn, sub, ab, col, dd, m0, m1, m2, m3, m5, xL, rv⟩, sa := sa, ga := ga, gg := gg, noN := nb, iC := a1, tC := t1, kC := kC, exC := eC, tyC := tC, hdC := hC, te := exm_own eC iC tC sC,
            fn := ⟨_, _, _, _, _, _, _, _, _, _, _, _, _, _, _, l1, c1⟩ }⟩
theorem own_part {K : PySem.W.Frag} {h : Heap} {mg : Str → Option Value} {x : Str} (X : K.In h) (G : h.Ns mainGlobals mg) {C fI : Addr} {nm q : Str} {N : Addr} {bs bm : List Value} {sn : List Str} {sub : List Value} {ab : Bool} {col : Option Bool} {dd : Option Addr} {m0 m1 m2 m3 m5 : Option Value}
    {od an : Option Addr} {sl : Array (Option Value)} {oc dc pm cd ct : Value} {qn : Str} {p1 p2 q1 q2 q3 q4 : Pos}
    (aC : PySem.W.nsIn K mainGlobals x = some (some (.ref C)))
    (xL : K.lookup C = some (excClassObj nm q C N bs bm true sn sub ab col dd m0 m1 m2 m3 m5 "ValueError.__new__")) (rv : PySem.HandSPX.refsVE bm = true)
    (sa : PySem.W.findIn K (.ref C) "__setattr__" = some (some (.builtin "object.__setattr__"))) (ga : PySem.W.findIn K (.ref C) "__getattribute__" = some (some (.builtin "BaseException.__getattribute__"))) (gg : PySem.W.findIn K (.ref C) "__getattr__" = some none) (nb : PySem.W.findIn K (.ref C) "part" = some none)
    (a1 : PySem.W.findIn K (.ref C) "__init__" = some (some (.ref fI))) (t1 : PySem.W.typeIn K (.ref fI) = some (.type "function"))
    (l1 : K.lookup fI = some ⟨oc, od, .func (PySem.W.fnOf "__init__" qn (PySem.OPart.iA p1 p2) (PySem.OPart.iB q1 q2 q3 q4) PySem.OPart.iS .none .none dc pm an cd ct), sl⟩) (c1 : PySem.W.codeIn K cd qn = true)
    (kC : PySem.W.keepIn K (.ref C) = true) (eC : PySem.W.subIn K (.ref C) (.type "BaseException") = some true) (tC : PySem.W.typeIn K (.ref C) = some (.type "type")) (hC : PySem.W.hasDictIn K C = true) (iC : PySem.W.isClsIn K C = true) (sC : PySem.W.subIn K (.ref C) (.ref C) = some true) :
    ∃ C fI, PySem.OPart.OTxt K mg x C fI :=
  ⟨C, fI, { gC := PySem.W.mg_of X G aC, cls := ⟨nm, q, N, bs, bm, sn, sub, ab, col, dd, m0, m1, m2, m3, m5, xL, rv⟩, sa := sa, ga := ga, gg := gg, noN := nb, iC := a1, tC := t1, kC := kC, exC := eC, tyC := tC, hdC := hC, te := exm_own eC iC tC sC,
            fn := ⟨_, _, _, _, _, _, _, _, _, _, _, _, _, _, _, l1, c1⟩ }⟩
/-- the law's own word -/
def spLaw (K : PySem.W.Frag) (k : Nat) : Sp := fun vs H Q _ => ∃ (a : Addr) (ns : List Int), vs = [.ref a] ∧ ns.length ≤ k ∧ FrzL K H a (ns.map V.int) ∧ ∀ H', Q (.bl true) H'
theorem FnG.mono {P : Program} {w : World} {K : PySem.W.Frag} {mg : Str → Option Value} {base : Heap} {n : Nat} {f : Addr} {sp sp' : Sp} (F : FnG P w K mg base n f sp) (h : ∀ vs H Q E, sp' vs H Q E → sp vs H Q E) : FnG P w K mg base n f sp' :=
  fun A outer s H us vs Q E hr hg e0 r q => F A outer s H us vs Q E hr hg e0 r (h _ _ _ _ q)
theorem law_of {P : Program} {w : World} {K : PySem.W.Frag} {mg : Str → Option Value} {base : Heap} {p : Pg} {cls : Nat → Addr} {fld : Nat → Str} (L : Lk w K mg p cls fld) {n li k : Nat} {f : Fn} {fa : Addr} (hf : p.fns[li]? = some f) (ha : mg f.name = some (.ref fa))
    (main : ∀ ns : List Int, ns.length ≤ k → ∃ h', p.run n li [.frz ns] [] = some (.ok (.bl true), h')) : FnG P w K mg base n fa (spLaw K k) := by
  refine (run_ok (P := P) (base := base) L n li f fa hf ha).mono fun vs H Q E h => ?_
  obtain ⟨a, ns, rfl, hn, hz, q⟩ := h
  obtain ⟨h', hm⟩ := main ns hn
  refine ⟨[], [], [.frz ns], _, h', ⟨List.nodup_nil, rfl, fun i ob z => nomatch z⟩, ⟨_, [], rfl, ⟨a, rfl, hz⟩, rfl⟩, hm, fun m' H' x y v g => ?_⟩
  rw [show v = V.bl true from g]
  exact q H'
end Dd

set_option Elab.async false
set_option linter.all false
set_option maxRecDepth 100000
set_option maxHeartbeats 4000000
namespace Dd
open PySem L2

/-! # 28. Asking the plain program: what is to hold behind a statement, an expression, a call -/
def WP (m : MS) (e : DE) (h : DH) (Q : Fl → DE → DH → Prop) : Prop := ∃ f e' h', m e h = some (f, e', h') ∧ Q f e' h'
def RsP {α : Type} (r : Rs α) (h : DH) (Q : α → DH → Prop) (X : Nat → D → DH → Prop) : Prop := match r with | .ok a => Q a h | .ex c p => X c p h
def WE {α : Type} (m : M α) (e : DE) (h : DH) (Q : α → DH → Prop) (X : Nat → D → DH → Prop) : Prop := ∃ r h', m e h = some (r, h') ∧ RsP r h' Q X
/-- a call -/
def WC (F : Call) (i : Nat) (ds : List D) (h : DH) (Q : D → DH → Prop) (X : Nat → D → DH → Prop) : Prop := ∃ r h', F i ds h = some (r, h') ∧ RsP r h' Q X
/-- an operation -/
def WO {α : Type} (f : DH → Option (α × DH)) (h : DH) (Q : α → DH → Prop) : Prop := match f h with | some (d, h') => Q d h' | none => False
theorem wo_iff {α : Type} {f : DH → Option (α × DH)} {h : DH} {Q : α → DH → Prop} : WO f h Q ↔ ∃ d h', f h = some (d, h') ∧ Q d h' := by
  unfold WO
  cases hf : f h with
  | none => exact ⟨fun z => z.elim, fun ⟨_, _, z, _⟩ => nomatch z⟩
  | some p => exact ⟨fun z => ⟨p.1, p.2, rfl, z⟩, fun ⟨_, _, z, q⟩ => by cases z; exact q⟩
section
variable {α β : Type} {e : DE} {h : DH} {X : Nat → D → DH → Prop}
theorem WE.mono {m : M α} {Q Q' : α → DH → Prop} {X' : Nat → D → DH → Prop} (w : WE m e h Q X) (q : ∀ a h, Q a h → Q' a h) (x : ∀ c p h, X c p h → X' c p h) : WE m e h Q' X' := by
  obtain ⟨r, h', a, b⟩ := w
  refine ⟨r, h', a, ?_⟩
  cases r with
  | ok a => exact q _ _ b
  | ex c p => exact x _ _ _ b
theorem WC.mono {F : Call} {i : Nat} {ds : List D} {Q Q' : D → DH → Prop} {X' : Nat → D → DH → Prop} (w : WC F i ds h Q X) (q : ∀ a h, Q a h → Q' a h) (x : ∀ c p h, X c p h → X' c p h) : WC F i ds h Q' X' := by
  obtain ⟨r, h', a, b⟩ := w
  refine ⟨r, h', a, ?_⟩
  cases r with
  | ok a => exact q _ _ b
  | ex c p => exact x _ _ _ b
theorem WP.mono {m : MS} {Q Q' : Fl → DE → DH → Prop} (w : WP m e h Q) (q : ∀ f e h, Q f e h → Q' f e h) : WP m e h Q' := by
  obtain ⟨f, e', h', a, b⟩ := w
  exact ⟨f, e', h', a, q _ _ _ b⟩
theorem WC.ok {F : Call} {i : Nat} {ds : List D} {d : D} {h' : DH} {Q : D → DH → Prop} (q : F i ds h = some (.ok d, h')) (w : Q d h') : WC F i ds h Q X := ⟨_, _, q, w⟩
theorem WC.ex {F : Call} {i : Nat} {ds : List D} {c : Nat} {p : D} {h' : DH} {Q : D → DH → Prop} (q : F i ds h = some (.ex c p, h')) (w : X c p h') : WC F i ds h Q X := ⟨_, _, q, w⟩
theorem we_ret {a : α} {Q : α → DH → Prop} : WE (ret a) e h Q X ↔ Q a h := by
  constructor
  · rintro ⟨r, h', q, w⟩
    cases q
    exact w
  · exact fun w => ⟨_, _, rfl, w⟩
theorem we_bnd {m : M α} {k : α → M β} {Q : β → DH → Prop} : WE (bnd m k) e h Q X ↔ WE m e h (fun a h1 => WE (k a) e h1 Q X) X := by
  constructor
  · rintro ⟨r, h', q, w⟩
    unfold bnd at q
    split at q
    · cases q
    · rename_i c p h1 hm
      cases q
      exact ⟨_, _, hm, w⟩
    · rename_i a h1 hm
      exact ⟨_, _, hm, r, h', q, w⟩
  · rintro ⟨r, h1, q, w⟩
    cases r with
    | ex c p => exact ⟨.ex c p, h1, by unfold bnd; rw [q], w⟩
    | ok a =>
      obtain ⟨r2, h2, q2, w2⟩ := w
      exact ⟨r2, h2, by unfold bnd; rw [q]; exact q2, w2⟩
theorem we_lift {f : DH → Option (α × DH)} {Q : α → DH → Prop} : WE (lift f) e h Q X ↔ WO f h Q := by
  rw [wo_iff]
  constructor
  · rintro ⟨r, h', q, w⟩
    unfold lift at q
    split at q
    · rename_i a h1 hf
      cases q
      exact ⟨_, _, hf, w⟩
    · cases q
  · rintro ⟨d, h', q, w⟩
    exact ⟨.ok d, h', by unfold lift; rw [q], w⟩
theorem we_var {i : Nat} {Q : D → DH → Prop} : WE (var i) e h Q X ↔ ∃ d, e[i]? = some (some d) ∧ Q d h := by
  constructor
  · rintro ⟨r, h', q, w⟩
    unfold var at q
    split at q
    · rename_i d hd
      cases q
      exact ⟨d, hd, w⟩
    · cases q
  · rintro ⟨d, q, w⟩
    exact ⟨.ok d, h, by unfold var; rw [q], w⟩
theorem we_args_nil {Q : List D → DH → Prop} : WE (args []) e h Q X ↔ Q [] h := we_ret
theorem we_args_cons {m : M D} {r : List (M D)} {Q : List D → DH → Prop} : WE (args (m :: r)) e h Q X ↔ WE m e h (fun x h1 => WE (args r) e h1 (fun xs h2 => Q (x :: xs) h2) X) X := by
  show WE (bnd m fun x => bnd (args r) fun xs => ret (x :: xs)) e h Q X ↔ _
  simp only [we_bnd, we_ret]
theorem we_opN {f : List D → DH → Option (D × DH)} {as : List (M D)} {Q : D → DH → Prop} : WE (opN f as) e h Q X ↔ WE (args as) e h (fun xs h1 => WO (f xs) h1 Q) X := by
  unfold opN
  simp only [we_bnd, we_lift]
theorem we_op1 {f : D → DH → Option (D × DH)} {a : M D} {Q : D → DH → Prop} : WE (op1 f a) e h Q X ↔ WE a e h (fun x h1 => WO (f x) h1 Q) X := by
  unfold op1
  simp only [we_bnd, we_lift]
theorem we_op2 {f : D → D → DH → Option (D × DH)} {a b : M D} {Q : D → DH → Prop} : WE (op2 f a b) e h Q X ↔ WE a e h (fun x h1 => WE b e h1 (fun y h2 => WO (f x y) h2 Q) X) X := by
  unfold op2
  simp only [we_bnd, we_lift]
theorem we_call {F : Call} {i : Nat} {as : List (M D)} {Q : D → DH → Prop} : WE (callM F i as) e h Q X ↔ WE (args as) e h (fun xs h1 => WC F i xs h1 Q X) X := by
  unfold callM
  rw [we_bnd]
  exact Iff.rfl
theorem we_tst {m : M D} {Q : Bool → DH → Prop} : WE (tst m) e h Q X ↔ WE m e h (fun x h1 => ∃ b, x = .bl b ∧ Q b h1) X := by
  unfold tst
  rw [we_bnd]
  constructor <;> intro w <;> refine w.mono (fun a h1 q => ?_) fun _ _ _ x => x
  · cases a with
    | bl b => exact ⟨b, rfl, we_ret.mp q⟩
    | _ => obtain ⟨r, h', z, _⟩ := q; cases z
  · obtain ⟨b, rfl, q⟩ := q
    exact we_ret.mpr q
theorem we_tru {f : D → DH → Option Bool} {m : M D} {Q : Bool → DH → Prop} : WE (tru f m) e h Q X ↔ WE m e h (fun x h1 => ∃ b, f x h1 = some b ∧ Q b h1) X := by
  unfold tru
  rw [we_bnd]
  constructor <;> intro w <;> refine w.mono (fun a h1 q => ?_) fun _ _ _ x => x
  · obtain ⟨d, h', q1, q2⟩ := wo_iff.mp (we_lift.mp q)
    obtain ⟨b, e1, e2⟩ := map_some q1
    cases e2
    exact ⟨_, e1, q2⟩
  · obtain ⟨b, e1, q2⟩ := q
    exact we_lift.mpr (wo_iff.mpr ⟨b, h1, by rw [e1]; rfl, q2⟩)
theorem we_notT {t : M Bool} {Q : Bool → DH → Prop} : WE (notT t) e h Q X ↔ WE t e h (fun b h1 => Q (!b) h1) X := by
  unfold notT
  simp only [we_bnd, we_ret]
theorem we_if {α : Type} {b : Bool} {m n : M α} {Q : α → DH → Prop} : WE (if b then m else n) e h Q X ↔ if b then WE m e h Q X else WE n e h Q X := by
  cases b <;> exact Iff.rfl
theorem we_andT {t u : M Bool} {Q : Bool → DH → Prop} : WE (andT t u) e h Q X ↔ WE t e h (fun b h1 => if b then WE u e h1 Q X else Q false h1) X := by
  unfold andT
  simp only [we_bnd, we_if, we_ret]
theorem we_orT {t u : M Bool} {Q : Bool → DH → Prop} : WE (orT t u) e h Q X ↔ WE t e h (fun b h1 => if b then Q true h1 else WE u e h1 Q X) X := by
  unfold orT
  simp only [we_bnd, we_if, we_ret]
theorem we_bl {m : Bool → M D} {x : D} {Q : D → DH → Prop} : WE (match x with | .bl b => m b | _ => stuck) e h Q X ↔ ∃ b, x = .bl b ∧ WE (m b) e h Q X := by
  constructor
  · intro w
    cases x with
    | bl b => exact ⟨b, rfl, w⟩
    | _ => obtain ⟨r, h', z, _⟩ := w; cases z
  · rintro ⟨b, rfl, w⟩
    exact w
theorem we_notV {m : M D} {Q : D → DH → Prop} : WE (notV m) e h Q X ↔ WE m e h (fun x h1 => ∃ b, x = .bl b ∧ Q (.bl (!b)) h1) X := by
  show WE (bnd m _) e h Q X ↔ _
  rw [we_bnd]
  constructor <;> intro w <;> refine w.mono (fun a h1 q => ?_) fun _ _ _ x => x
  · obtain ⟨b, rfl, q⟩ := (we_bl (m := fun b => ret (.bl (!b)))).mp q
    exact ⟨b, rfl, we_ret.mp q⟩
  · obtain ⟨b, rfl, q⟩ := q
    exact we_ret.mpr q
theorem we_andV {m n : M D} {Q : D → DH → Prop} : WE (andV m n) e h Q X ↔ WE m e h (fun x h1 => ∃ b, x = .bl b ∧ if b then WE n e h1 Q X else Q (.bl false) h1) X := by
  show WE (bnd m _) e h Q X ↔ _
  rw [we_bnd]
  constructor <;> intro w <;> refine w.mono (fun a h1 q => ?_) fun _ _ _ x => x
  · obtain ⟨b, rfl, q⟩ := (we_bl (m := fun b => if b then n else ret (.bl false))).mp q
    cases b
    · exact ⟨false, rfl, we_ret.mp q⟩
    · exact ⟨true, rfl, q⟩
  · obtain ⟨b, rfl, q⟩ := q
    cases b
    · exact we_ret.mpr q
    · exact q
theorem we_orV {m n : M D} {Q : D → DH → Prop} : WE (orV m n) e h Q X ↔ WE m e h (fun x h1 => ∃ b, x = .bl b ∧ if b then Q (.bl true) h1 else WE n e h1 Q X) X := by
  show WE (bnd m _) e h Q X ↔ _
  rw [we_bnd]
  constructor <;> intro w <;> refine w.mono (fun a h1 q => ?_) fun _ _ _ x => x
  · obtain ⟨b, rfl, q⟩ := (we_bl (m := fun b => if b then ret (.bl true) else n)).mp q
    cases b
    · exact ⟨false, rfl, q⟩
    · exact ⟨true, rfl, we_ret.mp q⟩
  · obtain ⟨b, rfl, q⟩ := q
    cases b
    · exact q
    · exact we_ret.mpr q
theorem we_ite {t : M Bool} {a b : M D} {Q : D → DH → Prop} : WE (iteM t a b) e h Q X ↔ WE t e h (fun c h1 => if c then WE a e h1 Q X else WE b e h1 Q X) X := by
  unfold iteM
  simp only [we_bnd, we_if]
theorem we_chn {f g : D → D → DH → Option (D × DH)} {a b c : M D} {Q : D → DH → Prop} : WE (chn f g a b c) e h Q X ↔ WE a e h (fun x h1 => WE b e h1 (fun y h2 => WO (f x y) h2 fun z h3 => ∃ k, z = .bl k ∧ if k then WE c e h3 (fun u h4 => WO (g y u) h4 Q) X else Q (.bl false) h3) X) X := by
  show WE (bnd a fun x => bnd b fun y => bnd (lift (f x y)) _) e h Q X ↔ _
  simp only [we_bnd, we_lift]
  constructor <;> intro w <;> refine w.mono (fun x h1 w => w.mono (fun y h2 w => ?_) fun _ _ _ x => x) fun _ _ _ x => x
  · obtain ⟨z, h3, q1, q2⟩ := wo_iff.mp w
    refine wo_iff.mpr ⟨z, h3, q1, ?_⟩
    obtain ⟨k, rfl, q⟩ := (we_bl (m := fun k => if k then bnd c fun u => lift (g y u) else ret (.bl false))).mp q2
    cases k
    · exact ⟨false, rfl, we_ret.mp q⟩
    · refine ⟨true, rfl, ?_⟩
      have q := we_bnd.mp q
      simp only [we_lift] at q
      exact q
  · obtain ⟨z, h3, q1, k, rfl, q⟩ := wo_iff.mp w
    refine wo_iff.mpr ⟨_, h3, q1, ?_⟩
    cases k
    · exact we_ret.mpr q
    · refine we_bnd.mpr ?_
      simp only [we_lift]
      exact q
theorem we_mth {k : Mth} {o : M D} {as : List (M D)} {Q : D → DH → Prop} : WE (mthM k o as) e h Q X ↔ WE o e h (fun x h1 => mthOk k x h1 = true ∧ WE (args as) e h1 (fun xs h2 => WO (mthD k x xs) h2 Q) X) X := by
  unfold mthM
  simp only [we_bnd, we_lift]
  constructor <;> intro w <;> refine w.mono (fun x h1 w => ?_) fun _ _ _ x => x
  · obtain ⟨z, h3, q1, q2⟩ := wo_iff.mp w
    split at q1
    · rename_i hk
      cases q1
      exact ⟨hk, q2⟩
    · cases q1
  · exact wo_iff.mpr ⟨(), h1, by rw [if_pos w.1], w.2⟩
theorem we_slice {a : M D} {lo hi : M (Option Int)} {Q : D → DH → Prop} : WE (sliceM a lo hi) e h Q X ↔ WE a e h (fun x h1 => WE lo e h1 (fun l h2 => WE hi e h2 (fun u h3 => WO (sliceD x l u) h3 Q) X) X) X := by
  unfold sliceM
  simp only [we_bnd, we_lift]
theorem we_intOf {a : M D} {Q : Option Int → DH → Prop} : WE (intOf a) e h Q X ↔ WE a e h (fun x h1 => ∃ i, x = .int i ∧ Q (some i) h1) X := by
  show WE (bnd a _) e h Q X ↔ _
  rw [we_bnd]
  constructor <;> intro w <;> refine w.mono (fun x h1 q => ?_) fun _ _ _ x => x
  · cases x with
    | int i => exact ⟨i, rfl, we_ret.mp q⟩
    | _ => obtain ⟨r, h', z, _⟩ := q; cases z
  · obtain ⟨i, rfl, q⟩ := q
    exact we_ret.mpr q
end
/-! ### statements -/
/-- what comes behind -/
def Nx (Q : Fl → DE → DH → Prop) (b : MS) : Fl → DE → DH → Prop := fun f e h => match f with | .next => WP b e h Q | f => Q f e h
section
variable {e : DE} {h : DH} {Q : Fl → DE → DH → Prop}
theorem nx_next {b : MS} : Nx Q b .next e h ↔ WP b e h Q := ⟨fun x => x, fun x => x⟩
theorem nx_ret {b : MS} {d : D} : Nx Q b (.ret d) e h ↔ Q (.ret d) e h := ⟨fun x => x, fun x => x⟩
theorem nx_ex {b : MS} {c : Nat} {d : D} : Nx Q b (.ex c d) e h ↔ Q (.ex c d) e h := ⟨fun x => x, fun x => x⟩
theorem nx_brk {b : MS} : Nx Q b .brk e h ↔ Q .brk e h := ⟨fun x => x, fun x => x⟩
theorem nx_cont {b : MS} : Nx Q b .cont e h ↔ Q .cont e h := ⟨fun x => x, fun x => x⟩
theorem wp_skip : WP skip e h Q ↔ Q .next e h := by
  constructor
  · rintro ⟨f, e', h', q, w⟩
    cases q
    exact w
  · exact fun w => ⟨_, _, _, rfl, w⟩
theorem wp_seq {a b : MS} : WP (seq a b) e h Q ↔ WP a e h (Nx Q b) := by
  constructor
  · rintro ⟨f, e', h', q, w⟩
    unfold seq at q
    split at q
    · rename_i e1 h1 ha
      exact ⟨.next, e1, h1, ha, f, e', h', q, w⟩
    · rename_i hn
      refine ⟨f, e', h', q, ?_⟩
      cases f with
      | next => exact absurd q (hn e' h')
      | _ => exact w
  · rintro ⟨f, e1, h1, q, w⟩
    cases f with
    | next =>
      obtain ⟨f2, e2, h2, q2, w2⟩ := w
      exact ⟨f2, e2, h2, by unfold seq; rw [q]; exact q2, w2⟩
    | _ => exact ⟨_, _, _, by unfold seq; rw [q], w⟩
theorem wp_with {α : Type} {m : M α} {k : α → MS} : WP (withM m k) e h Q ↔ WE m e h (fun a h1 => WP (k a) e h1 Q) fun c p h1 => Q (.ex c p) e h1 := by
  constructor
  · rintro ⟨f, e', h', q, w⟩
    rcases withM_some q with ⟨c, p, q1, rfl, rfl⟩ | ⟨a, h1, q1, q2⟩
    · exact ⟨_, _, q1, w⟩
    · exact ⟨_, _, q1, f, e', h', q2, w⟩
  · rintro ⟨r, h1, q, w⟩
    cases r with
    | ex c p => exact ⟨.ex c p, e, h1, by unfold withM; rw [q], w⟩
    | ok a =>
      obtain ⟨f2, e2, h2, q2, w2⟩ := w
      exact ⟨f2, e2, h2, by unfold withM; rw [q]; exact q2, w2⟩
theorem wp_drop {m : M D} : WP (drop m) e h Q ↔ WE m e h (fun _ h1 => Q .next e h1) fun c p h1 => Q (.ex c p) e h1 := by
  unfold drop
  simp only [wp_with, wp_skip]
theorem wp_ret {m : M D} : WP (retS m) e h Q ↔ WE m e h (fun d h1 => Q (.ret d) e h1) fun c p h1 => Q (.ex c p) e h1 := by
  unfold retS
  rw [wp_with]
  constructor <;> intro w <;> refine w.mono (fun x h1 w => ?_) fun _ _ _ x => x
  · obtain ⟨f, e', h', q, w⟩ := w
    cases q
    exact w
  · exact ⟨_, _, _, rfl, w⟩
theorem wp_asg {t : Tg} {m : M D} : WP (asg t m) e h Q ↔ WE m e h (fun d h1 => ∃ e1, t.put d h1 e = some e1 ∧ Q .next e1 h1) fun c p h1 => Q (.ex c p) e h1 := by
  unfold asg
  rw [wp_with]
  constructor <;> intro w <;> refine w.mono (fun x h1 w => ?_) fun _ _ _ x => x
  · obtain ⟨f, e', h', q, w⟩ := w
    obtain ⟨e1, q1, q2⟩ := map_some q
    cases q2
    exact ⟨e', q1, w⟩
  · obtain ⟨e1, q1, w⟩ := w
    exact ⟨.next, e1, h1, by dsimp only; rw [q1]; rfl, w⟩
theorem wp_if {t : M Bool} {a b : MS} : WP (ifS t a b) e h Q ↔ WE t e h (fun c h1 => if c then WP a e h1 Q else WP b e h1 Q) fun c p h1 => Q (.ex c p) e h1 := by
  unfold ifS
  rw [wp_with]
  constructor <;> intro w <;> refine w.mono (fun c h1 w => ?_) fun _ _ _ x => x
  · cases c <;> exact w
  · cases c <;> exact w
theorem wp_raise {c : Nat} {m : M D} : WP (raiS c m) e h Q ↔ WE m e h (fun d h1 => Q (.ex c d) e h1) fun c p h1 => Q (.ex c p) e h1 := by
  unfold raiS
  rw [wp_with]
  constructor <;> intro w <;> refine w.mono (fun x h1 w => ?_) fun _ _ _ x => x
  · obtain ⟨f, e', h', q, w⟩ := w
    cases q
    exact w
  · exact ⟨_, _, _, rfl, w⟩
theorem wp_set {o k m : M D} : WP (setS o k m) e h Q ↔ WE m e h (fun v h1 => WE o e h1 (fun x h2 => WE k e h2 (fun y h3 => ∃ h4, putAt x y v h3 = some h4 ∧ Q .next e h4) fun c p h1 => Q (.ex c p) e h1) fun c p h1 => Q (.ex c p) e h1) fun c p h1 => Q (.ex c p) e h1 := by
  unfold setS
  simp only [wp_with]
  constructor <;> intro w <;> refine w.mono (fun v h1 w => w.mono (fun x h2 w => w.mono (fun y h3 w => ?_) fun _ _ _ x => x) fun _ _ _ x => x) fun _ _ _ x => x
  · obtain ⟨f, e', h', q, w⟩ := w
    obtain ⟨h4, q1, q2⟩ := map_some q
    cases q2
    exact ⟨h', q1, w⟩
  · obtain ⟨h4, q1, w⟩ := w
    exact ⟨.next, e, h4, by dsimp only; rw [q1]; rfl, w⟩
/-- a for over items -/
theorem wp_for {it : M Src} {t : Tg} {b : MS} (w : WE it e h (fun s h1 => ∃ xs, s = .items xs ∧ ∃ Inv : Nat → DE → DH → Prop, Inv 0 e h1 ∧ (∀ e h, Inv xs.length e h → Q .next e h) ∧
      ∀ k d e h, xs[k]? = some d → Inv k e h → ∃ e1, t.put d h e = some e1 ∧ WP b e1 h fun f e2 h2 => match f with | .next => Inv (k + 1) e2 h2 | .cont => Inv (k + 1) e2 h2 | .brk => Q .next e2 h2 | f => Q f e2 h2) fun c p h1 => Q (.ex c p) e h1) : WP (forS it t b) e h Q := by
  unfold forS
  rw [wp_with]
  refine w.mono (fun s h1 w => ?_) fun _ _ _ x => x
  obtain ⟨xs, rfl, Inv, h0, hd, step⟩ := w
  show WP (forL (.items xs) t b xs.length 0) e h1 Q
  have go : ∀ n k e h, k + n = xs.length → Inv k e h → WP (forL (.items xs) t b n k) e h Q := by
    intro n
    induction n with
    | zero =>
      intro k e h hk i
      exact ⟨.next, e, h, rfl, hd e h (by rw [← hk]; exact i)⟩
    | succ n ih =>
      intro k e h hk i
      have hlt : k < xs.length := by omega
      obtain ⟨e1, p1, f, e2, h2, q, w⟩ := step k xs[k] e h (List.getElem?_eq_getElem hlt) i
      have un : forL (.items xs) t b (n + 1) k e h = match b e1 h with
          | some (.next, e2, h2) => forL (.items xs) t b n (k + 1) e2 h2
          | some (.cont, e2, h2) => forL (.items xs) t b n (k + 1) e2 h2
          | some (.brk, e2, h2) => some (.next, e2, h2)
          | r => r := by
        dsimp only [forL, Src.at_]
        rw [List.getElem?_eq_getElem hlt]
        dsimp only
        rw [p1]
        try rfl
      unfold WP
      rw [un, q]
      cases f with
      | next => exact ih (k + 1) e2 h2 (by omega) w
      | cont => exact ih (k + 1) e2 h2 (by omega) w
      | brk => exact ⟨_, _, _, rfl, w⟩
      | ret d => exact ⟨_, _, _, rfl, w⟩
      | ex c p => exact ⟨_, _, _, rfl, w⟩
  exact go xs.length 0 e h1 (by omega) h0
/-- a comprehension over items; what is to hold of the list so far and of the heap; the list itself stands at the end -/
theorem we_lc {vs : List Nat} {it : M Src} {t : Tg} {c : M Bool} {m : M D} {Q : D → DH → Prop} {X : Nat → D → DH → Prop}
    (w : WE it e h (fun s h1 => ∃ xs, s = .items xs ∧ xs.length ≤ Z ∧ ∃ Inv : Nat → List D → DH → Prop, Inv 0 [] (h1 ++ [.lst []]) ∧ (∀ acc h, lstAt h h1.length = some acc → Inv xs.length acc h → Q (.ref h1.length) h) ∧
      ∀ k d acc h, xs[k]? = some d → k < xs.length → lstAt h h1.length = some acc → acc.length ≤ k → Inv k acc h → ∃ e1, t.put d h (wipeE e vs) = some e1 ∧ WE c e1 h (fun b h2 => if b then WE m e1 h2 (fun x h3 => lstAt h3 h1.length = some acc ∧ Inv (k + 1) (acc ++ [x]) (h3.set h1.length (.lst (acc ++ [x])))) (fun _ _ _ => False)
        else lstAt h2 h1.length = some acc ∧ Inv (k + 1) acc h2) (fun _ _ _ => False)) X) : WE (lcM vs it t c m) e h Q X := by
  unfold lcM
  rw [we_bnd]
  refine w.mono (fun s h1 w => ?_) fun _ _ _ x => x
  obtain ⟨xs, rfl, hz, Inv, i0, hd, step⟩ := w
  have put : ∀ {h : DH} {i : Nat} {xs ys : List D}, lstAt h i = some ys → lstAt (h.set i (.lst xs)) i = some xs := fun {h i xs ys} e => by
    have := (List.getElem?_eq_some_iff.mp (lstAt_some e)).1
    unfold lstAt
    rw [List.getElem?_set_self this]
  have go : ∀ n k acc h, k + n = xs.length → lstAt h h1.length = some acc → acc.length ≤ k → Inv k acc h → ∃ h', lcLoop (.items xs) t c m h1.length (wipeE e vs) n k h = some h' ∧ ∃ acc, lstAt h' h1.length = some acc ∧ Inv xs.length acc h' := by
    intro n
    induction n with
    | zero =>
      intro k acc h hk l _ i
      exact ⟨h, rfl, acc, l, by rw [← hk]; exact i⟩
    | succ n ih =>
      intro k acc h hk l hl i
      have hlt : k < xs.length := by omega
      obtain ⟨e1, p1, r, h2, q, w⟩ := step k xs[k] acc h (List.getElem?_eq_getElem hlt) hlt l hl i
      have un : lcLoop (.items xs) t c m h1.length (wipeE e vs) (n + 1) k h = match c e1 h with
          | some (.ok true, h1') => match m e1 h1' with
            | some (.ok x, h2) => match lstAt h2 h1.length with
              | some acc => if acc.length < Z then lcLoop (.items xs) t c m h1.length (wipeE e vs) n (k + 1) (h2.set h1.length (.lst (acc ++ [x]))) else none
              | none => none
            | _ => none
          | some (.ok false, h1') => lcLoop (.items xs) t c m h1.length (wipeE e vs) n (k + 1) h1'
          | _ => none := by
        dsimp only [lcLoop, Src.at_]
        rw [List.getElem?_eq_getElem hlt]
        dsimp only
        rw [p1]
        try rfl
      rw [un, q]
      cases r with
      | ex c p => exact w.elim
      | ok b =>
        cases b with
        | false =>
          obtain ⟨w1, w2⟩ := w
          exact ih (k + 1) acc h2 (by omega) w1 (by omega) w2
        | true =>
          obtain ⟨r, h3, q3, w⟩ := w
          dsimp only
          rw [q3]
          cases r with
          | ex c p => exact w.elim
          | ok x =>
            obtain ⟨w1, w2⟩ := w
            dsimp only
            rw [w1]
            dsimp only
            rw [if_pos (by omega)]
            exact ih (k + 1) _ _ (by omega) (put w1) (by rw [List.length_append]; exact Nat.succ_le_succ hl) w2
  have l0 : lstAt (h1 ++ [.lst []]) h1.length = some [] := by
    unfold lstAt
    rw [List.getElem?_append_right (Nat.le_refl _), Nat.sub_self]
    rfl
  obtain ⟨h', q, acc, l, i⟩ := go xs.length 0 [] (h1 ++ [.lst []]) (by omega) l0 (Nat.le_refl _) i0
  exact ⟨.ok (.ref h1.length), h', by show (lcLoop (.items xs) t c m h1.length (wipeE e vs) xs.length 0 (h1 ++ [.lst []])).map _ = _; rw [q]; rfl, hd acc h' l i⟩
end
end Dd

set_option Elab.async false
set_option linter.all false
set_option maxRecDepth 100000
set_option maxHeartbeats 4000000
namespace Dd
open PySem L2

/-! # 29. Loops by what is walked -/
/-- behind a turn -/
def Turned (Q : Fl → DE → DH → Prop) (I : DE → DH → Prop) : Fl → DE → DH → Prop := fun f e h => match f with
  | .next => I e h
  | .cont => I e h
  | .brk => Q .next e h
  | f => Q f e h
section
variable {e : DE} {h : DH} {Q : Fl → DE → DH → Prop} {I : DE → DH → Prop}
theorem td_next : Turned Q I .next e h ↔ I e h := ⟨fun x => x, fun x => x⟩
theorem td_cont : Turned Q I .cont e h ↔ I e h := ⟨fun x => x, fun x => x⟩
theorem td_brk : Turned Q I .brk e h ↔ Q .next e h := ⟨fun x => x, fun x => x⟩
theorem td_ret {d : D} : Turned Q I (.ret d) e h ↔ Q (.ret d) e h := ⟨fun x => x, fun x => x⟩
theorem td_ex {c : Nat} {p : D} : Turned Q I (.ex c p) e h ↔ Q (.ex c p) e h := ⟨fun x => x, fun x => x⟩
theorem td_iff {f : Fl} : Turned Q I f e h ↔ (match f with | .next => I e h | .cont => I e h | .brk => Q .next e h | f => Q f e h) := by
  cases f <;> exact Iff.rfl
theorem rngs_turn {lo : Int} {n k : Nat} {d : D} (h : ((List.range n).map fun k => D.int (lo + (k : Nat)))[k]? = some d) : d = .int (lo + k) ∧ k < n := by
  rw [List.getElem?_map] at h
  obtain ⟨j, e1, e2⟩ := map_some h
  obtain ⟨h1, h2⟩ := List.getElem?_eq_some_iff.mp e1
  rw [List.length_range] at h1
  rw [List.getElem_range] at h2
  subst h2 e2
  exact ⟨rfl, h1⟩
theorem rng1_nat {n : Nat} {h : DH} (h62 : in62 n = true) : rng1 (.int n) h = some (.items ((List.range n).map fun k => D.int (0 + (k : Nat))), h) := by
  simp only [rng1, h62, if_true, rngs, Int.toNat_natCast]
theorem wo_of {α : Type} {f : DH → Option (α × DH)} {h h' : DH} {d : α} {Q : α → DH → Prop} (q : f h = some (d, h')) (w : Q d h') : WO f h Q := wo_iff.mpr ⟨d, h', q, w⟩
theorem in62_nat {n : Nat} (hz : n ≤ Z) : in62 n = true := by
  have : Z = 16777216 := rfl
  exact below_iff.mpr (by omega)
/-- for i in range(n) -/
theorem for_rng {a : M D} {t : Tg} {b : MS} (Inv : Nat → DE → DH → Prop)
    (w : WE a e h (fun d h1 => ∃ n : Nat, d = .int n ∧ in62 n = true ∧ Inv 0 e h1 ∧ (∀ e h, Inv n e h → Q .next e h) ∧
      ∀ k e h, k < n → Inv k e h → ∃ e1, t.put (.int k) h e = some e1 ∧ WP b e1 h (Turned Q (Inv (k + 1)))) fun c p h1 => Q (.ex c p) e h1) : WP (forS (bnd a fun x => lift (rng1 x)) t b) e h Q := by
  refine wp_for ?_
  rw [we_bnd]
  refine w.mono (fun d h1 w => ?_) fun _ _ _ x => x
  obtain ⟨n, rfl, h62, i0, hd, step⟩ := w
  rw [we_lift]
  have z := rng1_nat (n := n) (h := h1) h62
  rw [wo_iff]
  refine ⟨_, _, z, ?_⟩
  have len : ((List.range n).map fun k => D.int (0 + (k : Nat))).length = n := by rw [List.length_map, List.length_range]
  refine ⟨_, rfl, Inv, i0, fun e h i => hd e h (by rw [len] at i; exact i), fun k d e h hk i => ?_⟩
  obtain ⟨rfl, hlt⟩ := rngs_turn hk
  obtain ⟨e1, p, q⟩ := step k e h hlt i
  exact ⟨e1, by rw [Int.zero_add]; exact p, q.mono fun f e h z => td_iff.mp z⟩
theorem src_tup {xs : List D} {h : DH} : srcD (.tup xs) h = some (.items xs, h) := rfl
/-- for x in a tuple, a text -/
theorem for_in {a : M D} {t : Tg} {b : MS} (Inv : Nat → DE → DH → Prop)
    (w : WE a e h (fun d h1 => ∃ xs, srcD d h1 = some (.items xs, h1) ∧ Inv 0 e h1 ∧ (∀ e h, Inv xs.length e h → Q .next e h) ∧
      ∀ k d e h, xs[k]? = some d → Inv k e h → ∃ e1, t.put d h e = some e1 ∧ WP b e1 h (Turned Q (Inv (k + 1)))) fun c p h1 => Q (.ex c p) e h1) : WP (forS (bnd a fun x => lift (srcD x)) t b) e h Q := by
  refine wp_for ?_
  rw [we_bnd]
  refine w.mono (fun d h1 w => ?_) fun _ _ _ x => x
  obtain ⟨xs, hs, i0, hd, step⟩ := w
  rw [we_lift]
  unfold WO
  rw [hs]
  refine ⟨_, rfl, Inv, i0, hd, fun k d e h hk i => ?_⟩
  obtain ⟨e1, p, q⟩ := step k d e h hk i
  exact ⟨e1, p, q.mono fun f e h z => td_iff.mp z⟩
end
/-- a comprehension's turn: what the element gives, then -/
def Elt (m : M D) (e1 : DE) (h2 : DH) (id : Nat) (acc : List D) (I : List D → DH → Prop) : Prop := WE m e1 h2 (fun x h3 => lstAt h3 id = some acc ∧ I (acc ++ [x]) (h3.set id (.lst (acc ++ [x])))) fun _ _ _ => False
section
variable {e : DE} {h : DH} {Q : D → DH → Prop} {X : Nat → D → DH → Prop}
/-- [.. for i in range(n)] -/
theorem lc_rngW {vs : List Nat} {a : M D} {t : Tg} {m : M D} (Inv : Nat → Nat → List D → DH → Prop)
    (w : WE a e h (fun d h1 => ∃ n : Nat, d = .int n ∧ n ≤ Z ∧ Inv h1.length 0 [] (h1 ++ [.lst []]) ∧ (∀ acc h, lstAt h h1.length = some acc → Inv h1.length n acc h → Q (.ref h1.length) h) ∧
      ∀ k acc h, k < n → lstAt h h1.length = some acc → Inv h1.length k acc h → ∃ e1, t.put (.int k) h (wipeE e vs) = some e1 ∧ Elt m e1 h h1.length acc (Inv h1.length (k + 1))) X) : WE (lcM vs (bnd a fun x => lift (rng1 x)) t (ret true) m) e h Q X := by
  refine we_lc ?_
  rw [we_bnd]
  refine w.mono (fun d h1 w => ?_) fun _ _ _ x => x
  obtain ⟨n, rfl, hz, i0, hd, step⟩ := w
  rw [we_lift]
  have z := rng1_nat (n := n) (h := h1) (in62_nat hz)
  rw [wo_iff]
  refine ⟨_, _, z, ?_⟩
  have len : ((List.range n).map fun k => D.int (0 + (k : Nat))).length = n := by rw [List.length_map, List.length_range]
  refine ⟨_, rfl, by rw [len]; exact hz, Inv h1.length, i0, fun acc h l i => hd acc h l (by rw [len] at i; exact i), fun k d acc h hk _ l _ i => ?_⟩
  obtain ⟨rfl, hlt⟩ := rngs_turn hk
  obtain ⟨e1, p, q⟩ := step k acc h hlt l i
  exact ⟨e1, by rw [Int.zero_add]; exact p, we_ret.mpr q⟩
/-- [.. for x in a tuple, a text] -/
theorem lc_inW {vs : List Nat} {a : M D} {t : Tg} {m : M D} (Inv : Nat → Nat → List D → DH → Prop)
    (w : WE a e h (fun d h1 => ∃ xs, srcD d h1 = some (.items xs, h1) ∧ xs.length ≤ Z ∧ Inv h1.length 0 [] (h1 ++ [.lst []]) ∧ (∀ acc h, lstAt h h1.length = some acc → Inv h1.length xs.length acc h → Q (.ref h1.length) h) ∧
      ∀ k d acc h, xs[k]? = some d → lstAt h h1.length = some acc → Inv h1.length k acc h → ∃ e1, t.put d h (wipeE e vs) = some e1 ∧ Elt m e1 h h1.length acc (Inv h1.length (k + 1))) X) : WE (lcM vs (bnd a fun x => lift (srcD x)) t (ret true) m) e h Q X := by
  refine we_lc ?_
  rw [we_bnd]
  refine w.mono (fun d h1 w => ?_) fun _ _ _ x => x
  obtain ⟨xs, hs, hz, i0, hd, step⟩ := w
  rw [we_lift]
  unfold WO
  rw [hs]
  refine ⟨_, rfl, hz, Inv h1.length, i0, hd, fun k d acc h hk _ l _ i => ?_⟩
  obtain ⟨e1, p, q⟩ := step k d acc h hk l i
  exact ⟨e1, p, we_ret.mpr q⟩
end
/-! # 30. Displays of dicts -/
section
variable {e : DE} {h : DH} {X : Nat → D → DH → Prop}
theorem we_dispL_nil {Q : List (D × D) → DH → Prop} : WE (dispL []) e h Q X ↔ Q [] h := we_ret
theorem we_dispL_cons {p : M D × M D} {r : List (M D × M D)} {Q : List (D × D) → DH → Prop} : WE (dispL (p :: r)) e h Q X ↔ WE p.1 e h (fun k h1 => WE p.2 e h1 (fun v h2 => WE (dispL r) e h2 (fun rs h3 => Q ((k, v) :: rs) h3) X) X) X := by
  show WE (bnd p.1 fun k => bnd p.2 fun v => bnd (dispL r) fun rs => ret ((k, v) :: rs)) e h Q X ↔ _
  simp only [we_bnd, we_ret]
theorem we_disp {ps : List (M D × M D)} {Q : D → DH → Prop} (w : WE (dispL ps) e (h ++ [.dk []]) (fun kvs h1 => h1[h.length]? = some (.dk []) ∧ ∃ l, dispKV kvs = some l ∧ l.length ≤ 15 ∧ Q (.ref h.length) (h1.set h.length (.dk (l.foldl (fun acc kv => putD acc kv.1 kv.2) [])))) fun _ _ _ => False) : WE (dispM ps) e h Q X := by
  obtain ⟨r, h1, q, w⟩ := w
  cases r with
  | ex c p => exact w.elim
  | ok kvs =>
    obtain ⟨w1, l, w2, w3, w4⟩ := w
    refine ⟨.ok (.ref h.length), h1.set h.length (.dk (l.foldl (fun (acc : List (Key × D)) (kv : Key × D) => putD acc kv.1 kv.2) [])), ?_, w4⟩
    unfold dispM
    rw [q]
    dsimp only
    rw [w1, w2]
    dsimp only
    rw [if_pos w3]
end
end Dd

set_option Elab.async false
set_option linter.all false
set_option maxRecDepth 100000
set_option maxHeartbeats 4000000
namespace Dk
open PySem PySem.Spec PyProof.Rows L2 Dd
def top (i : Nat) : Stmt := PySem.Challenge.pw_stripestack_k00_schemas_and_records.main.body.getD i (.Pass ⟨0, 0, 0, 0⟩)
abbrev s0 : Stmt := top 12
def f0 : Fn := ⟨"check_schema", ["schema"], ["schema"], defScope s0, defBody s0⟩ -- check_schema
abbrev s1 : Stmt := top 13
def f1 : Fn := ⟨"_check_fields", ["fields", "level"], ["fields", "level", "earlier", "field"], defScope s1, defBody s1⟩ -- _check_fields
abbrev s2 : Stmt := top 14
def f2 : Fn := ⟨"_check_field", ["field", "earlier", "level"], ["field", "earlier", "level", "name", "times", "kind"], defScope s2, defBody s2⟩ -- _check_field
abbrev s3 : Stmt := top 15
def f3 : Fn := ⟨"_is_name", ["name"], ["name", "sign"], defScope s3, defBody s3⟩ -- _is_name
abbrev s4 : Stmt := top 16
def f4 : Fn := ⟨"columns_of", ["schema"], ["schema"], defScope s4, defBody s4⟩ -- columns_of
abbrev s5 : Stmt := top 17
def f5 : Fn := ⟨"_columns_below", ["fields", "before", "definition", "repetition"], ["fields", "before", "definition", "repetition", "columns", "name", "times", "kind", "path", "more_definition", "more_repetition", "deeper", "again"], defScope s5, defBody s5⟩ -- _columns_below
abbrev s6 : Stmt := top 18
def f6 : Fn := ⟨"paths_of", ["schema"], ["schema", "column"], defScope s6, defBody s6⟩ -- paths_of
abbrev s7 : Stmt := top 19
def f7 : Fn := ⟨"column_of", ["schema", "path"], ["schema", "path", "column"], defScope s7, defBody s7⟩ -- column_of
abbrev s8 : Stmt := top 20
def f8 : Fn := ⟨"project_schema", ["schema", "paths"], ["schema", "paths", "known", "asked", "path"], defScope s8, defBody s8⟩ -- project_schema
abbrev s9 : Stmt := top 21
def f9 : Fn := ⟨"_kept_fields", ["fields", "before", "asked"], ["fields", "before", "asked", "kept", "name", "times", "kind", "path", "below"], defScope s9, defBody s9⟩ -- _kept_fields
abbrev s10 : Stmt := top 27
def f10 : Fn := ⟨"is_value", ["kind", "value"], ["kind", "value"], defScope s10, defBody s10⟩ -- is_value
abbrev s11 : Stmt := top 28
def f11 : Fn := ⟨"_is_int", ["value"], ["value"], defScope s11, defBody s11⟩ -- _is_int
abbrev s12 : Stmt := top 29
def f12 : Fn := ⟨"_is_text", ["value"], ["value", "sign"], defScope s12, defBody s12⟩ -- _is_text
abbrev s13 : Stmt := top 30
def f13 : Fn := ⟨"check_record", ["schema", "record"], ["schema", "record", "field", "value"], defScope s13, defBody s13⟩ -- check_record
abbrev s14 : Stmt := top 31
def f14 : Fn := ⟨"_check_times", ["times", "kind", "value"], ["times", "kind", "value", "part"], defScope s14, defBody s14⟩ -- _check_times
abbrev s15 : Stmt := top 32
def f15 : Fn := ⟨"_check_kind", ["kind", "value"], ["kind", "value"], defScope s15, defBody s15⟩ -- _check_kind
abbrev s16 : Stmt := top 34
def f16 : Fn := ⟨"_law_cell", ["script", "k"], ["script", "k"], defScope s16, defBody s16⟩ -- _law_cell
abbrev s17 : Stmt := top 35
def f17 : Fn := ⟨"_law_numbers", ["cell", "many"], ["cell", "many", "found", "rest", "k"], defScope s17, defBody s17⟩ -- _law_numbers
abbrev s18 : Stmt := top 36
def f18 : Fn := ⟨"_law_feed", ["cell", "many"], ["cell", "many"], defScope s18, defBody s18⟩ -- _law_feed
abbrev s19 : Stmt := top 37
def f19 : Fn := ⟨"_law_take", ["feed", "limit"], ["feed", "limit", "numbers", "at"], defScope s19, defBody s19⟩ -- _law_take
abbrev s20 : Stmt := top 38
def f20 : Fn := ⟨"_law_fields", ["feed", "depth"], ["feed", "depth", "fields", "k", "times", "kind"], defScope s20, defBody s20⟩ -- _law_fields
abbrev s21 : Stmt := top 39
def f21 : Fn := ⟨"_law_leaf", ["feed", "kind"], ["feed", "kind", "small", "chars", "k"], defScope s21, defBody s21⟩ -- _law_leaf
abbrev s22 : Stmt := top 40
def f22 : Fn := ⟨"_law_value", ["feed", "kind"], ["feed", "kind"], defScope s22, defBody s22⟩ -- _law_value
abbrev s23 : Stmt := top 41
def f23 : Fn := ⟨"_law_record", ["feed", "fields"], ["feed", "fields", "values", "name", "times", "kind", "k"], defScope s23, defBody s23⟩ -- _law_record
abbrev s24 : Stmt := top 43
def f24 : Fn := ⟨"_law_columns", ["fields", "path", "defined", "again"], ["fields", "path", "defined", "again", "found", "name", "times", "kind", "deeper", "more"], defScope s24, defBody s24⟩ -- _law_columns
abbrev s25 : Stmt := top 44
def f25 : Fn := ⟨"_law_spoil", ["fields", "place", "kind"], ["fields", "place", "kind", "at", "name", "times", "inner", "more", "word", "rows", "new", "k"], defScope s25, defBody s25⟩ -- _law_spoil
abbrev s26 : Stmt := top 45
def f26 : Fn := ⟨"_law_deep", ["levels"], ["levels", "fields", "k"], defScope s26, defBody s26⟩ -- _law_deep
abbrev s27 : Stmt := top 46
def f27 : Fn := ⟨"_law_schema_word", ["schema"], ["schema", "e"], defScope s27, defBody s27⟩ -- _law_schema_word
abbrev s28 : Stmt := top 47
def f28 : Fn := ⟨"_law_record_word", ["schema", "record"], ["schema", "record", "e"], defScope s28, defBody s28⟩ -- _law_record_word
abbrev s29 : Stmt := top 48
def f29 : Fn := ⟨"_law_bad_value", ["fields", "record", "place", "kind"], ["fields", "record", "place", "kind", "at", "name", "times", "inner", "value", "whole", "more", "word", "bad"], defScope s29, defBody s29⟩ -- _law_bad_value
abbrev s30 : Stmt := top 49
def f30 : Fn := ⟨"law", ["script"], ["script", "schema", "record", "columns", "setting", "found", "paths", "e", "spoilt", "word", "levels", "bad", "column"], defScope s30, defBody s30⟩ -- law
def pg : Pg where
  fns := [f0, f1, f2, f3, f4, f5, f6, f7, f8, f9, f10, f11, f12, f13, f14, f15, f16, f17, f18, f19, f20, f21, f22, f23, f24, f25, f26, f27, f28, f29, f30]
  con := [("MOST_FIELDS", .int 12), ("MOST_LEVELS", .int 5), ("MOST_NAME", .int 12), ("NAME_SIGNS", .str "abcdefghijklmnopqrstuvwxyz0123456789"), ("KINDS", .kt [.str "int", .str "bool", .str "text"]), ("ADDED", .wd [("one", .kt [.int 0, .int 0]), ("maybe", .kt [.int 1, .int 0]), ("many", .kt [.int 1, .int 1])]), ("LEAST_INT", .int (-2147483648)), ("GREATEST_INT", .int 2147483647), ("MOST_TEXT", .int 60), ("BARRED_CODE", .int 37)]
  exc := [("BadSchema", "why"), ("BadRecord", "why"), ("NoColumn", "path")]
theorem o0 : FnOf f0 s0 := ⟨rfl, rfl, ⟨rfl, rfl, rfl, by decide +kernel, rfl, by decide +kernel, by decide +kernel⟩, fun _ _ _ _ _ _ us hl => match us, hl with | [_], _ => rfl⟩
theorem o1 : FnOf f1 s1 := ⟨rfl, rfl, ⟨rfl, rfl, rfl, by decide +kernel, rfl, by decide +kernel, by decide +kernel⟩, fun _ _ _ _ _ _ us hl => match us, hl with | [_, _], _ => rfl⟩
theorem o2 : FnOf f2 s2 := ⟨rfl, rfl, ⟨rfl, rfl, rfl, by decide +kernel, rfl, by decide +kernel, by decide +kernel⟩, fun _ _ _ _ _ _ us hl => match us, hl with | [_, _, _], _ => rfl⟩
theorem o3 : FnOf f3 s3 := ⟨rfl, rfl, ⟨rfl, rfl, rfl, by decide +kernel, rfl, by decide +kernel, by decide +kernel⟩, fun _ _ _ _ _ _ us hl => match us, hl with | [_], _ => rfl⟩
theorem o4 : FnOf f4 s4 := ⟨rfl, rfl, ⟨rfl, rfl, rfl, by decide +kernel, rfl, by decide +kernel, by decide +kernel⟩, fun _ _ _ _ _ _ us hl => match us, hl with | [_], _ => rfl⟩
theorem o5 : FnOf f5 s5 := ⟨rfl, rfl, ⟨rfl, rfl, rfl, by decide +kernel, rfl, by decide +kernel, by decide +kernel⟩, fun _ _ _ _ _ _ us hl => match us, hl with | [_, _, _, _], _ => rfl⟩
theorem o6 : FnOf f6 s6 := ⟨rfl, rfl, ⟨rfl, rfl, rfl, by decide +kernel, rfl, by decide +kernel, by decide +kernel⟩, fun _ _ _ _ _ _ us hl => match us, hl with | [_], _ => rfl⟩
theorem o7 : FnOf f7 s7 := ⟨rfl, rfl, ⟨rfl, rfl, rfl, by decide +kernel, rfl, by decide +kernel, by decide +kernel⟩, fun _ _ _ _ _ _ us hl => match us, hl with | [_, _], _ => rfl⟩
theorem o8 : FnOf f8 s8 := ⟨rfl, rfl, ⟨rfl, rfl, rfl, by decide +kernel, rfl, by decide +kernel, by decide +kernel⟩, fun _ _ _ _ _ _ us hl => match us, hl with | [_, _], _ => rfl⟩
theorem o9 : FnOf f9 s9 := ⟨rfl, rfl, ⟨rfl, rfl, rfl, by decide +kernel, rfl, by decide +kernel, by decide +kernel⟩, fun _ _ _ _ _ _ us hl => match us, hl with | [_, _, _], _ => rfl⟩
theorem o10 : FnOf f10 s10 := ⟨rfl, rfl, ⟨rfl, rfl, rfl, by decide +kernel, rfl, by decide +kernel, by decide +kernel⟩, fun _ _ _ _ _ _ us hl => match us, hl with | [_, _], _ => rfl⟩
theorem o11 : FnOf f11 s11 := ⟨rfl, rfl, ⟨rfl, rfl, rfl, by decide +kernel, rfl, by decide +kernel, by decide +kernel⟩, fun _ _ _ _ _ _ us hl => match us, hl with | [_], _ => rfl⟩
theorem o12 : FnOf f12 s12 := ⟨rfl, rfl, ⟨rfl, rfl, rfl, by decide +kernel, rfl, by decide +kernel, by decide +kernel⟩, fun _ _ _ _ _ _ us hl => match us, hl with | [_], _ => rfl⟩
theorem o13 : FnOf f13 s13 := ⟨rfl, rfl, ⟨rfl, rfl, rfl, by decide +kernel, rfl, by decide +kernel, by decide +kernel⟩, fun _ _ _ _ _ _ us hl => match us, hl with | [_, _], _ => rfl⟩
theorem o14 : FnOf f14 s14 := ⟨rfl, rfl, ⟨rfl, rfl, rfl, by decide +kernel, rfl, by decide +kernel, by decide +kernel⟩, fun _ _ _ _ _ _ us hl => match us, hl with | [_, _, _], _ => rfl⟩
theorem o15 : FnOf f15 s15 := ⟨rfl, rfl, ⟨rfl, rfl, rfl, by decide +kernel, rfl, by decide +kernel, by decide +kernel⟩, fun _ _ _ _ _ _ us hl => match us, hl with | [_, _], _ => rfl⟩
theorem o16 : FnOf f16 s16 := ⟨rfl, rfl, ⟨rfl, rfl, rfl, by decide +kernel, rfl, by decide +kernel, by decide +kernel⟩, fun _ _ _ _ _ _ us hl => match us, hl with | [_, _], _ => rfl⟩
theorem o17 : FnOf f17 s17 := ⟨rfl, rfl, ⟨rfl, rfl, rfl, by decide +kernel, rfl, by decide +kernel, by decide +kernel⟩, fun _ _ _ _ _ _ us hl => match us, hl with | [_, _], _ => rfl⟩
theorem o18 : FnOf f18 s18 := ⟨rfl, rfl, ⟨rfl, rfl, rfl, by decide +kernel, rfl, by decide +kernel, by decide +kernel⟩, fun _ _ _ _ _ _ us hl => match us, hl with | [_, _], _ => rfl⟩
theorem o19 : FnOf f19 s19 := ⟨rfl, rfl, ⟨rfl, rfl, rfl, by decide +kernel, rfl, by decide +kernel, by decide +kernel⟩, fun _ _ _ _ _ _ us hl => match us, hl with | [_, _], _ => rfl⟩
theorem o20 : FnOf f20 s20 := ⟨rfl, rfl, ⟨rfl, rfl, rfl, by decide +kernel, rfl, by decide +kernel, by decide +kernel⟩, fun _ _ _ _ _ _ us hl => match us, hl with | [_, _], _ => rfl⟩
theorem o21 : FnOf f21 s21 := ⟨rfl, rfl, ⟨rfl, rfl, rfl, by decide +kernel, rfl, by decide +kernel, by decide +kernel⟩, fun _ _ _ _ _ _ us hl => match us, hl with | [_, _], _ => rfl⟩
theorem o22 : FnOf f22 s22 := ⟨rfl, rfl, ⟨rfl, rfl, rfl, by decide +kernel, rfl, by decide +kernel, by decide +kernel⟩, fun _ _ _ _ _ _ us hl => match us, hl with | [_, _], _ => rfl⟩
theorem o23 : FnOf f23 s23 := ⟨rfl, rfl, ⟨rfl, rfl, rfl, by decide +kernel, rfl, by decide +kernel, by decide +kernel⟩, fun _ _ _ _ _ _ us hl => match us, hl with | [_, _], _ => rfl⟩
theorem o24 : FnOf f24 s24 := ⟨rfl, rfl, ⟨rfl, rfl, rfl, by decide +kernel, rfl, by decide +kernel, by decide +kernel⟩, fun _ _ _ _ _ _ us hl => match us, hl with | [_, _, _, _], _ => rfl⟩
theorem o25 : FnOf f25 s25 := ⟨rfl, rfl, ⟨rfl, rfl, rfl, by decide +kernel, rfl, by decide +kernel, by decide +kernel⟩, fun _ _ _ _ _ _ us hl => match us, hl with | [_, _, _], _ => rfl⟩
theorem o26 : FnOf f26 s26 := ⟨rfl, rfl, ⟨rfl, rfl, rfl, by decide +kernel, rfl, by decide +kernel, by decide +kernel⟩, fun _ _ _ _ _ _ us hl => match us, hl with | [_], _ => rfl⟩
theorem o27 : FnOf f27 s27 := ⟨rfl, rfl, ⟨rfl, rfl, rfl, by decide +kernel, rfl, by decide +kernel, by decide +kernel⟩, fun _ _ _ _ _ _ us hl => match us, hl with | [_], _ => rfl⟩
theorem o28 : FnOf f28 s28 := ⟨rfl, rfl, ⟨rfl, rfl, rfl, by decide +kernel, rfl, by decide +kernel, by decide +kernel⟩, fun _ _ _ _ _ _ us hl => match us, hl with | [_, _], _ => rfl⟩
theorem o29 : FnOf f29 s29 := ⟨rfl, rfl, ⟨rfl, rfl, rfl, by decide +kernel, rfl, by decide +kernel, by decide +kernel⟩, fun _ _ _ _ _ _ us hl => match us, hl with | [_, _, _, _], _ => rfl⟩
theorem o30 : FnOf f30 s30 := ⟨rfl, rfl, ⟨rfl, rfl, rfl, by decide +kernel, rfl, by decide +kernel, by decide +kernel⟩, fun _ _ _ _ _ _ us hl => match us, hl with | [_], _ => rfl⟩
end Dk

set_option Elab.async false
set_option linter.all false
set_option maxRecDepth 100000
set_option maxHeartbeats 4000000
namespace Dk
open PySem PySem.Spec PyProof.Rows L2 Dd
def b0 (F : Call) : MS := seq (drop (callM F 1 [var 0, ret (.int 1)])) (
skip)
theorem e0 (F : Call) : (sem F fuel).B (pg.ce f0) f0.body = b0 F := by kernel_rfl
def b1 (F : Call) : MS := seq (ifS (orT (notT (tru truD (op1 (isinD "tuple") (var 0)))) (notT (tst (chn leD leD (ret (.int 1)) (opN (bltD .len) [var 0]) (ret (.int 12))))))
(seq (raiS 0 (ret (.str "fields"))) (skip))
(skip)) (
seq (ifS (tst (op2 gtD (var 1) (ret (.int 5))))
(seq (raiS 0 (ret (.str "depth"))) (skip))
(skip)) (
seq (asg (.nm 2) (opN lstM [])) (
seq (forS (bnd (var 0) fun x => lift (srcD x)) (.nm 3)
(seq (drop (callM F 2 [var 3, var 2, var 1])) (seq (drop (mthM .append (var 2) [op2 ixD (var 3) (ret (.int 0))])) (skip)))) (
skip))))
theorem e1 (F : Call) : (sem F fuel).B (pg.ce f1) f1.body = b1 F := by kernel_rfl
def b2 (F : Call) : MS := seq (ifS (orT (notT (tru truD (op1 (isinD "tuple") (var 0)))) (tst (op2 neD (opN (bltD .len) [var 0]) (ret (.int 3)))))
(seq (raiS 0 (ret (.str "field"))) (skip))
(skip)) (
seq (asg (.tp [3, 4, 5]) (var 0)) (
seq (ifS (notT (tru truD (callM F 3 [var 3])))
(seq (raiS 0 (ret (.str "name"))) (skip))
(skip)) (
seq (ifS (tst (op2 inD (var 3) (var 1)))
(seq (raiS 0 (ret (.str "twice"))) (skip))
(skip)) (
seq (ifS (orT (notT (tru truD (op1 (isinD "str") (var 4)))) (tst (op2 notInD (var 4) (ret (.wd [("one", .kt [.int 0, .int 0]), ("maybe", .kt [.int 1, .int 0]), ("many", .kt [.int 1, .int 1])])))))
(seq (raiS 0 (ret (.str "times"))) (skip))
(skip)) (
seq (ifS (tru truD (op1 (isinD "tuple") (var 5)))
(seq (drop (callM F 1 [var 5, op2 addD (var 2) (ret (.int 1))])) (skip))
(seq (ifS (orT (notT (tru truD (op1 (isinD "str") (var 5)))) (tst (op2 notInD (var 5) (ret (.kt [.str "int", .str "bool", .str "text"])))))
  (seq (raiS 0 (ret (.str "kind"))) (skip))
  (skip)) (skip))) (
skip))))))
theorem e2 (F : Call) : (sem F fuel).B (pg.ce f2) f2.body = b2 F := by kernel_rfl
def b3 (F : Call) : MS := seq (ifS (orT (notT (tru truD (op1 (isinD "str") (var 0)))) (notT (tst (chn leD leD (ret (.int 1)) (opN (bltD .len) [var 0]) (ret (.int 12))))))
(seq (retS (ret (.bl false))) (skip))
(skip)) (
seq (retS (opN (bltD .all) [lcM [1] (bnd (var 0) fun x => lift (srcD x)) (.nm 1) (ret true) (op2 inD (var 1) (ret (.str "abcdefghijklmnopqrstuvwxyz0123456789")))])) (
skip))
theorem e3 (F : Call) : (sem F fuel).B (pg.ce f3) f3.body = b3 F := by kernel_rfl
def b4 (F : Call) : MS := seq (retS (callM F 5 [var 0, opN tupM [], ret (.int 0), ret (.int 0)])) (
skip)
theorem e4 (F : Call) : (sem F fuel).B (pg.ce f4) f4.body = b4 F := by kernel_rfl
def b5 (F : Call) : MS := seq (asg (.nm 4) (opN lstM [])) (
seq (forS (bnd (var 0) fun x => lift (srcD x)) (.tp [5, 6, 7])
(seq (asg (.nm 8) (op2 addD (var 1) (opN tupM [var 5]))) (seq (asg (.tp [9, 10]) (op2 ixD (ret (.wd [("one", .kt [.int 0, .int 0]), ("maybe", .kt [.int 1, .int 0]), ("many", .kt [.int 1, .int 1])])) (var 6))) (seq (asg (.nm 11) (op2 addD (var 2) (var 9))) (seq (asg (.nm 12) (op2 addD (var 3) (var 10))) (seq (ifS (tru truD (op1 (isinD "tuple") (var 7)))
  (seq (drop (mthM .extend (var 4) [callM F 5 [var 7, var 8, var 11, var 12]])) (skip))
  (seq (drop (mthM .append (var 4) [opN tupM [var 8, var 7, var 11, var 12]])) (skip))) (skip))))))) (
seq (retS (var 4)) (
skip)))
theorem e5 (F : Call) : (sem F fuel).B (pg.ce f5) f5.body = b5 F := by kernel_rfl
def b6 (F : Call) : MS := seq (retS (lcM [1] (bnd (callM F 4 [var 0]) fun x => lift (srcD x)) (.nm 1) (ret true) (op2 ixD (var 1) (ret (.int 0))))) (
skip)
theorem e6 (F : Call) : (sem F fuel).B (pg.ce f6) f6.body = b6 F := by kernel_rfl
def b7 (F : Call) : MS := seq (forS (bnd (callM F 4 [var 0]) fun x => lift (srcD x)) (.nm 2)
(seq (ifS (tst (op2 eqD (op2 ixD (var 2) (ret (.int 0))) (var 1)))
  (seq (retS (var 2)) (skip))
  (skip)) (skip))) (
seq (raiS 2 (var 1)) (
skip))
theorem e7 (F : Call) : (sem F fuel).B (pg.ce f7) f7.body = b7 F := by kernel_rfl
def b8 (F : Call) : MS := seq (asg (.nm 2) (dcM [4] (bnd (callM F 6 [var 0]) fun x => lift (srcD x)) (.nm 4) (var 4) (ret (.bl true)))) (
seq (forS (bnd (var 1) fun x => lift (srcD x)) (.nm 3)
(seq (ifS (tst (op2 notInD (var 3) (var 2)))
  (seq (raiS 2 (var 3)) (skip))
  (skip)) (skip))) (
seq (ifS (tst (op2 eqD (opN (bltD .len) [var 1]) (ret (.int 0))))
(seq (raiS 2 (opN tupM [])) (skip))
(skip)) (
seq (retS (callM F 9 [var 0, opN tupM [], dcM [4] (bnd (var 1) fun x => lift (srcD x)) (.nm 4) (var 4) (ret (.bl true))])) (
skip))))
theorem e8 (F : Call) : (sem F fuel).B (pg.ce f8) f8.body = b8 F := by kernel_rfl
def b9 (F : Call) : MS := seq (asg (.nm 3) (opN lstM [])) (
seq (forS (bnd (var 0) fun x => lift (srcD x)) (.tp [4, 5, 6])
(seq (asg (.nm 7) (op2 addD (var 1) (opN tupM [var 4]))) (seq (ifS (tru truD (op1 (isinD "tuple") (var 6)))
  (seq (asg (.nm 8) (callM F 9 [var 6, var 7, var 2])) (seq (ifS (tst (op2 gtD (opN (bltD .len) [var 8]) (ret (.int 0))))
    (seq (drop (mthM .append (var 3) [opN tupM [var 4, var 5, var 8]])) (skip))
    (skip)) (skip)))
  (seq (ifS (tst (op2 inD (var 7) (var 2)))
    (seq (drop (mthM .append (var 3) [opN tupM [var 4, var 5, var 6]])) (skip))
    (skip)) (skip))) (skip)))) (
seq (retS (opN (bltD .tuple) [var 3])) (
skip)))
theorem e9 (F : Call) : (sem F fuel).B (pg.ce f9) f9.body = b9 F := by kernel_rfl
def b10 (F : Call) : MS := seq (ifS (tst (op2 eqD (var 0) (ret (.str "int"))))
(seq (retS (callM F 11 [var 1])) (skip))
(skip)) (
seq (ifS (tst (op2 eqD (var 0) (ret (.str "bool"))))
(seq (retS (op1 (isinD "bool") (var 1))) (skip))
(skip)) (
seq (retS (andV (op2 eqD (var 0) (ret (.str "text"))) (callM F 12 [var 1]))) (
skip)))
theorem e10 (F : Call) : (sem F fuel).B (pg.ce f10) f10.body = b10 F := by kernel_rfl
def b11 (F : Call) : MS := seq (ifS (orT (notT (tru truD (op1 (isinD "int") (var 0)))) (tru truD (op1 (isinD "bool") (var 0))))
(seq (retS (ret (.bl false))) (skip))
(skip)) (
seq (retS (chn leD leD (ret (.int (-2147483648))) (var 0) (ret (.int 2147483647)))) (
skip))
theorem e11 (F : Call) : (sem F fuel).B (pg.ce f11) f11.body = b11 F := by kernel_rfl
def b12 (F : Call) : MS := seq (ifS (orT (notT (tru truD (op1 (isinD "str") (var 0)))) (tst (op2 gtD (opN (bltD .len) [var 0]) (ret (.int 60)))))
(seq (retS (ret (.bl false))) (skip))
(skip)) (
seq (retS (opN (bltD .all) [lcM [1] (bnd (var 0) fun x => lift (srcD x)) (.nm 1) (ret true) (andV (chn leD leD (ret (.str " ")) (var 1) (ret (.str "~"))) (op2 neD (opN (bltD .ord) [var 1]) (ret (.int 37))))])) (
skip))
theorem e12 (F : Call) : (sem F fuel).B (pg.ce f12) f12.body = b12 F := by kernel_rfl
def b13 (F : Call) : MS := seq (ifS (orT (notT (tru truD (op1 (isinD "tuple") (var 1)))) (tst (op2 neD (opN (bltD .len) [var 1]) (opN (bltD .len) [var 0]))))
(seq (raiS 1 (ret (.str "fields"))) (skip))
(skip)) (
seq (forS (bnd (var 0) fun x => bnd (var 1) fun y => lift (zipD x y)) (.tp [2, 3])
(seq (drop (callM F 14 [op2 ixD (var 2) (ret (.int 1)), op2 ixD (var 2) (ret (.int 2)), var 3])) (skip))) (
skip))
theorem e13 (F : Call) : (sem F fuel).B (pg.ce f13) f13.body = b13 F := by kernel_rfl
def b14 (F : Call) : MS := seq (ifS (tst (op2 eqD (var 0) (ret (.str "many"))))
(seq (ifS (notT (tru truD (op1 (isinD "tuple") (var 2))))
  (seq (raiS 1 (ret (.str "many"))) (skip))
  (skip)) (seq (forS (bnd (var 2) fun x => lift (srcD x)) (.nm 3)
  (seq (drop (callM F 15 [var 1, var 3])) (skip))) (skip)))
(seq (ifS (orT (tst (op2 eqD (var 0) (ret (.str "one")))) (tst (op2 isNotD (var 2) (ret .non))))
  (seq (drop (callM F 15 [var 1, var 2])) (skip))
  (skip)) (skip))) (
skip)
theorem e14 (F : Call) : (sem F fuel).B (pg.ce f14) f14.body = b14 F := by kernel_rfl
def b15 (F : Call) : MS := seq (ifS (tru truD (op1 (isinD "tuple") (var 0)))
(seq (drop (callM F 13 [var 0, var 1])) (skip))
(seq (ifS (notT (tru truD (callM F 10 [var 0, var 1])))
  (seq (raiS 1 (ret (.str "value"))) (skip))
  (skip)) (skip))) (
skip)
theorem e15 (F : Call) : (sem F fuel).B (pg.ce f15) f15.body = b15 F := by kernel_rfl
def b16 (F : Call) : MS := seq (ifS (tst (op2 ltD (var 1) (opN (bltD .len) [var 0])))
(seq (retS (opN (bltD .int) [op2 ixD (var 0) (var 1)])) (skip))
(skip)) (
seq (retS (ret (.int 0))) (
skip))
theorem e16 (F : Call) : (sem F fuel).B (pg.ce f16) f16.body = b16 F := by kernel_rfl
def b17 (F : Call) : MS := seq (asg (.nm 2) (opN lstM [])) (
seq (asg (.nm 3) (opN (bltD .abs) [var 0])) (
seq (ifS (tst (op2 geD (var 3) (ret (.int 1000000000000000000))))
(seq (forS (bnd (var 1) fun x => lift (rng1 x)) (.nm 4)
  (seq (drop (mthM .append (var 2) [op2 modD (opN (bltD .int) [var 3]) (ret (.int 1048576))])) (seq (asg (.nm 3) (op2 fdivD (var 3) (ret (.int 1048576)))) (skip)))) (seq (retS (var 2)) (skip)))
(skip)) (
seq (forS (bnd (var 1) fun x => lift (rng1 x)) (.nm 4)
(seq (asg (.nm 3) (op2 modD (opN (bltD .int) [op2 addD (op2 addD (op2 mulD (var 3) (ret (.int 48271))) (op2 mulD (var 4) (ret (.int 7919)))) (ret (.int 11))]) (ret (.int 2147483647)))) (seq (drop (mthM .append (var 2) [op2 modD (op2 modD (opN (bltD .int) [op2 mulD (var 3) (ret (.int 69621))]) (ret (.int 2147483629))) (ret (.int 1048576))])) (skip)))) (
seq (retS (var 2)) (
skip)))))
theorem e17 (F : Call) : (sem F fuel).B (pg.ce f17) f17.body = b17 F := by kernel_rfl
def b18 (F : Call) : MS := seq (retS (dispM [(ret (.str "at"), ret (.int 0)), (ret (.str "numbers"), callM F 17 [var 0, var 1])])) (
skip)
theorem e18 (F : Call) : (sem F fuel).B (pg.ce f18) f18.body = b18 F := by kernel_rfl
def b19 (F : Call) : MS := seq (asg (.nm 2) (op2 ixD (var 0) (ret (.str "numbers")))) (
seq (asg (.nm 3) (op2 ixD (var 0) (ret (.str "at")))) (
seq (setS (var 0) (ret (.str "at")) (op2 addD (var 3) (ret (.int 1)))) (
seq (retS (op2 modD (opN (bltD .int) [op2 fdivD (op2 ixD (var 2) (op2 modD (var 3) (opN (bltD .len) [var 2]))) (op2 addD (ret (.int 1)) (op2 mulD (op2 fdivD (var 3) (opN (bltD .len) [var 2])) (ret (.int 7))))]) (var 1))) (
skip))))
theorem e19 (F : Call) : (sem F fuel).B (pg.ce f19) f19.body = b19 F := by kernel_rfl
def b20 (F : Call) : MS := seq (asg (.nm 2) (opN lstM [])) (
seq (forS (bnd (op2 addD (ret (.int 1)) (callM F 19 [var 0, ret (.int 3)])) fun x => lift (rng1 x)) (.nm 3)
(seq (asg (.nm 4) (op2 ixD (opN lstM [ret (.str "one"), ret (.str "maybe"), ret (.str "many")]) (callM F 19 [var 0, ret (.int 3)]))) (seq (asg (.nm 5) (op2 ixD (opN lstM [ret (.str "int"), ret (.str "bool"), ret (.str "text")]) (callM F 19 [var 0, ret (.int 3)]))) (seq (ifS (andT (tst (op2 gtD (var 1) (ret (.int 0)))) (tst (op2 ltD (callM F 19 [var 0, ret (.int 5)]) (ret (.int 2)))))
  (seq (asg (.nm 5) (callM F 20 [var 0, op2 subD (var 1) (ret (.int 1))])) (skip))
  (skip)) (seq (drop (mthM .append (var 2) [opN tupM [op2 ixD (opN lstM [ret (.str "a"), ret (.str "b1"), ret (.str "c")]) (var 3), var 4, var 5]])) (skip)))))) (
seq (retS (opN (bltD .tuple) [var 2])) (
skip)))
theorem e20 (F : Call) : (sem F fuel).B (pg.ce f20) f20.body = b20 F := by kernel_rfl
def b21 (F : Call) : MS := seq (ifS (tst (op2 eqD (var 1) (ret (.str "int"))))
(seq (asg (.nm 2) (callM F 19 [var 0, ret (.int 9)])) (seq (retS (op2 ixD (opN lstM [var 2, var 2, op2 subD (ret (.int 0)) (var 2), op2 mulD (var 2) (ret (.int 100003)), ret (.int 2147483647), op2 subD (ret (.int 0)) (ret (.int 2147483648)), var 2, ret (.int 5)]) (callM F 19 [var 0, ret (.int 8)]))) (skip)))
(skip)) (
seq (ifS (tst (op2 eqD (var 1) (ret (.str "bool"))))
(seq (retS (op2 eqD (callM F 19 [var 0, ret (.int 2)]) (ret (.int 1)))) (skip))
(skip)) (
seq (asg (.nm 3) (ret (.str " ab~$Z0{!"))) (
seq (retS (op2 addD (mthM .join (ret (.str "")) [lcM [4] (bnd (callM F 19 [var 0, ret (.int 5)]) fun x => lift (rng1 x)) (.nm 4) (ret true) (op2 ixD (var 3) (callM F 19 [var 0, ret (.int 9)]))]) (op2 mulD (ret (.str "x")) (op2 mulD (ret (.int 50)) (op2 fdivD (callM F 19 [var 0, ret (.int 30)]) (ret (.int 29))))))) (
skip))))
theorem e21 (F : Call) : (sem F fuel).B (pg.ce f21) f21.body = b21 F := by kernel_rfl
def b22 (F : Call) : MS := seq (ifS (tru truD (op1 (isinD "tuple") (var 1)))
(seq (retS (callM F 23 [var 0, var 1])) (skip))
(skip)) (
seq (retS (callM F 21 [var 0, var 1])) (
skip))
theorem e22 (F : Call) : (sem F fuel).B (pg.ce f22) f22.body = b22 F := by kernel_rfl
def b23 (F : Call) : MS := seq (asg (.nm 2) (opN lstM [])) (
seq (forS (bnd (var 1) fun x => lift (srcD x)) (.tp [3, 4, 5])
(seq (ifS (tst (op2 eqD (var 4) (ret (.str "one"))))
  (seq (drop (mthM .append (var 2) [callM F 22 [var 0, var 5]])) (skip))
  (seq (ifS (tst (op2 eqD (var 4) (ret (.str "maybe"))))
    (seq (ifS (tst (op2 eqD (callM F 19 [var 0, ret (.int 3)]) (ret (.int 0))))
      (seq (drop (mthM .append (var 2) [ret .non])) (skip))
      (seq (drop (mthM .append (var 2) [callM F 22 [var 0, var 5]])) (skip))) (skip))
    (seq (drop (mthM .append (var 2) [opN (bltD .tuple) [lcM [6] (bnd (op2 ixD (opN lstM [ret (.int 0), ret (.int 1), ret (.int 1), ret (.int 2), ret (.int 3)]) (callM F 19 [var 0, ret (.int 5)])) fun x => lift (rng1 x)) (.nm 6) (ret true) (callM F 22 [var 0, var 5])]])) (skip))) (skip))) (skip))) (
seq (retS (opN (bltD .tuple) [var 2])) (
skip)))
theorem e23 (F : Call) : (sem F fuel).B (pg.ce f23) f23.body = b23 F := by kernel_rfl
def b24 (F : Call) : MS := seq (asg (.nm 4) (opN lstM [])) (
seq (forS (bnd (var 0) fun x => lift (srcD x)) (.tp [5, 6, 7])
(seq (asg (.nm 8) (op2 addD (var 2) (opN (bltD .int) [op2 neD (var 6) (ret (.str "one"))]))) (seq (asg (.nm 9) (op2 addD (var 3) (opN (bltD .int) [op2 eqD (var 6) (ret (.str "many"))]))) (seq (ifS (tru truD (op1 (isinD "tuple") (var 7)))
  (seq (asg (.nm 4) (op2 addD (var 4) (callM F 24 [var 7, op2 addD (var 1) (opN tupM [var 5]), var 8, var 9]))) (skip))
  (seq (drop (mthM .append (var 4) [opN tupM [op2 addD (var 1) (opN tupM [var 5]), var 7, var 8, var 9]])) (skip))) (skip))))) (
seq (retS (var 4)) (
skip)))
theorem e24 (F : Call) : (sem F fuel).B (pg.ce f24) f24.body = b24 F := by kernel_rfl
def b25 (F : Call) : MS := seq (asg (.nm 3) (op2 modD (var 1) (opN (bltD .len) [var 0]))) (
seq (asg (.tp [4, 5, 6]) (op2 ixD (var 0) (var 3))) (
seq (ifS (andT (tru truD (op1 (isinD "tuple") (var 6))) (tst (op2 eqD (op2 modD (opN (bltD .int) [op2 fdivD (var 1) (ret (.int 7))]) (ret (.int 2))) (ret (.int 0)))))
(seq (asg (.tp [7, 8]) (callM F 25 [var 6, op2 fdivD (var 1) (ret (.int 14)), var 2])) (seq (ifS (tru truD (op1 (isinD "list") (var 7)))
  (seq (asg (.nm 8) (ret (.str "kind"))) (skip))
  (skip)) (seq (retS (opN lstM [op2 addD (op2 addD (sliceM (var 0) (ret none) (intOf (var 3))) (opN tupM [opN tupM [var 4, var 5, var 7]])) (sliceM (var 0) (intOf (op2 addD (var 3) (ret (.int 1)))) (ret none)), var 8])) (skip))))
(skip)) (
seq (asg (.nm 9) (opN lstM [opN lstM [opN tupM [ret (.str "B"), var 5, var 6], ret (.str "name")], opN lstM [opN tupM [ret (.str ""), var 5, var 6], ret (.str "name")], opN lstM [opN tupM [op2 mulD (ret (.str "a")) (ret (.int 13)), var 5, var 6], ret (.str "name")], opN lstM [opN tupM [var 4, ret (.str "none"), var 6], ret (.str "times")], opN lstM [opN tupM [var 4, var 5, ret (.str "float")], ret (.str "kind")], opN lstM [opN tupM [var 4, var 5, opN tupM []], ret (.str "fields")], opN lstM [opN tupM [var 4, var 5], ret (.str "field")], opN lstM [opN lstM [var 4, var 5, var 6], ret (.str "field")], opN lstM [opN tupM [var 4, ret (.int 1), var 6], ret (.str "times")], opN lstM [opN tupM [var 4, var 5, ret .non], ret (.str "kind")], opN lstM [opN tupM [ret (.int 7), var 5, var 6], ret (.str "name")], opN lstM [opN tupM [ret (.str "a_"), var 5, var 6], ret (.str "name")]])) (
seq (asg (.tp [10, 8]) (op2 ixD (var 9) (op2 modD (var 2) (opN (bltD .len) [var 9])))) (
seq (ifS (tst (op2 eqD (op2 modD (var 2) (ret (.int 15))) (ret (.int 12))))
(seq (retS (opN lstM [op2 addD (var 0) (opN tupM [op2 ixD (var 0) (var 3)]), ret (.str "twice")])) (skip))
(skip)) (
seq (ifS (tst (op2 eqD (op2 modD (var 2) (ret (.int 15))) (ret (.int 13))))
(seq (retS (opN lstM [opN (bltD .list) [var 0], ret (.str "fields")])) (skip))
(skip)) (
seq (ifS (tst (op2 eqD (op2 modD (var 2) (ret (.int 15))) (ret (.int 14))))
(seq (retS (opN lstM [opN (bltD .tuple) [lcM [11] (bnd (ret (.int 13)) fun x => lift (rng1 x)) (.nm 11) (ret true) (opN tupM [op2 addD (ret (.str "f")) (opN (bltD .str) [var 11]), ret (.str "one"), ret (.str "int")])], ret (.str "fields")])) (skip))
(skip)) (
seq (retS (opN lstM [op2 addD (op2 addD (sliceM (var 0) (ret none) (intOf (var 3))) (opN tupM [var 10])) (sliceM (var 0) (intOf (op2 addD (var 3) (ret (.int 1)))) (ret none)), var 8])) (
skip)))))))))
theorem e25 (F : Call) : (sem F fuel).B (pg.ce f25) f25.body = b25 F := by kernel_rfl
def b26 (F : Call) : MS := seq (asg (.nm 1) (opN tupM [opN tupM [ret (.str "x"), ret (.str "one"), ret (.str "int")]])) (
seq (forS (bnd (op2 subD (var 0) (ret (.int 1))) fun x => lift (rng1 x)) (.nm 2)
(seq (asg (.nm 1) (opN tupM [opN tupM [ret (.str "g"), op2 ixD (opN lstM [ret (.str "one"), ret (.str "maybe"), ret (.str "many")]) (op2 modD (var 2) (ret (.int 3))), var 1]])) (skip))) (
seq (retS (var 1)) (
skip)))
theorem e26 (F : Call) : (sem F fuel).B (pg.ce f26) f26.body = b26 F := by kernel_rfl
def b27 (F : Call) : MS := seq (tryS (seq (drop (callM F 0 [var 0])) (skip)) 0 (some 1)
(seq (retS (var 1)) (skip))) (
seq (retS (ret (.str ""))) (
skip))
theorem e27 (F : Call) : (sem F fuel).B (pg.ce f27) f27.body = b27 F := by kernel_rfl
def b28 (F : Call) : MS := seq (tryS (seq (drop (callM F 13 [var 0, var 1])) (skip)) 1 (some 2)
(seq (retS (var 2)) (skip))) (
seq (retS (ret (.str ""))) (
skip))
theorem e28 (F : Call) : (sem F fuel).B (pg.ce f28) f28.body = b28 F := by kernel_rfl
def b29 (F : Call) : MS := seq (asg (.nm 4) (op2 modD (var 2) (opN (bltD .len) [var 0]))) (
seq (asg (.tp [5, 6, 7]) (op2 ixD (var 0) (var 4))) (
seq (asg (.nm 8) (op2 ixD (var 1) (var 4))) (
seq (asg (.nm 9) (opN lstM [op2 addD (op2 addD (sliceM (var 1) (ret none) (intOf (var 4))) (opN tupM [var 8, var 8])) (sliceM (var 1) (intOf (op2 addD (var 4) (ret (.int 1)))) (ret none)), ret (.str "fields")])) (
seq (ifS (tst (op2 eqD (op2 modD (var 3) (ret (.int 7))) (ret (.int 0))))
(seq (retS (var 9)) (skip))
(skip)) (
seq (ifS (tst (op2 eqD (op2 modD (var 3) (ret (.int 7))) (ret (.int 1))))
(seq (retS (opN lstM [opN (bltD .list) [var 1], ret (.str "fields")])) (skip))
(skip)) (
seq (ifS (tst (op2 eqD (var 6) (ret (.str "many"))))
(seq (retS (opN lstM [op2 addD (op2 addD (sliceM (var 1) (ret none) (intOf (var 4))) (opN tupM [op2 ixD (opN lstM [opN (bltD .list) [var 8], ret (.int 5), ret .non]) (op2 modD (var 3) (ret (.int 3)))])) (sliceM (var 1) (intOf (op2 addD (var 4) (ret (.int 1)))) (ret none)), ret (.str "many")])) (skip))
(skip)) (
seq (ifS (tru truD (op1 (isinD "tuple") (var 7)))
(seq (ifS (orT (tst (op2 isD (var 8) (ret .non))) (andT (tst (op2 eqD (var 6) (ret (.str "one")))) (tst (op2 eqD (op2 modD (var 3) (ret (.int 7))) (ret (.int 2))))))
  (seq (retS (opN lstM [op2 addD (op2 addD (sliceM (var 1) (ret none) (intOf (var 4))) (opN tupM [ret (.int 7)])) (sliceM (var 1) (intOf (op2 addD (var 4) (ret (.int 1)))) (ret none)), ret (.str "fields")])) (skip))
  (skip)) (seq (asg (.tp [10, 11]) (callM F 29 [var 7, var 8, op2 fdivD (var 2) (ret (.int 5)), op2 fdivD (var 3) (ret (.int 7))])) (seq (retS (opN lstM [op2 addD (op2 addD (sliceM (var 1) (ret none) (intOf (var 4))) (opN tupM [var 10])) (sliceM (var 1) (intOf (op2 addD (var 4) (ret (.int 1)))) (ret none)), var 11])) (skip))))
(skip)) (
seq (asg (.nm 12) (dispM [(ret (.str "int"), opN lstM [ret (.int 2147483648), op2 subD (ret (.int 0)) (ret (.int 2147483649)), ret (.bl true), ret (.str "1")]), (ret (.str "bool"), opN lstM [ret (.int 0), ret (.int 1), ret (.str "x"), ret (.str "true")]), (ret (.str "text"), opN lstM [ret (.str "\n"), op2 mulD (ret (.str "a")) (ret (.int 61)), ret (.int 5), ret (.bl true)])])) (
seq (retS (opN lstM [op2 addD (op2 addD (sliceM (var 1) (ret none) (intOf (var 4))) (opN tupM [op2 ixD (op2 ixD (var 12) (var 7)) (op2 modD (var 3) (ret (.int 4)))])) (sliceM (var 1) (intOf (op2 addD (var 4) (ret (.int 1)))) (ret none)), ret (.str "value")])) (
skip))))))))))
theorem e29 (F : Call) : (sem F fuel).B (pg.ce f29) f29.body = b29 F := by kernel_rfl
def b30 (F : Call) : MS := seq (asg (.nm 1) (callM F 20 [callM F 18 [callM F 16 [var 0, ret (.int 0)], ret (.int 30)], ret (.int 2)])) (
seq (asg (.nm 2) (callM F 23 [callM F 18 [callM F 16 [var 0, ret (.int 1)], ret (.int 30)], var 1])) (
seq (ifS (orT (tst (op2 neD (callM F 27 [var 1]) (ret (.str "")))) (tst (op2 neD (callM F 28 [var 1, var 2]) (ret (.str "")))))
(seq (retS (ret (.bl false))) (skip))
(skip)) (
seq (asg (.nm 3) (callM F 24 [var 1, opN tupM [], ret (.int 0), ret (.int 0)])) (
seq (ifS (orT (tst (op2 neD (opN (bltD .repr) [callM F 4 [var 1]]) (opN (bltD .repr) [var 3]))) (tst (op2 neD (callM F 6 [var 1]) (lcM [12] (bnd (var 3) fun x => lift (srcD x)) (.nm 12) (ret true) (op2 ixD (var 12) (ret (.int 0)))))))
(seq (retS (ret (.bl false))) (skip))
(skip)) (
seq (asg (.nm 4) (opN (bltD .abs) [callM F 16 [var 0, ret (.int 2)]])) (
seq (ifS (tst (op2 neD (callM F 7 [var 1, op2 ixD (op2 ixD (var 3) (op2 modD (var 4) (opN (bltD .len) [var 3]))) (ret (.int 0))]) (op2 ixD (var 3) (op2 modD (var 4) (opN (bltD .len) [var 3])))))
(seq (retS (ret (.bl false))) (skip))
(skip)) (
seq (asg (.nm 5) (opN lstM [])) (
seq (forS (bnd (opN lstM [opN lstM [], opN lstM [op2 ixD (op2 ixD (var 3) (ret (.int 0))) (ret (.int 0)), opN tupM [ret (.str "zz")]], opN lstM [opN tupM []]]) fun x => lift (srcD x)) (.nm 6)
(seq (tryS (seq (drop (callM F 8 [var 1, var 6])) (skip)) 2 (some 7)
  (seq (drop (mthM .append (var 5) [var 7])) (skip))) (skip))) (
seq (tryS (seq (drop (callM F 7 [var 1, opN tupM [ret (.str "zz"), ret (.str "a")]])) (skip)) 2 (some 7)
(seq (drop (mthM .append (var 5) [var 7])) (skip))) (
seq (ifS (tst (op2 neD (var 5) (opN lstM [opN tupM [], opN tupM [ret (.str "zz")], opN tupM [], opN tupM [ret (.str "zz"), ret (.str "a")]])))
(seq (retS (ret (.bl false))) (skip))
(skip)) (
seq (ifS (tst (op2 neD (callM F 8 [var 1, op2 addD (lcM [12] (bnd (var 3) fun x => lift (srcD x)) (.nm 12) (ret true) (op2 ixD (var 12) (ret (.int 0)))) (opN lstM [op2 ixD (op2 ixD (var 3) (ret (.int 0))) (ret (.int 0))])]) (var 1)))
(seq (retS (ret (.bl false))) (skip))
(skip)) (
seq (asg (.tp [8, 9]) (callM F 25 [var 1, opN (bltD .int) [op2 fdivD (var 4) (ret (.int 3))], opN (bltD .int) [op2 fdivD (var 4) (ret (.int 11))]])) (
seq (ifS (orT (tst (op2 neD (callM F 27 [var 8]) (var 9))) (tst (op2 neD (callM F 27 [ret .non]) (ret (.str "fields")))))
(seq (retS (ret (.bl false))) (skip))
(skip)) (
seq (asg (.nm 10) (op2 addD (ret (.int 1)) (op2 modD (opN (bltD .int) [op2 fdivD (var 4) (ret (.int 5))]) (ret (.int 8))))) (
seq (ifS (tst (op2 neD (callM F 27 [callM F 26 [var 10]]) (op2 ixD (opN lstM [ret (.str ""), ret (.str "depth")]) (opN (bltD .int) [op2 gtD (var 10) (ret (.int 5))]))))
(seq (retS (ret (.bl false))) (skip))
(skip)) (
seq (asg (.tp [11, 9]) (callM F 29 [var 1, var 2, opN (bltD .int) [op2 fdivD (var 4) (ret (.int 2))], opN (bltD .int) [op2 fdivD (var 4) (ret (.int 13))]])) (
seq (ifS (tst (op2 neD (callM F 28 [var 1, var 11]) (var 9)))
(seq (retS (ret (.bl false))) (skip))
(skip)) (
seq (retS (andV (op2 isD (callM F 10 [ret (.str "int"), op2 subD (ret (.int 0)) (ret (.int 2147483648))]) (ret (.bl true))) (andV (op2 isD (callM F 10 [ret (.str "int"), ret (.bl false)]) (ret (.bl false))) (op2 isD (callM F 10 [ret (.str "text"), ret (.str "~ ")]) (ret (.bl true)))))) (
skip)))))))))))))))))))
theorem e30 (F : Call) : (sem F fuel).B (pg.ce f30) f30.body = b30 F := by kernel_rfl
end Dk

set_option Elab.async false
set_option linter.all false
set_option maxRecDepth 100000
set_option maxHeartbeats 4000000
namespace Dk
open PySem PySem.Spec PyProof.Rows L2 Dd

/-- what a def's end says -/
def End (Q : D → DH → Prop) (X : Nat → D → DH → Prop) : Fl → DE → DH → Prop := fun f _ h => match f with
  | .ret d => Q d h
  | .next => Q .non h
  | .ex c p => X c p h
  | _ => False
section
variable {Q : D → DH → Prop} {X : Nat → D → DH → Prop} {e : DE} {h : DH}
theorem end_ret {d : D} : End Q X (.ret d) e h ↔ Q d h := ⟨fun x => x, fun x => x⟩
theorem end_next : End Q X .next e h ↔ Q .non h := ⟨fun x => x, fun x => x⟩
theorem end_ex {c : Nat} {p : D} : End Q X (.ex c p) e h ↔ X c p h := ⟨fun x => x, fun x => x⟩
theorem wc_of {k : Nat} {f : Fn} {b : Call → MS} (hf : pg.fns[k]? = some f) (he : ∀ F : Call, (sem F fuel).B (pg.ce f) f.body = b F) {n : Nat} {ds : List D} {h : DH} (hl : ds.length = f.ps.length) (w : WP (b (pg.run n)) (startD f.N ds) h (End Q X)) : WC (pg.run (n + 1)) k ds h Q X := by
  obtain ⟨fl, e', h', q, w⟩ := w
  have u : pg.run (n + 1) k ds h = f.run pg (pg.run n) ds h := by
    show (match pg.fns[k]? with | some f => f.run pg (pg.run n) ds h | none => none) = _
    rw [hf]
  unfold WC
  rw [u]
  unfold Fn.run
  rw [if_pos hl, he, q]
  cases fl with
  | ret d => exact ⟨_, _, rfl, w⟩
  | next => exact ⟨_, _, rfl, w⟩
  | ex c p => exact ⟨_, _, rfl, w⟩
  | _ => exact w.elim
end
/-- the heap has grown -/
def Grow (h h' : DH) : Prop := ∃ more, h' = h ++ more
theorem Grow.refl (h : DH) : Grow h h := ⟨[], (List.append_nil h).symm⟩
theorem Grow.trans {a b c : DH} (x : Grow a b) (y : Grow b c) : Grow a c := by
  obtain ⟨m, rfl⟩ := x
  obtain ⟨k, rfl⟩ := y
  exact ⟨m ++ k, List.append_assoc _ _ _⟩
theorem Grow.one (h : DH) (o : Ob) : Grow h (h ++ [o]) := ⟨[o], rfl⟩
theorem Grow.ix {h h' : DH} (x : Grow h h') {i : Nat} {o : Ob} (e : h[i]? = some o) : h'[i]? = some o := by
  obtain ⟨m, rfl⟩ := x
  rw [List.getElem?_append_left (List.getElem?_eq_some_iff.mp e).1]
  exact e
theorem Grow.le {h h' : DH} (x : Grow h h') : h.length ≤ h'.length := by
  obtain ⟨m, rfl⟩ := x
  rw [List.length_append]; omega
theorem Grow.set {h h' : DH} (x : Grow h h') {i : Nat} (o : Ob) (hi : h.length ≤ i) : Grow h (h'.set i o) := by
  obtain ⟨m, rfl⟩ := x
  exact ⟨m.set (i - h.length) o, by rw [List.set_append_right _ _ hi]⟩
theorem Grow.lst {h h' : DH} (x : Grow h h') {i : Nat} {xs : List D} (e : lstAt h i = some xs) : lstAt h' i = some xs := by
  unfold lstAt
  rw [x.ix (lstAt_some e)]
theorem lst_new {h : DH} {xs : List D} : lstAt (h ++ [.lst xs]) h.length = some xs := by
  unfold lstAt
  rw [List.getElem?_append_right (Nat.le_refl _), Nat.sub_self]
  rfl
theorem lst_set {h : DH} {i : Nat} {xs ys : List D} (e : lstAt h i = some ys) : lstAt (h.set i (.lst xs)) i = some xs := by
  have := (List.getElem?_eq_some_iff.mp (lstAt_some e)).1
  unfold lstAt
  rw [List.getElem?_set_self this]
theorem atI_of {α : Type} {xs : List α} {i : Int} {k : Nat} {x : α} (hi : i = (k : Int)) (h : xs[k]? = some x) : L2.atI xs i = some x := by
  subst hi
  have hl := (List.getElem?_eq_some_iff.mp h).1
  unfold L2.atI ixN
  rw [if_pos (by omega), if_pos (by omega)]
  simpa using h
theorem atI_map {ns : List Int} {i : Int} {k : Nat} {x : Int} (hi : i = (k : Int)) (h : ns[k]? = some x) : L2.atI (ns.map D.int) i = some (.int x) := atI_of hi (by rw [List.getElem?_map, h]; rfl)
/-- the turn of a range -/
theorem rng_turn {n k : Nat} {d : D} (h : ((List.range n).map fun k => D.int (0 + (k : Nat)))[k]? = some d) : d = .int k ∧ k < n := by
  rw [List.getElem?_map] at h
  obtain ⟨j, e1, e2⟩ := Dd.map_some h
  obtain ⟨h1, h2⟩ := List.getElem?_eq_some_iff.mp e1
  rw [List.length_range] at h1
  rw [List.getElem_range] at h2
  subst h2 e2
  exact ⟨by simp, h1⟩
theorem mul_r {i j : Int} {h : DH} (hj : smallI j = true) : mulD (.int i) (.int j) h = some (.int (i * j), h) := by
  unfold mulD
  dsimp only
  rw [hj, Bool.or_true, if_pos rfl]
theorem s62 : in62 30 = true := by decide
/-- the script's cell -/
theorem w16 (n : Nat) (ns : List Int) (k : Nat) (h : DH) : WC (pg.run (n + 1)) 16 [.frz ns, .int k] h (fun d h' => (∃ c, d = .int c) ∧ h' = h) fun _ _ _ => False := by
  refine wc_of (f := f16) rfl e16 rfl ?_
  by_cases hl' : k < ns.length
  · have ha : L2.atI ns (k : Int) = some ns[k] := atI_of rfl (List.getElem?_eq_getElem hl')
    simp [b16, startD, f16, Dd.we_ret, Dd.we_bnd, Dd.we_lift, Dd.we_var, Dd.we_args_nil, Dd.we_args_cons, Dd.we_opN, Dd.we_op1, Dd.we_op2, Dd.we_call, Dd.we_tst, Dd.we_tru, Dd.we_notT, Dd.we_andT, Dd.we_orT, Dd.we_notV, Dd.we_andV, Dd.we_orV, Dd.we_ite, Dd.we_chn, Dd.we_mth, Dd.we_slice, Dd.we_intOf, Dd.nx_next, Dd.nx_ret, Dd.nx_ex, Dd.td_next, Dd.td_cont, Dd.td_brk, Dd.td_ret, Dd.td_ex, Dd.nx_brk, Dd.nx_cont, Dd.wp_skip, Dd.wp_seq, Dd.wp_drop, Dd.wp_ret, Dd.wp_asg, Dd.wp_if, Dd.wp_raise, Dd.wp_set, Dd.below_iff, Dd.ltI_eq, Dd.leI_eq, Dd.WO, Dd.Tg.put, Dd.setAll, Dd.unpk, Dd.isinD, Dd.tyName, Dd.isTy, Dd.truD, Dd.mthOk, Dd.mthD, Dd.bltD, Dd.addD, Dd.subD, Dd.fdivD, Dd.modD, Dd.negD, Dd.ltD, Dd.leD, Dd.gtD, Dd.geD, Dd.ixD, Dd.pureO, Dd.lstM, Dd.tupM, Dd.newOb, hl', ha, end_ret]
  · simp [b16, startD, f16, Dd.we_ret, Dd.we_bnd, Dd.we_lift, Dd.we_var, Dd.we_args_nil, Dd.we_args_cons, Dd.we_opN, Dd.we_op1, Dd.we_op2, Dd.we_call, Dd.we_tst, Dd.we_tru, Dd.we_notT, Dd.we_andT, Dd.we_orT, Dd.we_notV, Dd.we_andV, Dd.we_orV, Dd.we_ite, Dd.we_chn, Dd.we_mth, Dd.we_slice, Dd.we_intOf, Dd.nx_next, Dd.nx_ret, Dd.nx_ex, Dd.td_next, Dd.td_cont, Dd.td_brk, Dd.td_ret, Dd.td_ex, Dd.nx_brk, Dd.nx_cont, Dd.wp_skip, Dd.wp_seq, Dd.wp_drop, Dd.wp_ret, Dd.wp_asg, Dd.wp_if, Dd.wp_raise, Dd.wp_set, Dd.below_iff, Dd.ltI_eq, Dd.leI_eq, Dd.WO, Dd.Tg.put, Dd.setAll, Dd.unpk, Dd.isinD, Dd.tyName, Dd.isTy, Dd.truD, Dd.mthOk, Dd.mthD, Dd.bltD, Dd.addD, Dd.subD, Dd.fdivD, Dd.modD, Dd.negD, Dd.ltD, Dd.leD, Dd.gtD, Dd.geD, Dd.ixD, Dd.pureO, Dd.lstM, Dd.tupM, Dd.newOb, hl', end_ret]
/-- its numbers -/
def NumI (h : DH) (c : Int) (k : Nat) (e : DE) (hh : DH) : Prop := (∃ rest x, e = [some (.int c), some (.int 30), some (.ref h.length), some (.int rest), x]) ∧ Grow h hh ∧ ∃ ns : List Int, lstAt hh h.length = some (ns.map .int) ∧ ns.length = k ∧ ∀ x ∈ ns, 0 ≤ x
theorem num_more {h hh : DH} {k : Nat} {ns : List Int} {v : Int} (g : Grow h hh) (l1 : lstAt hh h.length = some (ns.map .int)) (l2 : ns.length = k) (l3 : ∀ x ∈ ns, 0 ≤ x) (hv : 0 ≤ v) :
    Grow h (hh.set h.length (.lst (ns.map .int ++ [.int v]))) ∧ ∃ ms : List Int, lstAt (hh.set h.length (.lst (ns.map .int ++ [.int v]))) h.length = some (ms.map .int) ∧ ms.length = k + 1 ∧ ∀ x ∈ ms, 0 ≤ x := by
  refine ⟨g.set _ (Nat.le_refl _), ns ++ [v], ?_, by rw [List.length_append, l2]; rfl, fun y hy => ?_⟩
  · rw [List.map_append]
    exact lst_set l1
  · rcases List.mem_append.mp hy with hy | hy
    · exact l3 y hy
    · rw [List.mem_singleton.mp hy]; exact hv
theorem w17 (n : Nat) (c : Int) (h : DH) : WC (pg.run (n + 1)) 17 [.int c, .int 30] h (fun d h' => d = .ref h.length ∧ Grow h h' ∧ ∃ ns : List Int, lstAt h' h.length = some (ns.map .int) ∧ ns.length = 30 ∧ ∀ x ∈ ns, 0 ≤ x) fun _ _ _ => False := by
  refine wc_of (f := f17) rfl e17 rfl ?_
  have s1 : ∀ (i : Int) (h : DH), mulD (.int i) (.int 48271) h = some (.int (i * 48271), h) := fun i h => mul_r (by decide)
  have s2 : ∀ (i : Int) (h : DH), mulD (.int i) (.int 7919) h = some (.int (i * 7919), h) := fun i h => mul_r (by decide)
  have s3 : ∀ (i : Int) (h : DH), mulD (.int i) (.int 69621) h = some (.int (i * 69621), h) := fun i h => mul_r (by decide)
  have z30 : ∀ {k : Nat}, k < 30 → k < Z := fun h => Nat.lt_of_lt_of_le h (by decide)
  by_cases hb : (1000000000000000000 : Int) ≤ (if c < 0 then -c else c)
  · simp [b17, startD, f17, Dd.we_ret, Dd.we_bnd, Dd.we_lift, Dd.we_var, Dd.we_args_nil, Dd.we_args_cons, Dd.we_opN, Dd.we_op1, Dd.we_op2, Dd.we_call, Dd.we_tst, Dd.we_tru, Dd.we_notT, Dd.we_andT, Dd.we_orT, Dd.we_notV, Dd.we_andV, Dd.we_orV, Dd.we_ite, Dd.we_chn, Dd.we_mth, Dd.we_slice, Dd.we_intOf, Dd.nx_next, Dd.nx_ret, Dd.nx_ex, Dd.td_next, Dd.td_cont, Dd.td_brk, Dd.td_ret, Dd.td_ex, Dd.nx_brk, Dd.nx_cont, Dd.wp_skip, Dd.wp_seq, Dd.wp_drop, Dd.wp_ret, Dd.wp_asg, Dd.wp_if, Dd.wp_raise, Dd.wp_set, Dd.below_iff, Dd.ltI_eq, Dd.leI_eq, Dd.WO, Dd.Tg.put, Dd.setAll, Dd.unpk, Dd.isinD, Dd.tyName, Dd.isTy, Dd.truD, Dd.mthOk, Dd.mthD, Dd.bltD, Dd.addD, Dd.subD, Dd.fdivD, Dd.modD, Dd.negD, Dd.ltD, Dd.leD, Dd.gtD, Dd.geD, Dd.ixD, Dd.pureO, Dd.lstM, Dd.tupM, Dd.newOb, hb]
    refine for_rng (NumI h c) ?_
    simp only [Dd.we_ret, Dd.we_bnd, Dd.we_lift, Dd.we_var, Dd.we_args_nil, Dd.we_args_cons, Dd.we_opN, Dd.we_op1, Dd.we_op2, Dd.we_call, Dd.we_tst, Dd.we_tru, Dd.we_notT, Dd.we_andT, Dd.we_orT, Dd.we_notV, Dd.we_andV, Dd.we_orV, Dd.we_ite, Dd.we_chn, Dd.we_mth, Dd.we_slice, Dd.we_intOf, Dd.nx_next, Dd.nx_ret, Dd.nx_ex, Dd.td_next, Dd.td_cont, Dd.td_brk, Dd.td_ret, Dd.td_ex, Dd.nx_brk, Dd.nx_cont, Dd.wp_skip, Dd.wp_seq, Dd.wp_drop, Dd.wp_ret, Dd.wp_asg, Dd.wp_if, Dd.wp_raise, Dd.wp_set]
    refine ⟨.int 30, rfl, 30, rfl, s62, ⟨⟨_, _, rfl⟩, Grow.one h _, [], lst_new, rfl, fun _ z => nomatch z⟩, ?_, ?_⟩
    · rintro e h' ⟨⟨rest, x, rfl⟩, g, q⟩
      simp [Dd.we_ret, Dd.we_bnd, Dd.we_lift, Dd.we_var, Dd.we_args_nil, Dd.we_args_cons, Dd.we_opN, Dd.we_op1, Dd.we_op2, Dd.we_call, Dd.we_tst, Dd.we_tru, Dd.we_notT, Dd.we_andT, Dd.we_orT, Dd.we_notV, Dd.we_andV, Dd.we_orV, Dd.we_ite, Dd.we_chn, Dd.we_mth, Dd.we_slice, Dd.we_intOf, Dd.nx_next, Dd.nx_ret, Dd.nx_ex, Dd.td_next, Dd.td_cont, Dd.td_brk, Dd.td_ret, Dd.td_ex, Dd.nx_brk, Dd.nx_cont, Dd.wp_skip, Dd.wp_seq, Dd.wp_drop, Dd.wp_ret, Dd.wp_asg, Dd.wp_if, Dd.wp_raise, Dd.wp_set, Dd.below_iff, Dd.ltI_eq, Dd.leI_eq, Dd.WO, Dd.Tg.put, Dd.setAll, Dd.unpk, Dd.isinD, Dd.tyName, Dd.isTy, Dd.truD, Dd.mthOk, Dd.mthD, Dd.bltD, Dd.addD, Dd.subD, Dd.fdivD, Dd.modD, Dd.negD, Dd.ltD, Dd.leD, Dd.gtD, Dd.geD, Dd.ixD, Dd.pureO, Dd.lstM, Dd.tupM, Dd.newOb, end_ret]
      exact ⟨g, q⟩
    · rintro k e h' hk ⟨⟨rest, x, rfl⟩, g, ns, l1, l2, l3⟩
      have := z30 hk
      simp [Dd.we_ret, Dd.we_bnd, Dd.we_lift, Dd.we_var, Dd.we_args_nil, Dd.we_args_cons, Dd.we_opN, Dd.we_op1, Dd.we_op2, Dd.we_call, Dd.we_tst, Dd.we_tru, Dd.we_notT, Dd.we_andT, Dd.we_orT, Dd.we_notV, Dd.we_andV, Dd.we_orV, Dd.we_ite, Dd.we_chn, Dd.we_mth, Dd.we_slice, Dd.we_intOf, Dd.nx_next, Dd.nx_ret, Dd.nx_ex, Dd.td_next, Dd.td_cont, Dd.td_brk, Dd.td_ret, Dd.td_ex, Dd.nx_brk, Dd.nx_cont, Dd.wp_skip, Dd.wp_seq, Dd.wp_drop, Dd.wp_ret, Dd.wp_asg, Dd.wp_if, Dd.wp_raise, Dd.wp_set, Dd.below_iff, Dd.ltI_eq, Dd.leI_eq, Dd.WO, Dd.Tg.put, Dd.setAll, Dd.unpk, Dd.isinD, Dd.tyName, Dd.isTy, Dd.truD, Dd.mthOk, Dd.mthD, Dd.bltD, Dd.addD, Dd.subD, Dd.fdivD, Dd.modD, Dd.negD, Dd.ltD, Dd.leD, Dd.gtD, Dd.geD, Dd.ixD, Dd.pureO, Dd.lstM, Dd.tupM, Dd.newOb, l1, l2, this]
      exact ⟨⟨_, _, rfl⟩, num_more g l1 l2 l3 (Int.emod_nonneg _ (by decide))⟩
  · simp [b17, startD, f17, Dd.we_ret, Dd.we_bnd, Dd.we_lift, Dd.we_var, Dd.we_args_nil, Dd.we_args_cons, Dd.we_opN, Dd.we_op1, Dd.we_op2, Dd.we_call, Dd.we_tst, Dd.we_tru, Dd.we_notT, Dd.we_andT, Dd.we_orT, Dd.we_notV, Dd.we_andV, Dd.we_orV, Dd.we_ite, Dd.we_chn, Dd.we_mth, Dd.we_slice, Dd.we_intOf, Dd.nx_next, Dd.nx_ret, Dd.nx_ex, Dd.td_next, Dd.td_cont, Dd.td_brk, Dd.td_ret, Dd.td_ex, Dd.nx_brk, Dd.nx_cont, Dd.wp_skip, Dd.wp_seq, Dd.wp_drop, Dd.wp_ret, Dd.wp_asg, Dd.wp_if, Dd.wp_raise, Dd.wp_set, Dd.below_iff, Dd.ltI_eq, Dd.leI_eq, Dd.WO, Dd.Tg.put, Dd.setAll, Dd.unpk, Dd.isinD, Dd.tyName, Dd.isTy, Dd.truD, Dd.mthOk, Dd.mthD, Dd.bltD, Dd.addD, Dd.subD, Dd.fdivD, Dd.modD, Dd.negD, Dd.ltD, Dd.leD, Dd.gtD, Dd.geD, Dd.ixD, Dd.pureO, Dd.lstM, Dd.tupM, Dd.newOb, hb]
    refine for_rng (NumI h c) ?_
    simp only [Dd.we_ret, Dd.we_bnd, Dd.we_lift, Dd.we_var, Dd.we_args_nil, Dd.we_args_cons, Dd.we_opN, Dd.we_op1, Dd.we_op2, Dd.we_call, Dd.we_tst, Dd.we_tru, Dd.we_notT, Dd.we_andT, Dd.we_orT, Dd.we_notV, Dd.we_andV, Dd.we_orV, Dd.we_ite, Dd.we_chn, Dd.we_mth, Dd.we_slice, Dd.we_intOf, Dd.nx_next, Dd.nx_ret, Dd.nx_ex, Dd.td_next, Dd.td_cont, Dd.td_brk, Dd.td_ret, Dd.td_ex, Dd.nx_brk, Dd.nx_cont, Dd.wp_skip, Dd.wp_seq, Dd.wp_drop, Dd.wp_ret, Dd.wp_asg, Dd.wp_if, Dd.wp_raise, Dd.wp_set]
    refine ⟨.int 30, rfl, 30, rfl, s62, ⟨⟨_, _, rfl⟩, Grow.one h _, [], lst_new, rfl, fun _ z => nomatch z⟩, ?_, ?_⟩
    · rintro e h' ⟨⟨rest, x, rfl⟩, g, q⟩
      simp [Dd.we_ret, Dd.we_bnd, Dd.we_lift, Dd.we_var, Dd.we_args_nil, Dd.we_args_cons, Dd.we_opN, Dd.we_op1, Dd.we_op2, Dd.we_call, Dd.we_tst, Dd.we_tru, Dd.we_notT, Dd.we_andT, Dd.we_orT, Dd.we_notV, Dd.we_andV, Dd.we_orV, Dd.we_ite, Dd.we_chn, Dd.we_mth, Dd.we_slice, Dd.we_intOf, Dd.nx_next, Dd.nx_ret, Dd.nx_ex, Dd.td_next, Dd.td_cont, Dd.td_brk, Dd.td_ret, Dd.td_ex, Dd.nx_brk, Dd.nx_cont, Dd.wp_skip, Dd.wp_seq, Dd.wp_drop, Dd.wp_ret, Dd.wp_asg, Dd.wp_if, Dd.wp_raise, Dd.wp_set, Dd.below_iff, Dd.ltI_eq, Dd.leI_eq, Dd.WO, Dd.Tg.put, Dd.setAll, Dd.unpk, Dd.isinD, Dd.tyName, Dd.isTy, Dd.truD, Dd.mthOk, Dd.mthD, Dd.bltD, Dd.addD, Dd.subD, Dd.fdivD, Dd.modD, Dd.negD, Dd.ltD, Dd.leD, Dd.gtD, Dd.geD, Dd.ixD, Dd.pureO, Dd.lstM, Dd.tupM, Dd.newOb, end_ret]
      exact ⟨g, q⟩
    · rintro k e h' hk ⟨⟨rest, x, rfl⟩, g, ns, l1, l2, l3⟩
      have := z30 hk
      simp [Dd.we_ret, Dd.we_bnd, Dd.we_lift, Dd.we_var, Dd.we_args_nil, Dd.we_args_cons, Dd.we_opN, Dd.we_op1, Dd.we_op2, Dd.we_call, Dd.we_tst, Dd.we_tru, Dd.we_notT, Dd.we_andT, Dd.we_orT, Dd.we_notV, Dd.we_andV, Dd.we_orV, Dd.we_ite, Dd.we_chn, Dd.we_mth, Dd.we_slice, Dd.we_intOf, Dd.nx_next, Dd.nx_ret, Dd.nx_ex, Dd.td_next, Dd.td_cont, Dd.td_brk, Dd.td_ret, Dd.td_ex, Dd.nx_brk, Dd.nx_cont, Dd.wp_skip, Dd.wp_seq, Dd.wp_drop, Dd.wp_ret, Dd.wp_asg, Dd.wp_if, Dd.wp_raise, Dd.wp_set, Dd.below_iff, Dd.ltI_eq, Dd.leI_eq, Dd.WO, Dd.Tg.put, Dd.setAll, Dd.unpk, Dd.isinD, Dd.tyName, Dd.isTy, Dd.truD, Dd.mthOk, Dd.mthD, Dd.bltD, Dd.addD, Dd.subD, Dd.fdivD, Dd.modD, Dd.negD, Dd.ltD, Dd.leD, Dd.gtD, Dd.geD, Dd.ixD, Dd.pureO, Dd.lstM, Dd.tupM, Dd.newOb, l1, l2, this, s1, s2, s3]
      exact ⟨⟨_, _, rfl⟩, num_more g l1 l2 l3 (Int.emod_nonneg _ (by decide))⟩
/-- a feed: its numbers, how far it is -/
def Feed (h : DH) (i j : Nat) (a : Nat) : Prop := ∃ (ns : List Int), h[i]? = some (.dk [(.inr "at", .int a), (.inr "numbers", .ref j)]) ∧ lstAt h j = some (ns.map .int) ∧ ns.length = 30 ∧ (∀ x ∈ ns, 0 ≤ x) ∧ i ≠ j
theorem w18 (n : Nat) (c : Int) (h : DH) : WC (pg.run (n + 2)) 18 [.int c, .int 30] h (fun d h' => ∃ i j, d = .ref i ∧ Feed h' i j 0) fun _ _ _ => False := by
  refine wc_of (f := f18) rfl e18 rfl ?_
  have sne : ¬ (Str.ofString "at" = Str.ofString "numbers") := by decide +kernel
  simp only [b18, startD, f18, Dd.we_ret, Dd.we_bnd, Dd.we_lift, Dd.we_var, Dd.we_args_nil, Dd.we_args_cons, Dd.we_opN, Dd.we_op1, Dd.we_op2, Dd.we_call, Dd.we_tst, Dd.we_tru, Dd.we_notT, Dd.we_andT, Dd.we_orT, Dd.we_notV, Dd.we_andV, Dd.we_orV, Dd.we_ite, Dd.we_chn, Dd.we_mth, Dd.we_slice, Dd.we_intOf, Dd.nx_next, Dd.nx_ret, Dd.nx_ex, Dd.td_next, Dd.td_cont, Dd.td_brk, Dd.td_ret, Dd.td_ex, Dd.nx_brk, Dd.nx_cont, Dd.wp_skip, Dd.wp_seq, Dd.wp_drop, Dd.wp_ret, Dd.wp_asg, Dd.wp_if, Dd.wp_raise, Dd.wp_set]
  refine we_disp ?_
  simp only [we_dispL_cons, we_dispL_nil, Dd.we_ret, Dd.we_bnd, Dd.we_lift, Dd.we_var, Dd.we_args_nil, Dd.we_args_cons, Dd.we_opN, Dd.we_op1, Dd.we_op2, Dd.we_call, Dd.we_tst, Dd.we_tru, Dd.we_notT, Dd.we_andT, Dd.we_orT, Dd.we_notV, Dd.we_andV, Dd.we_orV, Dd.we_ite, Dd.we_chn, Dd.we_mth, Dd.we_slice, Dd.we_intOf, Dd.nx_next, Dd.nx_ret, Dd.nx_ex, Dd.td_next, Dd.td_cont, Dd.td_brk, Dd.td_ret, Dd.td_ex, Dd.nx_brk, Dd.nx_cont, Dd.wp_skip, Dd.wp_seq, Dd.wp_drop, Dd.wp_ret, Dd.wp_asg, Dd.wp_if, Dd.wp_raise, Dd.wp_set]
  refine ⟨.int c, rfl, .int 30, rfl, (w17 n c (h ++ [.dk []])).mono (fun d h' w => ?_) fun _ _ _ z => z⟩
  obtain ⟨rfl, g, ns, l1, l2, l3⟩ := w
  have e0 : (h ++ [Ob.dk []])[h.length]? = some (.dk []) := by
    rw [List.getElem?_append_right (Nat.le_refl _), Nat.sub_self]
    rfl
  have hl : (h ++ [Ob.dk []]).length = h.length + 1 := by rw [List.length_append]; rfl
  have e1 := g.ix e0
  have hlt := (List.getElem?_eq_some_iff.mp e1).1
  refine ⟨e1, [(.inr "at", .int 0), (.inr "numbers", .ref (h ++ [Ob.dk []]).length)], rfl, by show 2 ≤ 15; decide, ?_⟩
  refine ⟨h.length, (h ++ [Ob.dk []]).length, rfl, ns, ?_, ?_, l2, l3, by omega⟩
  · rw [List.getElem?_set_self hlt]
    simp [putD, sne]
  · have l1' := lstAt_some l1
    unfold lstAt
    rw [List.getElem?_set_ne (by omega), l1']
/-- one number -/
theorem w19 (n : Nat) (h : DH) (i j a : Nat) (limit : Int) (hl : 0 < limit) (ha : a < 100000000) (f : Feed h i j a) : WC (pg.run (n + 1)) 19 [.ref i, .int limit] h (fun d h' => ∃ v, d = .int v ∧ 0 ≤ v ∧ v < limit ∧ Feed h' i j (a + 1) ∧ ∃ o, h' = h.set i o) fun _ _ _ => False := by
  refine wc_of (f := f19) rfl e19 rfl ?_
  obtain ⟨ns, g1, g2, g3, g4, g5⟩ := f
  have q : 0 < (a : Int) % 30 + 1 := by omega
  have hk : a % 30 < ns.length := by rw [g3]; omega
  have g2' := lstAt_some g2
  have hij : (h.set i (.dk [(.inr "at", .int (a + 1)), (.inr "numbers", .ref j)]))[j]? = some (.lst (ns.map .int)) := by rw [List.getElem?_set_ne g5]; exact g2'
  have at30 : L2.atI (ns.map D.int) ((a : Int) % 30) = some (.int (ns[a % 30])) := atI_map (k := a % 30) (by omega) (List.getElem?_eq_getElem hk)
  have small : (0 : Int) < 1 + (a : Int) / 30 * 7 ∧ 1 + (a : Int) / 30 * 7 < 1073741824 := by omega
  have small2 : -(1073741824 : Int) < 1 + (a : Int) / 30 * 7 := by omega
  have s7 : ∀ (i : Int) (h : DH), mulD (.int i) (.int 7) h = some (.int (i * 7), h) := fun i h => mul_r (by decide)
  have sne : ¬ (Str.ofString "at" = Str.ofString "numbers") := by decide +kernel
  have sne' : ¬ (Str.ofString "numbers" = Str.ofString "at") := by decide +kernel
  have k1 : dGet (.ref i) (.str "numbers") h = some (some (.ref j)) := by simp [dGet, g1, keyD, lookD, sne]
  have k2 : dGet (.ref i) (.str "at") h = some (some (.int a)) := by simp [dGet, g1, keyD, lookD]
  have kp : Dd.putAt (.ref i) (.str "at") (.int ((a : Int) + 1)) h = some (h.set i (.dk [(.inr "at", .int ((a : Int) + 1)), (.inr "numbers", .ref j)])) := by
    have z2 : 2 < Z := by decide
    simp [Dd.putAt, g1, keyD, putD, sne', z2]
  have hi := (List.getElem?_eq_some_iff.mp g1).1
  simp [b19, startD, f19, Dd.we_ret, Dd.we_bnd, Dd.we_lift, Dd.we_var, Dd.we_args_nil, Dd.we_args_cons, Dd.we_opN, Dd.we_op1, Dd.we_op2, Dd.we_call, Dd.we_tst, Dd.we_tru, Dd.we_notT, Dd.we_andT, Dd.we_orT, Dd.we_notV, Dd.we_andV, Dd.we_orV, Dd.we_ite, Dd.we_chn, Dd.we_mth, Dd.we_slice, Dd.we_intOf, Dd.nx_next, Dd.nx_ret, Dd.nx_ex, Dd.td_next, Dd.td_cont, Dd.td_brk, Dd.td_ret, Dd.td_ex, Dd.nx_brk, Dd.nx_cont, Dd.wp_skip, Dd.wp_seq, Dd.wp_drop, Dd.wp_ret, Dd.wp_asg, Dd.wp_if, Dd.wp_raise, Dd.wp_set, Dd.below_iff, Dd.ltI_eq, Dd.leI_eq, Dd.WO, Dd.Tg.put, Dd.setAll, Dd.unpk, Dd.isinD, Dd.tyName, Dd.isTy, Dd.truD, Dd.mthOk, Dd.mthD, Dd.bltD, Dd.addD, Dd.subD, Dd.fdivD, Dd.modD, Dd.negD, Dd.ltD, Dd.leD, Dd.gtD, Dd.geD, Dd.ixD, Dd.pureO, Dd.lstM, Dd.tupM, Dd.newOb, g1, k1, k2, kp, hij, g3, at30, small, small2, s7, hl, end_ret]
  refine ⟨Int.emod_nonneg _ (by omega), Int.emod_lt_of_pos _ hl, ⟨ns, ?_, ?_, g3, g4, g5⟩, _, rfl⟩
  · rw [List.getElem?_set_self hi]
    simp
  · unfold lstAt
    rw [hij]
end Dk

set_option Elab.async false
set_option linter.all false
set_option maxRecDepth 100000
set_option maxHeartbeats 4000000
namespace Dk
open PySem PySem.Spec PyProof.Rows L2 Dd

/-- all but the feed stays -/
def Frame (i : Nat) (h h' : DH) : Prop := ∀ (k : Nat) (ob : Ob), k ≠ i → h[k]? = some ob → h'[k]? = some ob
theorem Frame.refl (i : Nat) (h : DH) : Frame i h h := fun _ _ _ e => e
theorem Frame.trans {i : Nat} {a b c : DH} (x : Frame i a b) (y : Frame i b c) : Frame i a c := fun k ob n e => y k ob n (x k ob n e)
theorem Frame.set {i : Nat} {h : DH} (o : Ob) : Frame i h (h.set i o) := fun k ob n e => by rw [List.getElem?_set_ne (fun z => n z.symm)]; exact e
theorem Frame.lst {i k : Nat} {h h' : DH} {xs : List D} (x : Frame i h h') (n : k ≠ i) (e : lstAt h k = some xs) : lstAt h' k = some xs := by
  unfold lstAt
  rw [x k _ n (lstAt_some e)]
theorem Feed.push {h : DH} {i j a : Nat} (f : Feed h i j a) (o : Ob) : Feed (h ++ [o]) i j a := by
  obtain ⟨ns, g1, g2, g3⟩ := f
  exact ⟨ns, (Grow.one h o).ix g1, (Grow.one h o).lst g2, g3⟩
theorem Feed.lt {h : DH} {i j a : Nat} (f : Feed h i j a) : i < h.length ∧ j < h.length := by
  obtain ⟨ns, g1, g2, g3⟩ := f
  exact ⟨(List.getElem?_eq_some_iff.mp g1).1, (List.getElem?_eq_some_iff.mp (lstAt_some g2)).1⟩
theorem Feed.other {h : DH} {i j a k : Nat} (f : Feed h i j a) (o : Ob) (hi : k ≠ i) (hj : k ≠ j) : Feed (h.set k o) i j a := by
  obtain ⟨ns, g1, g2, g3⟩ := f
  refine ⟨ns, by rw [List.getElem?_set_ne hi]; exact g1, ?_, g3⟩
  have := lstAt_some g2
  unfold lstAt
  rw [List.getElem?_set_ne hj, this]
/-- the fields that the law draws -/
def nm3 : List Str := ["a", "b1", "c"]
def tms : List Str := ["one", "maybe", "many"]
def knds : List Str := ["int", "bool", "text"]
def FsOk : Nat → List D → Prop
  | 0, _ => False
  | n + 1, fs => 1 ≤ fs.length ∧ fs.length ≤ 3 ∧ ∀ (i : Nat) (d : D), fs[i]? = some d → ∃ (nm tm : Str) (kd : D), d = D.tup [.str nm, .str tm, kd] ∧ nm3[i]? = some nm ∧ tm ∈ tms ∧ ((∃ x ∈ knds, kd = D.str x) ∨ ∃ gs, kd = D.tup gs ∧ FsOk n gs)
def cost : Nat → Nat
  | 0 => 7
  | m + 1 => 10 + 3 * cost m
theorem pick3 {a b c : Str} {v : Int} (h0 : 0 ≤ v) (h1 : v < 3) : ∃ x, x ∈ [a, b, c] ∧ L2.atI [D.str a, D.str b, D.str c] v = some (.str x) := by
  have : v = 0 ∨ v = 1 ∨ v = 2 := by omega
  rcases this with rfl | rfl | rfl
  · exact ⟨a, by simp, atI_of (k := 0) rfl rfl⟩
  · exact ⟨b, by simp, atI_of (k := 1) rfl rfl⟩
  · exact ⟨c, by simp, atI_of (k := 2) rfl rfl⟩
/-- the loop's state in _law_fields -/
def FI (h : DH) (i j m c a : Nat) (k : Nat) (e : DE) (hh : DH) : Prop := (∃ x y z, e = [some (.ref i), some (.int m), some (.ref h.length), x, y, z]) ∧ Frame i h hh ∧ ∃ a', Feed hh i j a' ∧ a' ≤ a + k * c ∧ ∃ fs, lstAt hh h.length = some fs ∧ fs.length = k ∧
  ∀ (p : Nat) (d : D), fs[p]? = some d → ∃ (nm tm : Str) (kd : D), d = D.tup [.str nm, .str tm, kd] ∧ nm3[p]? = some nm ∧ tm ∈ tms ∧ ((∃ x ∈ knds, kd = D.str x) ∨ ∃ gs, kd = D.tup gs ∧ FsOk m gs)
theorem Frame.push {i : Nat} {h : DH} (o : Ob) : Frame i h (h ++ [o]) := fun k ob _ e => (Grow.one h o).ix e
theorem FI.start {h : DH} {i j m c a : Nat} {o : Ob} (f : Feed ((h ++ [Ob.lst []]).set i o) i j a) (hi : i < h.length) : FI h i j m c a 0 [some (.ref i), some (.int m), some (.ref h.length), none, none, none] ((h ++ [Ob.lst []]).set i o) :=
  ⟨⟨_, _, _, rfl⟩, (Frame.push _).trans (Frame.set _), a, f, by omega, [], Frame.lst (Frame.set (i := i) o) (by omega) lst_new, rfl, fun p d z => nomatch z⟩
/-- a fresh list's item, when a number has been taken -/
theorem ix_new {hh : DH} {xs : List D} {i : Nat} {o : Ob} {v : Int} {x : D} (hi : i < hh.length) (h : L2.atI xs v = some x) : ixD (.ref hh.length) (.int v) ((hh ++ [Ob.lst xs]).set i o) = some (x, (hh ++ [Ob.lst xs]).set i o) := by
  have e : ((hh ++ [Ob.lst xs]).set i o)[hh.length]? = some (Ob.lst xs) := by
    rw [List.getElem?_set_ne (by omega), List.getElem?_append_right (Nat.le_refl _), Nat.sub_self]
    rfl
  simp only [ixD, e, pureO, h, Option.map_some]
end Dk

set_option Elab.async false
set_option linter.all false
set_option maxRecDepth 100000
set_option maxHeartbeats 4000000
namespace Dk
open PySem PySem.Spec PyProof.Rows L2 Dd

def tail20 : MS := seq (drop (mthM .append (var 2) [opN tupM [op2 ixD (opN lstM [Dd.ret (.str "a"), Dd.ret (.str "b1"), Dd.ret (.str "c")]) (var 3), var 4, var 5]])) skip
theorem w20_tail {h hb : DH} {i j m c a a2 k : Nat} {fs : List D} {tm : Str} {kd : D} {Q : Fl → DE → DH → Prop} (hk : k < 3) (ht : tm ∈ tms) (hd : (∃ x ∈ knds, kd = D.str x) ∨ ∃ gs, kd = D.tup gs ∧ FsOk m gs) (hi : i < h.length ∧ j < h.length)
    (fr : Frame i h hb) (fa : Feed hb i j a2) (la : a2 ≤ a + (k + 1) * c) (l1 : lstAt hb h.length = some fs) (l2 : fs.length = k)
    (l3 : ∀ (p : Nat) (d : D), fs[p]? = some d → ∃ (nm tm : Str) (kd : D), d = D.tup [.str nm, .str tm, kd] ∧ nm3[p]? = some nm ∧ tm ∈ tms ∧ ((∃ x ∈ knds, kd = D.str x) ∨ ∃ gs, kd = D.tup gs ∧ FsOk m gs)) :
    WP tail20 [some (.ref i), some (.int m), some (.ref h.length), some (.int k), some (.str tm), some kd] hb (Turned Q (FI h i j m c a (k + 1))) := by
  obtain ⟨nm, n1, n2⟩ : ∃ nm, nm3[k]? = some nm ∧ L2.atI [D.str "a", D.str "b1", D.str "c"] (k : Int) = some (.str nm) := by
    have : k = 0 ∨ k = 1 ∨ k = 2 := by omega
    rcases this with rfl | rfl | rfl
    · exact ⟨_, rfl, atI_of (k := 0) rfl rfl⟩
    · exact ⟨_, rfl, atI_of (k := 1) rfl rfl⟩
    · exact ⟨_, rfl, atI_of (k := 2) rfl rfl⟩
  have e0 : (hb ++ [Ob.lst [D.str "a", D.str "b1", D.str "c"]])[hb.length]? = some (Ob.lst [D.str "a", D.str "b1", D.str "c"]) := by
    rw [List.getElem?_append_right (Nat.le_refl _), Nat.sub_self]
    rfl
  have e1 : lstAt (hb ++ [Ob.lst [D.str "a", D.str "b1", D.str "c"]]) h.length = some fs := (Grow.one hb _).lst l1
  have z1 : fs.length < Z := Nat.lt_of_lt_of_le (by omega : fs.length < 30) (by decide)
  have z2 : 3 ≤ Z := by decide
  unfold tail20
  simp [Dd.we_ret, Dd.we_bnd, Dd.we_lift, Dd.we_var, Dd.we_args_nil, Dd.we_args_cons, Dd.we_opN, Dd.we_op1, Dd.we_op2, Dd.we_call, Dd.we_tst, Dd.we_tru, Dd.we_notT, Dd.we_andT, Dd.we_orT, Dd.we_notV, Dd.we_andV, Dd.we_orV, Dd.we_ite, Dd.we_chn, Dd.we_mth, Dd.we_slice, Dd.we_intOf, Dd.nx_next, Dd.nx_ret, Dd.nx_ex, Dd.td_next, Dd.td_cont, Dd.td_brk, Dd.td_ret, Dd.td_ex, Dd.nx_brk, Dd.nx_cont, Dd.wp_skip, Dd.wp_seq, Dd.wp_drop, Dd.wp_ret, Dd.wp_asg, Dd.wp_if, Dd.wp_raise, Dd.wp_set, Dd.below_iff, Dd.ltI_eq, Dd.leI_eq, Dd.WO, Dd.Tg.put, Dd.setAll, Dd.unpk, Dd.isinD, Dd.tyName, Dd.isTy, Dd.truD, Dd.mthOk, Dd.mthD, Dd.bltD, Dd.addD, Dd.subD, Dd.fdivD, Dd.modD, Dd.negD, Dd.ltD, Dd.leD, Dd.gtD, Dd.geD, Dd.ixD, Dd.pureO, Dd.lstM, Dd.tupM, Dd.newOb, e0, e1, n2, l1, z1, z2]
  refine ⟨⟨_, _, _, rfl⟩, fun p ob np e => ?_, a2, (fa.push _).other _ (by omega) (by omega), la, fs ++ [D.tup [.str nm, .str tm, kd]], lst_set e1, by rw [List.length_append, l2]; rfl, fun p d hp => ?_⟩
  · have hlt := (List.getElem?_eq_some_iff.mp e).1
    rw [List.getElem?_set_ne (by omega)]
    exact (Grow.one hb _).ix (fr p ob np e)
  · by_cases hpk : p < fs.length
    · rw [List.getElem?_append_left hpk] at hp
      exact l3 p d hp
    · rw [List.getElem?_append_right (by omega)] at hp
      have h0 : p - fs.length = 0 := by
        have := (List.getElem?_eq_some_iff.mp hp).1
        simp at this
        omega
      rw [h0] at hp
      cases hp
      have : p = k := by omega
      subst this
      exact ⟨nm, tm, kd, rfl, n1, ht, hd⟩
end Dk

set_option Elab.async false
set_option linter.all false
set_option maxRecDepth 100000
set_option maxHeartbeats 4000000
namespace Dk
open PySem PySem.Spec PyProof.Rows L2 Dd

theorem w_pick {n : Nat} {e : DE} {hb : DH} {i j a : Nat} {x y z : Str} {Q : D → DH → Prop} {X : Nat → D → DH → Prop} (he : e[0]? = some (some (.ref i))) (ha : a < 100000000) (f : Feed hb i j a)
    (q : ∀ s hb', s ∈ [x, y, z] → Frame i hb hb' → Feed hb' i j (a + 1) → Q (.str s) hb') : WE (op2 ixD (opN lstM [Dd.ret (.str x), Dd.ret (.str y), Dd.ret (.str z)]) (callM (pg.run (n + 1)) 19 [var 0, Dd.ret (.int 3)])) e hb Q X := by
  have hi := f.lt.1
  simp only [Dd.we_ret, Dd.we_bnd, Dd.we_lift, Dd.we_var, Dd.we_args_nil, Dd.we_args_cons, Dd.we_opN, Dd.we_op1, Dd.we_op2, Dd.we_call, Dd.we_tst, Dd.we_tru, Dd.we_notT, Dd.we_andT, Dd.we_orT, Dd.we_notV, Dd.we_andV, Dd.we_orV, Dd.we_ite, Dd.we_chn, Dd.we_mth, Dd.we_slice, Dd.we_intOf, Dd.nx_next, Dd.nx_ret, Dd.nx_ex, Dd.td_next, Dd.td_cont, Dd.td_brk, Dd.td_ret, Dd.td_ex, Dd.nx_brk, Dd.nx_cont, Dd.wp_skip, Dd.wp_seq, Dd.wp_drop, Dd.wp_ret, Dd.wp_asg, Dd.wp_if, Dd.wp_raise, Dd.wp_set]
  rw [wo_iff]
  refine ⟨.ref hb.length, hb ++ [Ob.lst [.str x, .str y, .str z]], rfl, .ref i, he, ?_⟩
  refine (w19 n _ i j a 3 (by decide) ha (f.push _)).mono (fun d h1 w => ?_) fun _ _ _ z => z.elim
  obtain ⟨v, rfl, v0, v3, f2, o2, rfl⟩ := w
  obtain ⟨s, s1, s2⟩ := pick3 (a := x) (b := y) (c := z) v0 v3
  rw [wo_iff]
  exact ⟨_, _, ix_new hi s2, q s _ s1 ((Frame.push _).trans (Frame.set _)) f2⟩
def cm : Nat → Nat
  | 0 => 2
  | m + 1 => 3 + cost m
theorem cm2 (m : Nat) : 2 ≤ cm m := by
  cases m with
  | zero => exact Nat.le_refl 2
  | succ m => show 2 ≤ 3 + cost m; omega
theorem cost_cm (m : Nat) : cost m = 1 + 3 * cm m := by
  cases m with
  | zero => rfl
  | succ m => show 10 + 3 * cost m = 1 + 3 * (3 + cost m); omega
def Sp20 (m : Nat) : Prop := ∀ (n : Nat) (h : DH) (i j a : Nat), a + cost m < 100000000 → Feed h i j a → WC (pg.run (n + m + 2)) 20 [.ref i, .int m] h (fun d h' => (∃ fs, d = .tup fs ∧ FsOk (m + 1) fs) ∧ Frame i h h' ∧ ∃ a', Feed h' i j a' ∧ a' ≤ a + cost m) fun _ _ _ => False
theorem w20_step (m : Nat) (ih : ∀ m', m = m' + 1 → Sp20 m') : Sp20 m := by
  intro n h i j a ha f
  refine wc_of (f := f20) rfl e20 rfl ?_
  have hc := cost_cm m
  have hlt := f.lt
  have b20e : b20 (pg.run (n + m + 1)) = seq (asg (.nm 2) (opN lstM [])) (seq (forS (bnd (op2 addD (Dd.ret (.int 1)) (callM (pg.run (n + m + 1)) 19 [var 0, Dd.ret (.int 3)])) fun x => lift (rng1 x)) (.nm 3)
    (seq (asg (.nm 4) (op2 ixD (opN lstM [Dd.ret (.str "one"), Dd.ret (.str "maybe"), Dd.ret (.str "many")]) (callM (pg.run (n + m + 1)) 19 [var 0, Dd.ret (.int 3)]))) (seq (asg (.nm 5) (op2 ixD (opN lstM [Dd.ret (.str "int"), Dd.ret (.str "bool"), Dd.ret (.str "text")]) (callM (pg.run (n + m + 1)) 19 [var 0, Dd.ret (.int 3)])))
      (seq (ifS (andT (tst (op2 gtD (var 1) (Dd.ret (.int 0)))) (tst (op2 ltD (callM (pg.run (n + m + 1)) 19 [var 0, Dd.ret (.int 5)]) (Dd.ret (.int 2))))) (seq (asg (.nm 5) (callM (pg.run (n + m + 1)) 20 [var 0, op2 subD (var 1) (Dd.ret (.int 1))])) skip) skip) tail20)))) (seq (retS (opN (bltD .tuple) [var 2])) skip)) := rfl
  rw [b20e]
  rw [wp_seq, wp_asg, we_opN, we_args_nil, wo_iff]
  refine ⟨.ref h.length, h ++ [Ob.lst []], rfl, [some (.ref i), some (.int m), some (.ref h.length), none, none, none], rfl, ?_⟩
  rw [nx_next, wp_seq]
  refine for_rng (FI h i j m (cm m) (a + 1)) ?_
  simp only [we_op2, we_ret, we_call, we_args_cons, we_args_nil, we_var]
  refine ⟨.ref i, rfl, (w19 (n + m) (h ++ [Ob.lst []]) i j a 3 (by decide) (by omega) (f.push _)).mono (fun d h1 w => ?_) fun _ _ _ z => z.elim⟩
  obtain ⟨v, rfl, v0, v3, f1, o, rfl⟩ := w
  obtain ⟨u, rfl⟩ : ∃ u : Nat, v = u := ⟨v.toNat, by omega⟩
  have add1 : addD (.int 1) (.int u) ((h ++ [Ob.lst []]).set i o) = some (.int ((1 + u : Nat) : Int), (h ++ [Ob.lst []]).set i o) := by
    show some (D.int (1 + u), _) = _
    rw [Int.natCast_add]
    rfl
  rw [wo_iff]
  refine ⟨_, _, add1, 1 + u, rfl, in62_nat (Nat.le_trans (by omega : 1 + u ≤ 30) (by decide)), FI.start f1 hlt.1, ?_, ?_⟩
  · rintro e hh ⟨⟨x, y, z, rfl⟩, fr, a', fa, la, fs, l1, l2, l3⟩
    simp only [nx_next, Dd.we_ret, Dd.we_bnd, Dd.we_lift, Dd.we_var, Dd.we_args_nil, Dd.we_args_cons, Dd.we_opN, Dd.we_op1, Dd.we_op2, Dd.we_call, Dd.we_tst, Dd.we_tru, Dd.we_notT, Dd.we_andT, Dd.we_orT, Dd.we_notV, Dd.we_andV, Dd.we_orV, Dd.we_ite, Dd.we_chn, Dd.we_mth, Dd.we_slice, Dd.we_intOf, Dd.nx_next, Dd.nx_ret, Dd.nx_ex, Dd.td_next, Dd.td_cont, Dd.td_brk, Dd.td_ret, Dd.td_ex, Dd.nx_brk, Dd.nx_cont, Dd.wp_skip, Dd.wp_seq, Dd.wp_drop, Dd.wp_ret, Dd.wp_asg, Dd.wp_if, Dd.wp_raise, Dd.wp_set]
    refine ⟨.ref h.length, rfl, ?_⟩
    rw [wo_iff]
    have : (1 + u) * cm m ≤ 3 * cm m := Nat.mul_le_mul_right _ (by omega)
    exact ⟨.tup fs, hh, by simp only [bltD, l1], ⟨fs, rfl, by omega, by omega, fun p d hp => l3 p d hp⟩, fr, a', fa, by omega⟩
  · rintro k e hh hk ⟨⟨x, y, z, rfl⟩, fr, a', fa, la, fs, l1, l2, l3⟩
    have kc : k * cm m + cm m ≤ 3 * cm m := by
      have := Nat.mul_le_mul_right (cm m) (show k + 1 ≤ 3 by omega)
      rw [Nat.add_mul, Nat.one_mul] at this
      exact this
    have kc1 : (k + 1) * cm m = k * cm m + cm m := by rw [Nat.add_mul, Nat.one_mul]
    have c2 : 2 ≤ cm m := cm2 m
    refine ⟨_, rfl, ?_⟩
    rw [wp_seq, wp_asg]
    refine w_pick (n := n + m) (j := j) (a := a') rfl (by omega) fa fun tm hb1 ht fr1 fa1 => ?_
    refine ⟨_, rfl, ?_⟩
    rw [nx_next, wp_seq, wp_asg]
    refine w_pick (n := n + m) (j := j) (a := a' + 1) rfl (by omega) fa1 fun kx hb2 hkx fr2 fa2 => ?_
    refine ⟨_, rfl, ?_⟩
    rw [nx_next, wp_seq, wp_if]
    simp only [we_andT, we_tst, we_op2, we_var, we_ret]
    refine ⟨.int m, rfl, ?_⟩
    have fin : ∀ {hb : DH} {a2 : Nat} {kd : D}, ((∃ x ∈ knds, kd = D.str x) ∨ ∃ gs, kd = D.tup gs ∧ FsOk m gs) → Frame i hh hb → Feed hb i j a2 → a2 ≤ a' + cm m → WP tail20 [some (.ref i), some (.int m), some (.ref h.length), some (.int k), some (.str tm), some kd] hb (Turned (Nx (End (fun d h' => (∃ fs, d = .tup fs ∧ FsOk (m + 1) fs) ∧ Frame i h h' ∧ ∃ a', Feed h' i j a' ∧ a' ≤ a + cost m) fun _ _ _ => False) (seq (retS (opN (bltD .tuple) [var 2])) skip)) (FI h i j m (cm m) (a + 1) (k + 1))) :=
      fun {hb a2 kd} hd frb fb lb => w20_tail (by omega) ht hd hlt (fr.trans frb) fb (by omega) (frb.lst (by omega) l1) l2 l3
    rw [wo_iff]
    refine ⟨_, _, rfl, _, rfl, ?_⟩
    cases m with
    | zero =>
      have : ltI 0 ((0 : Nat) : Int) = false := rfl
      rw [this]
      show WP skip _ _ _
      rw [wp_skip, nx_next]
      exact fin (.inl ⟨kx, hkx, rfl⟩) (fr1.trans fr2) fa2 (by show _ ≤ a' + 2; omega)
    | succ m' =>
      have : ltI 0 ((m' + 1 : Nat) : Int) = true := rfl
      rw [this]
      have cmm : cm (m' + 1) = 3 + cost m' := rfl
      show WE (callM _ 19 [var 0, Dd.ret (.int 5)]) _ _ _ _
      simp only [we_call, we_args_cons, we_args_nil, we_var, we_ret]
      refine ⟨.ref i, rfl, (w19 (n + (m' + 1)) hb2 i j (a' + 1 + 1) 5 (by decide) (by omega) fa2).mono (fun d h1 w => ?_) fun _ _ _ z => z.elim⟩
      obtain ⟨v, rfl, v0, v5, f3, o3, rfl⟩ := w
      rw [wo_iff]
      refine ⟨_, _, rfl, _, rfl, ?_⟩
      cases hv : ltI v 2 with
      | false =>
        show WP skip _ _ _
        rw [wp_skip, nx_next]
        exact fin (.inl ⟨kx, hkx, rfl⟩) ((fr1.trans fr2).trans (Frame.set _)) f3 (by omega)
      | true =>
        show WP (seq _ skip) _ _ _
        simp only [wp_seq, wp_asg, we_call, we_args_cons, we_args_nil, we_var, we_ret, we_op2]
        refine ⟨.ref i, rfl, .int ((m' + 1 : Nat) : Int), rfl, ?_⟩
        rw [wo_iff]
        have sub1 : subD (.int ((m' + 1 : Nat) : Int)) (.int 1) (hb2.set i o3) = some (.int (m' : Nat), hb2.set i o3) := by
          show some (D.int (((m' + 1 : Nat) : Int) - 1), _) = _
          rw [show (((m' + 1 : Nat) : Int) - 1) = (m' : Nat) from by omega]
        refine ⟨_, _, sub1, ?_⟩
        have hrec := ih m' rfl n (hb2.set i o3) i j (a' + 1 + 1 + 1) (by omega) f3
        rw [show n + (m' + 1) + 1 = n + m' + 2 from by omega]
        refine hrec.mono (fun d h4 w => ?_) fun _ _ _ z => z.elim
        obtain ⟨⟨gs, rfl, hg⟩, fr4, a4, f4, la4⟩ := w
        refine ⟨_, rfl, ?_⟩
        rw [nx_next, wp_skip, nx_next]
        exact fin (.inr ⟨gs, rfl, hg⟩) (((fr1.trans fr2).trans (Frame.set _)).trans fr4) f4 (by omega)
theorem w20 : ∀ m, Sp20 m
  | 0 => w20_step 0 fun m' z => nomatch z
  | m + 1 => w20_step (m + 1) fun m' z => by cases z; exact w20 m
end Dk

set_option Elab.async false
set_option linter.all false
set_option maxRecDepth 100000
set_option maxHeartbeats 4000000
namespace Dk
open PySem PySem.Spec PyProof.Rows L2 Dd

theorem bools_map (bs : List Bool) : bools (bs.map D.bl) = some bs := by
  induction bs with
  | nil => rfl
  | cons b r ih =>
    rw [List.map_cons]
    unfold bools
    rw [ih]
    rfl
theorem signs_get {x : Str} {k : Nat} {d : D} (h : (Dd.signs x)[k]? = some d) : ∃ c, x.cps.toList[k]? = some c ∧ d = .str ⟨#[c]⟩ := by
  unfold Dd.signs at h
  rw [List.getElem?_map] at h
  obtain ⟨c, e1, e2⟩ := Dd.map_some h
  exact ⟨c, e1, e2⟩
theorem signs_len (x : Str) : (Dd.signs x).length = x.length := by
  unfold Dd.signs
  rw [List.length_map, Array.length_toList]
  rfl
theorem take_snoc {α : Type} {l : List α} {k : Nat} {c : α} (h : l[k]? = some c) : l.take (k + 1) = l.take k ++ [c] := by
  rw [List.take_succ, h]
  rfl
/-- all([.. for sign in text]) -/
theorem w_all {e : DE} {h : DH} {a m : M D} {vs : List Nat} {t : Tg} {x : Str} {g : Nat → Bool} {Q : D → DH → Prop} {X : Nat → D → DH → Prop} (ha : ∀ Q : D → DH → Prop, Q (.str x) h → WE a e h Q X) (hz : x.length ≤ 1000)
    (step : ∀ c hh, c ∈ x.cps.toList → ∃ e1, t.put (.str ⟨#[c]⟩) hh (wipeE e vs) = some e1 ∧ ∀ Q : D → DH → Prop, Q (.bl (g c)) hh → WE m e1 hh Q fun _ _ _ => False)
    (q : ∀ h', Grow h h' → Q (.bl (x.cps.toList.all g)) h') : WE (opN (bltD .all) [lcM vs (bnd a fun x => lift (srcD x)) t (Dd.ret true) m]) e h Q X := by
  simp only [we_opN, we_args_cons, we_args_nil]
  refine lc_inW (fun L k acc hh => L = h.length ∧ Grow h hh ∧ acc = ((x.cps.toList.take k).map g).map D.bl) (ha _ ?_)
  refine ⟨Dd.signs x, rfl, by rw [signs_len]; exact Nat.le_trans hz (by decide), ⟨rfl, Grow.one h _, rfl⟩, ?_, ?_⟩
  · rintro acc hh l ⟨_, gr, rfl⟩
    rw [wo_iff]
    have tk : x.cps.toList.take (Dd.signs x).length = x.cps.toList := by
      rw [signs_len]
      exact List.take_of_length_le (by rw [Array.length_toList]; exact Nat.le_refl _)
    rw [tk] at l
    refine ⟨.bl (x.cps.toList.all g), hh, ?_, q hh gr⟩
    simp only [bltD, l, bools_map, Option.map_some]
    rw [List.all_map]
    rfl
  · rintro k d acc hh hd l ⟨_, gr, rfl⟩
    obtain ⟨c, e1, rfl⟩ := signs_get hd
    obtain ⟨e2, p1, p2⟩ := step c hh (List.mem_of_getElem? e1)
    refine ⟨e2, p1, p2 _ ⟨l, rfl, gr.set _ (Nat.le_refl _), ?_⟩⟩
    rw [take_snoc e1, List.map_append, List.map_append]
    rfl
/-- names -/
def nameC (c : Nat) : Bool := decide (c ∈ (Str.ofString "abcdefghijklmnopqrstuvwxyz0123456789").cps.toList)
def nameB (x : Str) : Bool := leI 1 x.length && leI x.length 12 && x.cps.toList.all nameC
theorem w3 (n : Nat) (x : Str) (h : DH) (hz : x.length ≤ 1000) : WC (pg.run (n + 1)) 3 [.str x] h (fun d h' => d = .bl (nameB x) ∧ Grow h h') fun _ _ _ => False := by
  refine wc_of (f := f3) rfl e3 rfl ?_
  have z : x.length ≤ Z := Nat.le_trans hz (by decide)
  have ln : bltD .len [.str x] h = some (.int x.length, h) := by simp only [bltD, if_pos z]
  have rest : ∀ b : Bool, (leI 1 x.length && leI x.length 12) = b → b = true → WP (retS (opN (bltD .all) [lcM [1] (bnd (var 0) fun x => lift (srcD x)) (.nm 1) (Dd.ret true) (op2 inD (var 1) (Dd.ret (.str "abcdefghijklmnopqrstuvwxyz0123456789")))])) [some (.str x), none] h (Nx (End (fun d h' => d = .bl (nameB x) ∧ Grow h h') fun _ _ _ => False) skip) := by
    intro b hb ht
    rw [wp_ret]
    refine w_all (x := x) (g := nameC) (fun Q q => by rw [we_var]; exact ⟨_, rfl, q⟩) hz (fun c hh _ => ⟨_, rfl, fun Q q => ?_⟩) fun h' g => ?_
    · simp only [Dd.we_ret, Dd.we_bnd, Dd.we_lift, Dd.we_var, Dd.we_args_nil, Dd.we_args_cons, Dd.we_opN, Dd.we_op1, Dd.we_op2, Dd.we_call, Dd.we_tst, Dd.we_tru, Dd.we_notT, Dd.we_andT, Dd.we_orT, Dd.we_notV, Dd.we_andV, Dd.we_orV, Dd.we_ite, Dd.we_chn, Dd.we_mth, Dd.we_slice, Dd.we_intOf, Dd.nx_next, Dd.nx_ret, Dd.nx_ex, Dd.td_next, Dd.td_cont, Dd.td_brk, Dd.td_ret, Dd.td_ex, Dd.nx_brk, Dd.nx_cont, Dd.wp_skip, Dd.wp_seq, Dd.wp_drop, Dd.wp_ret, Dd.wp_asg, Dd.wp_if, Dd.wp_raise, Dd.wp_set]
      refine ⟨_, rfl, ?_⟩
      rw [wo_iff]
      exact ⟨_, _, rfl, q⟩
    · rw [nx_ret, end_ret]
      refine ⟨?_, g⟩
      unfold nameB
      rw [hb, ht, Bool.true_and]
  unfold b3
  rw [wp_seq, wp_if]
  simp only [we_orT, we_notT, we_tru, we_op1, we_var, we_tst, we_chn, we_ret, we_opN, we_args_cons, we_args_nil]
  refine ⟨.str x, rfl, ?_⟩
  rw [wo_iff]
  refine ⟨.bl true, h, rfl, true, rfl, ?_⟩
  rw [if_neg (by decide)]
  refine ⟨.str x, rfl, ?_⟩
  rw [wo_iff]
  refine ⟨_, _, ln, ?_⟩
  rw [wo_iff]
  refine ⟨.bl (leI 1 x.length), h, rfl, _, rfl, ?_⟩
  have no : (leI 1 x.length && leI x.length 12) = false → nameB x = false := fun z => by unfold nameB; rw [z, Bool.false_and]
  have bad : nameB x = false → WP (seq (retS (Dd.ret (.bl false))) skip) (startD f3.N [.str x]) h (Nx (End (fun d h' => d = .bl (nameB x) ∧ Grow h h') fun _ _ _ => False) (seq (retS (opN (bltD .all) [lcM [1] (bnd (var 0) fun x => lift (srcD x)) (.nm 1) (Dd.ret true) (op2 inD (var 1) (Dd.ret (.str "abcdefghijklmnopqrstuvwxyz0123456789")))])) skip)) := fun z => by
    simp only [Dd.we_ret, Dd.we_bnd, Dd.we_lift, Dd.we_var, Dd.we_args_nil, Dd.we_args_cons, Dd.we_opN, Dd.we_op1, Dd.we_op2, Dd.we_call, Dd.we_tst, Dd.we_tru, Dd.we_notT, Dd.we_andT, Dd.we_orT, Dd.we_notV, Dd.we_andV, Dd.we_orV, Dd.we_ite, Dd.we_chn, Dd.we_mth, Dd.we_slice, Dd.we_intOf, Dd.nx_next, Dd.nx_ret, Dd.nx_ex, Dd.td_next, Dd.td_cont, Dd.td_brk, Dd.td_ret, Dd.td_ex, Dd.nx_brk, Dd.nx_cont, Dd.wp_skip, Dd.wp_seq, Dd.wp_drop, Dd.wp_ret, Dd.wp_asg, Dd.wp_if, Dd.wp_raise, Dd.wp_set, end_ret]
    exact ⟨by rw [z], Grow.refl h⟩
  cases h1 : leI 1 x.length with
  | false =>
    rw [if_neg (by decide)]
    refine ⟨false, rfl, ?_⟩
    exact bad (no (by rw [h1]; rfl))
  | true =>
    rw [if_pos rfl, wo_iff]
    refine ⟨.bl (leI x.length 12), h, rfl, _, rfl, ?_⟩
    cases h2 : leI x.length 12 with
    | false => exact bad (no (by rw [h1, h2]; rfl))
    | true =>
      show WP skip _ _ _
      rw [wp_skip, nx_next, wp_seq]
      exact rest true (by rw [h1, h2]; rfl) rfl
end Dk

set_option Elab.async false
set_option linter.all false
set_option maxRecDepth 100000
set_option maxHeartbeats 4000000
namespace Dk
open PySem PySem.Spec PyProof.Rows L2 Dd

/-- a plain value: what the law puts into schemas and records -/
def plainV : D → Bool
  | .non => true | .bl _ => true | .int _ => true | .str x => decide (x.length ≤ 1000) | .tup _ => true
  | _ => false
theorem anyEq_strs (nm : Str) (h : DH) : ∀ acc : List Str, anyEq (.str nm) h (acc.map D.str) = some (acc.any fun y => decide (y = nm))
  | [] => rfl
  | y :: r => by
    rw [List.map_cons]
    unfold anyEq
    rw [anyEq_strs nm h r]
    rfl
theorem all_flat (acc : List Str) : (acc.map D.str).all flatD = true := by
  rw [List.all_map]
  exact List.all_eq_true.mpr fun _ _ => rfl
/-- the first mistake of a field -/
def kdErr (sub : List D → Option Str) : D → Option Str
  | .tup gs => sub gs
  | .str x => if x ∈ knds then none else some "kind"
  | _ => some "kind"
def tmErr : D → Bool
  | .str tm => !decide (tm ∈ tms)
  | _ => true
def nmErr (acc : List Str) : D → Option Str
  | .str nm => if nameB nm then (if (acc.any fun y => decide (y = nm)) then some "twice" else none) else some "name"
  | _ => some "name"
def fdErr (sub : List D → Option Str) (acc : List Str) : D → Option Str
  | .tup [a, b, k] => match nmErr acc a with
    | some w => some w
    | none => if tmErr b then some "times" else kdErr sub k
  | _ => some "field"
/-- the answer of a check -/
def Chk (h : DH) (r : Option Str) : D → DH → Prop := fun d h' => r = none ∧ d = .non ∧ Grow h h'
def ChkX (h : DH) (r : Option Str) : Nat → D → DH → Prop := fun c p h' => ∃ w, r = some w ∧ c = 0 ∧ p = .str w ∧ Grow h h'
theorem wd_tm (tm : Str) (h : DH) : notInD (.str tm) (.wd [("one", .kt [.int 0, .int 0]), ("maybe", .kt [.int 1, .int 0]), ("many", .kt [.int 1, .int 1])]) h = some (.bl (!decide (tm ∈ tms)), h) := by
  have e : inB (.str tm) (.wd [("one", .kt [.int 0, .int 0]), ("maybe", .kt [.int 1, .int 0]), ("many", .kt [.int 1, .int 1])]) h = some (decide (tm ∈ tms)) := by
    simp only [inB, dGet, Option.map_some]
    congr 1
    unfold tms
    by_cases h1 : tm = "one"
    · subst h1; rfl
    by_cases h2 : tm = "maybe"
    · subst h2; rfl
    by_cases h3 : tm = "many"
    · subst h3; rfl
    have b1 : (tm == (Str.ofString "one")) = false := by simpa using h1
    have b2 : (tm == (Str.ofString "maybe")) = false := by simpa using h2
    have b3 : (tm == (Str.ofString "many")) = false := by simpa using h3
    simp [List.lookup, b1, b2, b3, h1, h2, h3]
  unfold notInD
  rw [e]
  rfl
theorem kt_kd (x : Str) (h : DH) : notInD (.str x) (.kt [.str "int", .str "bool", .str "text"]) h = some (.bl (!decide (x ∈ knds)), h) := by
  have e : inB (.str x) (.kt [.str "int", .str "bool", .str "text"]) h = some (decide (x ∈ knds)) := by
    have z := anyEq_strs x h knds
    have z2 : inB (.str x) (.kt [.str "int", .str "bool", .str "text"]) h = anyEq (.str x) h (knds.map D.str) := rfl
    rw [z2, z]
    congr 1
    unfold knds
    simp [eq_comm]
  unfold notInD
  rw [e]
  rfl
end Dk

set_option Elab.async false
set_option linter.all false
set_option maxRecDepth 100000
set_option maxHeartbeats 4000000
namespace Dk
open PySem PySem.Spec PyProof.Rows L2 Dd

/-- a kind: a plain value, or a list -/
def plainK (h : DH) (k : D) : Prop := plainV k = true ∨ ∃ i ys, k = .ref i ∧ lstAt h i = some ys
theorem plainK.grow {h h' : DH} {k : D} (g : Grow h h') (p : plainK h k) : plainK h' k := by
  rcases p with p | ⟨i, ys, e, l⟩
  · exact .inl p
  · exact .inr ⟨i, ys, e, g.lst l⟩
theorem in_acc {nm : Str} {E : Nat} {h : DH} {acc : List Str} (hl : lstAt h E = some (acc.map D.str)) : inD (.str nm) (.ref E) h = some (.bl (acc.any fun y => decide (y = nm)), h) := by
  have e := lstAt_some hl
  have : inB (.str nm) (.ref E) h = some (acc.any fun y => decide (y = nm)) := by
    simp only [inB, e, all_flat, flatD, Bool.true_and, if_true]
    exact anyEq_strs nm h acc
  unfold inD
  rw [this]
  rfl
/-- the kind of a field -/
def kd2 (F : Call) : MS := ifS (tru truD (op1 (isinD "tuple") (var 5)))
  (seq (drop (callM F 1 [var 5, op2 addD (var 2) (Dd.ret (.int 1))])) (skip))
  (seq (ifS (orT (notT (tru truD (op1 (isinD "str") (var 5)))) (tst (op2 notInD (var 5) (Dd.ret (.kt [.str "int", .str "bool", .str "text"])))))
  (seq (raiS 0 (Dd.ret (.str "kind"))) (skip))
  (skip)) (skip))
theorem w2_kd {n : Nat} {lv : Int} {x0 x1 x3 x4 : Option D} {k : D} {h0 h : DH} {sub : List D → Option Str} (hk : plainK h k) (g : Grow h0 h)
    (hsub : ∀ gs, k = .tup gs → WC (pg.run n) 1 [.tup gs, .int (lv + 1)] h (Chk h (sub gs)) (ChkX h (sub gs))) :
    WP (kd2 (pg.run n)) [x0, x1, some (.int lv), x3, x4, some k] h (Nx (End (Chk h0 (kdErr sub k)) (ChkX h0 (kdErr sub k))) skip) := by
  have raise : ∀ {e : DE}, kdErr sub k = some "kind" → WP (seq (raiS 0 (Dd.ret (.str "kind"))) skip) e h (Nx (Nx (End (Chk h0 (kdErr sub k)) (ChkX h0 (kdErr sub k))) skip) skip) := fun q => by
    simp only [wp_seq, wp_raise, we_ret, nx_ex, end_ex]
    exact ⟨_, q, rfl, rfl, g⟩
  unfold kd2
  rw [wp_if]
  simp only [we_tru, we_op1, we_var]
  refine ⟨k, rfl, ?_⟩
  rw [wo_iff]
  have other : ∀ {nm : String}, tyName k h = some nm → isTy "str" nm = false → isTy "tuple" nm = false → kdErr sub k = some "kind" → ∃ d h', isinD "tuple" k h = some (d, h') ∧ ∃ b, truD d h' = some b ∧ (if b = true then WP (seq (drop (callM (pg.run n) 1 [var 5, op2 addD (var 2) (Dd.ret (.int 1))])) skip) [x0, x1, some (.int lv), x3, x4, some k] h' (Nx (End (Chk h0 (kdErr sub k)) (ChkX h0 (kdErr sub k))) skip)
      else WP (seq (ifS (orT (notT (tru truD (op1 (isinD "str") (var 5)))) (tst (op2 notInD (var 5) (Dd.ret (.kt [.str "int", .str "bool", .str "text"]))))) (seq (raiS 0 (Dd.ret (.str "kind"))) skip) skip) skip) [x0, x1, some (.int lv), x3, x4, some k] h' (Nx (End (Chk h0 (kdErr sub k)) (ChkX h0 (kdErr sub k))) skip)) := by
    intro nm hn h1 h2 q
    refine ⟨.bl false, h, by unfold isinD; rw [hn, Option.map_some, h2], false, rfl, ?_⟩
    rw [if_neg (by decide), wp_seq, wp_if]
    simp only [we_orT, we_notT, we_tru, we_op1, we_var]
    refine ⟨k, rfl, ?_⟩
    rw [wo_iff]
    refine ⟨.bl false, h, by unfold isinD; rw [hn, Option.map_some, h1], false, rfl, ?_⟩
    exact raise q
  rcases hk with hk | ⟨i, ys, rfl, hy⟩
  rotate_left
  · exact other (nm := "list") (by simp only [tyName, lstAt_some hy]) rfl rfl rfl
  cases k with
  | tup gs =>
    refine ⟨.bl true, h, rfl, true, rfl, ?_⟩
    rw [if_pos rfl]
    simp only [wp_seq, wp_drop, we_call, we_args_cons, we_args_nil, we_var, we_op2, we_ret]
    refine ⟨.tup gs, rfl, .int lv, rfl, ?_⟩
    rw [wo_iff]
    refine ⟨.int (lv + 1), h, rfl, (hsub gs rfl).mono (fun d h' w => ?_) fun c p h' w => ?_⟩
    · rw [nx_next, wp_skip, nx_next, wp_skip, end_next]
      exact ⟨w.1, rfl, g.trans w.2.2⟩
    · rw [nx_ex, nx_ex, end_ex]
      obtain ⟨w', q1, q2, q3, q4⟩ := w
      exact ⟨w', q1, q2, q3, g.trans q4⟩
  | str x =>
    refine ⟨.bl false, h, rfl, false, rfl, ?_⟩
    rw [if_neg (by decide), wp_seq, wp_if]
    simp only [we_orT, we_notT, we_tru, we_op1, we_op2, we_var, we_tst, we_ret]
    refine ⟨.str x, rfl, ?_⟩
    rw [wo_iff]
    refine ⟨.bl true, h, rfl, true, rfl, ?_⟩
    rw [if_neg (by decide)]
    refine ⟨.str x, rfl, ?_⟩
    rw [wo_iff]
    refine ⟨_, _, kt_kd x h, _, rfl, ?_⟩
    by_cases hx : x ∈ knds
    · rw [decide_eq_true hx]
      show WP skip _ _ _
      rw [wp_skip, nx_next, wp_skip, nx_next, wp_skip, end_next]
      exact ⟨if_pos hx, rfl, g⟩
    · rw [decide_eq_false hx]
      exact raise (if_neg hx)
  | non => exact other (nm := "NoneType") rfl rfl rfl rfl
  | bl b => exact other (nm := "bool") rfl rfl rfl rfl
  | int i => exact other (nm := "int") rfl rfl rfl rfl
  | _ => cases hk
end Dk

set_option Elab.async false
set_option linter.all false
set_option maxRecDepth 100000
set_option maxHeartbeats 4000000
namespace Dk
open PySem PySem.Spec PyProof.Rows L2 Dd

def nameD : D → Bool
  | .str x => nameB x
  | _ => false
/-- names of any plain value -/
theorem w3p (n : Nat) (a : D) (h : DH) (ha : plainV a = true) : WC (pg.run (n + 1)) 3 [a] h (fun d h' => d = .bl (nameD a) ∧ Grow h h') fun _ _ _ => False := by
  have other : ∀ {nm : String}, tyName a h = some nm → isTy "str" nm = false → WC (pg.run (n + 1)) 3 [a] h (fun d h' => d = .bl false ∧ Grow h h') fun _ _ _ => False := by
    intro nm hn h1
    refine wc_of (f := f3) rfl e3 rfl ?_
    unfold b3
    rw [wp_seq, wp_if]
    simp only [we_orT, we_notT, we_tru, we_op1, we_var]
    refine ⟨a, rfl, ?_⟩
    rw [wo_iff]
    refine ⟨.bl false, h, by unfold isinD; rw [hn, Option.map_some, h1], false, rfl, ?_⟩
    show WP (seq (retS (Dd.ret (.bl false))) skip) _ _ _
    simp only [Dd.we_ret, Dd.we_bnd, Dd.we_lift, Dd.we_var, Dd.we_args_nil, Dd.we_args_cons, Dd.we_opN, Dd.we_op1, Dd.we_op2, Dd.we_call, Dd.we_tst, Dd.we_tru, Dd.we_notT, Dd.we_andT, Dd.we_orT, Dd.we_notV, Dd.we_andV, Dd.we_orV, Dd.we_ite, Dd.we_chn, Dd.we_mth, Dd.we_slice, Dd.we_intOf, Dd.nx_next, Dd.nx_ret, Dd.nx_ex, Dd.td_next, Dd.td_cont, Dd.td_brk, Dd.td_ret, Dd.td_ex, Dd.nx_brk, Dd.nx_cont, Dd.wp_skip, Dd.wp_seq, Dd.wp_drop, Dd.wp_ret, Dd.wp_asg, Dd.wp_if, Dd.wp_raise, Dd.wp_set, end_ret]
    exact ⟨trivial, Grow.refl h⟩
  cases a with
  | str x => exact w3 n x h (of_decide_eq_true ha)
  | non => exact other (nm := "NoneType") rfl rfl
  | bl b => exact other (nm := "bool") rfl rfl
  | int i => exact other (nm := "int") rfl rfl
  | tup xs => exact other (nm := "tuple") rfl rfl
  | _ => cases ha
def tm2 : M Bool := orT (notT (tru truD (op1 (isinD "str") (var 4)))) (tst (op2 notInD (var 4) (Dd.ret (.wd [("one", .kt [.int 0, .int 0]), ("maybe", .kt [.int 1, .int 0]), ("many", .kt [.int 1, .int 1])]))))
theorem w2_tm {e : DE} {h : DH} {b : D} {Q : Bool → DH → Prop} {X : Nat → D → DH → Prop} (he : e[4]? = some (some b)) (hb : plainV b = true) (q : Q (tmErr b) h) : WE tm2 e h Q X := by
  unfold tm2
  simp only [we_orT, we_notT, we_tru, we_op1, we_op2, we_var, we_tst, we_ret]
  refine ⟨b, he, ?_⟩
  rw [wo_iff]
  have other : ∀ {nm : String}, tyName b h = some nm → isTy "str" nm = false → tmErr b = true → ∃ d h', isinD "str" b h = some (d, h') ∧ ∃ c, truD d h' = some c ∧ (if (!c) = true then Q true h' else ∃ d, e[4]? = some (some d) ∧ WO (notInD d (.wd [("one", .kt [.int 0, .int 0]), ("maybe", .kt [.int 1, .int 0]), ("many", .kt [.int 1, .int 1])])) h' fun x h1 => ∃ c, x = .bl c ∧ Q c h1) := by
    intro nm hn h1 h2
    refine ⟨.bl false, h, by unfold isinD; rw [hn, Option.map_some, h1], false, rfl, ?_⟩
    rw [h2] at q
    exact q
  cases b with
  | str tm =>
    refine ⟨.bl true, h, rfl, true, rfl, ?_⟩
    rw [if_neg (by decide)]
    refine ⟨.str tm, he, ?_⟩
    rw [wo_iff]
    exact ⟨_, _, wd_tm tm h, _, rfl, q⟩
  | non => exact other (nm := "NoneType") rfl rfl rfl
  | bl b => exact other (nm := "bool") rfl rfl rfl
  | int i => exact other (nm := "int") rfl rfl rfl
  | tup xs => exact other (nm := "tuple") rfl rfl rfl
  | _ => cases hb
theorem w2 (n : Nat) (a b k : D) (E : Nat) (lv : Int) (acc : List Str) (h : DH) (sub : List D → Option Str) (ha : plainV a = true) (hb : plainV b = true) (hk : plainK h k) (hl : lstAt h E = some (acc.map D.str))
    (hsub : ∀ gs h', Grow h h' → k = .tup gs → WC (pg.run (n + 1)) 1 [.tup gs, .int (lv + 1)] h' (Chk h' (sub gs)) (ChkX h' (sub gs))) :
    WC (pg.run (n + 2)) 2 [.tup [a, b, k], .ref E, .int lv] h (Chk h (fdErr sub acc (.tup [a, b, k]))) (ChkX h (fdErr sub acc (.tup [a, b, k]))) := by
  refine wc_of (f := f2) rfl e2 rfl ?_
  have raise : ∀ {e : DE} {h' : DH} {w : Str} {r : Option Str} {b1 b2 : MS}, Grow h h' → r = some w → WP (seq (raiS 0 (Dd.ret (.str w))) skip) e h' (Nx (End (Chk h r) (ChkX h r)) b1) := fun g q => by
    simp only [wp_seq, wp_raise, we_ret, nx_ex, end_ex]
    exact ⟨_, q, rfl, rfl, g⟩
  have b2e : b2 (pg.run (n + 1)) = seq (ifS (orT (notT (tru truD (op1 (isinD "tuple") (var 0)))) (tst (op2 neD (opN (bltD .len) [var 0]) (Dd.ret (.int 3))))) (seq (raiS 0 (Dd.ret (.str "field"))) skip) skip)
    (seq (asg (.tp [3, 4, 5]) (var 0)) (seq (ifS (notT (tru truD (callM (pg.run (n + 1)) 3 [var 3]))) (seq (raiS 0 (Dd.ret (.str "name"))) skip) skip)
    (seq (ifS (tst (op2 inD (var 3) (var 1))) (seq (raiS 0 (Dd.ret (.str "twice"))) skip) skip) (seq (ifS tm2 (seq (raiS 0 (Dd.ret (.str "times"))) skip) skip) (seq (kd2 (pg.run (n + 1))) skip))))) := rfl
  rw [b2e, wp_seq, wp_if]
  simp only [we_orT, we_notT, we_tru, we_op1, we_op2, we_var, we_tst, we_ret, we_opN, we_args_cons, we_args_nil]
  refine ⟨.tup [a, b, k], rfl, ?_⟩
  rw [wo_iff]
  refine ⟨.bl true, h, rfl, true, rfl, ?_⟩
  rw [if_neg (by decide)]
  refine ⟨.tup [a, b, k], rfl, ?_⟩
  rw [wo_iff]
  refine ⟨.int 3, h, rfl, ?_⟩
  rw [wo_iff]
  refine ⟨.bl false, h, rfl, false, rfl, ?_⟩
  rw [if_neg (by decide), wp_skip, nx_next, wp_seq, wp_asg, we_var]
  refine ⟨_, rfl, [some (.tup [a, b, k]), some (.ref E), some (.int lv), some a, some b, some k], rfl, ?_⟩
  rw [nx_next, wp_seq, wp_if]
  simp only [we_notT, we_tru, we_call, we_args_cons, we_args_nil, we_var]
  refine ⟨a, rfl, (w3p n a h ha).mono (fun d h1 w => ?_) fun _ _ _ z => z.elim⟩
  obtain ⟨rfl, g1⟩ := w
  refine ⟨_, rfl, ?_⟩
  have bad : nameD a = false → fdErr sub acc (.tup [a, b, k]) = some ("name" : Str) := by
    intro z
    cases a with
    | str x => have z : nameB x = false := z; simp [fdErr, nmErr, z]
    | _ => rfl
  cases hn : nameD a with
  | false => exact raise (b2 := skip) g1 (bad hn)
  | true =>
    show WP skip _ _ _
    rw [wp_skip, nx_next, wp_seq, wp_if]
    cases a with
    | str nm =>
      have hn : nameB nm = true := hn
      simp only [we_tst, we_op2, we_var]
      refine ⟨.str nm, rfl, .ref E, rfl, ?_⟩
      rw [wo_iff]
      refine ⟨_, _, in_acc (g1.lst hl), _, rfl, ?_⟩
      cases ht : (acc.any fun y => decide (y = nm)) with
      | true => exact raise (b2 := skip) g1 (by simp [fdErr, nmErr, hn, ht])
      | false =>
        have hnm : nmErr acc (.str nm) = none := by simp [nmErr, hn, ht]
        show WP skip _ _ _
        rw [wp_skip, nx_next, wp_seq, wp_if]
        refine w2_tm rfl hb ?_
        cases hb2 : tmErr b with
        | true => exact raise (b2 := skip) g1 (by simp [fdErr, hnm, hb2])
        | false =>
          show WP skip _ _ _
          rw [wp_skip, nx_next, wp_seq]
          have e : fdErr sub acc (.tup [.str nm, b, k]) = kdErr sub k := by simp [fdErr, hnm, hb2]
          rw [e]
          exact w2_kd (hk.grow g1) g1 fun gs z => hsub gs h1 g1 z
    | _ => cases hn
end Dk

set_option Elab.async false
set_option linter.all false
set_option maxRecDepth 100000
set_option maxHeartbeats 4000000
namespace Dk
open PySem PySem.Spec PyProof.Rows L2 Dd

/-- what is no field at all -/
theorem w2_bad (n : Nat) (d : D) (E : Nat) (lv : Int) (acc : List Str) (h : DH) (sub : List D → Option Str) (hd : (∃ xs, d = .tup xs ∧ xs.length ≠ 3) ∨ ∃ i ys, d = .ref i ∧ lstAt h i = some ys) :
    WC (pg.run (n + 2)) 2 [d, .ref E, .int lv] h (Chk h (some "field")) (ChkX h (some "field")) := by
  refine wc_of (f := f2) rfl e2 rfl ?_
  unfold b2
  rw [wp_seq, wp_if]
  have raise : ∀ {e : DE} {b1 : MS}, WP (seq (raiS 0 (Dd.ret (.str "field"))) skip) e h (Nx (End (Chk h (some "field")) (ChkX h (some "field"))) b1) := by
    simp only [wp_seq, wp_raise, we_ret, nx_ex, end_ex]
    exact ⟨_, rfl, rfl, rfl, Grow.refl h⟩
  simp only [we_orT, we_notT, we_tru, we_op1, we_op2, we_var, we_tst, we_ret, we_opN, we_args_cons, we_args_nil]
  refine ⟨d, rfl, ?_⟩
  rw [wo_iff]
  rcases hd with ⟨xs, rfl, hx⟩ | ⟨i, ys, rfl, hy⟩
  · refine ⟨.bl true, h, rfl, true, rfl, ?_⟩
    rw [if_neg (by decide)]
    refine ⟨.tup xs, rfl, ?_⟩
    rw [wo_iff]
    refine ⟨.int xs.length, h, rfl, ?_⟩
    rw [wo_iff]
    have ne : ¬ ((xs.length : Int) = 3) := by omega
    refine ⟨.bl true, h, ?_, true, rfl, raise⟩
    simp [neD, eqB, scalD, ne]
  · have hy := lstAt_some hy
    refine ⟨.bl false, h, ?_, false, rfl, raise⟩
    simp only [isinD, tyName, hy]
    rfl
def nameOf : D → Str
  | .tup (.str x :: _) => x
  | _ => ""
def fsErrL (sub : List D → Option Str) : List Str → List D → Option Str
  | _, [] => none
  | acc, d :: ds => match fdErr sub acc d with
    | some w => some w
    | none => fsErrL sub (acc ++ [nameOf d]) ds
def fsErr : Nat → Int → List D → Option Str
  | 0, _, _ => none
  | n + 1, lv, fs => if decide (1 ≤ fs.length) && decide (fs.length ≤ 12) then (if ltI 5 lv then some "depth" else fsErrL (fsErr n (lv + 1)) [] fs) else some "fields"
/-- plain fields -/
def PlF : Nat → DH → List D → Prop
  | 0, _, _ => False
  | n + 1, h, fs => ∀ d ∈ fs, (∃ a b k, d = .tup [a, b, k] ∧ plainV a = true ∧ plainV b = true ∧ plainK h k ∧ ∀ gs, k = .tup gs → PlF n h gs) ∨ (∃ xs, d = .tup xs ∧ xs.length ≠ 3) ∨ ∃ i ys, d = .ref i ∧ lstAt h i = some ys
theorem PlF.grow {h h' : DH} (g : Grow h h') : ∀ {n : Nat} {fs : List D}, PlF n h fs → PlF n h' fs
  | 0, _, p => p
  | n + 1, fs, p => fun d hd => by
    rcases p d hd with ⟨a, b, k, q1, q2, q3, q4, q5⟩ | q | ⟨i, ys, q1, q2⟩
    · exact .inl ⟨a, b, k, q1, q2, q3, q4.grow g, fun gs z => (q5 gs z).grow g⟩
    · exact .inr (.inl q)
    · exact .inr (.inr ⟨i, ys, q1, g.lst q2⟩)
theorem fd_none {sub : List D → Option Str} {acc : List Str} {d : D} (h : fdErr sub acc d = none) : ∃ nm b k, d = .tup [.str nm, b, k] := by
  unfold fdErr at h
  split at h
  · rename_i a b k
    cases a with
    | str nm => exact ⟨nm, b, k, rfl⟩
    | _ => simp [nmErr] at h
  · cases h
theorem w1 : ∀ (m n : Nat) (fs : List D) (lv : Int) (h : DH), PlF m h fs → WC (pg.run (n + 2 * m + 1)) 1 [.tup fs, .int lv] h (Chk h (fsErr m lv fs)) (ChkX h (fsErr m lv fs))
  | 0, n, fs, lv, h, p => p.elim
  | m + 1, n, fs, lv, h, p => by
    refine wc_of (f := f1) rfl e1 rfl ?_
    have raise : ∀ {e : DE} {w : Str} {r : Option Str} {b1 : MS}, r = some w → WP (seq (raiS 0 (Dd.ret (.str w))) skip) e h (Nx (End (Chk h r) (ChkX h r)) b1) := fun q => by
      simp only [wp_seq, wp_raise, we_ret, nx_ex, end_ex]
      exact ⟨_, q, rfl, rfl, Grow.refl h⟩
    unfold b1
    rw [wp_seq, wp_if]
    simp only [we_orT, we_notT, we_tru, we_op1, we_op2, we_var, we_tst, we_ret, we_opN, we_args_cons, we_args_nil, we_chn]
    refine ⟨.tup fs, rfl, ?_⟩
    rw [wo_iff]
    refine ⟨.bl true, h, rfl, true, rfl, ?_⟩
    rw [if_neg (by decide)]
    refine ⟨.tup fs, rfl, ?_⟩
    rw [wo_iff]
    refine ⟨.int fs.length, h, rfl, ?_⟩
    rw [wo_iff]
    refine ⟨.bl (leI 1 fs.length), h, rfl, _, rfl, ?_⟩
    have l1 : leI 1 fs.length = decide (1 ≤ fs.length) := by rw [leI_eq]; apply Bool.eq_iff_iff.mpr; simp; omega
    have l2 : leI fs.length 12 = decide (fs.length ≤ 12) := by rw [leI_eq]; apply Bool.eq_iff_iff.mpr; simp; omega
    rw [l1]
    by_cases c1 : 1 ≤ fs.length
    · rw [decide_eq_true c1, if_pos rfl, wo_iff]
      refine ⟨.bl (leI fs.length 12), h, rfl, _, rfl, ?_⟩
      rw [l2]
      by_cases c2 : fs.length ≤ 12
      · rw [decide_eq_true c2]
        show WP skip _ _ _
        rw [wp_skip, nx_next, wp_seq, wp_if]
        simp only [we_op2, we_var, we_tst, we_ret]
        refine ⟨.int lv, rfl, ?_⟩
        rw [wo_iff]
        refine ⟨.bl (ltI 5 lv), h, rfl, _, rfl, ?_⟩
        cases c3 : ltI 5 lv with
        | true => exact raise (by simp [fsErr, c1, c2, c3])
        | false =>
          have e : fsErr (m + 1) lv fs = fsErrL (fsErr m (lv + 1)) [] fs := by simp [fsErr, c1, c2, c3]
          rw [e]
          show WP skip _ _ _
          rw [wp_skip, nx_next, wp_seq, wp_asg, we_opN, we_args_nil, wo_iff]
          refine ⟨.ref h.length, h ++ [Ob.lst []], rfl, [some (.tup fs), some (.int lv), some (.ref h.length), none], rfl, ?_⟩
          rw [nx_next, wp_seq]
          refine for_in (fun k e hh => (∃ x, e = [some (.tup fs), some (.int lv), some (.ref h.length), x]) ∧ Grow h hh ∧ ∃ acc : List Str, acc.length = k ∧ lstAt hh h.length = some (acc.map D.str) ∧ fsErrL (fsErr m (lv + 1)) acc (fs.drop k) = fsErrL (fsErr m (lv + 1)) [] fs) ?_
          rw [we_var]
          refine ⟨_, rfl, fs, rfl, ⟨⟨_, rfl⟩, Grow.one h _, [], rfl, lst_new, rfl⟩, ?_, ?_⟩
          · rintro e hh ⟨_, g, acc, la, l, q⟩
            rw [nx_next, wp_skip, end_next]
            rw [List.drop_length] at q
            exact ⟨q.symm, rfl, g⟩
          · rintro k d e hh hd ⟨⟨x, rfl⟩, g, acc, la, l, q⟩
            refine ⟨_, rfl, ?_⟩
            have hdr : fs.drop k = d :: fs.drop (k + 1) := by
              obtain ⟨hk, e⟩ := List.getElem?_eq_some_iff.mp hd
              rw [← e]
              exact List.drop_eq_getElem_cons hk
            rw [hdr] at q
            have q : (match fdErr (fsErr m (lv + 1)) acc d with | some w => some w | none => fsErrL (fsErr m (lv + 1)) (acc ++ [nameOf d]) (fs.drop (k + 1))) = fsErrL (fsErr m (lv + 1)) [] fs := q
            simp only [wp_seq, wp_drop, we_call, we_args_cons, we_args_nil, we_var]
            refine ⟨d, rfl, .ref h.length, rfl, .int lv, rfl, ?_⟩
            have call : WC (pg.run (n + 2 * (m + 1))) 2 [d, .ref h.length, .int lv] hh (Chk hh (fdErr (fsErr m (lv + 1)) acc d)) (ChkX hh (fdErr (fsErr m (lv + 1)) acc d)) := by
              rcases p d (List.mem_of_getElem? hd) with ⟨a, b, k', rfl, q2, q3, q4, q5⟩ | z | ⟨i, ys, z1, z2⟩
              · exact w2 (n + 2 * m) a b k' _ lv acc hh _ q2 q3 (q4.grow g) l fun gs h' g' z => by
                  have r := w1 m n gs (lv + 1) h' ((q5 gs z).grow (g.trans g'))
                  exact r
              · obtain ⟨xs, rfl, hx⟩ := z
                have : fdErr (fsErr m (lv + 1)) acc (.tup xs) = some "field" := by
                  unfold fdErr
                  split
                  · rename_i hh; cases hh; exact absurd rfl hx
                  · rfl
                rw [this]
                exact w2_bad (n + 2 * m) _ _ lv acc hh (fsErr m (lv + 1)) (.inl ⟨xs, rfl, hx⟩)
              · subst z1
                exact w2_bad (n + 2 * m) _ _ lv acc hh (fsErr m (lv + 1)) (.inr ⟨i, ys, rfl, g.lst z2⟩)
            refine call.mono (fun d1 h1 w => ?_) fun c pp h1 w => ?_
            · obtain ⟨w1, _, w3⟩ := w
              obtain ⟨nm, b, k', rfl⟩ := fd_none w1
              rw [w1] at q
              have l1' := w3.lst l
              have z30 : acc.length < Z := by
                have hk := (List.getElem?_eq_some_iff.mp hd).1
                exact Nat.lt_of_lt_of_le (by omega : acc.length < 30) (by decide)
              simp only [nx_next, wp_seq, wp_drop, we_mth, we_args_cons, we_args_nil, we_op2, we_var, we_ret]
              refine ⟨.ref h.length, rfl, by simp [mthOk, l1'], .tup [.str nm, b, k'], rfl, ?_⟩
              rw [wo_iff]
              refine ⟨.str nm, h1, rfl, ?_⟩
              rw [wo_iff]
              refine ⟨.non, h1.set h.length (.lst (acc.map D.str ++ [.str nm])), ?_, ?_⟩
              · simp [mthD, l1', z30]
              rw [wp_skip, td_next]
              refine ⟨⟨_, rfl⟩, (g.trans w3).set _ (Nat.le_refl _), acc ++ [nm], by rw [List.length_append, la]; rfl, ?_, q⟩
              rw [List.map_append]
              exact lst_set l1'
            · obtain ⟨w', q1, q2, q3, q4⟩ := w
              rw [q1] at q
              rw [nx_ex, td_ex, nx_ex, end_ex]
              exact ⟨w', q.symm, q2, q3, g.trans q4⟩
      · rw [decide_eq_false c2]
        exact raise (by simp [fsErr, c2])
    · rw [decide_eq_false c1, if_neg (by decide)]
      refine ⟨false, rfl, ?_⟩
      exact raise (by simp only [fsErr, decide_eq_false c1, Bool.false_and]; rfl)
end Dk

set_option Elab.async false
set_option linter.all false
set_option maxRecDepth 100000
set_option maxHeartbeats 4000000
namespace Dk
open PySem PySem.Spec PyProof.Rows L2 Dd

theorem wp_try {b s : MS} {c i : Nat} {e : DE} {h : DH} {Q : Fl → DE → DH → Prop} (w : WP b e h fun f e1 h1 => match f with
      | .ex c' p => c' = c ∧ WP s (e1.set i (some p)) h1 fun f e2 h2 => (∀ c p, f ≠ .ex c p) ∧ Q f (e2.set i none) h2
      | f => Q f e1 h1) : WP (tryS b c (some i) s) e h Q := by
  obtain ⟨f, e1, h1, q, w⟩ := w
  cases f with
  | ex c' p =>
    obtain ⟨rfl, f2, e2, h2, q2, w1, w2⟩ := w
    refine ⟨f2, e2.set i none, h2, ?_, w2⟩
    unfold tryS
    rw [q]
    dsimp only
    rw [if_pos rfl, q2]
    cases f2 with
    | ex c p => exact absurd rfl (w1 c p)
    | _ => rfl
  | next => exact ⟨_, _, _, by unfold tryS; rw [q], w⟩
  | brk => exact ⟨_, _, _, by unfold tryS; rw [q], w⟩
  | cont => exact ⟨_, _, _, by unfold tryS; rw [q], w⟩
  | ret d => exact ⟨_, _, _, by unfold tryS; rw [q], w⟩
/-- check_schema of a tuple -/
theorem w0 (m n : Nat) (fs : List D) (h : DH) (p : PlF m h fs) : WC (pg.run (n + 2 * m + 2)) 0 [.tup fs] h (Chk h (fsErr m 1 fs)) (ChkX h (fsErr m 1 fs)) := by
  refine wc_of (f := f0) rfl e0 rfl ?_
  unfold b0
  simp only [wp_seq, wp_drop, we_call, we_args_cons, we_args_nil, we_var, we_ret]
  refine ⟨.tup fs, rfl, (w1 m n fs 1 h p).mono (fun d h1 w => ?_) fun c pp h1 w => ?_⟩
  · rw [nx_next, wp_skip, end_next]
    exact ⟨w.1, rfl, w.2.2⟩
  · rw [nx_ex, end_ex]
    exact w
/-- the word of a schema -/
def word (r : Option Str) : Str := r.getD ""
theorem w27 (m n : Nat) (fs : List D) (h : DH) (p : PlF m h fs) : WC (pg.run (n + 2 * m + 3)) 27 [.tup fs] h (fun d h' => d = .str (word (fsErr m 1 fs)) ∧ Grow h h') fun _ _ _ => False := by
  refine wc_of (f := f27) rfl e27 rfl ?_
  unfold b27
  rw [wp_seq]
  refine wp_try ?_
  simp only [wp_seq, wp_drop, we_call, we_args_cons, we_args_nil, we_var, we_ret]
  refine ⟨.tup fs, rfl, (w0 m n fs h p).mono (fun d h1 w => ?_) fun c pp h1 w => ?_⟩
  · rw [nx_next, wp_skip]
    show Nx _ _ .next _ _
    simp only [nx_next, wp_seq, wp_ret, we_ret, nx_ret, end_ret]
    exact ⟨by rw [w.1]; rfl, w.2.2⟩
  · rw [nx_ex]
    obtain ⟨w', q1, q2, q3, q4⟩ := w
    refine ⟨q2, ?_⟩
    subst q3
    simp only [wp_ret, we_var, nx_ret]
    refine ⟨_, rfl, ⟨fun c p z => (by cases z), ?_⟩⟩
    rw [end_ret]
    exact ⟨by rw [q1]; rfl, q4⟩
end Dk

set_option Elab.async false
set_option linter.all false
set_option maxRecDepth 100000
set_option maxHeartbeats 4000000
namespace Dk
open PySem PySem.Spec PyProof.Rows L2 Dd

theorem nm3_at (k : Nat) (nm : Str) (h : nm3[k]? = some nm) : nameB nm = true ∧ ((nm3.take k).any fun y => decide (y = nm)) = false ∧ nm3.take (k + 1) = nm3.take k ++ [nm] ∧ nm.length ≤ 1000 := by
  match k, h with
  | 0, h => cases h; exact ⟨by decide +kernel, by decide +kernel, rfl, by decide +kernel⟩
  | 1, h => cases h; exact ⟨by decide +kernel, by decide +kernel, rfl, by decide +kernel⟩
  | 2, h => cases h; exact ⟨by decide +kernel, by decide +kernel, rfl, by decide +kernel⟩
  | k + 3, h => cases h
theorem ok_list {sub : List D → Option Str} : ∀ (ds : List D) (k : Nat), (∀ (i : Nat) (d : D), ds[i]? = some d → ∃ (nm tm : Str) (kd : D), d = D.tup [.str nm, .str tm, kd] ∧ nm3[k + i]? = some nm ∧ tm ∈ tms ∧ kdErr sub kd = none) → fsErrL sub (nm3.take k) ds = none
  | [], _, _ => rfl
  | d :: ds, k, h => by
    obtain ⟨nm, tm, kd, rfl, h1, h2, h3⟩ := h 0 d rfl
    rw [Nat.add_zero] at h1
    obtain ⟨q1, q2, q3, _⟩ := nm3_at k nm h1
    have e : fdErr sub (nm3.take k) (.tup [.str nm, .str tm, kd]) = none := by simp [fdErr, nmErr, q1, q2, tmErr, h2, h3]
    show (match fdErr sub (nm3.take k) (.tup [.str nm, .str tm, kd]) with | some w => some w | none => fsErrL sub (nm3.take k ++ [nm]) ds) = none
    rw [e, ← q3]
    exact ok_list ds (k + 1) fun i d hd => by
      obtain ⟨nm', tm', kd', z1, z2, z3⟩ := h (i + 1) d hd
      exact ⟨nm', tm', kd', z1, by rw [show k + 1 + i = k + (i + 1) from by omega]; exact z2, z3⟩
theorem short_tm {tm : Str} (h : tm ∈ tms) : tm.length ≤ 1000 := by
  simp only [tms, List.mem_cons, List.not_mem_nil, or_false] at h
  rcases h with rfl | rfl | rfl <;> decide +kernel
theorem short_kd {tm : Str} (h : tm ∈ knds) : tm.length ≤ 1000 := by
  simp only [knds, List.mem_cons, List.not_mem_nil, or_false] at h
  rcases h with rfl | rfl | rfl <;> decide +kernel
/-- the schemas that the law draws are let by -/
theorem fs_ok : ∀ (n : Nat) (fs : List D) (lv : Int), FsOk n fs → lv + n ≤ 6 → fsErr n lv fs = none
  | 0, _, _, p, _ => p.elim
  | n + 1, fs, lv, ⟨p1, p2, p3⟩, hl => by
    have c3 : ltI 5 lv = false := by rw [ltI_eq, decide_eq_false_iff_not]; omega
    have z := ok_list (sub := fsErr n (lv + 1)) fs 0 fun i d hd => by
      obtain ⟨nm, tm, kd, q1, q2, q3, q4⟩ := p3 i d hd
      refine ⟨nm, tm, kd, q1, by rw [Nat.zero_add]; exact q2, q3, ?_⟩
      rcases q4 with ⟨x, hx, rfl⟩ | ⟨gs, rfl, hg⟩
      · exact if_pos hx
      · exact fs_ok n gs (lv + 1) hg (by omega)
    have c2 : fs.length ≤ 12 := by omega
    simp only [fsErr, decide_eq_true p1, decide_eq_true c2, Bool.and_self, if_true, c3]
    exact z
theorem fs_pl : ∀ (n : Nat) (fs : List D) (h : DH), FsOk n fs → PlF n h fs
  | 0, _, _, p => p.elim
  | n + 1, fs, h, ⟨p1, p2, p3⟩ => fun d hd => by
    obtain ⟨i, hi⟩ := List.getElem?_of_mem hd
    obtain ⟨nm, tm, kd, q1, q2, q3, q4⟩ := p3 i d hi
    refine .inl ⟨.str nm, .str tm, kd, q1, decide_eq_true (nm3_at i nm q2).2.2.2, decide_eq_true (short_tm q3), ?_, fun gs z => ?_⟩
    · rcases q4 with ⟨x, hx, rfl⟩ | ⟨gs, rfl, hg⟩
      · exact .inl (decide_eq_true (short_kd hx))
      · exact .inl rfl
    · rcases q4 with ⟨x, hx, rfl⟩ | ⟨gs', rfl, hg⟩
      · cases z
      · cases z
        exact fs_pl n gs h hg
/-- '' for them -/
theorem w27_ok (n : Nat) (fs : List D) (h : DH) (p : FsOk 3 fs) : WC (pg.run (n + 9)) 27 [.tup fs] h (fun d h' => d = .str "" ∧ Grow h h') fun _ _ _ => False := by
  have w := w27 3 n fs h (fs_pl 3 fs h p)
  rw [fs_ok 3 fs 1 p (by decide)] at w
  exact w
end Dk

set_option Elab.async false
set_option linter.all false
set_option maxRecDepth 100000
set_option maxHeartbeats 4000000
namespace Dk
open PySem PySem.Spec PyProof.Rows L2 Dd

/-! ### columns -/
def am (tm : Str) : Int := if tm = "one" then 0 else 1
def bm (tm : Str) : Int := if tm = "many" then 1 else 0
def colD (rec : List D → List D → Int → Int → List D) (bf : List D) (df rp : Int) : D → List D
  | .tup [nm, .str tm, .tup gs] => rec gs (bf ++ [nm]) (df + am tm) (rp + bm tm)
  | .tup [nm, .str tm, kd] => [.tup [.tup (bf ++ [nm]), kd, .int (df + am tm), .int (rp + bm tm)]]
  | _ => []
def colsM : Nat → List D → List D → Int → Int → List D
  | 0, _, _, _, _ => []
  | n + 1, fs, bf, df, rp => fs.flatMap (colD (colsM n) bf df rp)
theorem cols_len : ∀ (n : Nat) (fs bf : List D) (df rp : Int), FsOk n fs → (colsM n fs bf df rp).length ≤ 3 ^ n
  | 0, _, _, _, _, p => p.elim
  | n + 1, fs, bf, df, rp, ⟨p1, p2, p3⟩ => by
    have one : ∀ d ∈ fs, (colD (colsM n) bf df rp d).length ≤ 3 ^ n := by
      intro d hd
      obtain ⟨i, hi⟩ := List.getElem?_of_mem hd
      obtain ⟨nm, tm, kd, rfl, q2, q3, q4⟩ := p3 i d hi
      rcases q4 with ⟨x, hx, rfl⟩ | ⟨gs, rfl, hg⟩
      · exact Nat.one_le_pow _ _ (by decide)
      · exact cols_len n gs _ _ _ hg
    have all : ∀ (l : List D), (∀ d ∈ l, (colD (colsM n) bf df rp d).length ≤ 3 ^ n) → (l.flatMap (colD (colsM n) bf df rp)).length ≤ l.length * 3 ^ n := by
      intro l
      induction l with
      | nil => intro _; exact Nat.zero_le _
      | cons d l ih =>
        intro h
        rw [List.flatMap_cons, List.length_append, List.length_cons, Nat.add_mul, Nat.one_mul]
        have h1 := h d List.mem_cons_self
        have h2 := ih fun d' hd' => h d' (List.mem_cons_of_mem _ hd')
        omega
    have h3 : fs.length * 3 ^ n ≤ 3 * 3 ^ n := Nat.mul_le_mul_right _ p2
    have := all fs one
    show (fs.flatMap (colD (colsM n) bf df rp)).length ≤ 3 ^ (n + 1)
    rw [Nat.pow_succ]
    omega
theorem ad_ix {tm : Str} (h : tm ∈ tms) (hh : DH) : ixD (.wd [("one", .kt [.int 0, .int 0]), ("maybe", .kt [.int 1, .int 0]), ("many", .kt [.int 1, .int 1])]) (.str tm) hh = some (.kt [.int (am tm), .int (bm tm)], hh) := by
  simp only [tms, List.mem_cons, List.not_mem_nil, or_false] at h
  rcases h with rfl | rfl | rfl <;> rfl
theorem w5 : ∀ (n m : Nat) (fs bf : List D) (df rp : Int) (h : DH), FsOk n fs → bf.length + n ≤ 100 → n ≤ 8 →
    WC (pg.run (m + n)) 5 [.tup fs, .tup bf, .int df, .int rp] h (fun d h' => d = .ref h.length ∧ lstAt h' h.length = some (colsM n fs bf df rp) ∧ Grow h h') fun _ _ _ => False
  | 0, _, _, _, _, _, _, p, _, _ => p.elim
  | n + 1, m, fs, bf, df, rp, h, p, hb, hn => by
    refine wc_of (f := f5) rfl e5 rfl ?_
    have clen := cols_len (n + 1) fs bf df rp p
    have pw : 3 ^ (n + 1) ≤ 3 ^ 8 := Nat.pow_le_pow_right (by decide) hn
    have pz : 3 ^ 8 = 6561 := rfl
    have zz : Z = 16777216 := rfl
    unfold b5
    rw [wp_seq, wp_asg, we_opN, we_args_nil, wo_iff]
    refine ⟨.ref h.length, h ++ [Ob.lst []], rfl, [some (.tup fs), some (.tup bf), some (.int df), some (.int rp), some (.ref h.length), none, none, none, none, none, none, none, none], rfl, ?_⟩
    rw [nx_next, wp_seq]
    refine for_in (fun k e hh => (∃ x1 x2 x3 x4 x5 x6 x7 x8, e = [some (.tup fs), some (.tup bf), some (.int df), some (.int rp), some (.ref h.length), x1, x2, x3, x4, x5, x6, x7, x8]) ∧ Grow h hh ∧ lstAt hh h.length = some ((fs.take k).flatMap (colD (colsM n) bf df rp))) ?_
    rw [we_var]
    refine ⟨_, rfl, fs, rfl, ⟨⟨_, _, _, _, _, _, _, _, rfl⟩, Grow.one h _, lst_new⟩, ?_, ?_⟩
    · rintro e hh ⟨⟨x1, x2, x3, x4, x5, x6, x7, x8, rfl⟩, g, l⟩
      rw [List.take_length] at l
      simp only [nx_next, wp_seq, wp_ret, we_var, nx_ret, end_ret]
      exact ⟨_, rfl, rfl, l, g⟩
    · rintro k d e hh hd ⟨⟨x1, x2, x3, x4, x5, x6, x7, x8, rfl⟩, g, l⟩
      obtain ⟨nm, tm, kd, rfl, q2, q3, q4⟩ := p.2.2 k d hd
      have sn : (fs.take (k + 1)).flatMap (colD (colsM n) bf df rp) = (fs.take k).flatMap (colD (colsM n) bf df rp) ++ colD (colsM n) bf df rp (.tup [.str nm, .str tm, kd]) := by
        rw [take_snoc hd, List.flatMap_append]
        simp
      have ll : ((fs.take k).flatMap (colD (colsM n) bf df rp)).length + (colD (colsM n) bf df rp (.tup [.str nm, .str tm, kd])).length ≤ 6561 := by
        have e1 : (fs.flatMap (colD (colsM n) bf df rp)).length = ((fs.take (k + 1)).flatMap (colD (colsM n) bf df rp)).length + ((fs.drop (k + 1)).flatMap (colD (colsM n) bf df rp)).length := by
          rw [← List.length_append, ← List.flatMap_append, List.take_append_drop]
        have e2 : (fs.flatMap (colD (colsM n) bf df rp)).length ≤ 6561 := Nat.le_trans clen (by omega)
        rw [sn, List.length_append] at e1
        omega
      refine ⟨[some (.tup fs), some (.tup bf), some (.int df), some (.int rp), some (.ref h.length), some (.str nm), some (.str tm), some kd, x4, x5, x6, x7, x8], rfl, ?_⟩
      have ab : addD (.tup bf) (.tup [.str nm]) hh = some (.tup (bf ++ [.str nm]), hh) := by
        show (if bf.length + 1 ≤ Z then _ else none) = _
        rw [if_pos (by omega)]
      simp only [wp_seq, wp_asg, we_op2, we_opN, we_args_cons, we_args_nil, we_var, we_ret]
      refine ⟨_, rfl, _, rfl, ?_⟩
      rw [wo_iff]
      refine ⟨.tup [.str nm], hh, rfl, ?_⟩
      rw [wo_iff]
      refine ⟨_, _, ab, _, rfl, ?_⟩
      simp only [nx_next, wp_seq, wp_asg, we_op2, we_opN, we_args_cons, we_args_nil, we_var, we_ret]
      refine ⟨_, rfl, ?_⟩
      rw [wo_iff]
      refine ⟨_, _, ad_ix q3 hh, [some (.tup fs), some (.tup bf), some (.int df), some (.int rp), some (.ref h.length), some (.str nm), some (.str tm), some kd, some (.tup (bf ++ [.str nm])), some (.int (am tm)), some (.int (bm tm)), x7, x8], rfl, ?_⟩
      try simp only [nx_next, wp_seq, wp_asg, we_op2, we_opN, we_args_cons, we_args_nil, we_var, we_ret]
      refine ⟨_, rfl, _, rfl, ?_⟩
      rw [wo_iff]
      refine ⟨.int (df + am tm), hh, rfl, _, rfl, ?_⟩
      try simp only [nx_next, wp_seq, wp_asg, we_op2, we_opN, we_args_cons, we_args_nil, we_var, we_ret]
      refine ⟨_, rfl, _, rfl, ?_⟩
      rw [wo_iff]
      refine ⟨.int (rp + bm tm), hh, rfl, [some (.tup fs), some (.tup bf), some (.int df), some (.int rp), some (.ref h.length), some (.str nm), some (.str tm), some kd, some (.tup (bf ++ [.str nm])), some (.int (am tm)), some (.int (bm tm)), some (.int (df + am tm)), some (.int (rp + bm tm))], rfl, ?_⟩
      try simp only [nx_next, wp_seq, wp_if, we_tru, we_op1, we_var]
      refine ⟨kd, rfl, ?_⟩
      rw [wo_iff]
      rcases q4 with ⟨x, hx, rfl⟩ | ⟨gs, rfl, hg⟩
      · refine ⟨.bl false, hh, rfl, false, rfl, ?_⟩
        rw [if_neg (by decide)]
        simp only [wp_seq, wp_drop, we_mth, we_opN, we_args_cons, we_args_nil, we_var]
        refine ⟨_, rfl, by simp [mthOk, l], _, rfl, _, rfl, _, rfl, _, rfl, ?_⟩
        rw [wo_iff]
        refine ⟨.tup [.tup (bf ++ [.str nm]), .str x, .int (df + am tm), .int (rp + bm tm)], hh, rfl, ?_⟩
        rw [wo_iff]
        have z1 : ((fs.take k).flatMap (colD (colsM n) bf df rp)).length < Z := by omega
        refine ⟨.non, hh.set h.length (.lst ((fs.take k).flatMap (colD (colsM n) bf df rp) ++ [.tup [.tup (bf ++ [.str nm]), .str x, .int (df + am tm), .int (rp + bm tm)]])), by simp only [mthD, l, if_pos z1], ?_⟩
        rw [nx_next, wp_skip, nx_next, wp_skip, td_next]
        refine ⟨⟨_, _, _, _, _, _, _, _, rfl⟩, g.set _ (Nat.le_refl _), ?_⟩
        rw [sn]
        exact lst_set l
      · refine ⟨.bl true, hh, rfl, true, rfl, ?_⟩
        rw [if_pos rfl]
        simp only [wp_seq, wp_drop, we_mth, we_call, we_args_cons, we_args_nil, we_var]
        refine ⟨_, rfl, by simp [mthOk, l], _, rfl, _, rfl, _, rfl, _, rfl, ?_⟩
        refine (w5 n m gs (bf ++ [.str nm]) (df + am tm) (rp + bm tm) hh hg (by rw [List.length_append]; show bf.length + 1 + n ≤ 100; omega) (by omega)).mono (fun d h1 w => ?_) fun _ _ _ z => z.elim
        obtain ⟨rfl, l2, g2⟩ := w
        rw [wo_iff]
        have l1 := g2.lst l
        have z1 : ((fs.take k).flatMap (colD (colsM n) bf df rp)).length + (colsM n gs (bf ++ [.str nm]) (df + am tm) (rp + bm tm)).length ≤ Z := Nat.le_trans ll (by omega)
        refine ⟨.non, h1.set h.length (.lst ((fs.take k).flatMap (colD (colsM n) bf df rp) ++ colsM n gs (bf ++ [.str nm]) (df + am tm) (rp + bm tm))), by simp only [mthD, l1, l2, if_pos z1], ?_⟩
        rw [nx_next, wp_skip, nx_next, wp_skip, td_next]
        refine ⟨⟨_, _, _, _, _, _, _, _, rfl⟩, (g.trans g2).set _ (Nat.le_refl _), ?_⟩
        rw [sn]
        exact lst_set l1
end Dk

set_option Elab.async false
set_option linter.all false
set_option maxRecDepth 100000
set_option maxHeartbeats 4000000
namespace Dk
open PySem PySem.Spec PyProof.Rows L2 Dd

theorem ne_one (tm : Str) (hh : DH) : ∃ b, neD (.str tm) (.str "one") hh = some (.bl b, hh) ∧ bltD .int [.bl b] hh = some (.int (am tm), hh) := by
  refine ⟨!decide (tm = "one"), rfl, ?_⟩
  unfold am
  by_cases h : tm = "one"
  · simp [bltD, h]
  · simp [bltD, h]
theorem eq_many (tm : Str) (hh : DH) : ∃ b, eqD (.str tm) (.str "many") hh = some (.bl b, hh) ∧ bltD .int [.bl b] hh = some (.int (bm tm), hh) := by
  refine ⟨decide (tm = "many"), rfl, ?_⟩
  unfold bm
  by_cases h : tm = "many"
  · simp [bltD, h]
  · simp [bltD, h]
theorem w24 : ∀ (n m : Nat) (fs bf : List D) (df rp : Int) (h : DH), FsOk n fs → bf.length + n ≤ 100 → n ≤ 8 →
    WC (pg.run (m + n)) 24 [.tup fs, .tup bf, .int df, .int rp] h (fun d h' => (∃ i, d = .ref i ∧ lstAt h' i = some (colsM n fs bf df rp)) ∧ Grow h h') fun _ _ _ => False
  | 0, _, _, _, _, _, _, p, _, _ => p.elim
  | n + 1, m, fs, bf, df, rp, h, p, hb, hn => by
    refine wc_of (f := f24) rfl e24 rfl ?_
    have clen := cols_len (n + 1) fs bf df rp p
    have pw : 3 ^ (n + 1) ≤ 3 ^ 8 := Nat.pow_le_pow_right (by decide) hn
    have pz : 3 ^ 8 = 6561 := rfl
    have zz : Z = 16777216 := rfl
    unfold b24
    rw [wp_seq, wp_asg, we_opN, we_args_nil, wo_iff]
    refine ⟨.ref h.length, h ++ [Ob.lst []], rfl, [some (.tup fs), some (.tup bf), some (.int df), some (.int rp), some (.ref h.length), none, none, none, none, none], rfl, ?_⟩
    rw [nx_next, wp_seq]
    refine for_in (fun k e hh => (∃ id x1 x2 x3 x4 x5, e = [some (.tup fs), some (.tup bf), some (.int df), some (.int rp), some (.ref id), x1, x2, x3, x4, x5] ∧ h.length ≤ id ∧ lstAt hh id = some ((fs.take k).flatMap (colD (colsM n) bf df rp))) ∧ Grow h hh) ?_
    rw [we_var]
    refine ⟨_, rfl, fs, rfl, ⟨⟨_, _, _, _, _, _, rfl, Nat.le_refl _, lst_new⟩, Grow.one h _⟩, ?_, ?_⟩
    · rintro e hh ⟨⟨id, x1, x2, x3, x4, x5, rfl, hid, l⟩, g⟩
      rw [List.take_length] at l
      simp only [nx_next, wp_seq, wp_ret, we_var, nx_ret, end_ret]
      exact ⟨_, rfl, ⟨id, rfl, l⟩, g⟩
    · rintro k d e hh hd ⟨⟨id, x1, x2, x3, x4, x5, rfl, hid, l⟩, g⟩
      obtain ⟨nm, tm, kd, rfl, q2, q3, q4⟩ := p.2.2 k d hd
      have sn : (fs.take (k + 1)).flatMap (colD (colsM n) bf df rp) = (fs.take k).flatMap (colD (colsM n) bf df rp) ++ colD (colsM n) bf df rp (.tup [.str nm, .str tm, kd]) := by
        rw [take_snoc hd, List.flatMap_append]
        simp
      have ll : ((fs.take k).flatMap (colD (colsM n) bf df rp)).length + (colD (colsM n) bf df rp (.tup [.str nm, .str tm, kd])).length ≤ 6561 := by
        have e1 : (fs.flatMap (colD (colsM n) bf df rp)).length = ((fs.take (k + 1)).flatMap (colD (colsM n) bf df rp)).length + ((fs.drop (k + 1)).flatMap (colD (colsM n) bf df rp)).length := by
          rw [← List.length_append, ← List.flatMap_append, List.take_append_drop]
        have e2 : (fs.flatMap (colD (colsM n) bf df rp)).length ≤ 6561 := Nat.le_trans clen (by omega)
        rw [sn, List.length_append] at e1
        omega
      refine ⟨[some (.tup fs), some (.tup bf), some (.int df), some (.int rp), some (.ref id), some (.str nm), some (.str tm), some kd, x4, x5], rfl, ?_⟩
      have ab : ∀ hh, addD (.tup bf) (.tup [.str nm]) hh = some (.tup (bf ++ [.str nm]), hh) := fun hh => by
        show (if bf.length + 1 ≤ Z then _ else none) = _
        rw [if_pos (by omega)]
      obtain ⟨b1, n1, n2⟩ := ne_one tm hh
      obtain ⟨b2, n3, n4⟩ := eq_many tm hh
      simp only [nx_next, wp_seq, wp_asg, we_op2, we_opN, we_args_cons, we_args_nil, we_var, we_ret]
      refine ⟨_, rfl, _, rfl, ?_⟩
      rw [wo_iff]
      refine ⟨_, _, n1, ?_⟩
      rw [wo_iff]
      refine ⟨_, _, n2, ?_⟩
      rw [wo_iff]
      refine ⟨.int (df + am tm), hh, rfl, _, rfl, ?_⟩
      try simp only [nx_next, wp_seq, wp_asg, we_op2, we_opN, we_args_cons, we_args_nil, we_var, we_ret]
      refine ⟨_, rfl, _, rfl, ?_⟩
      rw [wo_iff]
      refine ⟨_, _, n3, ?_⟩
      rw [wo_iff]
      refine ⟨_, _, n4, ?_⟩
      rw [wo_iff]
      refine ⟨.int (rp + bm tm), hh, rfl, [some (.tup fs), some (.tup bf), some (.int df), some (.int rp), some (.ref id), some (.str nm), some (.str tm), some kd, some (.int (df + am tm)), some (.int (rp + bm tm))], rfl, ?_⟩
      try simp only [nx_next, wp_seq, wp_if, we_tru, we_op1, we_var]
      refine ⟨kd, rfl, ?_⟩
      rw [wo_iff]
      rcases q4 with ⟨x, hx, rfl⟩ | ⟨gs, rfl, hg⟩
      · refine ⟨.bl false, hh, rfl, false, rfl, ?_⟩
        rw [if_neg (by decide)]
        simp only [wp_seq, wp_drop, we_mth, we_opN, we_op2, we_args_cons, we_args_nil, we_var]
        refine ⟨_, rfl, by simp [mthOk, l], _, rfl, _, rfl, ?_⟩
        rw [wo_iff]
        refine ⟨.tup [.str nm], hh, rfl, ?_⟩
        rw [wo_iff]
        refine ⟨_, _, ab hh, _, rfl, _, rfl, _, rfl, ?_⟩
        rw [wo_iff]
        refine ⟨.tup [.tup (bf ++ [.str nm]), .str x, .int (df + am tm), .int (rp + bm tm)], hh, rfl, ?_⟩
        rw [wo_iff]
        have z1 : ((fs.take k).flatMap (colD (colsM n) bf df rp)).length < Z := by omega
        refine ⟨.non, hh.set id (.lst ((fs.take k).flatMap (colD (colsM n) bf df rp) ++ [.tup [.tup (bf ++ [.str nm]), .str x, .int (df + am tm), .int (rp + bm tm)]])), by simp only [mthD, l, if_pos z1], ?_⟩
        rw [nx_next, wp_skip, nx_next, wp_skip, td_next]
        refine ⟨⟨id, _, _, _, _, _, rfl, hid, ?_⟩, g.set _ hid⟩
        rw [sn]
        exact lst_set l
      · refine ⟨.bl true, hh, rfl, true, rfl, ?_⟩
        rw [if_pos rfl]
        simp only [wp_seq, wp_asg, we_op2, we_call, we_opN, we_args_cons, we_args_nil, we_var]
        refine ⟨_, rfl, _, rfl, _, rfl, _, rfl, ?_⟩
        rw [wo_iff]
        refine ⟨.tup [.str nm], hh, rfl, ?_⟩
        rw [wo_iff]
        refine ⟨_, _, ab hh, _, rfl, _, rfl, ?_⟩
        refine (w24 n m gs (bf ++ [.str nm]) (df + am tm) (rp + bm tm) hh hg (by rw [List.length_append]; show bf.length + 1 + n ≤ 100; omega) (by omega)).mono (fun d h1 w => ?_) fun _ _ _ z => z.elim
        obtain ⟨⟨i2, rfl, l2⟩, g2⟩ := w
        rw [wo_iff]
        have l1 := g2.lst l
        have z1 : ((fs.take k).flatMap (colD (colsM n) bf df rp)).length + (colsM n gs (bf ++ [.str nm]) (df + am tm) (rp + bm tm)).length ≤ Z := Nat.le_trans ll (by omega)
        refine ⟨.ref h1.length, h1 ++ [Ob.lst ((fs.take k).flatMap (colD (colsM n) bf df rp) ++ colsM n gs (bf ++ [.str nm]) (df + am tm) (rp + bm tm))], by simp only [addD, l1, l2, if_pos z1, newOb], _, rfl, ?_⟩
        rw [nx_next, wp_skip, nx_next, wp_skip, td_next]
        refine ⟨⟨h1.length, _, _, _, _, _, rfl, (g.trans g2).le, ?_⟩, (g.trans g2).trans (Grow.one _ _)⟩
        rw [sn]
        exact lst_new
end Dk

set_option Elab.async false
set_option linter.all false
set_option maxRecDepth 100000
set_option maxHeartbeats 4000000
namespace Dk
open PySem PySem.Spec PyProof.Rows L2 Dd

section
variable {e : DE} {h : DH}
theorem live_at {i : Nat} {hh : DH} {xs : List D} (k : Nat) (l : lstAt hh i = some xs) : (Src.live i xs.length).at_ k hh = xs[k]? := by
  dsimp only [Src.at_]
  rw [l]
  dsimp only
  rw [if_pos rfl]
theorem live_done {i : Nat} {hh : DH} {xs : List D} (l : lstAt hh i = some xs) : (Src.live i xs.length).done hh = true := by
  dsimp only [Src.done]
  rw [l]
  exact decide_eq_true rfl
/-- for x in a list that stays as it is -/
theorem for_list {a : M D} {t : Tg} {b : MS} {Q : Fl → DE → DH → Prop} (Inv : Nat → List D → Nat → DE → DH → Prop)
    (w : WE a e h (fun d h1 => ∃ i xs, d = .ref i ∧ lstAt h1 i = some xs ∧ Inv i xs 0 e h1 ∧ (∀ k e hh, Inv i xs k e hh → lstAt hh i = some xs) ∧ (∀ e h, Inv i xs xs.length e h → Q .next e h) ∧
      ∀ k d e h, xs[k]? = some d → Inv i xs k e h → ∃ e1, t.put d h e = some e1 ∧ WP b e1 h (Turned Q (Inv i xs (k + 1)))) fun c p h1 => Q (.ex c p) e h1) : WP (forS (bnd a fun x => lift (srcD x)) t b) e h Q := by
  unfold forS
  rw [wp_with, we_bnd]
  refine w.mono (fun d h1 w => ?_) fun _ _ _ x => x
  obtain ⟨i, xs, rfl, l0, i0, keep, hd, step⟩ := w
  rw [we_lift, wo_iff]
  refine ⟨.live i xs.length, h1, by simp only [srcD, l0, Option.map_some], ?_⟩
  show WP (forL (.live i xs.length) t b xs.length 0) e h1 Q
  have go : ∀ n k e h, k + n = xs.length → Inv i xs k e h → WP (forL (.live i xs.length) t b n k) e h Q := by
    intro n
    induction n with
    | zero =>
      intro k e h hk iv
      have l := keep k e h iv
      refine ⟨.next, e, h, ?_, hd e h (by rw [← hk]; exact iv)⟩
      show (if (Src.live i xs.length).done h then some (Fl.next, e, h) else none) = _
      rw [live_done l, if_pos rfl]
    | succ n ih =>
      intro k e h hk iv
      have l := keep k e h iv
      have hlt : k < xs.length := by omega
      obtain ⟨e1, p1, f, e2, h2, q, w⟩ := step k xs[k] e h (List.getElem?_eq_getElem hlt) iv
      have un : forL (.live i xs.length) t b (n + 1) k e h = match b e1 h with
          | some (.next, e2, h2) => forL (.live i xs.length) t b n (k + 1) e2 h2
          | some (.cont, e2, h2) => forL (.live i xs.length) t b n (k + 1) e2 h2
          | some (.brk, e2, h2) => some (.next, e2, h2)
          | r => r := by
        dsimp only [forL]
        rw [live_at k l, List.getElem?_eq_getElem hlt]
        dsimp only
        rw [p1]
        try rfl
      unfold WP
      rw [un, q]
      cases f with
      | next => exact ih (k + 1) e2 h2 (by omega) w
      | cont => exact ih (k + 1) e2 h2 (by omega) w
      | brk => exact ⟨_, _, _, rfl, w⟩
      | ret d => exact ⟨_, _, _, rfl, w⟩
      | ex c p => exact ⟨_, _, _, rfl, w⟩
  exact go xs.length 0 e h1 (by omega) i0
/-- [.. for x in a list that stays as it is] -/
theorem lc_list {vs : List Nat} {a : M D} {t : Tg} {m : M D} {Q : D → DH → Prop} {X : Nat → D → DH → Prop} (Inv : Nat → List D → Nat → Nat → List D → DH → Prop)
    (w : WE a e h (fun d h1 => ∃ i xs, d = .ref i ∧ lstAt h1 i = some xs ∧ xs.length ≤ Z ∧ Inv i xs h1.length 0 [] (h1 ++ [.lst []]) ∧ (∀ k acc hh, Inv i xs h1.length k acc hh → lstAt hh i = some xs) ∧
      (∀ acc h, lstAt h h1.length = some acc → Inv i xs h1.length xs.length acc h → Q (.ref h1.length) h) ∧
      ∀ k d acc h, xs[k]? = some d → lstAt h h1.length = some acc → Inv i xs h1.length k acc h → ∃ e1, t.put d h (wipeE e vs) = some e1 ∧ Elt m e1 h h1.length acc (Inv i xs h1.length (k + 1))) X) : WE (lcM vs (bnd a fun x => lift (srcD x)) t (Dd.ret true) m) e h Q X := by
  unfold lcM
  rw [we_bnd, we_bnd]
  refine w.mono (fun d h1 w => ?_) fun _ _ _ x => x
  obtain ⟨i, xs, rfl, l0, hz, i0, keep, hd, step⟩ := w
  rw [we_lift, wo_iff]
  refine ⟨.live i xs.length, h1, by simp only [srcD, l0, Option.map_some], ?_⟩
  have go : ∀ n k acc h, k + n = xs.length → lstAt h h1.length = some acc → acc.length ≤ k → Inv i xs h1.length k acc h → ∃ h', lcLoop (.live i xs.length) t (Dd.ret true) m h1.length (wipeE e vs) n k h = some h' ∧ ∃ acc, lstAt h' h1.length = some acc ∧ Inv i xs h1.length xs.length acc h' := by
    intro n
    induction n with
    | zero =>
      intro k acc h hk l _ iv
      refine ⟨h, ?_, acc, l, by rw [← hk]; exact iv⟩
      show (if (Src.live i xs.length).done h then some h else none) = _
      rw [live_done (keep _ _ _ iv), if_pos rfl]
    | succ n ih =>
      intro k acc h hk l hl iv
      have hlt : k < xs.length := by omega
      obtain ⟨e1, p1, r, h3, q3, w⟩ := step k xs[k] acc h (List.getElem?_eq_getElem hlt) l iv
      cases r with
      | ex c p => exact w.elim
      | ok x =>
        obtain ⟨w1, w2⟩ := w
        have un : lcLoop (.live i xs.length) t (Dd.ret true) m h1.length (wipeE e vs) (n + 1) k h = lcLoop (.live i xs.length) t (Dd.ret true) m h1.length (wipeE e vs) n (k + 1) (h3.set h1.length (.lst (acc ++ [x]))) := by
          dsimp only [lcLoop]
          rw [live_at k (keep _ _ _ iv), List.getElem?_eq_getElem hlt]
          dsimp only
          rw [p1]
          show (match m e1 h with
            | some (.ok x, h2) => match lstAt h2 h1.length with
              | some acc => if acc.length < Z then lcLoop (.live i xs.length) t (Dd.ret true) m h1.length (wipeE e vs) n (k + 1) (h2.set h1.length (.lst (acc ++ [x]))) else none
              | none => none
            | _ => none) = _
          rw [q3]
          dsimp only
          rw [w1]
          dsimp only
          rw [if_pos (by omega)]
        rw [un]
        exact ih (k + 1) _ _ (by omega) (lst_set w1) (by rw [List.length_append]; exact Nat.succ_le_succ hl) w2
  obtain ⟨h', q, acc, l, iv⟩ := go xs.length 0 [] (h1 ++ [.lst []]) (by omega) lst_new (Nat.le_refl _) i0
  exact ⟨.ok (.ref h1.length), h', by show (lcLoop (.live i xs.length) t (Dd.ret true) m h1.length (wipeE e vs) xs.length 0 (h1 ++ [.lst []])).map _ = _; rw [q]; rfl, hd acc h' l iv⟩
end
end Dk

set_option Elab.async false
set_option linter.all false
set_option maxRecDepth 100000
set_option maxHeartbeats 4000000
namespace Dk
open PySem PySem.Spec PyProof.Rows L2 Dd

/-- what a column is -/
def ColS (d : D) : Prop := ∃ (ns : List D) (k : D) (a b : Int), d = D.tup [.tup ns, k, .int a, .int b]
theorem cols_shape : ∀ (n : Nat) (fs bf : List D) (df rp : Int), FsOk n fs → ∀ d ∈ colsM n fs bf df rp, ColS d
  | 0, _, _, _, _, p, _, _ => p.elim
  | n + 1, fs, bf, df, rp, ⟨p1, p2, p3⟩, d, hd => by
    obtain ⟨f, hf, hd⟩ := List.mem_flatMap.mp (show d ∈ fs.flatMap (colD (colsM n) bf df rp) from hd)
    obtain ⟨i, hi⟩ := List.getElem?_of_mem hf
    obtain ⟨nm, tm, kd, rfl, q2, q3, q4⟩ := p3 i f hi
    rcases q4 with ⟨x, hx, rfl⟩ | ⟨gs, rfl, hg⟩
    · have hd : d ∈ [D.tup [.tup (bf ++ [.str nm]), .str x, .int (df + am tm), .int (rp + bm tm)]] := hd
      rw [List.mem_singleton.mp hd]
      exact ⟨_, _, _, _, rfl⟩
    · exact cols_shape n gs _ _ _ hg d hd
def col0 : D → D
  | .tup (p :: _) => p
  | _ => .non
theorem w4 (n m : Nat) (fs : List D) (h : DH) (p : FsOk n fs) (hn : n ≤ 8) : WC (pg.run (m + n + 1)) 4 [.tup fs] h (fun d h' => d = .ref h.length ∧ lstAt h' h.length = some (colsM n fs [] 0 0) ∧ Grow h h') fun _ _ _ => False := by
  refine wc_of (f := f4) rfl e4 rfl ?_
  unfold b4
  simp only [wp_seq, wp_ret, we_call, we_opN, we_args_cons, we_args_nil, we_var, we_ret]
  refine ⟨.tup fs, rfl, ?_⟩
  rw [wo_iff]
  refine ⟨.tup [], h, rfl, (w5 n m fs [] 0 0 h p (by show 0 + n ≤ 100; omega) hn).mono (fun d h1 w => ?_) fun _ _ _ z => z.elim⟩
  rw [nx_ret, end_ret]
  exact w
theorem w6 (n m : Nat) (fs : List D) (h : DH) (p : FsOk n fs) (hn : n ≤ 8) : WC (pg.run (m + n + 2)) 6 [.tup fs] h (fun d h' => (∃ i, d = .ref i ∧ lstAt h' i = some ((colsM n fs [] 0 0).map col0)) ∧ Grow h h') fun _ _ _ => False := by
  refine wc_of (f := f6) rfl e6 rfl ?_
  unfold b6
  rw [wp_seq, wp_ret]
  refine lc_list (fun i xs L k acc hh => L = h.length + 0 + (L - h.length) ∧ h.length ≤ L ∧ i < L ∧ Grow h hh ∧ lstAt hh i = some xs ∧ acc = (xs.take k).map col0) ?_
  simp only [we_call, we_args_cons, we_args_nil, we_var]
  refine ⟨.tup fs, rfl, (w4 n m fs h p hn).mono (fun d h1 w => ?_) fun _ _ _ z => z.elim⟩
  obtain ⟨rfl, l, g⟩ := w
  have clen := cols_len n fs [] 0 0 p
  have pw : 3 ^ n ≤ 3 ^ 8 := Nat.pow_le_pow_right (by decide) hn
  have pz : 3 ^ 8 = 6561 := rfl
  have zz : Z = 16777216 := rfl
  have hlt := (List.getElem?_eq_some_iff.mp (lstAt_some l)).1
  refine ⟨_, _, rfl, l, by omega, ⟨by omega, by omega, hlt, g.trans (Grow.one _ _), (Grow.one h1 _).lst l, rfl⟩, fun k acc hh iv => iv.2.2.2.2.1, ?_, ?_⟩
  · rintro acc hh la ⟨_, _, _, g', l', rfl⟩
    rw [nx_ret, end_ret]
    rw [List.take_length] at la
    exact ⟨⟨_, rfl, la⟩, g'⟩
  · rintro k d acc hh hd la ⟨_, hL, hi, g', l', rfl⟩
    obtain ⟨ns, kk, a, b, rfl⟩ := cols_shape n fs [] 0 0 p d (List.mem_of_getElem? hd)
    refine ⟨[some (.tup fs), some (.tup [.tup ns, kk, .int a, .int b])], rfl, ?_⟩
    unfold Elt
    simp only [we_op2, we_var, we_ret]
    refine ⟨_, rfl, ?_⟩
    rw [wo_iff]
    refine ⟨.tup ns, hh, rfl, la, by omega, hL, hi, g'.set _ hL, ?_, ?_⟩
    · have := lstAt_some l'
      unfold lstAt
      rw [List.getElem?_set_ne (by omega), this]
    · rw [take_snoc hd, List.map_append]
      rfl
end Dk

set_option Elab.async false
set_option linter.all false
set_option maxRecDepth 100000
set_option maxHeartbeats 4000000
namespace Dk
open PySem PySem.Spec PyProof.Rows L2 Dd

def intB : D → Bool
  | .int i => leI (-2147483648) i && leI i 2147483647
  | _ => false
def boolB : D → Bool
  | .bl _ => true
  | _ => false
theorem w11 (n : Nat) (d : D) (h : DH) (hd : plainV d = true) : WC (pg.run (n + 1)) 11 [d] h (fun r h' => r = .bl (intB d) ∧ h' = h) fun _ _ _ => False := by
  refine wc_of (f := f11) rfl e11 rfl ?_
  cases d with
  | int i =>
    unfold b11
    simp only [wp_seq, wp_if, we_orT, we_notT, we_tru, we_op1, we_var, wo_iff]
    refine ⟨_, rfl, .bl true, h, rfl, true, rfl, ?_⟩
    rw [if_neg (by decide)]
    refine ⟨_, rfl, .bl false, h, rfl, false, rfl, ?_⟩
    rw [if_neg (by decide), wp_skip, nx_next]
    simp only [wp_seq, wp_ret, we_chn, we_var, we_ret, wo_iff]
    refine ⟨_, rfl, .bl (leI (-2147483648) i), h, rfl, _, rfl, ?_⟩
    cases h1 : leI (-2147483648) i with
    | true =>
      rw [if_pos rfl]
      refine ⟨.bl (leI i 2147483647), h, rfl, ?_⟩
      rw [nx_ret, end_ret]
      refine ⟨?_, rfl⟩
      show D.bl _ = D.bl (leI (-2147483648) i && leI i 2147483647)
      rw [h1, Bool.true_and]
    | false =>
      rw [if_neg (by decide), nx_ret, end_ret]
      refine ⟨?_, rfl⟩
      show D.bl _ = D.bl (leI (-2147483648) i && leI i 2147483647)
      rw [h1, Bool.false_and]
  | bl b =>
    unfold b11
    simp only [wp_seq, wp_if, we_orT, we_notT, we_tru, we_op1, we_var, wo_iff]
    refine ⟨_, rfl, .bl true, h, rfl, true, rfl, ?_⟩
    rw [if_neg (by decide)]
    refine ⟨_, rfl, .bl true, h, rfl, true, rfl, ?_⟩
    rw [if_pos rfl]
    simp only [wp_seq, wp_ret, we_ret, nx_ret, end_ret]
    exact ⟨rfl, trivial⟩
  | non =>
    unfold b11
    simp only [wp_seq, wp_if, we_orT, we_notT, we_tru, we_op1, we_var, wo_iff]
    refine ⟨_, rfl, .bl false, h, rfl, false, rfl, ?_⟩
    rw [if_pos (by decide)]
    simp only [wp_seq, wp_ret, we_ret, nx_ret, end_ret, if_true]
    exact ⟨rfl, trivial⟩
  | str b =>
    unfold b11
    simp only [wp_seq, wp_if, we_orT, we_notT, we_tru, we_op1, we_var, wo_iff]
    refine ⟨_, rfl, .bl false, h, rfl, false, rfl, ?_⟩
    rw [if_pos (by decide)]
    simp only [wp_seq, wp_ret, we_ret, nx_ret, end_ret, if_true]
    exact ⟨rfl, trivial⟩
  | tup b =>
    unfold b11
    simp only [wp_seq, wp_if, we_orT, we_notT, we_tru, we_op1, we_var, wo_iff]
    refine ⟨_, rfl, .bl false, h, rfl, false, rfl, ?_⟩
    rw [if_pos (by decide)]
    simp only [wp_seq, wp_ret, we_ret, nx_ret, end_ret, if_true]
    exact ⟨rfl, trivial⟩
  | _ => cases hd
end Dk

set_option Elab.async false
set_option linter.all false
set_option maxRecDepth 100000
set_option maxHeartbeats 4000000
namespace Dk
open PySem PySem.Spec PyProof.Rows L2 Dd

/-- a sign of a text, raw -/
def textC (c : Nat) : Bool := if (!decide ([c] < (Str.ofString " ").cps.toList)) then (if (!decide ((Str.ofString "~").cps.toList < [c])) then !decide ((c : Int) = 37) else false) else false
def textB (x : Str) : Bool := !ltI 60 x.length && x.cps.toList.all textC
def textD : D → Bool
  | .str x => textB x
  | _ => false
theorem w12 (n : Nat) (d : D) (h : DH) (hd : plainV d = true) : WC (pg.run (n + 1)) 12 [d] h (fun r h' => r = .bl (textD d) ∧ Grow h h') fun _ _ _ => False := by
  refine wc_of (f := f12) rfl e12 rfl ?_
  have other : ∀ {nm : String}, tyName d h = some nm → isTy "str" nm = false → textD d = false → WP (b12 (pg.run n)) (startD f12.N [d]) h (End (fun r h' => r = .bl (textD d) ∧ Grow h h') fun _ _ _ => False) := by
    intro nm hn h1 h2
    unfold b12
    simp only [wp_seq, wp_if, we_orT, we_notT, we_tru, we_op1, we_var, wo_iff]
    refine ⟨d, rfl, .bl false, h, by unfold isinD; rw [hn, Option.map_some, h1], false, rfl, ?_⟩
    rw [if_pos (by decide)]
    simp only [wp_seq, wp_ret, we_ret, nx_ret, end_ret, if_true]
    exact ⟨by rw [h2], Grow.refl h⟩
  cases d with
  | str x =>
    have hx : x.length ≤ 1000 := of_decide_eq_true hd
    have z : x.length ≤ Z := Nat.le_trans hx (by decide)
    have ln : bltD .len [.str x] h = some (.int x.length, h) := by simp only [bltD, if_pos z]
    unfold b12
    rw [wp_seq, wp_if]
    simp only [we_orT, we_notT, we_tru, we_op1, we_op2, we_opN, we_args_cons, we_args_nil, we_tst, we_var, we_ret]
    refine ⟨_, rfl, ?_⟩
    rw [wo_iff]
    refine ⟨.bl true, h, rfl, true, rfl, ?_⟩
    rw [if_neg (by decide)]
    refine ⟨_, rfl, ?_⟩
    rw [wo_iff]
    refine ⟨_, _, ln, ?_⟩
    rw [wo_iff]
    refine ⟨.bl (ltI 60 x.length), h, rfl, _, rfl, ?_⟩
    cases h1 : ltI 60 x.length with
    | true =>
      rw [if_pos rfl]
      simp only [wp_seq, wp_ret, we_ret, nx_ret, end_ret]
      refine ⟨?_, Grow.refl h⟩
      show D.bl false = D.bl (!ltI 60 x.length && x.cps.toList.all textC)
      rw [h1]
      rfl
    | false =>
      rw [if_neg (by decide), wp_skip, nx_next, wp_seq, wp_ret]
      refine w_all (x := x) (g := textC) (fun Q q => by rw [we_var]; exact ⟨_, rfl, q⟩) hx (fun c hh _ => ⟨_, rfl, fun Q q => ?_⟩) fun h' g => ?_
      · simp only [we_andV, we_chn, we_op2, we_opN, we_args_cons, we_args_nil, we_var, we_ret, wo_iff]
        unfold textC at q
        refine ⟨_, rfl, .bl (!decide ([c] < (Str.ofString " ").cps.toList)), hh, rfl, _, rfl, ?_⟩
        split at q
        · rename_i k1
          rw [if_pos k1]
          refine ⟨.bl (!decide ((Str.ofString "~").cps.toList < [c])), hh, rfl, _, rfl, ?_⟩
          split at q
          · rename_i k2
            rw [if_pos k2]
            exact ⟨_, rfl, .int c, hh, rfl, .bl (!decide ((c : Int) = 37)), hh, rfl, q⟩
          · rename_i k2
            rw [if_neg k2]
            exact q
        · rename_i k1
          rw [if_neg k1]
          exact ⟨false, rfl, q⟩
      · rw [nx_ret, end_ret]
        refine ⟨?_, g⟩
        show D.bl _ = D.bl (!ltI 60 x.length && x.cps.toList.all textC)
        rw [h1]
        rfl
  | non => exact other (nm := "NoneType") rfl rfl rfl
  | bl b => exact other (nm := "bool") rfl rfl rfl
  | int i => exact other (nm := "int") rfl rfl rfl
  | tup xs => exact other (nm := "tuple") rfl rfl rfl
  | _ => cases hd
end Dk

set_option Elab.async false
set_option linter.all false
set_option maxRecDepth 100000
set_option maxHeartbeats 4000000
namespace Dk
open PySem PySem.Spec PyProof.Rows L2 Dd

def valB (k : Str) (d : D) : Bool := if k = "int" then intB d else if k = "bool" then boolB d else (decide (k = "text") && textD d)
theorem w10 (n : Nat) (k : Str) (d : D) (h : DH) (hd : plainV d = true) : WC (pg.run (n + 2)) 10 [.str k, d] h (fun r h' => r = .bl (valB k d) ∧ Grow h h') fun _ _ _ => False := by
  refine wc_of (f := f10) rfl e10 rfl ?_
  unfold b10
  simp only [wp_seq, wp_if, we_tst, we_op2, we_var, we_ret, wo_iff]
  refine ⟨_, rfl, .bl (decide (k = "int")), h, rfl, _, rfl, ?_⟩
  by_cases h1 : k = "int"
  · rw [decide_eq_true h1, if_pos rfl]
    simp only [wp_seq, wp_ret, we_call, we_args_cons, we_args_nil, we_var]
    refine ⟨_, rfl, (w11 n d h hd).mono (fun r h' w => ?_) fun _ _ _ z => z.elim⟩
    rw [nx_ret, nx_ret, end_ret]
    exact ⟨by rw [w.1, valB, if_pos h1], by rw [w.2]; exact Grow.refl h⟩
  · rw [decide_eq_false h1, if_neg (by decide), wp_skip, nx_next]
    simp only [wp_seq, wp_if, we_tst, we_op2, we_var, we_ret, wo_iff]
    refine ⟨_, rfl, .bl (decide (k = "bool")), h, rfl, _, rfl, ?_⟩
    by_cases h2 : k = "bool"
    · rw [decide_eq_true h2, if_pos rfl]
      simp only [wp_seq, wp_ret, we_op1, we_var, wo_iff]
      refine ⟨_, rfl, .bl (boolB d), h, ?_, ?_⟩
      · cases d <;> first | rfl | cases hd
      · rw [nx_ret, nx_ret, end_ret]
        exact ⟨by rw [valB, if_neg h1, if_pos h2], Grow.refl h⟩
    · rw [decide_eq_false h2, if_neg (by decide), wp_skip, nx_next]
      simp only [wp_seq, wp_ret, we_andV, we_op2, we_call, we_args_cons, we_args_nil, we_var, we_ret, wo_iff]
      refine ⟨_, rfl, .bl (decide (k = "text")), h, rfl, _, rfl, ?_⟩
      by_cases h3 : k = "text"
      · rw [decide_eq_true h3, if_pos rfl]
        refine ⟨_, rfl, (w12 n d h hd).mono (fun r h' w => ?_) fun _ _ _ z => z.elim⟩
        rw [nx_ret, end_ret]
        exact ⟨by rw [w.1, valB, if_neg h1, if_neg h2, decide_eq_true h3, Bool.true_and], w.2⟩
      · rw [decide_eq_false h3, if_neg (by decide), nx_ret, end_ret]
        exact ⟨by rw [valB, if_neg h1, if_neg h2, decide_eq_false h3, Bool.false_and], Grow.refl h⟩
end Dk

set_option Elab.async false
set_option linter.all false
set_option maxRecDepth 100000
set_option maxHeartbeats 4000000
namespace Dk
open PySem PySem.Spec PyProof.Rows L2 Dd

/-! ### records: what their check answers -/
def LsRes {α : Type} (P : α → Option Str → Prop) : List α → Option Str → Prop
  | [], r => r = none
  | x :: xs, r => (∃ w, r = some w ∧ P x (some w)) ∨ (P x none ∧ LsRes P xs r)
theorem LsRes.mono {α : Type} {P P' : α → Option Str → Prop} (hp : ∀ x r, P x r → P' x r) : ∀ {xs : List α} {r : Option Str}, LsRes P xs r → LsRes P' xs r
  | [], _, h => h
  | x :: xs, r, h => by
    rcases h with ⟨w, e, q⟩ | ⟨q, t⟩
    · exact .inl ⟨w, e, hp _ _ q⟩
    · exact .inr ⟨hp _ _ q, t.mono hp⟩
def NoTup (h : DH) (v : D) : Prop := (plainV v = true ∧ ∀ xs, v ≠ .tup xs) ∨ ∃ i ys, v = .ref i ∧ lstAt h i = some ys
theorem NoTup.grow {h h' : DH} {v : D} (g : Grow h h') (q : NoTup h v) : NoTup h' v := by
  rcases q with q | ⟨i, ys, e, l⟩
  · exact .inl q
  · exact .inr ⟨i, ys, e, g.lst l⟩
theorem NoTup.isin {h : DH} {v : D} (q : NoTup h v) : isinD "tuple" v h = some (.bl false, h) := by
  rcases q with ⟨q1, q2⟩ | ⟨i, ys, rfl, l⟩
  · cases v with
    | tup xs => exact absurd rfl (q2 xs)
    | non => rfl
    | bl b => rfl
    | int i => rfl
    | str x => rfl
    | _ => cases q1
  · simp only [isinD, tyName, lstAt_some l]
    rfl
def VlRes (rec : List D → D → Option Str → Prop) (kd v : D) (r : Option Str) : Prop := match kd with
  | .tup gs => rec gs v r
  | .str k => plainV v = true ∧ r = (if valB k v then none else some "value")
  | _ => False
def FdRes (rec : List D → D → Option Str → Prop) (h : DH) (f v : D) (r : Option Str) : Prop := ∃ (nm tm : Str) (kd : D), f = D.tup [.str nm, .str tm, kd] ∧
  ((tm = "many" ∧ ((NoTup h v ∧ r = some "many") ∨ ∃ xs, v = .tup xs ∧ LsRes (VlRes rec kd) xs r)) ∨ (tm ≠ "many" ∧ (tm = "one" ∨ v ≠ .non) ∧ VlRes rec kd v r) ∨ (tm ≠ "many" ∧ tm ≠ "one" ∧ v = .non ∧ r = none))
def RcRes : Nat → DH → List D → D → Option Str → Prop
  | 0, _, _, _, _ => False
  | n + 1, h, fs, v, r => (r = some "fields" ∧ (NoTup h v ∨ ∃ vs, v = .tup vs ∧ vs.length ≠ fs.length)) ∨ ∃ vs, v = .tup vs ∧ vs.length = fs.length ∧ LsRes (fun (p : D × D) r => FdRes (RcRes n h) h p.1 p.2 r) (fs.zip vs) r
theorem VlRes.mono {rec rec' : List D → D → Option Str → Prop} (hr : ∀ gs v r, rec gs v r → rec' gs v r) {kd v : D} {r : Option Str} (q : VlRes rec kd v r) : VlRes rec' kd v r := by
  cases kd with
  | tup gs => exact hr _ _ _ q
  | str k => exact q
  | _ => exact q.elim
theorem FdRes.mono {rec rec' : List D → D → Option Str → Prop} (hr : ∀ gs v r, rec gs v r → rec' gs v r) {h h' : DH} (g : Grow h h') {f v : D} {r : Option Str} (q : FdRes rec h f v r) : FdRes rec' h' f v r := by
  obtain ⟨nm, tm, kd, rfl, q⟩ := q
  refine ⟨nm, tm, kd, rfl, ?_⟩
  rcases q with ⟨q1, ⟨q2, q3⟩ | ⟨xs, q2, q3⟩⟩ | ⟨q1, q2, q3⟩ | q
  · exact .inl ⟨q1, .inl ⟨q2.grow g, q3⟩⟩
  · exact .inl ⟨q1, .inr ⟨xs, q2, q3.mono fun _ _ z => z.mono hr⟩⟩
  · exact .inr (.inl ⟨q1, q2, q3.mono hr⟩)
  · exact .inr (.inr q)
theorem RcRes.grow : ∀ {n : Nat} {h h' : DH} {fs : List D} {v : D} {r : Option Str}, Grow h h' → RcRes n h fs v r → RcRes n h' fs v r
  | 0, _, _, _, _, _, _, q => q
  | n + 1, h, h', fs, v, r, g, q => by
    rcases q with ⟨q1, q2 | q2⟩ | ⟨vs, q1, q2, q3⟩
    · exact .inl ⟨q1, .inl (q2.grow g)⟩
    · exact .inl ⟨q1, .inr q2⟩
    · exact .inr ⟨vs, q1, q2, q3.mono fun _ _ z => z.mono (fun _ _ _ z => z.grow g) g⟩
/-- raised: class 1 -/
def ChkR (h : DH) (r : Option Str) : Nat → D → DH → Prop := fun c p h' => ∃ w, r = some w ∧ c = 1 ∧ p = .str w ∧ Grow h h'
theorem w15 {k : Nat} {rec : List D → D → Option Str → Prop} {kd v : D} {r : Option Str} {h : DH} (hrec : ∀ gs, kd = .tup gs → rec gs v r → WC (pg.run (k + 2)) 13 [.tup gs, v] h (Chk h r) (ChkR h r)) (q : VlRes rec kd v r) :
    WC (pg.run (k + 3)) 15 [kd, v] h (Chk h r) (ChkR h r) := by
  refine wc_of (f := f15) rfl e15 rfl ?_
  cases kd with
  | tup gs =>
    simp [b15, startD, f15, Dd.we_ret, Dd.we_bnd, Dd.we_lift, Dd.we_var, Dd.we_args_nil, Dd.we_args_cons, Dd.we_opN, Dd.we_op1, Dd.we_op2, Dd.we_call, Dd.we_tst, Dd.we_tru, Dd.we_notT, Dd.we_andT, Dd.we_orT, Dd.we_notV, Dd.we_andV, Dd.we_orV, Dd.we_ite, Dd.we_chn, Dd.we_mth, Dd.we_slice, Dd.we_intOf, Dd.nx_next, Dd.nx_ret, Dd.nx_ex, Dd.td_next, Dd.td_cont, Dd.td_brk, Dd.td_ret, Dd.td_ex, Dd.nx_brk, Dd.nx_cont, Dd.wp_skip, Dd.wp_seq, Dd.wp_drop, Dd.wp_ret, Dd.wp_asg, Dd.wp_if, Dd.wp_raise, Dd.wp_set, Dd.below_iff, Dd.ltI_eq, Dd.leI_eq, Dd.WO, Dd.Tg.put, Dd.setAll, Dd.unpk, Dd.isinD, Dd.tyName, Dd.isTy, Dd.truD, Dd.mthOk, Dd.mthD, Dd.bltD, Dd.addD, Dd.subD, Dd.fdivD, Dd.modD, Dd.negD, Dd.ltD, Dd.leD, Dd.gtD, Dd.geD, Dd.ixD, Dd.pureO, Dd.lstM, Dd.tupM, Dd.newOb]
    refine (hrec gs rfl q).mono (fun d h1 w => ?_) fun c p h1 w => ?_
    · simp [Dd.we_ret, Dd.we_bnd, Dd.we_lift, Dd.we_var, Dd.we_args_nil, Dd.we_args_cons, Dd.we_opN, Dd.we_op1, Dd.we_op2, Dd.we_call, Dd.we_tst, Dd.we_tru, Dd.we_notT, Dd.we_andT, Dd.we_orT, Dd.we_notV, Dd.we_andV, Dd.we_orV, Dd.we_ite, Dd.we_chn, Dd.we_mth, Dd.we_slice, Dd.we_intOf, Dd.nx_next, Dd.nx_ret, Dd.nx_ex, Dd.td_next, Dd.td_cont, Dd.td_brk, Dd.td_ret, Dd.td_ex, Dd.nx_brk, Dd.nx_cont, Dd.wp_skip, Dd.wp_seq, Dd.wp_drop, Dd.wp_ret, Dd.wp_asg, Dd.wp_if, Dd.wp_raise, Dd.wp_set, Dd.below_iff, Dd.ltI_eq, Dd.leI_eq, Dd.WO, Dd.Tg.put, Dd.setAll, Dd.unpk, Dd.isinD, Dd.tyName, Dd.isTy, Dd.truD, Dd.mthOk, Dd.mthD, Dd.bltD, Dd.addD, Dd.subD, Dd.fdivD, Dd.modD, Dd.negD, Dd.ltD, Dd.leD, Dd.gtD, Dd.geD, Dd.ixD, Dd.pureO, Dd.lstM, Dd.tupM, Dd.newOb, end_next]
      exact ⟨w.1, rfl, w.2.2⟩
    · exact w
  | str kk =>
    obtain ⟨q1, q2⟩ := q
    simp [b15, startD, f15, Dd.we_ret, Dd.we_bnd, Dd.we_lift, Dd.we_var, Dd.we_args_nil, Dd.we_args_cons, Dd.we_opN, Dd.we_op1, Dd.we_op2, Dd.we_call, Dd.we_tst, Dd.we_tru, Dd.we_notT, Dd.we_andT, Dd.we_orT, Dd.we_notV, Dd.we_andV, Dd.we_orV, Dd.we_ite, Dd.we_chn, Dd.we_mth, Dd.we_slice, Dd.we_intOf, Dd.nx_next, Dd.nx_ret, Dd.nx_ex, Dd.td_next, Dd.td_cont, Dd.td_brk, Dd.td_ret, Dd.td_ex, Dd.nx_brk, Dd.nx_cont, Dd.wp_skip, Dd.wp_seq, Dd.wp_drop, Dd.wp_ret, Dd.wp_asg, Dd.wp_if, Dd.wp_raise, Dd.wp_set, Dd.below_iff, Dd.ltI_eq, Dd.leI_eq, Dd.WO, Dd.Tg.put, Dd.setAll, Dd.unpk, Dd.isinD, Dd.tyName, Dd.isTy, Dd.truD, Dd.mthOk, Dd.mthD, Dd.bltD, Dd.addD, Dd.subD, Dd.fdivD, Dd.modD, Dd.negD, Dd.ltD, Dd.leD, Dd.gtD, Dd.geD, Dd.ixD, Dd.pureO, Dd.lstM, Dd.tupM, Dd.newOb]
    refine (w10 k kk v h q1).mono (fun d h1 w => ?_) fun _ _ _ z => z.elim
    obtain ⟨rfl, g⟩ := w
    cases hb : valB kk v with
    | true =>
      rw [hb] at q2
      simp [Dd.we_ret, Dd.we_bnd, Dd.we_lift, Dd.we_var, Dd.we_args_nil, Dd.we_args_cons, Dd.we_opN, Dd.we_op1, Dd.we_op2, Dd.we_call, Dd.we_tst, Dd.we_tru, Dd.we_notT, Dd.we_andT, Dd.we_orT, Dd.we_notV, Dd.we_andV, Dd.we_orV, Dd.we_ite, Dd.we_chn, Dd.we_mth, Dd.we_slice, Dd.we_intOf, Dd.nx_next, Dd.nx_ret, Dd.nx_ex, Dd.td_next, Dd.td_cont, Dd.td_brk, Dd.td_ret, Dd.td_ex, Dd.nx_brk, Dd.nx_cont, Dd.wp_skip, Dd.wp_seq, Dd.wp_drop, Dd.wp_ret, Dd.wp_asg, Dd.wp_if, Dd.wp_raise, Dd.wp_set, Dd.below_iff, Dd.ltI_eq, Dd.leI_eq, Dd.WO, Dd.Tg.put, Dd.setAll, Dd.unpk, Dd.isinD, Dd.tyName, Dd.isTy, Dd.truD, Dd.mthOk, Dd.mthD, Dd.bltD, Dd.addD, Dd.subD, Dd.fdivD, Dd.modD, Dd.negD, Dd.ltD, Dd.leD, Dd.gtD, Dd.geD, Dd.ixD, Dd.pureO, Dd.lstM, Dd.tupM, Dd.newOb, end_next]
      exact ⟨q2, rfl, g⟩
    | false =>
      rw [hb] at q2
      simp [Dd.we_ret, Dd.we_bnd, Dd.we_lift, Dd.we_var, Dd.we_args_nil, Dd.we_args_cons, Dd.we_opN, Dd.we_op1, Dd.we_op2, Dd.we_call, Dd.we_tst, Dd.we_tru, Dd.we_notT, Dd.we_andT, Dd.we_orT, Dd.we_notV, Dd.we_andV, Dd.we_orV, Dd.we_ite, Dd.we_chn, Dd.we_mth, Dd.we_slice, Dd.we_intOf, Dd.nx_next, Dd.nx_ret, Dd.nx_ex, Dd.td_next, Dd.td_cont, Dd.td_brk, Dd.td_ret, Dd.td_ex, Dd.nx_brk, Dd.nx_cont, Dd.wp_skip, Dd.wp_seq, Dd.wp_drop, Dd.wp_ret, Dd.wp_asg, Dd.wp_if, Dd.wp_raise, Dd.wp_set, Dd.below_iff, Dd.ltI_eq, Dd.leI_eq, Dd.WO, Dd.Tg.put, Dd.setAll, Dd.unpk, Dd.isinD, Dd.tyName, Dd.isTy, Dd.truD, Dd.mthOk, Dd.mthD, Dd.bltD, Dd.addD, Dd.subD, Dd.fdivD, Dd.modD, Dd.negD, Dd.ltD, Dd.leD, Dd.gtD, Dd.geD, Dd.ixD, Dd.pureO, Dd.lstM, Dd.tupM, Dd.newOb, end_ex]
      exact ⟨_, q2, rfl, rfl, g⟩
  | _ => exact q.elim
theorem eq_ss (a b : Str) (h : DH) : eqD (.str a) (.str b) h = some (.bl (decide (a = b)), h) := rfl
theorem ne_ss (a b : Str) (h : DH) : neD (.str a) (.str b) h = some (.bl (!decide (a = b)), h) := rfl
theorem eq_ii (a b : Int) (h : DH) : eqD (.int a) (.int b) h = some (.bl (decide (a = b)), h) := rfl
theorem ne_ii (a b : Int) (h : DH) : neD (.int a) (.int b) h = some (.bl (!decide (a = b)), h) := rfl
theorem sn_one_maybe : ¬ (Str.ofString "one" = Str.ofString "maybe") := by decide +kernel
theorem sn_one_many : ¬ (Str.ofString "one" = Str.ofString "many") := by decide +kernel
theorem sn_maybe_one : ¬ (Str.ofString "maybe" = Str.ofString "one") := by decide +kernel
theorem sn_maybe_many : ¬ (Str.ofString "maybe" = Str.ofString "many") := by decide +kernel
theorem sn_many_one : ¬ (Str.ofString "many" = Str.ofString "one") := by decide +kernel
theorem sn_many_maybe : ¬ (Str.ofString "many" = Str.ofString "maybe") := by decide +kernel
theorem sn_int_bool : ¬ (Str.ofString "int" = Str.ofString "bool") := by decide +kernel
theorem sn_int_text : ¬ (Str.ofString "int" = Str.ofString "text") := by decide +kernel
theorem sn_bool_int : ¬ (Str.ofString "bool" = Str.ofString "int") := by decide +kernel
theorem sn_bool_text : ¬ (Str.ofString "bool" = Str.ofString "text") := by decide +kernel
theorem sn_text_int : ¬ (Str.ofString "text" = Str.ofString "int") := by decide +kernel
theorem sn_text_bool : ¬ (Str.ofString "text" = Str.ofString "bool") := by decide +kernel
end Dk

set_option Elab.async false
set_option linter.all false
set_option maxRecDepth 100000
set_option maxHeartbeats 4000000
namespace Dk
open PySem PySem.Spec PyProof.Rows L2 Dd

theorem for_zip {e : DE} {h : DH} {Q : Fl → DE → DH → Prop} {a b : M D} {t : Tg} {m : MS} (Inv : Nat → DE → DH → Prop)
    (w : WE a e h (fun x h1 => WE b e h1 (fun y h2 => ∃ xs ys, x = .tup xs ∧ y = .tup ys ∧ Inv 0 e h2 ∧ (∀ e h, Inv (xs.zip ys).length e h → Q .next e h) ∧
      ∀ k p e h, (xs.zip ys)[k]? = some p → Inv k e h → ∃ e1, t.put (.tup [p.1, p.2]) h e = some e1 ∧ WP m e1 h (Turned Q (Inv (k + 1)))) fun c p h1 => Q (.ex c p) e h1) fun c p h1 => Q (.ex c p) e h1) :
    WP (forS (bnd a fun x => bnd b fun y => lift (zipD x y)) t m) e h Q := by
  refine wp_for ?_
  rw [we_bnd]
  refine w.mono (fun x h1 w => ?_) fun _ _ _ x => x
  rw [we_bnd]
  refine w.mono (fun y h2 w => ?_) fun _ _ _ x => x
  obtain ⟨xs, ys, rfl, rfl, i0, hd, step⟩ := w
  rw [we_lift, wo_iff]
  refine ⟨_, _, rfl, _, rfl, Inv, i0, fun e h i => hd e h (by rw [List.length_map] at i; exact i), fun k d e h hk i => ?_⟩
  rw [List.getElem?_map] at hk
  obtain ⟨p, e1, rfl⟩ := Dd.map_some hk
  obtain ⟨e2, p1, q⟩ := step k p e h e1 i
  exact ⟨e2, p1, q.mono fun f e h z => td_iff.mp z⟩
theorem isNot_non (v : D) (h : DH) : isNotD v .non h = some (.bl (!isNonD v), h) := by
  unfold isNotD isD
  cases v <;> rfl
theorem drop_cons {α : Type} {xs : List α} {k : Nat} {x : α} (h : xs[k]? = some x) : xs.drop k = x :: xs.drop (k + 1) := by
  obtain ⟨hk, e⟩ := List.getElem?_eq_some_iff.mp h
  rw [← e]
  exact List.drop_eq_getElem_cons hk
theorem w14 {k : Nat} {rec : List D → D → Option Str → Prop} {f v : D} {r : Option Str} {h : DH} (hrec : ∀ gs v r h', Grow h h' → rec gs v r → WC (pg.run (k + 2)) 13 [.tup gs, v] h' (Chk h' r) (ChkR h' r)) {nm tm : Str} {kd : D} (hf : f = D.tup [.str nm, .str tm, kd]) (q : FdRes rec h f v r) :
    WC (pg.run (k + 4)) 14 [.str tm, kd, v] h (Chk h r) (ChkR h r) := by
  obtain ⟨nm', tm', kd', e, q⟩ := q
  subst hf
  cases e
  refine wc_of (f := f14) rfl e14 rfl ?_
  rcases q with ⟨q1, ⟨q2, q3⟩ | ⟨xs, q2, q3⟩⟩ | ⟨q1, q2, q3⟩ | ⟨q1, q2, q3, q4⟩
  · have is := q2.isin
    unfold b14
    simp [startD, f14, Dd.we_ret, Dd.we_bnd, Dd.we_lift, Dd.we_var, Dd.we_args_nil, Dd.we_args_cons, Dd.we_opN, Dd.we_op1, Dd.we_op2, Dd.we_call, Dd.we_tst, Dd.we_tru, Dd.we_notT, Dd.we_andT, Dd.we_orT, Dd.we_notV, Dd.we_andV, Dd.we_orV, Dd.we_ite, Dd.we_chn, Dd.we_mth, Dd.we_slice, Dd.we_intOf, Dd.nx_next, Dd.nx_ret, Dd.nx_ex, Dd.td_next, Dd.td_cont, Dd.td_brk, Dd.td_ret, Dd.td_ex, Dd.nx_brk, Dd.nx_cont, Dd.wp_skip, Dd.wp_seq, Dd.wp_drop, Dd.wp_ret, Dd.wp_asg, Dd.wp_if, Dd.wp_raise, Dd.wp_set, WO, Dk.eq_ss, Dk.ne_ss, Dk.eq_ii, Dk.ne_ii, Dk.sn_one_maybe, Dk.sn_one_many, Dk.sn_maybe_one, Dk.sn_maybe_many, Dk.sn_many_one, Dk.sn_many_maybe, Dk.sn_int_bool, Dk.sn_int_text, Dk.sn_bool_int, Dk.sn_bool_text, Dk.sn_text_int, Dk.sn_text_bool, q1, is, truD, end_ex]
    exact ⟨_, q3, rfl, rfl, Grow.refl h⟩
  · subst q2
    unfold b14
    simp [startD, f14, Dd.we_ret, Dd.we_bnd, Dd.we_lift, Dd.we_var, Dd.we_args_nil, Dd.we_args_cons, Dd.we_opN, Dd.we_op1, Dd.we_op2, Dd.we_call, Dd.we_tst, Dd.we_tru, Dd.we_notT, Dd.we_andT, Dd.we_orT, Dd.we_notV, Dd.we_andV, Dd.we_orV, Dd.we_ite, Dd.we_chn, Dd.we_mth, Dd.we_slice, Dd.we_intOf, Dd.nx_next, Dd.nx_ret, Dd.nx_ex, Dd.td_next, Dd.td_cont, Dd.td_brk, Dd.td_ret, Dd.td_ex, Dd.nx_brk, Dd.nx_cont, Dd.wp_skip, Dd.wp_seq, Dd.wp_drop, Dd.wp_ret, Dd.wp_asg, Dd.wp_if, Dd.wp_raise, Dd.wp_set, WO, Dk.eq_ss, Dk.ne_ss, Dk.eq_ii, Dk.ne_ii, Dk.sn_one_maybe, Dk.sn_one_many, Dk.sn_maybe_one, Dk.sn_maybe_many, Dk.sn_many_one, Dk.sn_many_maybe, Dk.sn_int_bool, Dk.sn_int_text, Dk.sn_bool_int, Dk.sn_bool_text, Dk.sn_text_int, Dk.sn_text_bool, q1, isinD, tyName, isTy, truD]
    refine for_in (fun k e hh => (∃ x, e = [some (.str "many"), some kd, some (.tup xs), x]) ∧ Grow h hh ∧ LsRes (VlRes rec kd) (xs.drop k) r) ?_
    rw [we_var]
    refine ⟨_, rfl, xs, rfl, ⟨⟨_, rfl⟩, Grow.refl h, q3⟩, ?_, ?_⟩
    · rintro e hh ⟨_, g, z⟩
      rw [List.drop_length] at z
      simp [Dd.we_ret, Dd.we_bnd, Dd.we_lift, Dd.we_var, Dd.we_args_nil, Dd.we_args_cons, Dd.we_opN, Dd.we_op1, Dd.we_op2, Dd.we_call, Dd.we_tst, Dd.we_tru, Dd.we_notT, Dd.we_andT, Dd.we_orT, Dd.we_notV, Dd.we_andV, Dd.we_orV, Dd.we_ite, Dd.we_chn, Dd.we_mth, Dd.we_slice, Dd.we_intOf, Dd.nx_next, Dd.nx_ret, Dd.nx_ex, Dd.td_next, Dd.td_cont, Dd.td_brk, Dd.td_ret, Dd.td_ex, Dd.nx_brk, Dd.nx_cont, Dd.wp_skip, Dd.wp_seq, Dd.wp_drop, Dd.wp_ret, Dd.wp_asg, Dd.wp_if, Dd.wp_raise, Dd.wp_set, end_next]
      exact ⟨z, rfl, g⟩
    · rintro j d e hh hd ⟨⟨x, rfl⟩, g, z⟩
      refine ⟨_, rfl, ?_⟩
      rw [drop_cons hd] at z
      simp [Dd.we_ret, Dd.we_bnd, Dd.we_lift, Dd.we_var, Dd.we_args_nil, Dd.we_args_cons, Dd.we_opN, Dd.we_op1, Dd.we_op2, Dd.we_call, Dd.we_tst, Dd.we_tru, Dd.we_notT, Dd.we_andT, Dd.we_orT, Dd.we_notV, Dd.we_andV, Dd.we_orV, Dd.we_ite, Dd.we_chn, Dd.we_mth, Dd.we_slice, Dd.we_intOf, Dd.nx_next, Dd.nx_ret, Dd.nx_ex, Dd.td_next, Dd.td_cont, Dd.td_brk, Dd.td_ret, Dd.td_ex, Dd.nx_brk, Dd.nx_cont, Dd.wp_skip, Dd.wp_seq, Dd.wp_drop, Dd.wp_ret, Dd.wp_asg, Dd.wp_if, Dd.wp_raise, Dd.wp_set]
      have call : ∀ {r'}, VlRes rec kd d r' → WC (pg.run (k + 3)) 15 [kd, d] hh (Chk hh r') (ChkR hh r') := fun z => w15 (fun gs e z => hrec gs _ _ hh g z) z
      rcases z with ⟨w', rfl, z⟩ | ⟨z1, z2⟩
      · refine (call z).mono (fun d h1 w => ?_) fun c p h1 w => ?_
        · exact absurd w.1 (by simp)
        · obtain ⟨w2, w3, w4, w5, w6⟩ := w
          exact ⟨w2, w3, w4, w5, g.trans w6⟩
      · refine (call z1).mono (fun d h1 w => ?_) fun c p h1 w => ?_
        · exact ⟨g.trans w.2.2, z2⟩
        · obtain ⟨w2, w3, _⟩ := w
          cases w3
  · have call : WC (pg.run (k + 3)) 15 [kd, v] h (Chk h r) (ChkR h r) := w15 (fun gs e z => hrec gs _ _ h (Grow.refl h) z) q3
    unfold b14
    have fin : WC (pg.run (k + 3)) 15 [kd, v] h (fun d h1 => Chk h r .non h1) (ChkR h r) := call.mono (fun d h1 w => ⟨w.1, rfl, w.2.2⟩) fun _ _ _ z => z
    by_cases ho : tm = "one"
    · subst ho
      simp [startD, f14, Dd.we_ret, Dd.we_bnd, Dd.we_lift, Dd.we_var, Dd.we_args_nil, Dd.we_args_cons, Dd.we_opN, Dd.we_op1, Dd.we_op2, Dd.we_call, Dd.we_tst, Dd.we_tru, Dd.we_notT, Dd.we_andT, Dd.we_orT, Dd.we_notV, Dd.we_andV, Dd.we_orV, Dd.we_ite, Dd.we_chn, Dd.we_mth, Dd.we_slice, Dd.we_intOf, Dd.nx_next, Dd.nx_ret, Dd.nx_ex, Dd.td_next, Dd.td_cont, Dd.td_brk, Dd.td_ret, Dd.td_ex, Dd.nx_brk, Dd.nx_cont, Dd.wp_skip, Dd.wp_seq, Dd.wp_drop, Dd.wp_ret, Dd.wp_asg, Dd.wp_if, Dd.wp_raise, Dd.wp_set, WO, Dk.eq_ss, Dk.ne_ss, Dk.eq_ii, Dk.ne_ii, Dk.sn_one_maybe, Dk.sn_one_many, Dk.sn_maybe_one, Dk.sn_maybe_many, Dk.sn_many_one, Dk.sn_many_maybe, Dk.sn_int_bool, Dk.sn_int_text, Dk.sn_bool_int, Dk.sn_bool_text, Dk.sn_text_int, Dk.sn_text_bool, q1, end_next, end_ex]
      exact fin
    · have hv : isNonD v = false := by
        rcases q2 with q2 | q2
        · exact absurd q2 ho
        · cases v with
          | non => exact absurd rfl q2
          | _ => rfl
      simp [startD, f14, Dd.we_ret, Dd.we_bnd, Dd.we_lift, Dd.we_var, Dd.we_args_nil, Dd.we_args_cons, Dd.we_opN, Dd.we_op1, Dd.we_op2, Dd.we_call, Dd.we_tst, Dd.we_tru, Dd.we_notT, Dd.we_andT, Dd.we_orT, Dd.we_notV, Dd.we_andV, Dd.we_orV, Dd.we_ite, Dd.we_chn, Dd.we_mth, Dd.we_slice, Dd.we_intOf, Dd.nx_next, Dd.nx_ret, Dd.nx_ex, Dd.td_next, Dd.td_cont, Dd.td_brk, Dd.td_ret, Dd.td_ex, Dd.nx_brk, Dd.nx_cont, Dd.wp_skip, Dd.wp_seq, Dd.wp_drop, Dd.wp_ret, Dd.wp_asg, Dd.wp_if, Dd.wp_raise, Dd.wp_set, WO, Dk.eq_ss, Dk.ne_ss, Dk.eq_ii, Dk.ne_ii, Dk.sn_one_maybe, Dk.sn_one_many, Dk.sn_maybe_one, Dk.sn_maybe_many, Dk.sn_many_one, Dk.sn_many_maybe, Dk.sn_int_bool, Dk.sn_int_text, Dk.sn_bool_int, Dk.sn_bool_text, Dk.sn_text_int, Dk.sn_text_bool, q1, ho, isNot_non, hv, end_next, end_ex]
      exact fin
  · subst q3
    unfold b14
    simp [startD, f14, Dd.we_ret, Dd.we_bnd, Dd.we_lift, Dd.we_var, Dd.we_args_nil, Dd.we_args_cons, Dd.we_opN, Dd.we_op1, Dd.we_op2, Dd.we_call, Dd.we_tst, Dd.we_tru, Dd.we_notT, Dd.we_andT, Dd.we_orT, Dd.we_notV, Dd.we_andV, Dd.we_orV, Dd.we_ite, Dd.we_chn, Dd.we_mth, Dd.we_slice, Dd.we_intOf, Dd.nx_next, Dd.nx_ret, Dd.nx_ex, Dd.td_next, Dd.td_cont, Dd.td_brk, Dd.td_ret, Dd.td_ex, Dd.nx_brk, Dd.nx_cont, Dd.wp_skip, Dd.wp_seq, Dd.wp_drop, Dd.wp_ret, Dd.wp_asg, Dd.wp_if, Dd.wp_raise, Dd.wp_set, WO, Dk.eq_ss, Dk.ne_ss, Dk.eq_ii, Dk.ne_ii, Dk.sn_one_maybe, Dk.sn_one_many, Dk.sn_maybe_one, Dk.sn_maybe_many, Dk.sn_many_one, Dk.sn_many_maybe, Dk.sn_int_bool, Dk.sn_int_text, Dk.sn_bool_int, Dk.sn_bool_text, Dk.sn_text_int, Dk.sn_text_bool, q1, q2, isNot_non, isNonD, end_next, end_ex]
    exact ⟨q4, rfl, Grow.refl h⟩
theorem w13 : ∀ (n k : Nat) (fs : List D) (v : D) (r : Option Str) (h : DH), RcRes n h fs v r → WC (pg.run (k + 3 * n + 2)) 13 [.tup fs, v] h (Chk h r) (ChkR h r)
  | 0, _, _, _, _, _, q => q.elim
  | n + 1, k, fs, v, r, h, q => by
    refine wc_of (f := f13) rfl e13 rfl ?_
    unfold b13
    rcases q with ⟨q1, q2 | ⟨vs, q2, q3⟩⟩ | ⟨vs, rfl, q2, q3⟩
    · have is := q2.isin
      simp [startD, f13, Dd.we_ret, Dd.we_bnd, Dd.we_lift, Dd.we_var, Dd.we_args_nil, Dd.we_args_cons, Dd.we_opN, Dd.we_op1, Dd.we_op2, Dd.we_call, Dd.we_tst, Dd.we_tru, Dd.we_notT, Dd.we_andT, Dd.we_orT, Dd.we_notV, Dd.we_andV, Dd.we_orV, Dd.we_ite, Dd.we_chn, Dd.we_mth, Dd.we_slice, Dd.we_intOf, Dd.nx_next, Dd.nx_ret, Dd.nx_ex, Dd.td_next, Dd.td_cont, Dd.td_brk, Dd.td_ret, Dd.td_ex, Dd.nx_brk, Dd.nx_cont, Dd.wp_skip, Dd.wp_seq, Dd.wp_drop, Dd.wp_ret, Dd.wp_asg, Dd.wp_if, Dd.wp_raise, Dd.wp_set, WO, is, truD, end_ex]
      exact ⟨_, q1, rfl, rfl, Grow.refl h⟩
    · subst q2
      have ne : ¬ ((vs.length : Int) = fs.length) := by omega
      have hne : neD (.int vs.length) (.int fs.length) h = some (.bl true, h) := by simp [neD, eqB, scalD, ne]
      simp [startD, f13, Dd.we_ret, Dd.we_bnd, Dd.we_lift, Dd.we_var, Dd.we_args_nil, Dd.we_args_cons, Dd.we_opN, Dd.we_op1, Dd.we_op2, Dd.we_call, Dd.we_tst, Dd.we_tru, Dd.we_notT, Dd.we_andT, Dd.we_orT, Dd.we_notV, Dd.we_andV, Dd.we_orV, Dd.we_ite, Dd.we_chn, Dd.we_mth, Dd.we_slice, Dd.we_intOf, Dd.nx_next, Dd.nx_ret, Dd.nx_ex, Dd.td_next, Dd.td_cont, Dd.td_brk, Dd.td_ret, Dd.td_ex, Dd.nx_brk, Dd.nx_cont, Dd.wp_skip, Dd.wp_seq, Dd.wp_drop, Dd.wp_ret, Dd.wp_asg, Dd.wp_if, Dd.wp_raise, Dd.wp_set, WO, isinD, tyName, isTy, truD, bltD, hne, end_ex]
      exact ⟨_, q1, rfl, rfl, Grow.refl h⟩
    · have hne : neD (.int vs.length) (.int fs.length) h = some (.bl false, h) := by simp [neD, eqB, scalD, q2]
      simp only [q2] at hne
      simp [startD, f13, Dd.we_ret, Dd.we_bnd, Dd.we_lift, Dd.we_var, Dd.we_args_nil, Dd.we_args_cons, Dd.we_opN, Dd.we_op1, Dd.we_op2, Dd.we_call, Dd.we_tst, Dd.we_tru, Dd.we_notT, Dd.we_andT, Dd.we_orT, Dd.we_notV, Dd.we_andV, Dd.we_orV, Dd.we_ite, Dd.we_chn, Dd.we_mth, Dd.we_slice, Dd.we_intOf, Dd.nx_next, Dd.nx_ret, Dd.nx_ex, Dd.td_next, Dd.td_cont, Dd.td_brk, Dd.td_ret, Dd.td_ex, Dd.nx_brk, Dd.nx_cont, Dd.wp_skip, Dd.wp_seq, Dd.wp_drop, Dd.wp_ret, Dd.wp_asg, Dd.wp_if, Dd.wp_raise, Dd.wp_set, WO, isinD, tyName, isTy, truD, bltD, hne, q2]
      refine for_zip (fun k e hh => (∃ x y, e = [some (.tup fs), some (.tup vs), x, y]) ∧ Grow h hh ∧ LsRes (fun (p : D × D) r => FdRes (RcRes n h) h p.1 p.2 r) ((fs.zip vs).drop k) r) ?_
      simp only [we_var]
      refine ⟨_, rfl, _, rfl, fs, vs, rfl, rfl, ⟨⟨_, _, rfl⟩, Grow.refl h, q3⟩, ?_, ?_⟩
      · rintro e hh ⟨_, g, z⟩
        rw [List.drop_length] at z
        simp [Dd.we_ret, Dd.we_bnd, Dd.we_lift, Dd.we_var, Dd.we_args_nil, Dd.we_args_cons, Dd.we_opN, Dd.we_op1, Dd.we_op2, Dd.we_call, Dd.we_tst, Dd.we_tru, Dd.we_notT, Dd.we_andT, Dd.we_orT, Dd.we_notV, Dd.we_andV, Dd.we_orV, Dd.we_ite, Dd.we_chn, Dd.we_mth, Dd.we_slice, Dd.we_intOf, Dd.nx_next, Dd.nx_ret, Dd.nx_ex, Dd.td_next, Dd.td_cont, Dd.td_brk, Dd.td_ret, Dd.td_ex, Dd.nx_brk, Dd.nx_cont, Dd.wp_skip, Dd.wp_seq, Dd.wp_drop, Dd.wp_ret, Dd.wp_asg, Dd.wp_if, Dd.wp_raise, Dd.wp_set, end_next]
        exact ⟨z, rfl, g⟩
      · rintro j p e hh hd ⟨⟨x, y, rfl⟩, g, z⟩
        refine ⟨_, rfl, ?_⟩
        rw [drop_cons hd] at z
        have call : ∀ {r'}, FdRes (RcRes n h) h p.1 p.2 r' → ∃ nm tm kd, p.1 = D.tup [.str nm, .str tm, kd] ∧ WC (pg.run (k + 3 * n + 4)) 14 [.str tm, kd, p.2] hh (Chk hh r') (ChkR hh r') := fun {r'} z => by
          have z' := z
          obtain ⟨nm, tm, kd, e, _⟩ := z'
          exact ⟨nm, tm, kd, e, w14 (k := k + 3 * n) (fun gs v r h' g' z => w13 n k gs v r h' (z.grow (g.trans g'))) e (z.mono (fun _ _ _ z => z) g)⟩
        have ix : ∀ {nm tm : Str} {kd : D} (h : DH), ixD (D.tup [.str nm, .str tm, kd]) (.int 1) h = some (.str tm, h) ∧ ixD (D.tup [.str nm, .str tm, kd]) (.int 2) h = some (kd, h) := fun h => ⟨rfl, rfl⟩
        rcases z with ⟨w', rfl, z⟩ | ⟨z1, z2⟩
        · obtain ⟨nm, tm, kd, e, c⟩ := call z
          simp [Dd.we_ret, Dd.we_bnd, Dd.we_lift, Dd.we_var, Dd.we_args_nil, Dd.we_args_cons, Dd.we_opN, Dd.we_op1, Dd.we_op2, Dd.we_call, Dd.we_tst, Dd.we_tru, Dd.we_notT, Dd.we_andT, Dd.we_orT, Dd.we_notV, Dd.we_andV, Dd.we_orV, Dd.we_ite, Dd.we_chn, Dd.we_mth, Dd.we_slice, Dd.we_intOf, Dd.nx_next, Dd.nx_ret, Dd.nx_ex, Dd.td_next, Dd.td_cont, Dd.td_brk, Dd.td_ret, Dd.td_ex, Dd.nx_brk, Dd.nx_cont, Dd.wp_skip, Dd.wp_seq, Dd.wp_drop, Dd.wp_ret, Dd.wp_asg, Dd.wp_if, Dd.wp_raise, Dd.wp_set, WO, e, ix]
          refine c.mono (fun d h1 w => ?_) fun c p h1 w => ?_
          · exact absurd w.1 (by simp)
          · obtain ⟨w2, w3, w4, w5, w6⟩ := w
            exact ⟨w2, w3, w4, w5, g.trans w6⟩
        · obtain ⟨nm, tm, kd, e, c⟩ := call z1
          simp [Dd.we_ret, Dd.we_bnd, Dd.we_lift, Dd.we_var, Dd.we_args_nil, Dd.we_args_cons, Dd.we_opN, Dd.we_op1, Dd.we_op2, Dd.we_call, Dd.we_tst, Dd.we_tru, Dd.we_notT, Dd.we_andT, Dd.we_orT, Dd.we_notV, Dd.we_andV, Dd.we_orV, Dd.we_ite, Dd.we_chn, Dd.we_mth, Dd.we_slice, Dd.we_intOf, Dd.nx_next, Dd.nx_ret, Dd.nx_ex, Dd.td_next, Dd.td_cont, Dd.td_brk, Dd.td_ret, Dd.td_ex, Dd.nx_brk, Dd.nx_cont, Dd.wp_skip, Dd.wp_seq, Dd.wp_drop, Dd.wp_ret, Dd.wp_asg, Dd.wp_if, Dd.wp_raise, Dd.wp_set, WO, e, ix]
          refine c.mono (fun d h1 w => ?_) fun c p h1 w => ?_
          · exact ⟨g.trans w.2.2, z2⟩
          · obtain ⟨w2, w3, _⟩ := w
            cases w3
end Dk

set_option Elab.async false
set_option linter.all false
set_option maxRecDepth 100000
set_option maxHeartbeats 4000000
namespace Dk
open PySem PySem.Spec PyProof.Rows L2 Dd

theorem ls_none {α : Type} {P : α → Option Str → Prop} : ∀ {xs : List α}, LsRes P xs none ↔ ∀ x ∈ xs, P x none
  | [] => ⟨fun _ _ z => (nomatch z), fun _ => rfl⟩
  | x :: xs => by
    constructor
    · rintro (⟨w, z, _⟩ | ⟨q, t⟩)
      · cases z
      · intro y hy
        rcases List.mem_cons.mp hy with rfl | hy
        · exact q
        · exact ls_none.mp t y hy
    · intro a
      exact .inr ⟨a x List.mem_cons_self, ls_none.mpr fun y hy => a y (List.mem_cons_of_mem _ hy)⟩
theorem vl_any {rec rec' : List D → D → Option Str → Prop} (hr : ∀ gs v, rec gs v none → rec' gs v none) {kd v : D} (q : VlRes rec kd v none) : VlRes rec' kd v none := by
  cases kd with
  | tup gs => exact hr _ _ q
  | str k => exact q
  | _ => exact q.elim
theorem fd_any {rec rec' : List D → D → Option Str → Prop} (hr : ∀ gs v, rec gs v none → rec' gs v none) {h h' : DH} {f v : D} (q : FdRes rec h f v none) : FdRes rec' h' f v none := by
  obtain ⟨nm, tm, kd, rfl, q⟩ := q
  refine ⟨nm, tm, kd, rfl, ?_⟩
  rcases q with ⟨q1, ⟨_, q3⟩ | ⟨xs, q2, q3⟩⟩ | ⟨q1, q2, q3⟩ | q
  · cases q3
  · exact .inl ⟨q1, .inr ⟨xs, q2, ls_none.mpr fun x hx => vl_any hr (ls_none.mp q3 x hx)⟩⟩
  · exact .inr (.inl ⟨q1, q2, vl_any hr q3⟩)
  · exact .inr (.inr q)
/-- a good record stays one in any heap -/
theorem rc_any : ∀ {n : Nat} {h h' : DH} {fs : List D} {v : D}, RcRes n h fs v none → RcRes n h' fs v none
  | 0, _, _, _, _, q => q
  | n + 1, h, h', fs, v, q => by
    rcases q with ⟨q1, _⟩ | ⟨vs, q1, q2, q3⟩
    · cases q1
    · exact .inr ⟨vs, q1, q2, ls_none.mpr fun p hp => fd_any (fun _ _ z => rc_any z) (ls_none.mp q3 p hp)⟩
/-- the word of a record -/
theorem w28 (n k : Nat) (fs : List D) (v : D) (r : Option Str) (h : DH) (q : RcRes n h fs v r) : WC (pg.run (k + 3 * n + 3)) 28 [.tup fs, v] h (fun d h' => d = .str (word r) ∧ Grow h h') fun _ _ _ => False := by
  refine wc_of (f := f28) rfl e28 rfl ?_
  unfold b28
  rw [wp_seq]
  refine wp_try ?_
  simp only [wp_seq, wp_drop, we_call, we_args_cons, we_args_nil, we_var, we_ret]
  refine ⟨.tup fs, rfl, v, rfl, (w13 n k fs v r h q).mono (fun d h1 w => ?_) fun c pp h1 w => ?_⟩
  · rw [nx_next, wp_skip]
    show Nx _ _ .next _ _
    simp only [nx_next, wp_seq, wp_ret, we_ret, nx_ret, end_ret]
    exact ⟨by rw [w.1]; rfl, w.2.2⟩
  · rw [nx_ex]
    obtain ⟨w', q1, q2, q3, q4⟩ := w
    refine ⟨q2, ?_⟩
    subst q3
    simp only [wp_ret, we_var, nx_ret]
    refine ⟨_, rfl, ⟨fun c p z => (by cases z), ?_⟩⟩
    rw [end_ret]
    exact ⟨by rw [q1]; rfl, q4⟩
end Dk

set_option Elab.async false
set_option linter.all false
set_option maxRecDepth 100000
set_option maxHeartbeats 4000000
namespace Dk
open PySem PySem.Spec PyProof.Rows L2 Dd

theorem Frame.setge {i L : Nat} {h hh : DH} {o : Ob} (f : Frame i h hh) (hL : h.length ≤ L) : Frame i h (hh.set L o) := fun k ob n e => by
  have hk := (List.getElem?_eq_some_iff.mp e).1
  rw [List.getElem?_set_ne (by omega)]
  exact f k ob n e
theorem pickN {xs : List D} {v : Int} (h0 : 0 ≤ v) (h1 : v < xs.length) : ∃ x, x ∈ xs ∧ L2.atI xs v = some x := by
  have hk : v.toNat < xs.length := by omega
  exact ⟨xs[v.toNat], List.getElem_mem hk, atI_of (k := v.toNat) (by omega) (List.getElem?_eq_getElem hk)⟩
/-- the feed has gone on -/
def Drew (h h' : DH) (i j a c : Nat) : Prop := Frame i h h' ∧ ∃ a', Feed h' i j a' ∧ a' ≤ a + c
def LeafOk (k : Str) (d : D) : Prop := plainV d = true ∧ valB k d = true
theorem int_ok {v : Int} (h0 : -2147483648 ≤ v) (h1 : v ≤ 2147483647) : LeafOk "int" (.int v) := by
  refine ⟨rfl, ?_⟩
  show (if (Str.ofString "int" = Str.ofString "int") then intB (.int v) else _) = true
  rw [if_pos rfl]
  show (leI (-2147483648) v && leI v 2147483647) = true
  rw [leI_eq, leI_eq, decide_eq_true h0, decide_eq_true h1]
  rfl
theorem w21_int (n : Nat) (h : DH) (i j a : Nat) (ha : a + 2 < 100000000) (f : Feed h i j a) : WC (pg.run (n + 2)) 21 [.ref i, .str "int"] h (fun d h' => LeafOk "int" d ∧ Drew h h' i j a 2) fun _ _ _ => False := by
  refine wc_of (f := f21) rfl e21 rfl ?_
  have hi := f.lt.1
  unfold b21
  simp [startD, f21, Dd.we_ret, Dd.we_bnd, Dd.we_lift, Dd.we_var, Dd.we_args_nil, Dd.we_args_cons, Dd.we_opN, Dd.we_op1, Dd.we_op2, Dd.we_call, Dd.we_tst, Dd.we_tru, Dd.we_notT, Dd.we_andT, Dd.we_orT, Dd.we_notV, Dd.we_andV, Dd.we_orV, Dd.we_ite, Dd.we_chn, Dd.we_mth, Dd.we_slice, Dd.we_intOf, Dd.nx_next, Dd.nx_ret, Dd.nx_ex, Dd.td_next, Dd.td_cont, Dd.td_brk, Dd.td_ret, Dd.td_ex, Dd.nx_brk, Dd.nx_cont, Dd.wp_skip, Dd.wp_seq, Dd.wp_drop, Dd.wp_ret, Dd.wp_asg, Dd.wp_if, Dd.wp_raise, Dd.wp_set, WO, Dk.eq_ss, Dk.ne_ss, Dk.eq_ii, Dk.ne_ii, Dk.sn_one_maybe, Dk.sn_one_many, Dk.sn_maybe_one, Dk.sn_maybe_many, Dk.sn_many_one, Dk.sn_many_maybe, Dk.sn_int_bool, Dk.sn_int_text, Dk.sn_bool_int, Dk.sn_bool_text, Dk.sn_text_int, Dk.sn_text_bool]
  refine (w19 n h i j a 9 (by decide) (by omega) f).mono (fun d h1 w => ?_) fun _ _ _ z => z.elim
  obtain ⟨v, rfl, v0, v9, f1, o, rfl⟩ := w
  have z8 : 8 ≤ Z := by decide
  have ml : ∀ h, mulD (.int v) (.int 100003) h = some (.int (v * 100003), h) := fun h => mul_r (by decide)
  simp [Dd.we_ret, Dd.we_bnd, Dd.we_lift, Dd.we_var, Dd.we_args_nil, Dd.we_args_cons, Dd.we_opN, Dd.we_op1, Dd.we_op2, Dd.we_call, Dd.we_tst, Dd.we_tru, Dd.we_notT, Dd.we_andT, Dd.we_orT, Dd.we_notV, Dd.we_andV, Dd.we_orV, Dd.we_ite, Dd.we_chn, Dd.we_mth, Dd.we_slice, Dd.we_intOf, Dd.nx_next, Dd.nx_ret, Dd.nx_ex, Dd.td_next, Dd.td_cont, Dd.td_brk, Dd.td_ret, Dd.td_ex, Dd.nx_brk, Dd.nx_cont, Dd.wp_skip, Dd.wp_seq, Dd.wp_drop, Dd.wp_ret, Dd.wp_asg, Dd.wp_if, Dd.wp_raise, Dd.wp_set, Dd.below_iff, Dd.ltI_eq, Dd.leI_eq, Dd.WO, Dd.Tg.put, Dd.setAll, Dd.unpk, Dd.isinD, Dd.tyName, Dd.isTy, Dd.truD, Dd.mthOk, Dd.mthD, Dd.bltD, Dd.addD, Dd.subD, Dd.fdivD, Dd.modD, Dd.negD, Dd.ltD, Dd.leD, Dd.gtD, Dd.geD, Dd.pureO, Dd.lstM, Dd.tupM, Dd.newOb, ml, z8]
  refine (w19 n _ i j (a + 1) 8 (by decide) (by omega) (f1.push _)).mono (fun d h2 w => ?_) fun _ _ _ z => z.elim
  obtain ⟨u, rfl, u0, u8, f2, o2, rfl⟩ := w
  obtain ⟨x, x1, x2⟩ := pickN (xs := [.int v, .int v, .int (-v), .int (v * 100003), .int 2147483647, .int (-2147483648), .int v, .int 5]) u0 u8
  have ix := ix_new (hh := h.set i o) (o := o2) (by rw [List.length_set]; exact hi) x2
  simp only [List.length_set] at ix
  simp [ix, end_ret]
  refine ⟨?_, ((Frame.set _).trans (Frame.push _)).trans (Frame.set _), a + 1 + 1, f2, by omega⟩
  simp only [List.mem_cons, List.not_mem_nil, or_false] at x1
  rcases x1 with rfl | rfl | rfl | rfl | rfl | rfl | rfl | rfl <;> exact int_ok (by omega) (by omega)
theorem w21_bool (n : Nat) (h : DH) (i j a : Nat) (ha : a + 2 < 100000000) (f : Feed h i j a) : WC (pg.run (n + 2)) 21 [.ref i, .str "bool"] h (fun d h' => LeafOk "bool" d ∧ Drew h h' i j a 2) fun _ _ _ => False := by
  refine wc_of (f := f21) rfl e21 rfl ?_
  unfold b21
  simp [startD, f21, Dd.we_ret, Dd.we_bnd, Dd.we_lift, Dd.we_var, Dd.we_args_nil, Dd.we_args_cons, Dd.we_opN, Dd.we_op1, Dd.we_op2, Dd.we_call, Dd.we_tst, Dd.we_tru, Dd.we_notT, Dd.we_andT, Dd.we_orT, Dd.we_notV, Dd.we_andV, Dd.we_orV, Dd.we_ite, Dd.we_chn, Dd.we_mth, Dd.we_slice, Dd.we_intOf, Dd.nx_next, Dd.nx_ret, Dd.nx_ex, Dd.td_next, Dd.td_cont, Dd.td_brk, Dd.td_ret, Dd.td_ex, Dd.nx_brk, Dd.nx_cont, Dd.wp_skip, Dd.wp_seq, Dd.wp_drop, Dd.wp_ret, Dd.wp_asg, Dd.wp_if, Dd.wp_raise, Dd.wp_set, WO, Dk.eq_ss, Dk.ne_ss, Dk.eq_ii, Dk.ne_ii, Dk.sn_one_maybe, Dk.sn_one_many, Dk.sn_maybe_one, Dk.sn_maybe_many, Dk.sn_many_one, Dk.sn_many_maybe, Dk.sn_int_bool, Dk.sn_int_text, Dk.sn_bool_int, Dk.sn_bool_text, Dk.sn_text_int, Dk.sn_text_bool]
  refine (w19 n h i j a 2 (by decide) (by omega) f).mono (fun d h1 w => ?_) fun _ _ _ z => z.elim
  obtain ⟨v, rfl, v0, v9, f1, o, rfl⟩ := w
  simp [Dk.eq_ss, Dk.ne_ss, Dk.eq_ii, Dk.ne_ii, Dk.sn_one_maybe, Dk.sn_one_many, Dk.sn_maybe_one, Dk.sn_maybe_many, Dk.sn_many_one, Dk.sn_many_maybe, Dk.sn_int_bool, Dk.sn_int_text, Dk.sn_bool_int, Dk.sn_bool_text, Dk.sn_text_int, Dk.sn_text_bool, end_ret]
  exact ⟨⟨rfl, rfl⟩, Frame.set _, a + 1, f1, by omega⟩
end Dk

set_option Elab.async false
set_option linter.all false
set_option maxRecDepth 100000
set_option maxHeartbeats 4000000
namespace Dk
open PySem PySem.Spec PyProof.Rows L2 Dd

/-! ### what the operations give on known shapes -/
theorem q_add (i j : Int) (h : DH) : addD (.int i) (.int j) h = some (.int (i + j), h) := rfl
theorem q_addt (xs ys : List D) (h : DH) (z : xs.length + ys.length ≤ 16777216) : addD (.tup xs) (.tup ys) h = some (.tup (xs ++ ys), h) := if_pos z
theorem q_sub (i j : Int) (h : DH) : subD (.int i) (.int j) h = some (.int (i - j), h) := rfl
theorem q_mod (i j : Int) (h : DH) (z : 0 < j) : modD (.int i) (.int j) h = some (.int (i % j), h) := if_pos z
theorem q_fdiv (i j : Int) (h : DH) (z : 0 < j) (z2 : j < 1073741824) : fdivD (.int i) (.int j) h = some (.int (i / j), h) := if_pos ⟨z, below_iff.mpr ⟨by omega, z2⟩⟩
theorem q_mulr (i j : Int) (h : DH) (z : -18446744073709551616 < j) (z2 : j < 18446744073709551616) : mulD (.int i) (.int j) h = some (.int (i * j), h) := mul_r (below_iff.mpr ⟨z, z2⟩)
theorem q_mull (i j : Int) (h : DH) (z : -18446744073709551616 < i) (z2 : i < 18446744073709551616) : mulD (.int i) (.int j) h = some (.int (i * j), h) := by
  unfold mulD
  dsimp only
  rw [show smallI i = true from below_iff.mpr ⟨z, z2⟩, Bool.true_or, if_pos rfl]
theorem q_neg (i : Int) (h : DH) : negD (.int i) h = some (.int (-i), h) := rfl
theorem q_lt (i j : Int) (h : DH) : ltD (.int i) (.int j) h = some (.bl (decide (i < j)), h) := by rw [← ltI_eq]; rfl
theorem q_le (i j : Int) (h : DH) : leD (.int i) (.int j) h = some (.bl (decide (i ≤ j)), h) := by rw [← leI_eq]; rfl
theorem q_gt (i j : Int) (h : DH) : gtD (.int i) (.int j) h = some (.bl (decide (j < i)), h) := by rw [← ltI_eq]; rfl
theorem q_ge (i j : Int) (h : DH) : geD (.int i) (.int j) h = some (.bl (decide (j ≤ i)), h) := by rw [← leI_eq]; rfl
theorem q_ix0 (a : D) (xs : List D) (h : DH) : ixD (.tup (a :: xs)) (.int 0) h = some (a, h) := by
  have q : L2.atI (a :: xs) 0 = some a := atI_of (k := 0) rfl rfl
  unfold ixD
  dsimp only
  rw [q]; rfl
theorem q_ix1 (a b : D) (xs : List D) (h : DH) : ixD (.tup (a :: b :: xs)) (.int 1) h = some (b, h) := by
  have q : L2.atI (a :: b :: xs) 1 = some b := atI_of (k := 1) rfl rfl
  unfold ixD
  dsimp only
  rw [q]; rfl
theorem q_ix2 (a b c : D) (xs : List D) (h : DH) : ixD (.tup (a :: b :: c :: xs)) (.int 2) h = some (c, h) := by
  have q : L2.atI (a :: b :: c :: xs) 2 = some c := atI_of (k := 2) rfl rfl
  unfold ixD
  dsimp only
  rw [q]; rfl
theorem q_is_t (xs : List D) (h : DH) : isinD "tuple" (.tup xs) h = some (.bl true, h) := rfl
theorem q_is_s (x : Str) (h : DH) : isinD "tuple" (.str x) h = some (.bl false, h) := rfl
theorem q_is_lt (xs : List D) (h : DH) : isinD "list" (.tup xs) h = some (.bl false, h) := rfl
theorem q_is_ll (i : Nat) (h : DH) : isinD "list" (.ref i) h = (tyName (.ref i) h).map fun n => (.bl (isTy "list" n), h) := rfl
theorem q_tru (b : Bool) (h : DH) : truD (.bl b) h = some b := rfl
theorem q_lent (ds : List D) (h : DH) : bltD .len [.tup ds] h = some (.int ds.length, h) := rfl
theorem q_lenr (i : Nat) (h : DH) : bltD .len [.ref i] h = (match h[i]? with
    | some (.lst ds) => some (.int ds.length, h)
    | some (.dk ds) => some (.int ds.length, h)
    | _ => none) := rfl
theorem q_int (i : Int) (h : DH) : bltD .int [.int i] h = some (.int i, h) := rfl
theorem q_intb (b : Bool) (h : DH) : bltD .int [.bl b] h = some (.int (if b then 1 else 0), h) := rfl
theorem q_abs (i : Int) (h : DH) : bltD .abs [.int i] h = some (.int (if i < 0 then -i else i), h) := rfl
theorem q_tupr (i : Nat) (h : DH) : bltD .tuple [.ref i] h = (match lstAt h i with
    | some ds => some (.tup ds, h)
    | none => none) := rfl
theorem q_lstt (ds : List D) (h : DH) : bltD .list [.tup ds] h = some (.ref h.length, h ++ [.lst ds]) := rfl
theorem q_lst (xs : List D) (h : DH) (z : xs.length ≤ 16777216) : lstM xs h = some (.ref h.length, h ++ [.lst xs]) := if_pos z
theorem q_tup (xs : List D) (h : DH) (z : xs.length ≤ 16777216) : tupM xs h = some (.tup xs, h) := if_pos z
theorem q_oka (i : Nat) (h : DH) : mthOk .append (.ref i) h = (lstAt h i).isSome := rfl
theorem q_oke (i : Nat) (h : DH) : mthOk .extend (.ref i) h = (lstAt h i).isSome := rfl
theorem q_okj (x : Str) (h : DH) : mthOk .join (.str x) h = true := rfl
theorem q_app (i : Nat) (d : D) (h : DH) : mthD .append (.ref i) [d] h = (match lstAt h i with
    | some ds => if ds.length < Z then some (.non, h.set i (.lst (ds ++ [d]))) else none
    | none => none) := rfl
theorem q_ext (i j : Nat) (h : DH) : mthD .extend (.ref i) [.ref j] h = (match lstAt h i, lstAt h j with
    | some xs, some ys => if xs.length + ys.length ≤ Z then some (.non, h.set i (.lst (xs ++ ys))) else none
    | _, _ => none) := rfl
theorem q_nm (i : Nat) (d : D) (h : DH) (e : DE) : (Tg.nm i).put d h e = some (e.set i (some d)) := rfl
theorem q_tp (is : List Nat) (xs : List D) (h : DH) (e : DE) : (Tg.tp is).put (.tup xs) h e = setAll is xs e := rfl
theorem q_sa0 (e : DE) : setAll [] [] e = some e := rfl
theorem q_sa1 (i : Nat) (is : List Nat) (d : D) (ds : List D) (e : DE) : setAll (i :: is) (d :: ds) e = setAll is ds (e.set i (some d)) := rfl
theorem q_isn (v : D) (h : DH) : isD v .non h = some (.bl (isNonD v), h) := by cases v <;> rfl
theorem q_isb (a b : Bool) (h : DH) : isD (.bl a) (.bl b) h = some (.bl (decide (a = b)), h) := rfl
theorem q_wipe0 (e : DE) : wipeE e [] = e := rfl
theorem q_wipe1 (e : DE) (v : Nat) (vs : List Nat) : wipeE e (v :: vs) = (wipeE e vs).set v none := rfl
end Dk

set_option Elab.async false
set_option linter.all false
set_option maxRecDepth 100000
set_option maxHeartbeats 4000000
namespace Dk
open PySem PySem.Spec PyProof.Rows L2 Dd

def chs : List Nat := (Str.ofString " ab~$Z0{!").cps.toList
theorem chs_ok : ∀ c ∈ chs, textC c = true := by decide +kernel
def one1 (c : Nat) : Str := ⟨#[c]⟩
theorem txts_ones : ∀ cs : List Nat, txts (cs.map fun c => D.str (one1 c)) = some (cs.map one1)
  | [] => rfl
  | c :: cs => by
    rw [List.map_cons]
    unfold txts
    rw [txts_ones cs]
    rfl
theorem joinLen_ones : ∀ cs : List Nat, joinLen "" (cs.map one1) = cs.length
  | [] => rfl
  | c :: cs => by
    have ih := joinLen_ones cs
    unfold joinLen at ih ⊢
    have z : (Str.ofString "").length = 0 := rfl
    rw [z, Nat.mul_zero, Nat.add_zero] at ih ⊢
    rw [List.map_cons, List.map_cons, List.sum_cons, ih, List.length_cons]
    show 1 + cs.length = _
    omega
theorem join_one1 (cs : List Nat) : Str.join (Str.ofString "") (cs.map one1) = ⟨cs.toArray⟩ := join_ones cs
theorem text_ok {cs : List Nat} {y : Str} (hl : cs.length ≤ 4) (hc : ∀ c ∈ cs, c ∈ chs) (hy : y.length ≤ 50) (ha : y.cps.toList.all textC = true) : LeafOk "text" (.str ((⟨cs.toArray⟩ : Str) ++ y)) := by
  have e : ((⟨cs.toArray⟩ : Str) ++ y).cps.toList = cs ++ y.cps.toList := by
    show (cs.toArray ++ y.cps).toList = _
    rw [Array.toList_append]
  have l : ((⟨cs.toArray⟩ : Str) ++ y).length = cs.length + y.length := by
    show (cs.toArray ++ y.cps).size = _
    rw [Array.size_append]
    rfl
  refine ⟨decide_eq_true (by omega), ?_⟩
  have n1 : ¬ (Str.ofString "text" = Str.ofString "int") := sn_text_int
  have n2 : ¬ (Str.ofString "text" = Str.ofString "bool") := sn_text_bool
  unfold valB
  rw [if_neg n1, if_neg n2, decide_eq_true rfl, Bool.true_and]
  show (!ltI 60 _ && _) = true
  rw [ltI_eq, decide_eq_false (by omega), e, List.all_append, ha, Bool.and_true]
  exact List.all_eq_true.mpr fun c hcc => chs_ok c (hc c hcc)
theorem xs_mul (v : Int) (h0 : 0 ≤ v) (h1 : v < 30) (h : DH) : ∃ y : Str, mulD (.str "x") (.int (50 * (v / 29))) h = some (.str y, h) ∧ y.length ≤ 50 ∧ y.cps.toList.all textC = true := by
  have : v / 29 = 0 ∨ v / 29 = 1 := by omega
  rcases this with e | e <;> rw [e]
  · exact ⟨PySem.Txt.mul "x" 0, by rfl, by decide +kernel, by decide +kernel⟩
  · exact ⟨PySem.Txt.mul "x" 50, by rfl, by decide +kernel, by decide +kernel⟩
theorem w21_text (n : Nat) (h : DH) (i j a : Nat) (ha : a + 6 < 100000000) (f : Feed h i j a) : WC (pg.run (n + 2)) 21 [.ref i, .str "text"] h (fun d h' => LeafOk "text" d ∧ Drew h h' i j a 6) fun _ _ _ => False := by
  refine wc_of (f := f21) rfl e21 rfl ?_
  have hi := f.lt
  unfold b21
  simp [startD, f21, Dd.we_ret, Dd.we_bnd, Dd.we_lift, Dd.we_var, Dd.we_args_nil, Dd.we_args_cons, Dd.we_opN, Dd.we_op1, Dd.we_op2, Dd.we_call, Dd.we_tst, Dd.we_tru, Dd.we_notT, Dd.we_andT, Dd.we_orT, Dd.we_notV, Dd.we_andV, Dd.we_orV, Dd.we_ite, Dd.we_chn, Dd.we_mth, Dd.we_slice, Dd.we_intOf, Dd.nx_next, Dd.nx_ret, Dd.nx_ex, Dd.td_next, Dd.td_cont, Dd.td_brk, Dd.td_ret, Dd.td_ex, Dd.nx_brk, Dd.nx_cont, Dd.wp_skip, Dd.wp_seq, Dd.wp_drop, Dd.wp_ret, Dd.wp_asg, Dd.wp_if, Dd.wp_raise, Dd.wp_set, Dd.WO, Dk.eq_ss, Dk.ne_ss, Dk.eq_ii, Dk.ne_ii, Dk.sn_one_maybe, Dk.sn_one_many, Dk.sn_maybe_one, Dk.sn_maybe_many, Dk.sn_many_one, Dk.sn_many_maybe, Dk.sn_int_bool, Dk.sn_int_text, Dk.sn_bool_int, Dk.sn_bool_text, Dk.sn_text_int, Dk.sn_text_bool, Dk.isNot_non, Dk.q_add, Dk.q_addt, Dk.q_sub, Dk.q_mod, Dk.q_fdiv, Dk.q_mulr, Dk.q_mull, Dk.q_neg, Dk.q_lt, Dk.q_le, Dk.q_gt, Dk.q_ge, Dk.q_ix0, Dk.q_ix1, Dk.q_ix2, Dk.q_is_t, Dk.q_is_s, Dk.q_is_lt, Dk.q_is_ll, Dk.q_tru, Dk.q_lent, Dk.q_lenr, Dk.q_int, Dk.q_intb, Dk.q_abs, Dk.q_tupr, Dk.q_lstt, Dk.q_lst, Dk.q_tup, Dk.q_oka, Dk.q_oke, Dk.q_okj, Dk.q_app, Dk.q_ext, Dk.q_nm, Dk.q_tp, Dk.q_sa0, Dk.q_sa1, Dk.q_isn, Dk.q_isb, Dk.q_wipe0, Dk.q_wipe1]
  refine lc_rngW (fun L k acc hh => L = h.length ∧ Frame i h hh ∧ (∃ a', Feed hh i j a' ∧ a' ≤ a + 1 + k) ∧ ∃ cs : List Nat, acc = cs.map (fun c => D.str (one1 c)) ∧ cs.length = k ∧ ∀ c ∈ cs, c ∈ chs) ?_
  simp only [we_call, we_args_cons, we_args_nil, we_var, we_ret]
  refine ⟨_, rfl, (w19 n h i j a 5 (by decide) (by omega) f).mono (fun d h1 w => ?_) fun _ _ _ z => z.elim⟩
  obtain ⟨v, rfl, v0, v5, f1, o, rfl⟩ := w
  have zz : Z = 16777216 := rfl
  refine ⟨v.toNat, by rw [Int.toNat_of_nonneg v0], by omega, ⟨by rw [List.length_set], (Frame.set _).trans (Frame.push _), ⟨a + 1, f1.push _, Nat.le_refl _⟩, [], rfl, rfl, fun _ z => nomatch z⟩, ?_, ?_⟩
  · rintro acc hh l ⟨hL, fr, ⟨a', fa, la⟩, cs, rfl, c1, c2⟩
    rw [hL] at l ⊢
    have jl : joinLen (Str.ofString "") (cs.map one1) ≤ Z := by rw [joinLen_ones]; omega
    have jn : mthD .join (.str "") [.ref h.length] hh = some (.str ⟨cs.toArray⟩, hh) := by
      simp only [mthD, l, txts_ones, if_pos jl, join_one1]
    simp [jn]
    refine (w19 n hh i j a' 30 (by decide) (by omega) fa).mono (fun d h1 w => ?_) fun _ _ _ z => z.elim
    obtain ⟨u, rfl, u0, u30, f2, o2, rfl⟩ := w
    have fd : ∀ h, fdivD (.int u) (.int 29) h = some (.int (u / 29), h) := fun h => rfl
    have ml : ∀ h, mulD (.int 50) (.int (u / 29)) h = some (.int (50 * (u / 29)), h) := fun h => rfl
    obtain ⟨y, y1, y2, y3⟩ := xs_mul u u0 u30 (hh.set i o2)
    have tk : (⟨cs.toArray⟩ : Str).length = cs.length := by rfl
    have ad : addD (.str ⟨cs.toArray⟩) (.str y) (hh.set i o2) = some (.str (⟨cs.toArray⟩ ++ y), hh.set i o2) := by
      show (if _ then _ else none) = _
      rw [if_pos (by rw [tk]; omega)]
    simp [fd, ml, y1, ad, end_ret]
    exact ⟨text_ok (by omega) c2 y2 y3, fr.trans (Frame.set _), a' + 1, f2, by omega⟩
  · rintro k acc hh hk l ⟨hL, fr, ⟨a', fa, la⟩, cs, rfl, c1, c2⟩
    refine ⟨_, rfl, ?_⟩
    unfold Elt
    rw [hL] at l ⊢
    simp [Dd.we_ret, Dd.we_bnd, Dd.we_lift, Dd.we_var, Dd.we_args_nil, Dd.we_args_cons, Dd.we_opN, Dd.we_op1, Dd.we_op2, Dd.we_call, Dd.we_tst, Dd.we_tru, Dd.we_notT, Dd.we_andT, Dd.we_orT, Dd.we_notV, Dd.we_andV, Dd.we_orV, Dd.we_ite, Dd.we_chn, Dd.we_mth, Dd.we_slice, Dd.we_intOf, Dd.nx_next, Dd.nx_ret, Dd.nx_ex, Dd.td_next, Dd.td_cont, Dd.td_brk, Dd.td_ret, Dd.td_ex, Dd.nx_brk, Dd.nx_cont, Dd.wp_skip, Dd.wp_seq, Dd.wp_drop, Dd.wp_ret, Dd.wp_asg, Dd.wp_if, Dd.wp_raise, Dd.wp_set, Dd.WO, Dk.eq_ss, Dk.ne_ss, Dk.eq_ii, Dk.ne_ii, Dk.sn_one_maybe, Dk.sn_one_many, Dk.sn_maybe_one, Dk.sn_maybe_many, Dk.sn_many_one, Dk.sn_many_maybe, Dk.sn_int_bool, Dk.sn_int_text, Dk.sn_bool_int, Dk.sn_bool_text, Dk.sn_text_int, Dk.sn_text_bool, Dk.isNot_non, Dk.q_add, Dk.q_addt, Dk.q_sub, Dk.q_mod, Dk.q_fdiv, Dk.q_mulr, Dk.q_mull, Dk.q_neg, Dk.q_lt, Dk.q_le, Dk.q_gt, Dk.q_ge, Dk.q_ix0, Dk.q_ix1, Dk.q_ix2, Dk.q_is_t, Dk.q_is_s, Dk.q_is_lt, Dk.q_is_ll, Dk.q_tru, Dk.q_lent, Dk.q_lenr, Dk.q_int, Dk.q_intb, Dk.q_abs, Dk.q_tupr, Dk.q_lstt, Dk.q_lst, Dk.q_tup, Dk.q_oka, Dk.q_oke, Dk.q_okj, Dk.q_app, Dk.q_ext, Dk.q_nm, Dk.q_tp, Dk.q_sa0, Dk.q_sa1, Dk.q_isn, Dk.q_isb, Dk.q_wipe0, Dk.q_wipe1]
    refine (w19 n hh i j a' 9 (by decide) (by omega) fa).mono (fun d h1 w => ?_) fun _ _ _ z => z.elim
    obtain ⟨u, rfl, u0, u9, f2, o2, rfl⟩ := w
    have hu : u.toNat < chs.length := by have : chs.length = 9 := by decide +kernel
                                         omega
    have st : ixD (.str " ab~$Z0{!") (.int u) (hh.set i o2) = some (.str (one1 chs[u.toNat]), hh.set i o2) := by
      have : Dd.strAt " ab~$Z0{!" u = some chs[u.toNat] := by
        unfold Dd.strAt
        rw [if_pos (by decide +kernel)]
        exact atI_of (k := u.toNat) (by omega) (List.getElem?_eq_getElem hu)
      simp only [ixD, pureO, this, Option.map_some]
      rfl
    have hne : h.length ≠ i := by omega
    have l2 : lstAt (hh.set i o2) h.length = some (cs.map fun c => D.str (one1 c)) := (Frame.set (i := i) o2).lst hne l
    simp [st]
    refine ⟨l2, (fr.trans (Frame.set _)).setge (Nat.le_refl _), ⟨a' + 1, f2.other _ hne (by omega), by omega⟩, cs ++ [chs[u.toNat]], by rw [List.map_append]; rfl, by rw [List.length_append, c1]; rfl, fun c hc => ?_⟩
    rcases List.mem_append.mp hc with hc | hc
    · exact c2 c hc
    · rw [List.mem_singleton.mp hc]; exact List.getElem_mem hu
end Dk

set_option Elab.async false
set_option linter.all false
set_option maxRecDepth 100000
set_option maxHeartbeats 4000000
namespace Dk
open PySem PySem.Spec PyProof.Rows L2 Dd

def cr : Nat → Nat
  | 0 => 6
  | n + 1 => 3 * (1 + 3 * cr n)
theorem cr6 : ∀ n, 6 ≤ cr n
  | 0 => Nat.le_refl 6
  | n + 1 => by have := cr6 n; show 6 ≤ 3 * (1 + 3 * cr n); omega
def KdOk (n : Nat) (kd : D) : Prop := (∃ x ∈ knds, kd = D.str x) ∨ ∃ gs, kd = D.tup gs ∧ FsOk n gs
def Vl (n : Nat) (kd d : D) : Prop := VlRes (RcRes n []) kd d none ∧ d ≠ .non
def Sp22 (n : Nat) : Prop := ∀ (m : Nat) (kd : D) (h : DH) (i j a : Nat), KdOk n kd → a + cr n < 100000000 → Feed h i j a → WC (pg.run (m + 2 * n + 3)) 22 [.ref i, kd] h (fun d h' => Vl n kd d ∧ Drew h h' i j a (cr n)) fun _ _ _ => False
def Sp23 (n : Nat) : Prop := ∀ (m : Nat) (fs : List D) (h : DH) (i j a : Nat), FsOk n fs → a + cr n < 100000000 → Feed h i j a → WC (pg.run (m + 2 * n + 2)) 23 [.ref i, .tup fs] h (fun d h' => (∃ vs, d = .tup vs ∧ RcRes n [] fs (.tup vs) none) ∧ Drew h h' i j a (cr n)) fun _ _ _ => False
theorem leaf_vl {n : Nat} {x : Str} {d : D} (q : LeafOk x d) (hx : x ∈ knds) : Vl n (.str x) d := by
  refine ⟨⟨q.1, by rw [q.2]; rfl⟩, fun e => ?_⟩
  subst e
  have := q.2
  simp only [knds, List.mem_cons, List.not_mem_nil, or_false] at hx
  rcases hx with rfl | rfl | rfl <;> exact absurd this (by decide +kernel)
theorem Drew.more {h h' : DH} {i j a c c' : Nat} (q : Drew h h' i j a c) (hc : c ≤ c') : Drew h h' i j a c' := by
  obtain ⟨q1, a', q2, q3⟩ := q
  exact ⟨q1, a', q2, by omega⟩
theorem w22_step (n : Nat) (ih : Sp23 n) : Sp22 n := by
  intro m kd h i j a hk ha f
  refine wc_of (f := f22) rfl e22 rfl ?_
  have c6 := cr6 n
  unfold b22
  rcases hk with ⟨x, hx, rfl⟩ | ⟨gs, rfl, hg⟩
  · simp [startD, f22, Dd.we_ret, Dd.we_bnd, Dd.we_lift, Dd.we_var, Dd.we_args_nil, Dd.we_args_cons, Dd.we_opN, Dd.we_op1, Dd.we_op2, Dd.we_call, Dd.we_tst, Dd.we_tru, Dd.we_notT, Dd.we_andT, Dd.we_orT, Dd.we_notV, Dd.we_andV, Dd.we_orV, Dd.we_ite, Dd.we_chn, Dd.we_mth, Dd.we_slice, Dd.we_intOf, Dd.nx_next, Dd.nx_ret, Dd.nx_ex, Dd.td_next, Dd.td_cont, Dd.td_brk, Dd.td_ret, Dd.td_ex, Dd.nx_brk, Dd.nx_cont, Dd.wp_skip, Dd.wp_seq, Dd.wp_drop, Dd.wp_ret, Dd.wp_asg, Dd.wp_if, Dd.wp_raise, Dd.wp_set, Dd.WO, Dk.eq_ss, Dk.ne_ss, Dk.eq_ii, Dk.ne_ii, Dk.sn_one_maybe, Dk.sn_one_many, Dk.sn_maybe_one, Dk.sn_maybe_many, Dk.sn_many_one, Dk.sn_many_maybe, Dk.sn_int_bool, Dk.sn_int_text, Dk.sn_bool_int, Dk.sn_bool_text, Dk.sn_text_int, Dk.sn_text_bool, Dk.isNot_non, Dk.q_add, Dk.q_addt, Dk.q_sub, Dk.q_mod, Dk.q_fdiv, Dk.q_mulr, Dk.q_mull, Dk.q_neg, Dk.q_lt, Dk.q_le, Dk.q_gt, Dk.q_ge, Dk.q_ix0, Dk.q_ix1, Dk.q_ix2, Dk.q_is_t, Dk.q_is_s, Dk.q_is_lt, Dk.q_is_ll, Dk.q_tru, Dk.q_lent, Dk.q_lenr, Dk.q_int, Dk.q_intb, Dk.q_abs, Dk.q_tupr, Dk.q_lstt, Dk.q_lst, Dk.q_tup, Dk.q_oka, Dk.q_oke, Dk.q_okj, Dk.q_app, Dk.q_ext, Dk.q_nm, Dk.q_tp, Dk.q_sa0, Dk.q_sa1, Dk.q_isn, Dk.q_isb, Dk.q_wipe0, Dk.q_wipe1, end_ret]
    have hx' := hx
    simp only [knds, List.mem_cons, List.not_mem_nil, or_false] at hx
    rcases hx with rfl | rfl | rfl
    · exact (w21_int (m + 2 * n) h i j a (by omega) f).mono (fun d h' w => ⟨leaf_vl w.1 hx', w.2.more (by omega)⟩) fun _ _ _ z => z
    · exact (w21_bool (m + 2 * n) h i j a (by omega) f).mono (fun d h' w => ⟨leaf_vl w.1 hx', w.2.more (by omega)⟩) fun _ _ _ z => z
    · exact (w21_text (m + 2 * n) h i j a (by omega) f).mono (fun d h' w => ⟨leaf_vl w.1 hx', w.2.more (by omega)⟩) fun _ _ _ z => z
  · simp [startD, f22, Dd.we_ret, Dd.we_bnd, Dd.we_lift, Dd.we_var, Dd.we_args_nil, Dd.we_args_cons, Dd.we_opN, Dd.we_op1, Dd.we_op2, Dd.we_call, Dd.we_tst, Dd.we_tru, Dd.we_notT, Dd.we_andT, Dd.we_orT, Dd.we_notV, Dd.we_andV, Dd.we_orV, Dd.we_ite, Dd.we_chn, Dd.we_mth, Dd.we_slice, Dd.we_intOf, Dd.nx_next, Dd.nx_ret, Dd.nx_ex, Dd.td_next, Dd.td_cont, Dd.td_brk, Dd.td_ret, Dd.td_ex, Dd.nx_brk, Dd.nx_cont, Dd.wp_skip, Dd.wp_seq, Dd.wp_drop, Dd.wp_ret, Dd.wp_asg, Dd.wp_if, Dd.wp_raise, Dd.wp_set, Dd.WO, Dk.eq_ss, Dk.ne_ss, Dk.eq_ii, Dk.ne_ii, Dk.sn_one_maybe, Dk.sn_one_many, Dk.sn_maybe_one, Dk.sn_maybe_many, Dk.sn_many_one, Dk.sn_many_maybe, Dk.sn_int_bool, Dk.sn_int_text, Dk.sn_bool_int, Dk.sn_bool_text, Dk.sn_text_int, Dk.sn_text_bool, Dk.isNot_non, Dk.q_add, Dk.q_addt, Dk.q_sub, Dk.q_mod, Dk.q_fdiv, Dk.q_mulr, Dk.q_mull, Dk.q_neg, Dk.q_lt, Dk.q_le, Dk.q_gt, Dk.q_ge, Dk.q_ix0, Dk.q_ix1, Dk.q_ix2, Dk.q_is_t, Dk.q_is_s, Dk.q_is_lt, Dk.q_is_ll, Dk.q_tru, Dk.q_lent, Dk.q_lenr, Dk.q_int, Dk.q_intb, Dk.q_abs, Dk.q_tupr, Dk.q_lstt, Dk.q_lst, Dk.q_tup, Dk.q_oka, Dk.q_oke, Dk.q_okj, Dk.q_app, Dk.q_ext, Dk.q_nm, Dk.q_tp, Dk.q_sa0, Dk.q_sa1, Dk.q_isn, Dk.q_isb, Dk.q_wipe0, Dk.q_wipe1, end_ret]
    refine (ih m gs h i j a hg ha f).mono (fun d h' w => ?_) fun _ _ _ z => z
    obtain ⟨⟨vs, rfl, q⟩, w2⟩ := w
    exact ⟨⟨q, fun z => nomatch z⟩, w2⟩
/-- the loop of _law_record -/
def RI (h : DH) (i j n a c : Nat) (fs : List D) (k : Nat) (e : DE) (hh : DH) : Prop := (∃ x y z u, e = [some (.ref i), some (.tup fs), some (.ref h.length), x, y, z, u]) ∧ Frame i h hh ∧ (∃ a', Feed hh i j a' ∧ a' ≤ a + k * c) ∧
  ∃ vs, lstAt hh h.length = some vs ∧ vs.length = k ∧ ∀ p ∈ (fs.take k).zip vs, FdRes (RcRes n []) [] p.1 p.2 none
theorem ri_app {h hh h1 : DH} {i j n a a' c c' k : Nat} {fs vs : List D} {f v : D} {e : DE} {x y z u : Option D} (hi : i < h.length ∧ j < h.length) (fr : Frame i h hh) (la : a' ≤ a + k * c) (l : lstAt hh h.length = some vs) (l2 : vs.length = k) (l3 : ∀ p ∈ (fs.take k).zip vs, FdRes (RcRes n []) [] p.1 p.2 none)
    (hf : fs[k]? = some f) (dr : Drew hh h1 i j a' c') (hc : c' ≤ c) (q : FdRes (RcRes n []) [] f v none) (he : e = [some (.ref i), some (.tup fs), some (.ref h.length), x, y, z, u]) :
    lstAt h1 h.length = some vs ∧ RI h i j n a c fs (k + 1) e (h1.set h.length (.lst (vs ++ [v]))) := by
  obtain ⟨fr1, a1, f1, la1⟩ := dr
  have ne : h.length ≠ i := by omega
  have l' := fr1.lst ne l
  have hk := (List.getElem?_eq_some_iff.mp hf).1
  refine ⟨l', ⟨_, _, _, _, he⟩, (fr.trans fr1).setge (Nat.le_refl _), ⟨a1, f1.other _ ne (by omega), ?_⟩, vs ++ [v], lst_set l', by rw [List.length_append, l2]; rfl, ?_⟩
  · rw [Nat.add_mul, Nat.one_mul]; omega
  · rw [take_snoc hf, List.zip_append (by rw [List.length_take, l2]; omega)]
    intro p hp
    rcases List.mem_append.mp hp with hp | hp
    · exact l3 p hp
    · simp only [List.zip_cons_cons, List.zip_nil_right, List.mem_singleton] at hp
      subst hp
      exact q
theorem ls_of {n : Nat} {kd : D} {xs : List D} (q : ∀ x ∈ xs, Vl n kd x) : LsRes (VlRes (RcRes n []) kd) xs none := ls_none.mpr fun x hx => (q x hx).1
end Dk

set_option Elab.async false
set_option linter.all false
set_option maxRecDepth 100000
set_option maxHeartbeats 4000000
namespace Dk
open PySem PySem.Spec PyProof.Rows L2 Dd

def VI (hh : DH) (i j n a c : Nat) (kd : D) (L q : Nat) (acc : List D) (hb : DH) : Prop := hh.length ≤ L ∧ Frame i hh hb ∧ (∃ b, Feed hb i j b ∧ b ≤ a + q * c) ∧ acc.length = q ∧ ∀ x ∈ acc, Vl n kd x
theorem w23_step (n : Nat) (ih : Sp22 n) : Sp23 (n + 1) := by
  intro m fs h i j a p ha f
  rw [show m + 2 * (n + 1) + 2 = (m + 2 * n + 3) + 1 from by omega]
  refine wc_of (f := f23) rfl e23 rfl ?_
  have hlt := f.lt
  have hcr : cr (n + 1) = 3 * (1 + 3 * cr n) := rfl
  have c6 := cr6 n
  have zz : Z = 16777216 := rfl
  have z5 : 5 ≤ Z := by decide
  unfold b23
  simp [startD, f23, Dd.we_ret, Dd.we_bnd, Dd.we_lift, Dd.we_var, Dd.we_args_nil, Dd.we_args_cons, Dd.we_opN, Dd.we_op1, Dd.we_op2, Dd.we_call, Dd.we_tst, Dd.we_tru, Dd.we_notT, Dd.we_andT, Dd.we_orT, Dd.we_notV, Dd.we_andV, Dd.we_orV, Dd.we_ite, Dd.we_chn, Dd.we_mth, Dd.we_slice, Dd.we_intOf, Dd.nx_next, Dd.nx_ret, Dd.nx_ex, Dd.td_next, Dd.td_cont, Dd.td_brk, Dd.td_ret, Dd.td_ex, Dd.nx_brk, Dd.nx_cont, Dd.wp_skip, Dd.wp_seq, Dd.wp_drop, Dd.wp_ret, Dd.wp_asg, Dd.wp_if, Dd.wp_raise, Dd.wp_set, Dd.WO, Dk.eq_ss, Dk.ne_ss, Dk.eq_ii, Dk.ne_ii, Dk.sn_one_maybe, Dk.sn_one_many, Dk.sn_maybe_one, Dk.sn_maybe_many, Dk.sn_many_one, Dk.sn_many_maybe, Dk.sn_int_bool, Dk.sn_int_text, Dk.sn_bool_int, Dk.sn_bool_text, Dk.sn_text_int, Dk.sn_text_bool, Dk.isNot_non, Dk.q_add, Dk.q_addt, Dk.q_sub, Dk.q_mod, Dk.q_fdiv, Dk.q_mulr, Dk.q_mull, Dk.q_neg, Dk.q_lt, Dk.q_le, Dk.q_gt, Dk.q_ge, Dk.q_ix0, Dk.q_ix1, Dk.q_ix2, Dk.q_is_t, Dk.q_is_s, Dk.q_is_lt, Dk.q_is_ll, Dk.q_tru, Dk.q_lent, Dk.q_lenr, Dk.q_int, Dk.q_intb, Dk.q_abs, Dk.q_tupr, Dk.q_lstt, Dk.q_lst, Dk.q_tup, Dk.q_oka, Dk.q_oke, Dk.q_okj, Dk.q_app, Dk.q_ext, Dk.q_nm, Dk.q_tp, Dk.q_sa0, Dk.q_sa1, Dk.q_isn, Dk.q_isb, Dk.q_wipe0, Dk.q_wipe1]
  refine for_in (RI h i j n a (1 + 3 * cr n) fs) ?_
  rw [we_var]
  refine ⟨_, rfl, fs, rfl, ⟨⟨_, _, _, _, rfl⟩, Frame.push _, ⟨a, f.push _, by omega⟩, [], lst_new, rfl, by simp⟩, ?_, ?_⟩
  · rintro e hh ⟨⟨x, y, z, u, rfl⟩, fr, ⟨a', fa, la⟩, vs, l1, l2, l3⟩
    simp [Dd.we_ret, Dd.we_bnd, Dd.we_lift, Dd.we_var, Dd.we_args_nil, Dd.we_args_cons, Dd.we_opN, Dd.we_op1, Dd.we_op2, Dd.we_call, Dd.we_tst, Dd.we_tru, Dd.we_notT, Dd.we_andT, Dd.we_orT, Dd.we_notV, Dd.we_andV, Dd.we_orV, Dd.we_ite, Dd.we_chn, Dd.we_mth, Dd.we_slice, Dd.we_intOf, Dd.nx_next, Dd.nx_ret, Dd.nx_ex, Dd.td_next, Dd.td_cont, Dd.td_brk, Dd.td_ret, Dd.td_ex, Dd.nx_brk, Dd.nx_cont, Dd.wp_skip, Dd.wp_seq, Dd.wp_drop, Dd.wp_ret, Dd.wp_asg, Dd.wp_if, Dd.wp_raise, Dd.wp_set, Dd.WO, Dk.eq_ss, Dk.ne_ss, Dk.eq_ii, Dk.ne_ii, Dk.sn_one_maybe, Dk.sn_one_many, Dk.sn_maybe_one, Dk.sn_maybe_many, Dk.sn_many_one, Dk.sn_many_maybe, Dk.sn_int_bool, Dk.sn_int_text, Dk.sn_bool_int, Dk.sn_bool_text, Dk.sn_text_int, Dk.sn_text_bool, Dk.isNot_non, Dk.q_add, Dk.q_addt, Dk.q_sub, Dk.q_mod, Dk.q_fdiv, Dk.q_mulr, Dk.q_mull, Dk.q_neg, Dk.q_lt, Dk.q_le, Dk.q_gt, Dk.q_ge, Dk.q_ix0, Dk.q_ix1, Dk.q_ix2, Dk.q_is_t, Dk.q_is_s, Dk.q_is_lt, Dk.q_is_ll, Dk.q_tru, Dk.q_lent, Dk.q_lenr, Dk.q_int, Dk.q_intb, Dk.q_abs, Dk.q_tupr, Dk.q_lstt, Dk.q_lst, Dk.q_tup, Dk.q_oka, Dk.q_oke, Dk.q_okj, Dk.q_app, Dk.q_ext, Dk.q_nm, Dk.q_tp, Dk.q_sa0, Dk.q_sa1, Dk.q_isn, Dk.q_isb, Dk.q_wipe0, Dk.q_wipe1, l1, end_ret]
    refine ⟨.inr ⟨vs, rfl, l2, ls_none.mpr ?_⟩, fr, a', fa, ?_⟩
    · rw [List.take_length] at l3; exact l3
    · have := Nat.mul_le_mul_right (1 + 3 * cr n) p.2.1
      omega
  · rintro k d e hh hd ⟨⟨x, y, z, u, rfl⟩, fr, ⟨a', fa, la⟩, vs, l1, l2, l3⟩
    obtain ⟨nm, tm, kd, rfl, q2, q3, q4⟩ := p.2.2 k d hd
    have hk := (List.getElem?_eq_some_iff.mp hd).1
    have hf3 := p.2.1
    have hk3 : (k + 1) * (1 + 3 * cr n) ≤ 3 * (1 + 3 * cr n) := Nat.mul_le_mul_right _ (by omega)
    have kc : (k + 1) * (1 + 3 * cr n) = k * (1 + 3 * cr n) + (1 + 3 * cr n) := by rw [Nat.add_mul, Nat.one_mul]
    have vz : vs.length < Z := by omega
    have ne : h.length ≠ i := by omega
    refine ⟨_, rfl, ?_⟩
    simp only [tms, List.mem_cons, List.not_mem_nil, or_false] at q3
    rcases q3 with rfl | rfl | rfl
    · simp [Dd.we_ret, Dd.we_bnd, Dd.we_lift, Dd.we_var, Dd.we_args_nil, Dd.we_args_cons, Dd.we_opN, Dd.we_op1, Dd.we_op2, Dd.we_call, Dd.we_tst, Dd.we_tru, Dd.we_notT, Dd.we_andT, Dd.we_orT, Dd.we_notV, Dd.we_andV, Dd.we_orV, Dd.we_ite, Dd.we_chn, Dd.we_mth, Dd.we_slice, Dd.we_intOf, Dd.nx_next, Dd.nx_ret, Dd.nx_ex, Dd.td_next, Dd.td_cont, Dd.td_brk, Dd.td_ret, Dd.td_ex, Dd.nx_brk, Dd.nx_cont, Dd.wp_skip, Dd.wp_seq, Dd.wp_drop, Dd.wp_ret, Dd.wp_asg, Dd.wp_if, Dd.wp_raise, Dd.wp_set, Dd.WO, Dk.eq_ss, Dk.ne_ss, Dk.eq_ii, Dk.ne_ii, Dk.sn_one_maybe, Dk.sn_one_many, Dk.sn_maybe_one, Dk.sn_maybe_many, Dk.sn_many_one, Dk.sn_many_maybe, Dk.sn_int_bool, Dk.sn_int_text, Dk.sn_bool_int, Dk.sn_bool_text, Dk.sn_text_int, Dk.sn_text_bool, Dk.isNot_non, Dk.q_add, Dk.q_addt, Dk.q_sub, Dk.q_mod, Dk.q_fdiv, Dk.q_mulr, Dk.q_mull, Dk.q_neg, Dk.q_lt, Dk.q_le, Dk.q_gt, Dk.q_ge, Dk.q_ix0, Dk.q_ix1, Dk.q_ix2, Dk.q_is_t, Dk.q_is_s, Dk.q_is_lt, Dk.q_is_ll, Dk.q_tru, Dk.q_lent, Dk.q_lenr, Dk.q_int, Dk.q_intb, Dk.q_abs, Dk.q_tupr, Dk.q_lstt, Dk.q_lst, Dk.q_tup, Dk.q_oka, Dk.q_oke, Dk.q_okj, Dk.q_app, Dk.q_ext, Dk.q_nm, Dk.q_tp, Dk.q_sa0, Dk.q_sa1, Dk.q_isn, Dk.q_isb, Dk.q_wipe0, Dk.q_wipe1, l1]
      refine (ih m kd hh i j a' q4 (by omega) fa).mono (fun d h1 w => ?_) fun _ _ _ z => z.elim
      obtain ⟨w1, dr⟩ := w
      obtain ⟨l', r⟩ := ri_app (e := [some (.ref i), some (.tup fs), some (.ref h.length), some (.str nm), some (.str "one"), some kd, u]) hlt fr la l1 l2 l3 hd dr (by omega) ⟨nm, _, kd, rfl, .inr (.inl ⟨sn_one_many, .inl rfl, w1.1⟩)⟩ rfl
      simp [l', vz, Dd.we_ret, Dd.we_bnd, Dd.we_lift, Dd.we_var, Dd.we_args_nil, Dd.we_args_cons, Dd.we_opN, Dd.we_op1, Dd.we_op2, Dd.we_call, Dd.we_tst, Dd.we_tru, Dd.we_notT, Dd.we_andT, Dd.we_orT, Dd.we_notV, Dd.we_andV, Dd.we_orV, Dd.we_ite, Dd.we_chn, Dd.we_mth, Dd.we_slice, Dd.we_intOf, Dd.nx_next, Dd.nx_ret, Dd.nx_ex, Dd.td_next, Dd.td_cont, Dd.td_brk, Dd.td_ret, Dd.td_ex, Dd.nx_brk, Dd.nx_cont, Dd.wp_skip, Dd.wp_seq, Dd.wp_drop, Dd.wp_ret, Dd.wp_asg, Dd.wp_if, Dd.wp_raise, Dd.wp_set, Dd.WO, Dk.eq_ss, Dk.ne_ss, Dk.eq_ii, Dk.ne_ii, Dk.sn_one_maybe, Dk.sn_one_many, Dk.sn_maybe_one, Dk.sn_maybe_many, Dk.sn_many_one, Dk.sn_many_maybe, Dk.sn_int_bool, Dk.sn_int_text, Dk.sn_bool_int, Dk.sn_bool_text, Dk.sn_text_int, Dk.sn_text_bool, Dk.isNot_non, Dk.q_add, Dk.q_addt, Dk.q_sub, Dk.q_mod, Dk.q_fdiv, Dk.q_mulr, Dk.q_mull, Dk.q_neg, Dk.q_lt, Dk.q_le, Dk.q_gt, Dk.q_ge, Dk.q_ix0, Dk.q_ix1, Dk.q_ix2, Dk.q_is_t, Dk.q_is_s, Dk.q_is_lt, Dk.q_is_ll, Dk.q_tru, Dk.q_lent, Dk.q_lenr, Dk.q_int, Dk.q_intb, Dk.q_abs, Dk.q_tupr, Dk.q_lstt, Dk.q_lst, Dk.q_tup, Dk.q_oka, Dk.q_oke, Dk.q_okj, Dk.q_app, Dk.q_ext, Dk.q_nm, Dk.q_tp, Dk.q_sa0, Dk.q_sa1, Dk.q_isn, Dk.q_isb, Dk.q_wipe0, Dk.q_wipe1]
      exact r
    · simp [Dd.we_ret, Dd.we_bnd, Dd.we_lift, Dd.we_var, Dd.we_args_nil, Dd.we_args_cons, Dd.we_opN, Dd.we_op1, Dd.we_op2, Dd.we_call, Dd.we_tst, Dd.we_tru, Dd.we_notT, Dd.we_andT, Dd.we_orT, Dd.we_notV, Dd.we_andV, Dd.we_orV, Dd.we_ite, Dd.we_chn, Dd.we_mth, Dd.we_slice, Dd.we_intOf, Dd.nx_next, Dd.nx_ret, Dd.nx_ex, Dd.td_next, Dd.td_cont, Dd.td_brk, Dd.td_ret, Dd.td_ex, Dd.nx_brk, Dd.nx_cont, Dd.wp_skip, Dd.wp_seq, Dd.wp_drop, Dd.wp_ret, Dd.wp_asg, Dd.wp_if, Dd.wp_raise, Dd.wp_set, Dd.WO, Dk.eq_ss, Dk.ne_ss, Dk.eq_ii, Dk.ne_ii, Dk.sn_one_maybe, Dk.sn_one_many, Dk.sn_maybe_one, Dk.sn_maybe_many, Dk.sn_many_one, Dk.sn_many_maybe, Dk.sn_int_bool, Dk.sn_int_text, Dk.sn_bool_int, Dk.sn_bool_text, Dk.sn_text_int, Dk.sn_text_bool, Dk.isNot_non, Dk.q_add, Dk.q_addt, Dk.q_sub, Dk.q_mod, Dk.q_fdiv, Dk.q_mulr, Dk.q_mull, Dk.q_neg, Dk.q_lt, Dk.q_le, Dk.q_gt, Dk.q_ge, Dk.q_ix0, Dk.q_ix1, Dk.q_ix2, Dk.q_is_t, Dk.q_is_s, Dk.q_is_lt, Dk.q_is_ll, Dk.q_tru, Dk.q_lent, Dk.q_lenr, Dk.q_int, Dk.q_intb, Dk.q_abs, Dk.q_tupr, Dk.q_lstt, Dk.q_lst, Dk.q_tup, Dk.q_oka, Dk.q_oke, Dk.q_okj, Dk.q_app, Dk.q_ext, Dk.q_nm, Dk.q_tp, Dk.q_sa0, Dk.q_sa1, Dk.q_isn, Dk.q_isb, Dk.q_wipe0, Dk.q_wipe1, l1]
      refine (w19 (m + 2 * n + 2) hh i j a' 3 (by decide) (by omega) fa).mono (fun d h1 w => ?_) fun _ _ _ z => z.elim
      obtain ⟨v, rfl, v0, v3, f1, o, rfl⟩ := w
      have l1' := (Frame.set (i := i) (h := hh) o).lst ne l1
      by_cases hv : v = 0
      · have dr : Drew hh (hh.set i o) i j a' 1 := ⟨Frame.set _, a' + 1, f1, by omega⟩
        obtain ⟨l', r⟩ := ri_app (e := [some (.ref i), some (.tup fs), some (.ref h.length), some (.str nm), some (.str "maybe"), some kd, u]) hlt fr la l1 l2 l3 hd dr (by omega) ⟨nm, _, kd, rfl, .inr (.inr ⟨sn_maybe_many, sn_maybe_one, rfl, rfl⟩)⟩ rfl
        simp [Dd.we_ret, Dd.we_bnd, Dd.we_lift, Dd.we_var, Dd.we_args_nil, Dd.we_args_cons, Dd.we_opN, Dd.we_op1, Dd.we_op2, Dd.we_call, Dd.we_tst, Dd.we_tru, Dd.we_notT, Dd.we_andT, Dd.we_orT, Dd.we_notV, Dd.we_andV, Dd.we_orV, Dd.we_ite, Dd.we_chn, Dd.we_mth, Dd.we_slice, Dd.we_intOf, Dd.nx_next, Dd.nx_ret, Dd.nx_ex, Dd.td_next, Dd.td_cont, Dd.td_brk, Dd.td_ret, Dd.td_ex, Dd.nx_brk, Dd.nx_cont, Dd.wp_skip, Dd.wp_seq, Dd.wp_drop, Dd.wp_ret, Dd.wp_asg, Dd.wp_if, Dd.wp_raise, Dd.wp_set, Dd.WO, Dk.eq_ss, Dk.ne_ss, Dk.eq_ii, Dk.ne_ii, Dk.sn_one_maybe, Dk.sn_one_many, Dk.sn_maybe_one, Dk.sn_maybe_many, Dk.sn_many_one, Dk.sn_many_maybe, Dk.sn_int_bool, Dk.sn_int_text, Dk.sn_bool_int, Dk.sn_bool_text, Dk.sn_text_int, Dk.sn_text_bool, Dk.isNot_non, Dk.q_add, Dk.q_addt, Dk.q_sub, Dk.q_mod, Dk.q_fdiv, Dk.q_mulr, Dk.q_mull, Dk.q_neg, Dk.q_lt, Dk.q_le, Dk.q_gt, Dk.q_ge, Dk.q_ix0, Dk.q_ix1, Dk.q_ix2, Dk.q_is_t, Dk.q_is_s, Dk.q_is_lt, Dk.q_is_ll, Dk.q_tru, Dk.q_lent, Dk.q_lenr, Dk.q_int, Dk.q_intb, Dk.q_abs, Dk.q_tupr, Dk.q_lstt, Dk.q_lst, Dk.q_tup, Dk.q_oka, Dk.q_oke, Dk.q_okj, Dk.q_app, Dk.q_ext, Dk.q_nm, Dk.q_tp, Dk.q_sa0, Dk.q_sa1, Dk.q_isn, Dk.q_isb, Dk.q_wipe0, Dk.q_wipe1, hv, l', vz]
        exact r
      · simp [Dd.we_ret, Dd.we_bnd, Dd.we_lift, Dd.we_var, Dd.we_args_nil, Dd.we_args_cons, Dd.we_opN, Dd.we_op1, Dd.we_op2, Dd.we_call, Dd.we_tst, Dd.we_tru, Dd.we_notT, Dd.we_andT, Dd.we_orT, Dd.we_notV, Dd.we_andV, Dd.we_orV, Dd.we_ite, Dd.we_chn, Dd.we_mth, Dd.we_slice, Dd.we_intOf, Dd.nx_next, Dd.nx_ret, Dd.nx_ex, Dd.td_next, Dd.td_cont, Dd.td_brk, Dd.td_ret, Dd.td_ex, Dd.nx_brk, Dd.nx_cont, Dd.wp_skip, Dd.wp_seq, Dd.wp_drop, Dd.wp_ret, Dd.wp_asg, Dd.wp_if, Dd.wp_raise, Dd.wp_set, Dd.WO, Dk.eq_ss, Dk.ne_ss, Dk.eq_ii, Dk.ne_ii, Dk.sn_one_maybe, Dk.sn_one_many, Dk.sn_maybe_one, Dk.sn_maybe_many, Dk.sn_many_one, Dk.sn_many_maybe, Dk.sn_int_bool, Dk.sn_int_text, Dk.sn_bool_int, Dk.sn_bool_text, Dk.sn_text_int, Dk.sn_text_bool, Dk.isNot_non, Dk.q_add, Dk.q_addt, Dk.q_sub, Dk.q_mod, Dk.q_fdiv, Dk.q_mulr, Dk.q_mull, Dk.q_neg, Dk.q_lt, Dk.q_le, Dk.q_gt, Dk.q_ge, Dk.q_ix0, Dk.q_ix1, Dk.q_ix2, Dk.q_is_t, Dk.q_is_s, Dk.q_is_lt, Dk.q_is_ll, Dk.q_tru, Dk.q_lent, Dk.q_lenr, Dk.q_int, Dk.q_intb, Dk.q_abs, Dk.q_tupr, Dk.q_lstt, Dk.q_lst, Dk.q_tup, Dk.q_oka, Dk.q_oke, Dk.q_okj, Dk.q_app, Dk.q_ext, Dk.q_nm, Dk.q_tp, Dk.q_sa0, Dk.q_sa1, Dk.q_isn, Dk.q_isb, Dk.q_wipe0, Dk.q_wipe1, hv, l1']
        refine (ih m kd (hh.set i o) i j (a' + 1) q4 (by omega) f1).mono (fun d h1 w => ?_) fun _ _ _ z => z.elim
        obtain ⟨w1, dr⟩ := w
        have dr' : Drew hh h1 i j a' (1 + cr n) := ⟨(Frame.set _).trans dr.1, by obtain ⟨_, b, b1, b2⟩ := dr; exact ⟨b, b1, by omega⟩⟩
        obtain ⟨l', r⟩ := ri_app (e := [some (.ref i), some (.tup fs), some (.ref h.length), some (.str nm), some (.str "maybe"), some kd, u]) hlt fr la l1 l2 l3 hd dr' (by omega) ⟨nm, _, kd, rfl, .inr (.inl ⟨sn_maybe_many, .inr w1.2, w1.1⟩)⟩ rfl
        simp [l', vz, Dd.we_ret, Dd.we_bnd, Dd.we_lift, Dd.we_var, Dd.we_args_nil, Dd.we_args_cons, Dd.we_opN, Dd.we_op1, Dd.we_op2, Dd.we_call, Dd.we_tst, Dd.we_tru, Dd.we_notT, Dd.we_andT, Dd.we_orT, Dd.we_notV, Dd.we_andV, Dd.we_orV, Dd.we_ite, Dd.we_chn, Dd.we_mth, Dd.we_slice, Dd.we_intOf, Dd.nx_next, Dd.nx_ret, Dd.nx_ex, Dd.td_next, Dd.td_cont, Dd.td_brk, Dd.td_ret, Dd.td_ex, Dd.nx_brk, Dd.nx_cont, Dd.wp_skip, Dd.wp_seq, Dd.wp_drop, Dd.wp_ret, Dd.wp_asg, Dd.wp_if, Dd.wp_raise, Dd.wp_set, Dd.WO, Dk.eq_ss, Dk.ne_ss, Dk.eq_ii, Dk.ne_ii, Dk.sn_one_maybe, Dk.sn_one_many, Dk.sn_maybe_one, Dk.sn_maybe_many, Dk.sn_many_one, Dk.sn_many_maybe, Dk.sn_int_bool, Dk.sn_int_text, Dk.sn_bool_int, Dk.sn_bool_text, Dk.sn_text_int, Dk.sn_text_bool, Dk.isNot_non, Dk.q_add, Dk.q_addt, Dk.q_sub, Dk.q_mod, Dk.q_fdiv, Dk.q_mulr, Dk.q_mull, Dk.q_neg, Dk.q_lt, Dk.q_le, Dk.q_gt, Dk.q_ge, Dk.q_ix0, Dk.q_ix1, Dk.q_ix2, Dk.q_is_t, Dk.q_is_s, Dk.q_is_lt, Dk.q_is_ll, Dk.q_tru, Dk.q_lent, Dk.q_lenr, Dk.q_int, Dk.q_intb, Dk.q_abs, Dk.q_tupr, Dk.q_lstt, Dk.q_lst, Dk.q_tup, Dk.q_oka, Dk.q_oke, Dk.q_okj, Dk.q_app, Dk.q_ext, Dk.q_nm, Dk.q_tp, Dk.q_sa0, Dk.q_sa1, Dk.q_isn, Dk.q_isb, Dk.q_wipe0, Dk.q_wipe1]
        exact r
    · simp [Dd.we_ret, Dd.we_bnd, Dd.we_lift, Dd.we_var, Dd.we_args_nil, Dd.we_args_cons, Dd.we_opN, Dd.we_op1, Dd.we_op2, Dd.we_call, Dd.we_tst, Dd.we_tru, Dd.we_notT, Dd.we_andT, Dd.we_orT, Dd.we_notV, Dd.we_andV, Dd.we_orV, Dd.we_ite, Dd.we_chn, Dd.we_mth, Dd.we_slice, Dd.we_intOf, Dd.nx_next, Dd.nx_ret, Dd.nx_ex, Dd.td_next, Dd.td_cont, Dd.td_brk, Dd.td_ret, Dd.td_ex, Dd.nx_brk, Dd.nx_cont, Dd.wp_skip, Dd.wp_seq, Dd.wp_drop, Dd.wp_ret, Dd.wp_asg, Dd.wp_if, Dd.wp_raise, Dd.wp_set, Dd.WO, Dk.eq_ss, Dk.ne_ss, Dk.eq_ii, Dk.ne_ii, Dk.sn_one_maybe, Dk.sn_one_many, Dk.sn_maybe_one, Dk.sn_maybe_many, Dk.sn_many_one, Dk.sn_many_maybe, Dk.sn_int_bool, Dk.sn_int_text, Dk.sn_bool_int, Dk.sn_bool_text, Dk.sn_text_int, Dk.sn_text_bool, Dk.isNot_non, Dk.q_add, Dk.q_addt, Dk.q_sub, Dk.q_mod, Dk.q_fdiv, Dk.q_mulr, Dk.q_mull, Dk.q_neg, Dk.q_lt, Dk.q_le, Dk.q_gt, Dk.q_ge, Dk.q_ix0, Dk.q_ix1, Dk.q_ix2, Dk.q_is_t, Dk.q_is_s, Dk.q_is_lt, Dk.q_is_ll, Dk.q_tru, Dk.q_lent, Dk.q_lenr, Dk.q_int, Dk.q_intb, Dk.q_abs, Dk.q_tupr, Dk.q_lstt, Dk.q_lst, Dk.q_tup, Dk.q_oka, Dk.q_oke, Dk.q_okj, Dk.q_app, Dk.q_ext, Dk.q_nm, Dk.q_tp, Dk.q_sa0, Dk.q_sa1, Dk.q_isn, Dk.q_isb, Dk.q_wipe0, Dk.q_wipe1, l1]
      refine lc_rngW (VI hh i j n (a' + 1) (cr n) kd) ?_
      simp [Dd.we_ret, Dd.we_bnd, Dd.we_lift, Dd.we_var, Dd.we_args_nil, Dd.we_args_cons, Dd.we_opN, Dd.we_op1, Dd.we_op2, Dd.we_call, Dd.we_tst, Dd.we_tru, Dd.we_notT, Dd.we_andT, Dd.we_orT, Dd.we_notV, Dd.we_andV, Dd.we_orV, Dd.we_ite, Dd.we_chn, Dd.we_mth, Dd.we_slice, Dd.we_intOf, Dd.nx_next, Dd.nx_ret, Dd.nx_ex, Dd.td_next, Dd.td_cont, Dd.td_brk, Dd.td_ret, Dd.td_ex, Dd.nx_brk, Dd.nx_cont, Dd.wp_skip, Dd.wp_seq, Dd.wp_drop, Dd.wp_ret, Dd.wp_asg, Dd.wp_if, Dd.wp_raise, Dd.wp_set, Dd.WO, Dk.eq_ss, Dk.ne_ss, Dk.eq_ii, Dk.ne_ii, Dk.sn_one_maybe, Dk.sn_one_many, Dk.sn_maybe_one, Dk.sn_maybe_many, Dk.sn_many_one, Dk.sn_many_maybe, Dk.sn_int_bool, Dk.sn_int_text, Dk.sn_bool_int, Dk.sn_bool_text, Dk.sn_text_int, Dk.sn_text_bool, Dk.isNot_non, Dk.q_add, Dk.q_addt, Dk.q_sub, Dk.q_mod, Dk.q_fdiv, Dk.q_mulr, Dk.q_mull, Dk.q_neg, Dk.q_lt, Dk.q_le, Dk.q_gt, Dk.q_ge, Dk.q_ix0, Dk.q_ix1, Dk.q_ix2, Dk.q_is_t, Dk.q_is_s, Dk.q_is_lt, Dk.q_is_ll, Dk.q_tru, Dk.q_lent, Dk.q_lenr, Dk.q_int, Dk.q_intb, Dk.q_abs, Dk.q_tupr, Dk.q_lstt, Dk.q_lst, Dk.q_tup, Dk.q_oka, Dk.q_oke, Dk.q_okj, Dk.q_app, Dk.q_ext, Dk.q_nm, Dk.q_tp, Dk.q_sa0, Dk.q_sa1, Dk.q_isn, Dk.q_isb, Dk.q_wipe0, Dk.q_wipe1]
      refine (w19 (m + 2 * n + 2) _ i j a' 5 (by decide) (by omega) (fa.push _)).mono (fun d h1 w => ?_) fun _ _ _ z => z.elim
      obtain ⟨v, rfl, v0, v5, f1, o, rfl⟩ := w
      obtain ⟨x', x1, x2⟩ := pickN (xs := [.int 0, .int 1, .int 1, .int 2, .int 3]) v0 v5
      have ix := ix_new (hh := hh) (o := o) fa.lt.1 x2
      obtain ⟨r, hr, rfl⟩ : ∃ r : Nat, r ≤ 3 ∧ x' = .int r := by
        simp only [List.mem_cons, List.not_mem_nil, or_false] at x1
        rcases x1 with rfl | rfl | rfl | rfl | rfl
        · exact ⟨0, by decide, rfl⟩
        · exact ⟨1, by decide, rfl⟩
        · exact ⟨1, by decide, rfl⟩
        · exact ⟨2, by decide, rfl⟩
        · exact ⟨3, by decide, rfl⟩
      have hL : hh.length < ((hh ++ [Ob.lst [.int 0, .int 1, .int 1, .int 2, .int 3]]).set i o).length := by simp
      have hlh := (List.getElem?_eq_some_iff.mp (lstAt_some l1)).1
      simp only [ix]
      refine ⟨r, rfl, by omega, ⟨Nat.le_of_lt hL, ((Frame.push _).trans (Frame.set _)).trans (Frame.push _), ⟨a' + 1, f1.push _, by omega⟩, rfl, fun _ z => nomatch z⟩, ?_, ?_⟩
      · rintro acc hb la' ⟨hL', fr', ⟨b, fb, lb⟩, c1, c2⟩
        have hr' : r * cr n ≤ 3 * cr n := Nat.mul_le_mul_right _ hr
        have dr : Drew hh hb i j a' (1 + 3 * cr n) := ⟨fr', b, fb, by omega⟩
        obtain ⟨l', r⟩ := ri_app (e := [some (.ref i), some (.tup fs), some (.ref h.length), some (.str nm), some (.str "many"), some kd, u]) hlt fr la l1 l2 l3 hd dr (by omega) ⟨nm, _, kd, rfl, .inl ⟨rfl, .inr ⟨acc, rfl, ls_of c2⟩⟩⟩ rfl
        have la2 := la'
        simp at la2
        simp [Dd.we_ret, Dd.we_bnd, Dd.we_lift, Dd.we_var, Dd.we_args_nil, Dd.we_args_cons, Dd.we_opN, Dd.we_op1, Dd.we_op2, Dd.we_call, Dd.we_tst, Dd.we_tru, Dd.we_notT, Dd.we_andT, Dd.we_orT, Dd.we_notV, Dd.we_andV, Dd.we_orV, Dd.we_ite, Dd.we_chn, Dd.we_mth, Dd.we_slice, Dd.we_intOf, Dd.nx_next, Dd.nx_ret, Dd.nx_ex, Dd.td_next, Dd.td_cont, Dd.td_brk, Dd.td_ret, Dd.td_ex, Dd.nx_brk, Dd.nx_cont, Dd.wp_skip, Dd.wp_seq, Dd.wp_drop, Dd.wp_ret, Dd.wp_asg, Dd.wp_if, Dd.wp_raise, Dd.wp_set, Dd.WO, Dk.eq_ss, Dk.ne_ss, Dk.eq_ii, Dk.ne_ii, Dk.sn_one_maybe, Dk.sn_one_many, Dk.sn_maybe_one, Dk.sn_maybe_many, Dk.sn_many_one, Dk.sn_many_maybe, Dk.sn_int_bool, Dk.sn_int_text, Dk.sn_bool_int, Dk.sn_bool_text, Dk.sn_text_int, Dk.sn_text_bool, Dk.isNot_non, Dk.q_add, Dk.q_addt, Dk.q_sub, Dk.q_mod, Dk.q_fdiv, Dk.q_mulr, Dk.q_mull, Dk.q_neg, Dk.q_lt, Dk.q_le, Dk.q_gt, Dk.q_ge, Dk.q_ix0, Dk.q_ix1, Dk.q_ix2, Dk.q_is_t, Dk.q_is_s, Dk.q_is_lt, Dk.q_is_ll, Dk.q_tru, Dk.q_lent, Dk.q_lenr, Dk.q_int, Dk.q_intb, Dk.q_abs, Dk.q_tupr, Dk.q_lstt, Dk.q_lst, Dk.q_tup, Dk.q_oka, Dk.q_oke, Dk.q_okj, Dk.q_app, Dk.q_ext, Dk.q_nm, Dk.q_tp, Dk.q_sa0, Dk.q_sa1, Dk.q_isn, Dk.q_isb, Dk.q_wipe0, Dk.q_wipe1, la2, l', vz]
        exact r
      · rintro q acc hb hq la' ⟨hL', fr', ⟨b, fb, lb⟩, c1, c2⟩
        have hr' : (q + 1) * cr n ≤ 3 * cr n := Nat.mul_le_mul_right _ (by omega)
        have hr2 : (q + 1) * cr n = q * cr n + cr n := by rw [Nat.add_mul, Nat.one_mul]
        replace hL' : hh.length ≤ hh.length + 1 := by omega
        simp at la'
        unfold Elt
        simp [Dd.we_ret, Dd.we_bnd, Dd.we_lift, Dd.we_var, Dd.we_args_nil, Dd.we_args_cons, Dd.we_opN, Dd.we_op1, Dd.we_op2, Dd.we_call, Dd.we_tst, Dd.we_tru, Dd.we_notT, Dd.we_andT, Dd.we_orT, Dd.we_notV, Dd.we_andV, Dd.we_orV, Dd.we_ite, Dd.we_chn, Dd.we_mth, Dd.we_slice, Dd.we_intOf, Dd.nx_next, Dd.nx_ret, Dd.nx_ex, Dd.td_next, Dd.td_cont, Dd.td_brk, Dd.td_ret, Dd.td_ex, Dd.nx_brk, Dd.nx_cont, Dd.wp_skip, Dd.wp_seq, Dd.wp_drop, Dd.wp_ret, Dd.wp_asg, Dd.wp_if, Dd.wp_raise, Dd.wp_set, Dd.WO, Dk.eq_ss, Dk.ne_ss, Dk.eq_ii, Dk.ne_ii, Dk.sn_one_maybe, Dk.sn_one_many, Dk.sn_maybe_one, Dk.sn_maybe_many, Dk.sn_many_one, Dk.sn_many_maybe, Dk.sn_int_bool, Dk.sn_int_text, Dk.sn_bool_int, Dk.sn_bool_text, Dk.sn_text_int, Dk.sn_text_bool, Dk.isNot_non, Dk.q_add, Dk.q_addt, Dk.q_sub, Dk.q_mod, Dk.q_fdiv, Dk.q_mulr, Dk.q_mull, Dk.q_neg, Dk.q_lt, Dk.q_le, Dk.q_gt, Dk.q_ge, Dk.q_ix0, Dk.q_ix1, Dk.q_ix2, Dk.q_is_t, Dk.q_is_s, Dk.q_is_lt, Dk.q_is_ll, Dk.q_tru, Dk.q_lent, Dk.q_lenr, Dk.q_int, Dk.q_intb, Dk.q_abs, Dk.q_tupr, Dk.q_lstt, Dk.q_lst, Dk.q_tup, Dk.q_oka, Dk.q_oke, Dk.q_okj, Dk.q_app, Dk.q_ext, Dk.q_nm, Dk.q_tp, Dk.q_sa0, Dk.q_sa1, Dk.q_isn, Dk.q_isb, Dk.q_wipe0, Dk.q_wipe1]
        refine (ih m kd hb i j b q4 (by omega) fb).mono (fun d h1 w => ?_) fun _ _ _ z => z.elim
        obtain ⟨w1, dr1, b', b1, b2⟩ := w
        refine ⟨dr1.lst (by have := fa.lt; omega) la', hL', (fr'.trans dr1).setge hL', ⟨b', b1.other _ (by have := fa.lt; omega) (by have := fa.lt; omega), by omega⟩, by rw [List.length_append, c1]; rfl, fun x hx => ?_⟩
        rcases List.mem_append.mp hx with hx | hx
        · exact c2 x hx
        · rw [List.mem_singleton.mp hx]; exact w1
theorem w23 : ∀ n, Sp23 n
  | 0 => fun _ _ _ _ _ _ p => p.elim
  | n + 1 => w23_step n (w22_step n (w23 n))
end Dk

set_option Elab.async false
set_option linter.all false
set_option maxRecDepth 100000
set_option maxHeartbeats 4000000
namespace Dk
open PySem PySem.Spec PyProof.Rows L2 Dd

/-! ### plain data as the library's -/
def Pure : Nat → D → Prop
  | 0, _ => False
  | n + 1, d => match d with
    | .non => True
    | .bl _ => True
    | .int _ => True
    | .str x => PyData.strOk x = true
    | .tup xs => ∀ x ∈ xs, Pure n x
    | _ => False
theorem pure_list {n k : Nat} (ih : ∀ d, Pure n d → ∃ x, (∀ h, toPy h k d = some x) ∧ x.canLay0 = true ∧ x.depth ≤ n) : ∀ xs : List D, (∀ x ∈ xs, Pure n x) → ∃ ys, (∀ h, xs.mapM (toPy h k) = some ys) ∧ PyData.canLayAll0 ys = true ∧ PyData.depthAll ys ≤ n
  | [], _ => ⟨[], fun h => rfl, rfl, Nat.zero_le _⟩
  | x :: xs, p => by
    obtain ⟨y, y1, y2, y3⟩ := ih x (p x List.mem_cons_self)
    obtain ⟨ys, z1, z2, z3⟩ := pure_list ih xs fun z hz => p z (List.mem_cons_of_mem _ hz)
    refine ⟨y :: ys, fun h => ?_, ?_, ?_⟩
    · rw [List.mapM_cons, y1 h, z1 h]
      rfl
    · simp only [PyData.canLayAll0, y2, z2, Bool.and_self]
    · simp only [PyData.depthAll]
      omega
theorem pure_py : ∀ (n k : Nat) (d : D), Pure n d → n ≤ k → ∃ x, (∀ h, toPy h k d = some x) ∧ x.canLay0 = true ∧ x.depth ≤ n
  | 0, _, _, p, _ => p.elim
  | n + 1, 0, _, _, hk => by omega
  | n + 1, k + 1, d, p, hk => by
    cases d with
    | non => exact ⟨.none, fun h => rfl, rfl, Nat.zero_le _⟩
    | bl b => exact ⟨.bool b, fun h => rfl, rfl, Nat.zero_le _⟩
    | int i => exact ⟨.int i, fun h => rfl, rfl, Nat.zero_le _⟩
    | str x => exact ⟨.str x, fun h => rfl, p, Nat.zero_le _⟩
    | tup xs =>
      obtain ⟨ys, z1, z2, z3⟩ := pure_list (k := k) (fun d q => pure_py n k d q (by omega)) xs p
      refine ⟨.tuple ys, fun h => ?_, z2, ?_⟩
      · show (xs.mapM (toPy h k)).map PyData.tuple = _
        rw [z1 h]
        rfl
      · simp only [PyData.depth]
        omega
    | _ => exact p.elim
theorem shaped_of {x : PyData} {n : Nat} (h1 : x.canLay0 = true) (h2 : x.depth ≤ n) (hn : n ≤ 64) : SeqAt.shaped x = true := by
  unfold SeqAt.shaped
  rw [h1, decide_eq_true (by omega : x.depth ≤ 64)]
  rfl
theorem eqB_pure {n : Nat} {d : D} (h : DH) (p : Pure n d) (hn : n ≤ 20) : eqB d d h = some true := by
  obtain ⟨x, x1, x2, x3⟩ := pure_py n 20 d p hn
  cases n with
  | zero => exact p.elim
  | succ n =>
    cases d with
    | tup xs =>
      unfold eqB
      simp only [scalD, x1 h, shaped_of x2 x3 (by omega), Bool.and_self, if_true, SeqAt.eqv_refl x x2]
    | non => rfl
    | bl b => simp [eqB, scalD]
    | int i => simp [eqB, scalD]
    | str s => simp [eqB, scalD]
    | _ => exact p.elim
theorem ne_pure {n : Nat} {d : D} (h : DH) (p : Pure n d) (hn : n ≤ 20) : neD d d h = some (.bl false, h) := by
  unfold neD
  rw [eqB_pure h p hn]
  rfl
theorem eqB_lists {n i j : Nat} {xs : List D} {h : DH} (li : lstAt h i = some xs) (lj : lstAt h j = some xs) (p : ∀ x ∈ xs, Pure n x) (hn : n ≤ 19) : eqB (.ref i) (.ref j) h = some true := by
  obtain ⟨ys, z1, z2, z3⟩ := pure_list (k := 19) (fun d q => pure_py n 19 d q hn) xs p
  have e : ∀ k, lstAt h k = some xs → toPy h 20 (.ref k) = some (.list ys) := fun k l => by
    have := lstAt_some l
    show (match h[k]? with | some (.lst xs) => (xs.mapM (toPy h 19)).map PyData.list | _ => none) = _
    rw [this]
    dsimp only
    rw [z1 h]
    rfl
  have c : (PyData.list ys).canLay0 = true := z2
  have dp : (PyData.list ys).depth ≤ n + 1 := by simp only [PyData.depth]; omega
  unfold eqB
  simp only [scalD, e i li, e j lj, shaped_of c dp (by omega), Bool.and_self, if_true, SeqAt.eqv_refl _ c]
theorem ne_lists {n i j : Nat} {xs : List D} {h : DH} (li : lstAt h i = some xs) (lj : lstAt h j = some xs) (p : ∀ x ∈ xs, Pure n x) (hn : n ≤ 19) : neD (.ref i) (.ref j) h = some (.bl false, h) := by
  unfold neD
  rw [eqB_lists li lj p hn]
  rfl
/-- paths -/
def pD (ss : List Str) : D := .tup (ss.map D.str)
def OkS (ss : List Str) : Prop := ∀ s ∈ ss, PyData.strOk s = true
theorem toPy_strs (h : DH) (n : Nat) : ∀ ss : List Str, (ss.map D.str).mapM (toPy h (n + 1)) = some (ss.map PyData.str)
  | [] => rfl
  | s :: ss => by
    rw [List.map_cons, List.mapM_cons, toPy_strs h n ss]
    rfl
theorem eqv_strs : ∀ ss ts : List Str, PyData.eqvAll (ss.map PyData.str) (ts.map PyData.str) = decide (ss = ts)
  | [], [] => rfl
  | s :: ss, t :: ts => by
    rw [List.map_cons, List.map_cons, PyData.eqvAll, eqv_strs ss ts]
    simp only [PyData.eqv]
    by_cases h1 : s = t
    · subst h1
      by_cases h2 : ss = ts <;> simp [h2]
    · have : (s == t) = false := by simpa using h1
      simp [h1, this]
  | [], _ :: _ => rfl
  | _ :: _, [] => rfl
theorem lay_strs : ∀ ss : List Str, OkS ss → PyData.canLayAll0 (ss.map PyData.str) = true ∧ PyData.depthAll (ss.map PyData.str) = 0
  | [], _ => ⟨rfl, rfl⟩
  | s :: ss, p => by
    obtain ⟨h1, h2⟩ := lay_strs ss fun x hx => p x (List.mem_cons_of_mem _ hx)
    have h3 := p s List.mem_cons_self
    constructor
    · simp only [List.map_cons, PyData.canLayAll0, PyData.canLay0, h3, h1, Bool.and_self]
    · simp only [List.map_cons, PyData.depthAll, PyData.depth, h2, Nat.max_self]
theorem eq_paths (ss ts : List Str) (h : DH) (p1 : OkS ss) (p2 : OkS ts) : eqD (pD ss) (pD ts) h = some (.bl (decide (ss = ts)), h) := by
  have e : ∀ ss : List Str, toPy h 20 (pD ss) = some (.tuple (ss.map PyData.str)) := fun ss => by
    show ((ss.map D.str).mapM (toPy h 19)).map PyData.tuple = _
    rw [toPy_strs h 18 ss]
    rfl
  have s : ∀ ss : List Str, OkS ss → SeqAt.shaped (.tuple (ss.map PyData.str)) = true := fun ss p => by
    obtain ⟨h1, h2⟩ := lay_strs ss p
    exact shaped_of (n := 1) h1 (by simp only [PyData.depth, h2]; omega) (by omega)
  have z : eqB (pD ss) (pD ts) h = some (decide (ss = ts)) := by
    unfold eqB
    rw [show scalD (pD ss) (pD ts) = none from rfl]
    dsimp only
    rw [e, e]
    dsimp only
    rw [s ss p1, s ts p2]
    show some (PyData.eqv _ _) = _
    rw [PyData.eqv, eqv_strs]
  unfold eqD
  rw [z]
  rfl
theorem pD_inj {ss ts : List Str} : pD ss = pD ts ↔ ss = ts := by
  constructor
  · intro h
    have h : ss.map D.str = ts.map D.str := by injection h
    exact (List.map_inj_right (fun x y z => by injection z)).mp h
  · intro h; rw [h]
theorem nm3_ok : ∀ s ∈ nm3, PyData.strOk s = true := by decide +kernel
end Dk

set_option Elab.async false
set_option linter.all false
set_option maxRecDepth 100000
set_option maxHeartbeats 4000000
namespace Dk
open PySem PySem.Spec PyProof.Rows L2 Dd

def CShape (bf : List Str) (df rp : Int) (n : Nat) (d : D) : Prop := ∃ (ss : List Str) (k : Str) (a b : Int), d = D.tup [pD (bf ++ ss), .str k, .int a, .int b] ∧ k ∈ knds ∧ (∀ s ∈ ss, s ∈ nm3) ∧ ss.length ≤ n ∧ df ≤ a ∧ a ≤ df + n ∧ rp ≤ b ∧ b ≤ rp + n
theorem am_b (tm : Str) : 0 ≤ am tm ∧ am tm ≤ 1 := by unfold am; split <;> omega
theorem bm_b (tm : Str) : 0 ≤ bm tm ∧ bm tm ≤ 1 := by unfold bm; split <;> omega
theorem nm3_mem {k : Nat} {nm : Str} (h : nm3[k]? = some nm) : nm ∈ nm3 := List.mem_of_getElem? h
/-- what stands under one field -/
theorem col_one {n : Nat} (ih : ∀ (fs : List D) (bf : List Str) (df rp : Int), FsOk n fs → ∀ d ∈ colsM n fs (bf.map D.str) df rp, CShape bf df rp n d) {bf : List Str} {df rp : Int} {nm tm : Str} {kd d : D} (hk : KdOk n kd) (hd : d ∈ colD (colsM n) (bf.map D.str) df rp (.tup [.str nm, .str tm, kd])) :
    ∃ (ss : List Str) (k : Str) (a b : Int), d = D.tup [pD (bf ++ nm :: ss), .str k, .int a, .int b] ∧ k ∈ knds ∧ (∀ s ∈ ss, s ∈ nm3) ∧ ss.length ≤ n ∧ df ≤ a ∧ a ≤ df + (n + 1) ∧ rp ≤ b ∧ b ≤ rp + (n + 1) := by
  have h1 := am_b tm
  have h2 := bm_b tm
  rcases hk with ⟨x, hx, rfl⟩ | ⟨gs, rfl, hg⟩
  · have hd : d ∈ [D.tup [.tup (bf.map D.str ++ [.str nm]), .str x, .int (df + am tm), .int (rp + bm tm)]] := hd
    rw [List.mem_singleton.mp hd]
    refine ⟨[], x, df + am tm, rp + bm tm, ?_, hx, fun _ z => (nomatch z), Nat.zero_le _, by omega, by omega, by omega, by omega⟩
    unfold pD
    rw [List.map_append]
    rfl
  · have hd : d ∈ colsM n gs (bf.map D.str ++ [.str nm]) (df + am tm) (rp + bm tm) := hd
    have e : bf.map D.str ++ [.str nm] = (bf ++ [nm]).map D.str := by rw [List.map_append]; rfl
    rw [e] at hd
    obtain ⟨ss, k, a, b, rfl, q1, q2, q3, q4, q5, q6, q7⟩ := ih gs (bf ++ [nm]) _ _ hg d hd
    refine ⟨ss, k, a, b, ?_, q1, q2, q3, by omega, by omega, by omega, by omega⟩
    rw [List.append_assoc]
    rfl
theorem cols_path : ∀ (n : Nat) (fs : List D) (bf : List Str) (df rp : Int), FsOk n fs → ∀ d ∈ colsM n fs (bf.map D.str) df rp, CShape bf df rp n d
  | 0, _, _, _, _, p, _, _ => p.elim
  | n + 1, fs, bf, df, rp, ⟨p1, p2, p3⟩, d, hd => by
    obtain ⟨f, hf, hd⟩ := List.mem_flatMap.mp (show d ∈ fs.flatMap (colD (colsM n) (bf.map D.str) df rp) from hd)
    obtain ⟨i, hi⟩ := List.getElem?_of_mem hf
    obtain ⟨nm, tm, kd, rfl, q2, q3, q4⟩ := p3 i f hi
    obtain ⟨ss, k, a, b, rfl, r1, r2, r3, r4, r5, r6, r7⟩ := col_one (cols_path n) q4 hd
    refine ⟨nm :: ss, k, a, b, rfl, r1, fun s hs => ?_, by rw [List.length_cons]; omega, by omega, by omega, by omega, by omega⟩
    rcases List.mem_cons.mp hs with rfl | hs
    · exact nm3_mem q2
    · exact r2 s hs
theorem nm3_ne {i j : Nat} {a b : Str} (hij : i < j) (h1 : nm3[i]? = some a) (h2 : nm3[j]? = some b) : a ≠ b := by
  have hj : j < 3 := (List.getElem?_eq_some_iff.mp h2).1
  have : i = 0 ∧ j = 1 ∨ i = 0 ∧ j = 2 ∨ i = 1 ∧ j = 2 := by omega
  rcases this with ⟨rfl, rfl⟩ | ⟨rfl, rfl⟩ | ⟨rfl, rfl⟩ <;> cases h1 <;> cases h2 <;> decide +kernel
theorem cols_nodup : ∀ (n : Nat) (fs : List D) (bf : List Str) (df rp : Int), FsOk n fs → (colsM n fs (bf.map D.str) df rp).Pairwise fun d d' => col0 d ≠ col0 d'
  | 0, _, _, _, _, p => p.elim
  | n + 1, fs, bf, df, rp, ⟨p1, p2, p3⟩ => by
    show (fs.flatMap (colD (colsM n) (bf.map D.str) df rp)).Pairwise _
    refine List.pairwise_flatMap.mpr ⟨fun f hf => ?_, ?_⟩
    · obtain ⟨i, hi⟩ := List.getElem?_of_mem hf
      obtain ⟨nm, tm, kd, rfl, q2, q3, q4⟩ := p3 i f hi
      rcases q4 with ⟨x, hx, rfl⟩ | ⟨gs, rfl, hg⟩
      · exact List.pairwise_singleton _ _
      · have e : bf.map D.str ++ [.str nm] = (bf ++ [nm]).map D.str := by rw [List.map_append]; rfl
        show (colsM n gs (bf.map D.str ++ [.str nm]) (df + am tm) (rp + bm tm)).Pairwise _
        rw [e]
        exact cols_nodup n gs (bf ++ [nm]) _ _ hg
    · refine List.pairwise_iff_getElem.mpr fun i j hi hj hij x hx y hy => ?_
      obtain ⟨nm, tm, kd, e1, q2, q3, q4⟩ := p3 i _ (List.getElem?_eq_getElem hi)
      obtain ⟨nm', tm', kd', e1', q2', q3', q4'⟩ := p3 j _ (List.getElem?_eq_getElem hj)
      rw [e1] at hx
      rw [e1'] at hy
      obtain ⟨ss, k, a, b, rfl, _⟩ := col_one (cols_path n) q4 hx
      obtain ⟨ss', k', a', b', rfl, _⟩ := col_one (cols_path n) q4' hy
      intro z
      have z : pD (bf ++ nm :: ss) = pD (bf ++ nm' :: ss') := z
      have z := List.append_cancel_left (pD_inj.mp z)
      exact nm3_ne hij q2 q2' (List.cons.inj z).1
/-- the columns of a whole schema -/
abbrev colsA (n : Nat) (fs : List D) : List D := colsM n fs [] 0 0
theorem colsA_path {n : Nat} {fs : List D} (p : FsOk n fs) {d : D} (hd : d ∈ colsA n fs) : CShape [] 0 0 n d := cols_path n fs [] 0 0 p d hd
theorem colsA_inj {n : Nat} {fs : List D} (p : FsOk n fs) {d d' : D} (h1 : d ∈ colsA n fs) (h2 : d' ∈ colsA n fs) (e : col0 d = col0 d') : d = d' := by
  have nd := cols_nodup n fs [] 0 0 p
  obtain ⟨i, hi, rfl⟩ := List.getElem_of_mem h1
  obtain ⟨j, hj, rfl⟩ := List.getElem_of_mem h2
  have q := List.pairwise_iff_getElem.mp nd
  rcases Nat.lt_trichotomy i j with z | z | z
  · exact absurd e (q i j hi hj z)
  · subst z; rfl
  · exact absurd e.symm (q j i hj hi z)
theorem okS_nm3 {ss : List Str} (h : ∀ s ∈ ss, s ∈ nm3) : OkS ss := fun s hs => nm3_ok s (h s hs)
theorem cols_ne : ∀ (n : Nat) (fs bf : List D) (df rp : Int), FsOk n fs → 1 ≤ (colsM n fs bf df rp).length
  | 0, _, _, _, _, p => p.elim
  | n + 1, fs, bf, df, rp, ⟨p1, p2, p3⟩ => by
    obtain ⟨nm, tm, kd, e, q2, q3, q4⟩ := p3 0 _ (List.getElem?_eq_getElem (by omega))
    have hm : fs[0] ∈ fs := List.getElem_mem _
    have one : 1 ≤ (colD (colsM n) bf df rp fs[0]).length := by
      rw [e]
      rcases q4 with ⟨x, hx, rfl⟩ | ⟨gs, rfl, hg⟩
      · exact Nat.le_refl 1
      · exact cols_ne n gs _ _ _ hg
    obtain ⟨d, hd⟩ := List.exists_mem_of_length_pos one
    exact List.length_pos_of_mem (List.mem_flatMap.mpr ⟨_, hm, hd⟩)
theorem pure_col {n : Nat} {d : D} (h : CShape [] 0 0 n d) : Pure 3 d := by
  obtain ⟨ss, k, a, b, rfl, q1, q2, _⟩ := h
  have sk : PyData.strOk k = true := by
    simp only [knds, List.mem_cons, List.not_mem_nil, or_false] at q1
    rcases q1 with rfl | rfl | rfl <;> decide +kernel
  intro x hx
  simp only [List.mem_cons, List.not_mem_nil, or_false] at hx
  rcases hx with rfl | rfl | rfl | rfl
  · intro y hy
    obtain ⟨s, hs, rfl⟩ := List.mem_map.mp hy
    exact okS_nm3 q2 s hs
  · exact sk
  · exact trivial
  · exact trivial
end Dk

set_option Elab.async false
set_option linter.all false
set_option maxRecDepth 100000
set_option maxHeartbeats 4000000
namespace Dk
open PySem PySem.Spec PyProof.Rows L2 Dd

def I7 (h : DH) (fs : List D) (ts : List Str) (cs : List D) (i : Nat) (xs : List D) (k : Nat) (e : DE) (hh : DH) : Prop := (∃ x, e = [some (.tup fs), some (pD ts), x]) ∧ Grow h hh ∧ lstAt hh i = some xs ∧ xs = cs ∧ ∀ d ∈ cs.take k, col0 d ≠ pD ts
theorem w7 (n m : Nat) (fs : List D) (ts : List Str) (h : DH) (p : FsOk n fs) (hn : n ≤ 8) (ok : OkS ts) : WC (pg.run (m + n + 2)) 7 [.tup fs, pD ts] h (fun d h' => d ∈ colsA n fs ∧ col0 d = pD ts ∧ Grow h h')
    (fun c q h' => c = 2 ∧ q = pD ts ∧ (∀ d ∈ colsA n fs, col0 d ≠ pD ts) ∧ Grow h h') := by
  refine wc_of (f := f7) rfl e7 rfl ?_
  unfold b7
  rw [wp_seq]
  refine for_list (I7 h fs ts (colsA n fs)) ?_
  simp [startD, f7, Dd.we_ret, Dd.we_bnd, Dd.we_lift, Dd.we_var, Dd.we_args_nil, Dd.we_args_cons, Dd.we_opN, Dd.we_op1, Dd.we_op2, Dd.we_call, Dd.we_tst, Dd.we_tru, Dd.we_notT, Dd.we_andT, Dd.we_orT, Dd.we_notV, Dd.we_andV, Dd.we_orV, Dd.we_ite, Dd.we_chn, Dd.we_mth, Dd.we_slice, Dd.we_intOf, Dd.nx_next, Dd.nx_ret, Dd.nx_ex, Dd.td_next, Dd.td_cont, Dd.td_brk, Dd.td_ret, Dd.td_ex, Dd.nx_brk, Dd.nx_cont, Dd.wp_skip, Dd.wp_seq, Dd.wp_drop, Dd.wp_ret, Dd.wp_asg, Dd.wp_if, Dd.wp_raise, Dd.wp_set, Dd.WO, Dk.eq_ss, Dk.ne_ss, Dk.eq_ii, Dk.ne_ii, Dk.sn_one_maybe, Dk.sn_one_many, Dk.sn_maybe_one, Dk.sn_maybe_many, Dk.sn_many_one, Dk.sn_many_maybe, Dk.sn_int_bool, Dk.sn_int_text, Dk.sn_bool_int, Dk.sn_bool_text, Dk.sn_text_int, Dk.sn_text_bool, Dk.isNot_non, Dk.q_add, Dk.q_addt, Dk.q_sub, Dk.q_mod, Dk.q_fdiv, Dk.q_mulr, Dk.q_mull, Dk.q_neg, Dk.q_lt, Dk.q_le, Dk.q_gt, Dk.q_ge, Dk.q_ix0, Dk.q_ix1, Dk.q_ix2, Dk.q_is_t, Dk.q_is_s, Dk.q_is_lt, Dk.q_is_ll, Dk.q_tru, Dk.q_lent, Dk.q_lenr, Dk.q_int, Dk.q_intb, Dk.q_abs, Dk.q_tupr, Dk.q_lstt, Dk.q_lst, Dk.q_tup, Dk.q_oka, Dk.q_oke, Dk.q_okj, Dk.q_app, Dk.q_ext, Dk.q_nm, Dk.q_tp, Dk.q_sa0, Dk.q_sa1, Dk.q_isn, Dk.q_isb, Dk.q_wipe0, Dk.q_wipe1]
  refine (w4 n m fs h p hn).mono (fun d h1 w => ?_) fun _ _ _ z => z.elim
  obtain ⟨rfl, l, g⟩ := w
  refine ⟨_, rfl, _, l, ⟨⟨_, rfl⟩, g, l, rfl, by simp⟩, fun k e hh iv => iv.2.2.1, ?_, ?_⟩
  · rintro e hh ⟨⟨x, rfl⟩, g', l', -, a⟩
    rw [List.take_length] at a
    simp [Dd.we_ret, Dd.we_bnd, Dd.we_lift, Dd.we_var, Dd.we_args_nil, Dd.we_args_cons, Dd.we_opN, Dd.we_op1, Dd.we_op2, Dd.we_call, Dd.we_tst, Dd.we_tru, Dd.we_notT, Dd.we_andT, Dd.we_orT, Dd.we_notV, Dd.we_andV, Dd.we_orV, Dd.we_ite, Dd.we_chn, Dd.we_mth, Dd.we_slice, Dd.we_intOf, Dd.nx_next, Dd.nx_ret, Dd.nx_ex, Dd.td_next, Dd.td_cont, Dd.td_brk, Dd.td_ret, Dd.td_ex, Dd.nx_brk, Dd.nx_cont, Dd.wp_skip, Dd.wp_seq, Dd.wp_drop, Dd.wp_ret, Dd.wp_asg, Dd.wp_if, Dd.wp_raise, Dd.wp_set, Dd.WO, Dk.eq_ss, Dk.ne_ss, Dk.eq_ii, Dk.ne_ii, Dk.sn_one_maybe, Dk.sn_one_many, Dk.sn_maybe_one, Dk.sn_maybe_many, Dk.sn_many_one, Dk.sn_many_maybe, Dk.sn_int_bool, Dk.sn_int_text, Dk.sn_bool_int, Dk.sn_bool_text, Dk.sn_text_int, Dk.sn_text_bool, Dk.isNot_non, Dk.q_add, Dk.q_addt, Dk.q_sub, Dk.q_mod, Dk.q_fdiv, Dk.q_mulr, Dk.q_mull, Dk.q_neg, Dk.q_lt, Dk.q_le, Dk.q_gt, Dk.q_ge, Dk.q_ix0, Dk.q_ix1, Dk.q_ix2, Dk.q_is_t, Dk.q_is_s, Dk.q_is_lt, Dk.q_is_ll, Dk.q_tru, Dk.q_lent, Dk.q_lenr, Dk.q_int, Dk.q_intb, Dk.q_abs, Dk.q_tupr, Dk.q_lstt, Dk.q_lst, Dk.q_tup, Dk.q_oka, Dk.q_oke, Dk.q_okj, Dk.q_app, Dk.q_ext, Dk.q_nm, Dk.q_tp, Dk.q_sa0, Dk.q_sa1, Dk.q_isn, Dk.q_isb, Dk.q_wipe0, Dk.q_wipe1, end_ex]
    exact ⟨a, g'⟩
  · rintro k d e hh hd ⟨⟨x, rfl⟩, g', l', -, a⟩
    have hm := List.mem_of_getElem? hd
    obtain ⟨ss, kk, x1, x2, rfl, q1, q2, _⟩ := colsA_path p hm
    have eq : ∀ h, eqD (pD ss) (pD ts) h = some (.bl (decide (ss = ts)), h) := fun h => eq_paths ss ts h (okS_nm3 q2) ok
    refine ⟨_, rfl, ?_⟩
    by_cases hs : ss = ts
    · subst hs
      simp [Dd.we_ret, Dd.we_bnd, Dd.we_lift, Dd.we_var, Dd.we_args_nil, Dd.we_args_cons, Dd.we_opN, Dd.we_op1, Dd.we_op2, Dd.we_call, Dd.we_tst, Dd.we_tru, Dd.we_notT, Dd.we_andT, Dd.we_orT, Dd.we_notV, Dd.we_andV, Dd.we_orV, Dd.we_ite, Dd.we_chn, Dd.we_mth, Dd.we_slice, Dd.we_intOf, Dd.nx_next, Dd.nx_ret, Dd.nx_ex, Dd.td_next, Dd.td_cont, Dd.td_brk, Dd.td_ret, Dd.td_ex, Dd.nx_brk, Dd.nx_cont, Dd.wp_skip, Dd.wp_seq, Dd.wp_drop, Dd.wp_ret, Dd.wp_asg, Dd.wp_if, Dd.wp_raise, Dd.wp_set, Dd.WO, Dk.eq_ss, Dk.ne_ss, Dk.eq_ii, Dk.ne_ii, Dk.sn_one_maybe, Dk.sn_one_many, Dk.sn_maybe_one, Dk.sn_maybe_many, Dk.sn_many_one, Dk.sn_many_maybe, Dk.sn_int_bool, Dk.sn_int_text, Dk.sn_bool_int, Dk.sn_bool_text, Dk.sn_text_int, Dk.sn_text_bool, Dk.isNot_non, Dk.q_add, Dk.q_addt, Dk.q_sub, Dk.q_mod, Dk.q_fdiv, Dk.q_mulr, Dk.q_mull, Dk.q_neg, Dk.q_lt, Dk.q_le, Dk.q_gt, Dk.q_ge, Dk.q_ix0, Dk.q_ix1, Dk.q_ix2, Dk.q_is_t, Dk.q_is_s, Dk.q_is_lt, Dk.q_is_ll, Dk.q_tru, Dk.q_lent, Dk.q_lenr, Dk.q_int, Dk.q_intb, Dk.q_abs, Dk.q_tupr, Dk.q_lstt, Dk.q_lst, Dk.q_tup, Dk.q_oka, Dk.q_oke, Dk.q_okj, Dk.q_app, Dk.q_ext, Dk.q_nm, Dk.q_tp, Dk.q_sa0, Dk.q_sa1, Dk.q_isn, Dk.q_isb, Dk.q_wipe0, Dk.q_wipe1, eq, end_ret]
      exact ⟨hm, rfl, g'⟩
    · simp [Dd.we_ret, Dd.we_bnd, Dd.we_lift, Dd.we_var, Dd.we_args_nil, Dd.we_args_cons, Dd.we_opN, Dd.we_op1, Dd.we_op2, Dd.we_call, Dd.we_tst, Dd.we_tru, Dd.we_notT, Dd.we_andT, Dd.we_orT, Dd.we_notV, Dd.we_andV, Dd.we_orV, Dd.we_ite, Dd.we_chn, Dd.we_mth, Dd.we_slice, Dd.we_intOf, Dd.nx_next, Dd.nx_ret, Dd.nx_ex, Dd.td_next, Dd.td_cont, Dd.td_brk, Dd.td_ret, Dd.td_ex, Dd.nx_brk, Dd.nx_cont, Dd.wp_skip, Dd.wp_seq, Dd.wp_drop, Dd.wp_ret, Dd.wp_asg, Dd.wp_if, Dd.wp_raise, Dd.wp_set, Dd.WO, Dk.eq_ss, Dk.ne_ss, Dk.eq_ii, Dk.ne_ii, Dk.sn_one_maybe, Dk.sn_one_many, Dk.sn_maybe_one, Dk.sn_maybe_many, Dk.sn_many_one, Dk.sn_many_maybe, Dk.sn_int_bool, Dk.sn_int_text, Dk.sn_bool_int, Dk.sn_bool_text, Dk.sn_text_int, Dk.sn_text_bool, Dk.isNot_non, Dk.q_add, Dk.q_addt, Dk.q_sub, Dk.q_mod, Dk.q_fdiv, Dk.q_mulr, Dk.q_mull, Dk.q_neg, Dk.q_lt, Dk.q_le, Dk.q_gt, Dk.q_ge, Dk.q_ix0, Dk.q_ix1, Dk.q_ix2, Dk.q_is_t, Dk.q_is_s, Dk.q_is_lt, Dk.q_is_ll, Dk.q_tru, Dk.q_lent, Dk.q_lenr, Dk.q_int, Dk.q_intb, Dk.q_abs, Dk.q_tupr, Dk.q_lstt, Dk.q_lst, Dk.q_tup, Dk.q_oka, Dk.q_oke, Dk.q_okj, Dk.q_app, Dk.q_ext, Dk.q_nm, Dk.q_tp, Dk.q_sa0, Dk.q_sa1, Dk.q_isn, Dk.q_isb, Dk.q_wipe0, Dk.q_wipe1, eq, hs]
      refine ⟨⟨_, rfl⟩, g', l', rfl, ?_⟩
      rw [take_snoc hd]
      intro d hd
      rcases List.mem_append.mp hd with hd | hd
      · exact a d hd
      · rw [List.mem_singleton.mp hd]
        exact fun z => hs (pD_inj.mp z)
end Dk

set_option Elab.async false
set_option linter.all false
set_option maxRecDepth 100000
set_option maxHeartbeats 4000000
namespace Dk
open PySem PySem.Spec PyProof.Rows L2 Dd

section
variable {κ : Type} [DecidableEq κ]
theorem look_any (kvs : List (κ × D)) (k : κ) : (lookD kvs k).isSome = kvs.any fun p => decide (p.1 = k) := by
  unfold lookD
  rw [Option.isSome_map, List.isSome_find?]
theorem put_any (kvs : List (κ × D)) (k k' : κ) (v : D) : ((putD kvs k v).any fun p => decide (p.1 = k')) = (decide (k = k') || kvs.any fun p => decide (p.1 = k')) := by
  unfold putD
  split
  · rename_i hk
    rw [List.any_map]
    have e : ((fun p : κ × D => decide (p.1 = k')) ∘ fun p : κ × D => if p.1 = k then (p.1, v) else p) = fun p => decide (p.1 = k') := by
      funext p
      show decide ((if p.1 = k then (p.1, v) else p).1 = k') = _
      split <;> rfl
    rw [e]
    by_cases hkk : k = k'
    · subst hkk
      rw [hk, decide_eq_true rfl, Bool.or_true]
    · rw [decide_eq_false hkk, Bool.false_or]
  · rw [List.any_append, Bool.or_comm]
    simp
theorem put_len (kvs : List (κ × D)) (k : κ) (v : D) : (putD kvs k v).length ≤ kvs.length + 1 := by
  unfold putD
  split
  · rw [List.length_map]; omega
  · rw [List.length_append]; exact Nat.le_refl _
end
theorem keys_strs : ∀ ss : List Str, keysD (ss.map D.str) = some (ss.map Sum.inr)
  | [] => rfl
  | s :: ss => by
    have ih := keys_strs ss
    unfold keysD at ih ⊢
    rw [List.map_cons, List.mapM_cons, ih]
    rfl
def kP (ss : List Str) : List Key := ss.map Sum.inr
theorem kP_inj {ss ts : List Str} : kP ss = kP ts ↔ ss = ts := List.map_inj_right (fun x y z => by injection z)
/-- a dict of just these paths -/
def PDict (h : DH) (q : Nat) (ps : List (List Str)) : Prop := ∃ kvs, h[q]? = some (.dt kvs) ∧ ∀ ss, (kvs.any fun p => decide (p.1 = kP ss)) = decide (ss ∈ ps)
theorem PDict.grow {h h' : DH} {q : Nat} {ps : List (List Str)} (g : Grow h h') (p : PDict h q ps) : PDict h' q ps := by
  obtain ⟨kvs, h1, h2⟩ := p
  exact ⟨kvs, g.ix h1, h2⟩
theorem pd_in {h : DH} {q : Nat} {ps : List (List Str)} (p : PDict h q ps) (ss : List Str) : inB (pD ss) (.ref q) h = some (decide (ss ∈ ps)) := by
  obtain ⟨kvs, h1, h2⟩ := p
  have e : dGet (.ref q) (pD ss) h = some (lookD kvs (kP ss)) := by
    show (match h[q]?, pD ss with
      | some (.dk kvs), k => (keyD k).map (lookD kvs)
      | some (.dt kvs), .tup ks => (keysD ks).map (lookD kvs)
      | _, _ => none) = _
    rw [h1]
    show (keysD (ss.map D.str)).map (lookD kvs) = _
    rw [keys_strs]
    rfl
  unfold inB
  simp only [h1, e, Option.map_some]
  rw [look_any, h2]
theorem pd_inD {h : DH} {q : Nat} {ps : List (List Str)} (p : PDict h q ps) (ss : List Str) : inD (pD ss) (.ref q) h = some (.bl (decide (ss ∈ ps)), h) := by
  unfold inD
  rw [pd_in p]
  rfl
theorem pd_notIn {h : DH} {q : Nat} {ps : List (List Str)} (p : PDict h q ps) (ss : List Str) : notInD (pD ss) (.ref q) h = some (.bl (!decide (ss ∈ ps)), h) := by
  unfold notInD
  rw [pd_in p]
  rfl
theorem we_dcp {e : DE} {h : DH} {it : M D} {Q : D → DH → Prop} {X : Nat → D → DH → Prop} (he : 4 < e.length)
    (w : WE it e h (fun d h1 => ∃ i ps, d = .ref i ∧ lstAt h1 i = some (ps.map pD) ∧ ps.length ≤ 10000 ∧ ∀ h2, Grow h1 h2 → PDict h2 h1.length ps → Q (.ref h1.length) h2) X) :
    WE (dcM [4] (bnd it fun x => lift (srcD x)) (.nm 4) (var 4) (Dd.ret (.bl true))) e h Q X := by
  unfold dcM
  rw [we_bnd, we_bnd]
  refine w.mono (fun d h1 w => ?_) fun _ _ _ x => x
  obtain ⟨i, ps, rfl, l0, hz, fin⟩ := w
  rw [we_lift, wo_iff]
  refine ⟨.live i (ps.map pD).length, h1, by simp only [srcD, l0, Option.map_some], ?_⟩
  have zz : Z = 16777216 := rfl
  have hi := (List.getElem?_eq_some_iff.mp (lstAt_some l0)).1
  have go : ∀ r k h kvs, k + r = (ps.map pD).length → Grow h1 h → h[h1.length]? = some (.dt kvs) → kvs.length ≤ k → (∀ ss, (kvs.any fun p => decide (p.1 = kP ss)) = decide (ss ∈ ps.take k)) →
      ∃ h', dcLoop (.live i (ps.map pD).length) (.nm 4) (var 4) (Dd.ret (.bl true)) h1.length (wipeE e [4]) r k h = some h' ∧ Grow h1 h' ∧ PDict h' h1.length ps := by
    intro r
    induction r with
    | zero =>
      intro k h kvs hk g hd _ q
      have l := g.lst l0
      refine ⟨h, ?_, g, kvs, hd, fun ss => ?_⟩
      · show (if (Src.live i (ps.map pD).length).done h then some h else none) = _
        rw [live_done l, if_pos rfl]
      · rw [q ss, List.take_of_length_le (by rw [List.length_map] at hk; omega)]
    | succ r ih =>
      intro k h kvs hk g hd hl q
      have l := g.lst l0
      have hlt : k < ps.length := by rw [List.length_map] at hk; omega
      have hget : (ps.map pD)[k]? = some (pD ps[k]) := by rw [List.getElem?_map, List.getElem?_eq_getElem hlt]; rfl
      have e4 : ((wipeE e [4]).set 4 (some (pD ps[k])))[4]? = some (some (pD ps[k])) := by
        rw [List.getElem?_set_self]
        show 4 < ((wipeE e []).set 4 none).length
        rw [List.length_set]
        exact he
      have v4 : var 4 ((wipeE e [4]).set 4 (some (pD ps[k]))) h = some (.ok (pD ps[k]), h) := by
        unfold var
        rw [e4]
      have un : dcLoop (.live i (ps.map pD).length) (.nm 4) (var 4) (Dd.ret (.bl true)) h1.length (wipeE e [4]) (r + 1) k h = dcLoop (.live i (ps.map pD).length) (.nm 4) (var 4) (Dd.ret (.bl true)) h1.length (wipeE e [4]) r (k + 1) (h.set h1.length (.dt (putD kvs (kP ps[k]) (.bl true)))) := by
        dsimp only [dcLoop]
        rw [live_at k l, hget]
        dsimp only
        show (match var 4 ((wipeE e [4]).set 4 (some (pD ps[k]))) h with
          | some (.ok (.tup ks), h1') => _
          | _ => none) = _
        rw [v4]
        show (match keysD ((ps[k]).map D.str), h[h1.length]? with
          | some kk, some (.dt kvs) => if kvs.length < Z then _ else none
          | _, _ => none) = _
        rw [keys_strs, hd]
        dsimp only
        rw [if_pos (by omega)]
        rfl
      rw [un]
      have hlen := (List.getElem?_eq_some_iff.mp hd).1
      refine ih (k + 1) _ _ (by omega) (g.set _ (Nat.le_refl _)) (List.getElem?_set_self hlen) (Nat.le_trans (put_len _ _ _) (by omega)) fun ss => ?_
      rw [put_any, q ss, take_snoc (List.getElem?_eq_getElem hlt)]
      apply Bool.eq_iff_iff.mpr
      simp only [Bool.or_eq_true, decide_eq_true_eq, List.mem_append, List.mem_singleton, kP_inj]
      constructor
      · rintro (z | z)
        · exact .inr z.symm
        · exact .inl z
      · rintro (z | z)
        · exact .inr z
        · exact .inl z.symm
  obtain ⟨h', q, g, pd⟩ := go (ps.map pD).length 0 (h1 ++ [.dt []]) [] (by omega) (Grow.one _ _) (by rw [List.getElem?_append_right (Nat.le_refl _), Nat.sub_self]; rfl) (Nat.le_refl _) fun ss => by simp
  exact ⟨.ok (.ref h1.length), h', by show (dcLoop _ _ _ _ h1.length (wipeE e [4]) (ps.map pD).length 0 (h1 ++ [.dt []])).map _ = _; rw [q]; rfl, fin h' g pd⟩
end Dk

set_option Elab.async false
set_option linter.all false
set_option maxRecDepth 100000
set_option maxHeartbeats 4000000
namespace Dk
open PySem PySem.Spec PyProof.Rows L2 Dd

def Covers (n : Nat) (fs : List D) (bf : List Str) (df rp : Int) (ps : List (List Str)) : Prop := ∀ (ss : List Str) (d : D), d ∈ colsM n fs (bf.map D.str) df rp → col0 d = pD ss → ss ∈ ps
def I9 (h : DH) (fs : List D) (bf : List Str) (q : Nat) (ps : List (List Str)) (k : Nat) (e : DE) (hh : DH) : Prop := (∃ x1 x2 x3 x4 x5, e = [some (.tup fs), some (pD bf), some (.ref q), some (.ref h.length), x1, x2, x3, x4, x5]) ∧ Grow h hh ∧ lstAt hh h.length = some (fs.take k) ∧ PDict hh q ps
theorem w9 : ∀ (n m : Nat) (fs : List D) (bf : List Str) (df rp : Int) (q : Nat) (ps : List (List Str)) (h : DH), FsOk n fs → bf.length + n ≤ 100 → PDict h q ps → Covers n fs bf df rp ps →
    WC (pg.run (m + n)) 9 [.tup fs, pD bf, .ref q] h (fun d h' => d = .tup fs ∧ Grow h h') fun _ _ _ => False
  | 0, _, _, _, _, _, _, _, _, p, _, _, _ => p.elim
  | n + 1, m, fs, bf, df, rp, q, ps, h, p, hb, pd, cov => by
    refine wc_of (f := f9) rfl e9 rfl ?_
    have zz : Z = 16777216 := rfl
    have hf3 := p.2.1
    unfold b9
    simp [startD, f9, Dd.we_ret, Dd.we_bnd, Dd.we_lift, Dd.we_var, Dd.we_args_nil, Dd.we_args_cons, Dd.we_opN, Dd.we_op1, Dd.we_op2, Dd.we_call, Dd.we_tst, Dd.we_tru, Dd.we_notT, Dd.we_andT, Dd.we_orT, Dd.we_notV, Dd.we_andV, Dd.we_orV, Dd.we_ite, Dd.we_chn, Dd.we_mth, Dd.we_slice, Dd.we_intOf, Dd.nx_next, Dd.nx_ret, Dd.nx_ex, Dd.td_next, Dd.td_cont, Dd.td_brk, Dd.td_ret, Dd.td_ex, Dd.nx_brk, Dd.nx_cont, Dd.wp_skip, Dd.wp_seq, Dd.wp_drop, Dd.wp_ret, Dd.wp_asg, Dd.wp_if, Dd.wp_raise, Dd.wp_set, Dd.WO, Dk.eq_ss, Dk.ne_ss, Dk.eq_ii, Dk.ne_ii, Dk.sn_one_maybe, Dk.sn_one_many, Dk.sn_maybe_one, Dk.sn_maybe_many, Dk.sn_many_one, Dk.sn_many_maybe, Dk.sn_int_bool, Dk.sn_int_text, Dk.sn_bool_int, Dk.sn_bool_text, Dk.sn_text_int, Dk.sn_text_bool, Dk.isNot_non, Dk.q_add, Dk.q_addt, Dk.q_sub, Dk.q_mod, Dk.q_fdiv, Dk.q_mulr, Dk.q_mull, Dk.q_neg, Dk.q_lt, Dk.q_le, Dk.q_gt, Dk.q_ge, Dk.q_ix0, Dk.q_ix1, Dk.q_ix2, Dk.q_is_t, Dk.q_is_s, Dk.q_is_lt, Dk.q_is_ll, Dk.q_tru, Dk.q_lent, Dk.q_lenr, Dk.q_int, Dk.q_intb, Dk.q_abs, Dk.q_tupr, Dk.q_lstt, Dk.q_lst, Dk.q_tup, Dk.q_oka, Dk.q_oke, Dk.q_okj, Dk.q_app, Dk.q_ext, Dk.q_nm, Dk.q_tp, Dk.q_sa0, Dk.q_sa1, Dk.q_isn, Dk.q_isb, Dk.q_wipe0, Dk.q_wipe1]
    refine for_in (I9 h fs bf q ps) ?_
    rw [we_var]
    refine ⟨_, rfl, fs, rfl, ⟨⟨_, _, _, _, _, rfl⟩, Grow.one h _, lst_new, pd.grow (Grow.one h _)⟩, ?_, ?_⟩
    · rintro e hh ⟨⟨x1, x2, x3, x4, x5, rfl⟩, g, l, pd'⟩
      rw [List.take_length] at l
      simp [Dd.we_ret, Dd.we_bnd, Dd.we_lift, Dd.we_var, Dd.we_args_nil, Dd.we_args_cons, Dd.we_opN, Dd.we_op1, Dd.we_op2, Dd.we_call, Dd.we_tst, Dd.we_tru, Dd.we_notT, Dd.we_andT, Dd.we_orT, Dd.we_notV, Dd.we_andV, Dd.we_orV, Dd.we_ite, Dd.we_chn, Dd.we_mth, Dd.we_slice, Dd.we_intOf, Dd.nx_next, Dd.nx_ret, Dd.nx_ex, Dd.td_next, Dd.td_cont, Dd.td_brk, Dd.td_ret, Dd.td_ex, Dd.nx_brk, Dd.nx_cont, Dd.wp_skip, Dd.wp_seq, Dd.wp_drop, Dd.wp_ret, Dd.wp_asg, Dd.wp_if, Dd.wp_raise, Dd.wp_set, Dd.WO, Dk.eq_ss, Dk.ne_ss, Dk.eq_ii, Dk.ne_ii, Dk.sn_one_maybe, Dk.sn_one_many, Dk.sn_maybe_one, Dk.sn_maybe_many, Dk.sn_many_one, Dk.sn_many_maybe, Dk.sn_int_bool, Dk.sn_int_text, Dk.sn_bool_int, Dk.sn_bool_text, Dk.sn_text_int, Dk.sn_text_bool, Dk.isNot_non, Dk.q_add, Dk.q_addt, Dk.q_sub, Dk.q_mod, Dk.q_fdiv, Dk.q_mulr, Dk.q_mull, Dk.q_neg, Dk.q_lt, Dk.q_le, Dk.q_gt, Dk.q_ge, Dk.q_ix0, Dk.q_ix1, Dk.q_ix2, Dk.q_is_t, Dk.q_is_s, Dk.q_is_lt, Dk.q_is_ll, Dk.q_tru, Dk.q_lent, Dk.q_lenr, Dk.q_int, Dk.q_intb, Dk.q_abs, Dk.q_tupr, Dk.q_lstt, Dk.q_lst, Dk.q_tup, Dk.q_oka, Dk.q_oke, Dk.q_okj, Dk.q_app, Dk.q_ext, Dk.q_nm, Dk.q_tp, Dk.q_sa0, Dk.q_sa1, Dk.q_isn, Dk.q_isb, Dk.q_wipe0, Dk.q_wipe1, l, end_ret]
      exact g
    · rintro k d e hh hd ⟨⟨x1, x2, x3, x4, x5, rfl⟩, g, l, pd'⟩
      obtain ⟨nm, tm, kd, rfl, q2, q3, q4⟩ := p.2.2 k d hd
      have hk := (List.getElem?_eq_some_iff.mp hd).1
      have lz : (fs.take k).length < Z := by rw [List.length_take]; omega
      have lz' : min k fs.length < Z := by omega
      have pe : ∀ ds : List D, (bf.map D.str) ++ [.str nm] = (bf ++ [nm]).map D.str := fun _ => by rw [List.map_append]; rfl
      have ab : ∀ h, addD (pD bf) (.tup [.str nm]) h = some (pD (bf ++ [nm]), h) := fun h => by
        show (if (bf.map D.str).length + 1 ≤ Z then some (D.tup (bf.map D.str ++ [.str nm]), h) else none) = _
        rw [if_pos (by rw [List.length_map]; omega), pe []]
        rfl
      have app : ∀ hh, Grow h hh → lstAt hh h.length = some (fs.take k) → PDict hh q ps → ∀ (x4 x5 : Option D), I9 h fs bf q ps (k + 1) [some (.tup fs), some (pD bf), some (.ref q), some (.ref h.length), some (.str nm), some (.str tm), some kd, x4, x5] (hh.set h.length (.lst (fs.take k ++ [.tup [.str nm, .str tm, kd]]))) := by
        intro hh g l pd x4 x5
        refine ⟨⟨_, _, _, _, _, rfl⟩, g.set _ (Nat.le_refl _), ?_, ?_⟩
        · rw [take_snoc hd]
          exact lst_set l
        · obtain ⟨kvs, k1, k2⟩ := pd
          refine ⟨kvs, ?_, k2⟩
          have : h.length ≠ q := fun z => by
            have := lstAt_some l
            rw [z, k1] at this
            cases this
          rw [List.getElem?_set_ne this]
          exact k1
      have sub : ∀ d ∈ colD (colsM n) (bf.map D.str) df rp (.tup [.str nm, .str tm, kd]), d ∈ colsM (n + 1) fs (bf.map D.str) df rp := fun d hd' => List.mem_flatMap.mpr ⟨_, List.mem_of_getElem? hd, hd'⟩
      refine ⟨_, rfl, ?_⟩
      rcases q4 with ⟨x, hx, rfl⟩ | ⟨gs, rfl, hg⟩
      · have inn : (bf ++ [nm]) ∈ ps := by
          refine cov (bf ++ [nm]) _ (sub (.tup [.tup (bf.map D.str ++ [.str nm]), .str x, .int (df + am tm), .int (rp + bm tm)]) (List.mem_singleton.mpr rfl)) ?_
          show D.tup (bf.map D.str ++ [.str nm]) = _
          rw [pe []]
          rfl
        have i1 : ∀ h, PDict h q ps → inD (pD (bf ++ [nm])) (.ref q) h = some (.bl true, h) := fun h p => by rw [pd_inD p, decide_eq_true inn]
        simp [Dd.we_ret, Dd.we_bnd, Dd.we_lift, Dd.we_var, Dd.we_args_nil, Dd.we_args_cons, Dd.we_opN, Dd.we_op1, Dd.we_op2, Dd.we_call, Dd.we_tst, Dd.we_tru, Dd.we_notT, Dd.we_andT, Dd.we_orT, Dd.we_notV, Dd.we_andV, Dd.we_orV, Dd.we_ite, Dd.we_chn, Dd.we_mth, Dd.we_slice, Dd.we_intOf, Dd.nx_next, Dd.nx_ret, Dd.nx_ex, Dd.td_next, Dd.td_cont, Dd.td_brk, Dd.td_ret, Dd.td_ex, Dd.nx_brk, Dd.nx_cont, Dd.wp_skip, Dd.wp_seq, Dd.wp_drop, Dd.wp_ret, Dd.wp_asg, Dd.wp_if, Dd.wp_raise, Dd.wp_set, Dd.WO, Dk.eq_ss, Dk.ne_ss, Dk.eq_ii, Dk.ne_ii, Dk.sn_one_maybe, Dk.sn_one_many, Dk.sn_maybe_one, Dk.sn_maybe_many, Dk.sn_many_one, Dk.sn_many_maybe, Dk.sn_int_bool, Dk.sn_int_text, Dk.sn_bool_int, Dk.sn_bool_text, Dk.sn_text_int, Dk.sn_text_bool, Dk.isNot_non, Dk.q_add, Dk.q_addt, Dk.q_sub, Dk.q_mod, Dk.q_fdiv, Dk.q_mulr, Dk.q_mull, Dk.q_neg, Dk.q_lt, Dk.q_le, Dk.q_gt, Dk.q_ge, Dk.q_ix0, Dk.q_ix1, Dk.q_ix2, Dk.q_is_t, Dk.q_is_s, Dk.q_is_lt, Dk.q_is_ll, Dk.q_tru, Dk.q_lent, Dk.q_lenr, Dk.q_int, Dk.q_intb, Dk.q_abs, Dk.q_tupr, Dk.q_lstt, Dk.q_lst, Dk.q_tup, Dk.q_oka, Dk.q_oke, Dk.q_okj, Dk.q_app, Dk.q_ext, Dk.q_nm, Dk.q_tp, Dk.q_sa0, Dk.q_sa1, Dk.q_isn, Dk.q_isb, Dk.q_wipe0, Dk.q_wipe1, ab, i1 hh pd', l, lz']
        exact app hh g l pd' _ _
      · simp [Dd.we_ret, Dd.we_bnd, Dd.we_lift, Dd.we_var, Dd.we_args_nil, Dd.we_args_cons, Dd.we_opN, Dd.we_op1, Dd.we_op2, Dd.we_call, Dd.we_tst, Dd.we_tru, Dd.we_notT, Dd.we_andT, Dd.we_orT, Dd.we_notV, Dd.we_andV, Dd.we_orV, Dd.we_ite, Dd.we_chn, Dd.we_mth, Dd.we_slice, Dd.we_intOf, Dd.nx_next, Dd.nx_ret, Dd.nx_ex, Dd.td_next, Dd.td_cont, Dd.td_brk, Dd.td_ret, Dd.td_ex, Dd.nx_brk, Dd.nx_cont, Dd.wp_skip, Dd.wp_seq, Dd.wp_drop, Dd.wp_ret, Dd.wp_asg, Dd.wp_if, Dd.wp_raise, Dd.wp_set, Dd.WO, Dk.eq_ss, Dk.ne_ss, Dk.eq_ii, Dk.ne_ii, Dk.sn_one_maybe, Dk.sn_one_many, Dk.sn_maybe_one, Dk.sn_maybe_many, Dk.sn_many_one, Dk.sn_many_maybe, Dk.sn_int_bool, Dk.sn_int_text, Dk.sn_bool_int, Dk.sn_bool_text, Dk.sn_text_int, Dk.sn_text_bool, Dk.isNot_non, Dk.q_add, Dk.q_addt, Dk.q_sub, Dk.q_mod, Dk.q_fdiv, Dk.q_mulr, Dk.q_mull, Dk.q_neg, Dk.q_lt, Dk.q_le, Dk.q_gt, Dk.q_ge, Dk.q_ix0, Dk.q_ix1, Dk.q_ix2, Dk.q_is_t, Dk.q_is_s, Dk.q_is_lt, Dk.q_is_ll, Dk.q_tru, Dk.q_lent, Dk.q_lenr, Dk.q_int, Dk.q_intb, Dk.q_abs, Dk.q_tupr, Dk.q_lstt, Dk.q_lst, Dk.q_tup, Dk.q_oka, Dk.q_oke, Dk.q_okj, Dk.q_app, Dk.q_ext, Dk.q_nm, Dk.q_tp, Dk.q_sa0, Dk.q_sa1, Dk.q_isn, Dk.q_isb, Dk.q_wipe0, Dk.q_wipe1, ab]
        have cov' : Covers n gs (bf ++ [nm]) (df + am tm) (rp + bm tm) ps := fun ss d hd' hc => cov ss d (sub d (by
          show d ∈ colsM n gs (bf.map D.str ++ [.str nm]) (df + am tm) (rp + bm tm)
          rw [pe []]
          exact hd')) hc
        refine (w9 n m gs (bf ++ [nm]) _ _ q ps hh hg (by rw [List.length_append]; show bf.length + 1 + n ≤ 100; omega) pd' cov').mono (fun d h1 w => ?_) fun _ _ _ z => z.elim
        obtain ⟨rfl, g1⟩ := w
        have gl : 0 < gs.length := by
          cases n with
          | zero => exact hg.elim
          | succ n => exact hg.1
        have l1 := g1.lst l
        simp [Dd.we_ret, Dd.we_bnd, Dd.we_lift, Dd.we_var, Dd.we_args_nil, Dd.we_args_cons, Dd.we_opN, Dd.we_op1, Dd.we_op2, Dd.we_call, Dd.we_tst, Dd.we_tru, Dd.we_notT, Dd.we_andT, Dd.we_orT, Dd.we_notV, Dd.we_andV, Dd.we_orV, Dd.we_ite, Dd.we_chn, Dd.we_mth, Dd.we_slice, Dd.we_intOf, Dd.nx_next, Dd.nx_ret, Dd.nx_ex, Dd.td_next, Dd.td_cont, Dd.td_brk, Dd.td_ret, Dd.td_ex, Dd.nx_brk, Dd.nx_cont, Dd.wp_skip, Dd.wp_seq, Dd.wp_drop, Dd.wp_ret, Dd.wp_asg, Dd.wp_if, Dd.wp_raise, Dd.wp_set, Dd.WO, Dk.eq_ss, Dk.ne_ss, Dk.eq_ii, Dk.ne_ii, Dk.sn_one_maybe, Dk.sn_one_many, Dk.sn_maybe_one, Dk.sn_maybe_many, Dk.sn_many_one, Dk.sn_many_maybe, Dk.sn_int_bool, Dk.sn_int_text, Dk.sn_bool_int, Dk.sn_bool_text, Dk.sn_text_int, Dk.sn_text_bool, Dk.isNot_non, Dk.q_add, Dk.q_addt, Dk.q_sub, Dk.q_mod, Dk.q_fdiv, Dk.q_mulr, Dk.q_mull, Dk.q_neg, Dk.q_lt, Dk.q_le, Dk.q_gt, Dk.q_ge, Dk.q_ix0, Dk.q_ix1, Dk.q_ix2, Dk.q_is_t, Dk.q_is_s, Dk.q_is_lt, Dk.q_is_ll, Dk.q_tru, Dk.q_lent, Dk.q_lenr, Dk.q_int, Dk.q_intb, Dk.q_abs, Dk.q_tupr, Dk.q_lstt, Dk.q_lst, Dk.q_tup, Dk.q_oka, Dk.q_oke, Dk.q_okj, Dk.q_app, Dk.q_ext, Dk.q_nm, Dk.q_tp, Dk.q_sa0, Dk.q_sa1, Dk.q_isn, Dk.q_isb, Dk.q_wipe0, Dk.q_wipe1, l1, lz', gl]
        exact app h1 (g.trans g1) l1 (pd'.grow g1) _ _
end Dk

set_option Elab.async false
set_option linter.all false
set_option maxRecDepth 100000
set_option maxHeartbeats 4000000
namespace Dk
open PySem PySem.Spec PyProof.Rows L2 Dd

/-- the paths of the columns -/
theorem cps_of {n : Nat} {fs : List D} (p : FsOk n fs) : ∃ cps : List (List Str), (colsA n fs).map col0 = cps.map pD ∧ ∀ s ∈ cps, s ≠ [] ∧ ∀ x ∈ s, x ∈ nm3 := by
  have go : ∀ l : List D, (∀ d ∈ l, d ∈ colsA n fs) → ∃ cps : List (List Str), l.map col0 = cps.map pD ∧ ∀ s ∈ cps, s ≠ [] ∧ ∀ x ∈ s, x ∈ nm3 := by
    intro l
    induction l with
    | nil => exact fun _ => ⟨[], rfl, fun _ z => nomatch z⟩
    | cons d l ih =>
      intro a
      obtain ⟨cps, h1, h2⟩ := ih fun d hd => a d (List.mem_cons_of_mem _ hd)
      have hd := a d List.mem_cons_self
      obtain ⟨ss, k, x, y, e, q1, q2, _⟩ := colsA_path p hd
      have ne : ss ≠ [] := by
        cases n with
        | zero => exact p.elim
        | succ n =>
          obtain ⟨f, hf, hd'⟩ := List.mem_flatMap.mp (show d ∈ fs.flatMap (colD (colsM n) [] 0 0) from hd)
          obtain ⟨i, hi⟩ := List.getElem?_of_mem hf
          obtain ⟨nm, tm, kd, rfl, _, _, q4⟩ := p.2.2 i f hi
          obtain ⟨ss', k', a', b', e', _⟩ := col_one (bf := []) (cols_path n) q4 hd'
          rw [e] at e'
          have : pD ([] ++ ss) = pD ([] ++ nm :: ss') := congrArg col0 e'
          have := pD_inj.mp this
          simp only [List.nil_append] at this
          rw [this]
          exact List.cons_ne_nil _ _
      refine ⟨ss :: cps, by rw [List.map_cons, List.map_cons, h1, e]; rfl, fun s hs => ?_⟩
      rcases List.mem_cons.mp hs with rfl | hs
      · exact ⟨ne, q2⟩
      · exact h2 s hs
  exact go _ fun _ h => h
def I8 (h : DH) (fs : List D) (P q : Nat) (qs cps : List (List Str)) (i : Nat) (xs : List D) (k : Nat) (e : DE) (hh : DH) : Prop := i = P ∧ xs = qs.map pD ∧ (∃ x y, e = [some (.tup fs), some (.ref P), some (.ref q), x, y]) ∧ Grow h hh ∧ lstAt hh P = some (qs.map pD) ∧ PDict hh q cps ∧ ∀ s ∈ qs.take k, s ∈ cps
theorem w8 (n m : Nat) (fs : List D) (P : Nat) (qs cps : List (List Str)) (h : DH) (p : FsOk n fs) (hn : n ≤ 8) (hc : (colsA n fs).map col0 = cps.map pD) (l : lstAt h P = some (qs.map pD)) (hz : qs.length ≤ 10000) (cov : (∀ s ∈ qs, s ∈ cps) → qs ≠ [] → ∀ s ∈ cps, s ∈ qs) :
    WC (pg.run (m + n + 3)) 8 [.tup fs, .ref P] h (fun d h' => (∀ s ∈ qs, s ∈ cps) ∧ qs ≠ [] ∧ d = .tup fs ∧ Grow h h')
      (fun c v h' => c = 2 ∧ Grow h h' ∧ ((qs = [] ∧ v = pD []) ∨ ∃ k s, qs[k]? = some s ∧ s ∉ cps ∧ (∀ s' ∈ qs.take k, s' ∈ cps) ∧ v = pD s)) := by
  refine wc_of (f := f8) rfl e8 rfl ?_
  have clen := cols_len n fs [] 0 0 p
  have pw : 3 ^ n ≤ 3 ^ 8 := Nat.pow_le_pow_right (by decide) hn
  have pz : 3 ^ 8 = 6561 := rfl
  have cl : cps.length ≤ 6561 := by
    have : ((colsA n fs).map col0).length = (cps.map pD).length := by rw [hc]
    rw [List.length_map, List.length_map] at this
    have clen' : (colsA n fs).length ≤ 3 ^ n := clen
    omega
  unfold b8
  simp only [wp_seq, wp_asg]
  refine we_dcp (show 4 < 5 by decide) ?_
  simp [startD, f8, Dd.we_ret, Dd.we_bnd, Dd.we_lift, Dd.we_var, Dd.we_args_nil, Dd.we_args_cons, Dd.we_opN, Dd.we_op1, Dd.we_op2, Dd.we_call, Dd.we_tst, Dd.we_tru, Dd.we_notT, Dd.we_andT, Dd.we_orT, Dd.we_notV, Dd.we_andV, Dd.we_orV, Dd.we_ite, Dd.we_chn, Dd.we_mth, Dd.we_slice, Dd.we_intOf, Dd.nx_next, Dd.nx_ret, Dd.nx_ex, Dd.td_next, Dd.td_cont, Dd.td_brk, Dd.td_ret, Dd.td_ex, Dd.nx_brk, Dd.nx_cont, Dd.wp_skip, Dd.wp_seq, Dd.wp_drop, Dd.wp_ret, Dd.wp_asg, Dd.wp_if, Dd.wp_raise, Dd.wp_set, Dd.WO, Dk.eq_ss, Dk.ne_ss, Dk.eq_ii, Dk.ne_ii, Dk.sn_one_maybe, Dk.sn_one_many, Dk.sn_maybe_one, Dk.sn_maybe_many, Dk.sn_many_one, Dk.sn_many_maybe, Dk.sn_int_bool, Dk.sn_int_text, Dk.sn_bool_int, Dk.sn_bool_text, Dk.sn_text_int, Dk.sn_text_bool, Dk.isNot_non, Dk.q_add, Dk.q_addt, Dk.q_sub, Dk.q_mod, Dk.q_fdiv, Dk.q_mulr, Dk.q_mull, Dk.q_neg, Dk.q_lt, Dk.q_le, Dk.q_gt, Dk.q_ge, Dk.q_ix0, Dk.q_ix1, Dk.q_ix2, Dk.q_is_t, Dk.q_is_s, Dk.q_is_lt, Dk.q_is_ll, Dk.q_tru, Dk.q_lent, Dk.q_lenr, Dk.q_int, Dk.q_intb, Dk.q_abs, Dk.q_tupr, Dk.q_lstt, Dk.q_lst, Dk.q_tup, Dk.q_oka, Dk.q_oke, Dk.q_okj, Dk.q_app, Dk.q_ext, Dk.q_nm, Dk.q_tp, Dk.q_sa0, Dk.q_sa1, Dk.q_isn, Dk.q_isb, Dk.q_wipe0, Dk.q_wipe1]
  refine (w6 n m fs h p hn).mono (fun d h1 w => ?_) fun _ _ _ z => z.elim
  obtain ⟨⟨i, rfl, l1⟩, g1⟩ := w
  refine ⟨i, rfl, cps, by rw [← hc]; exact l1, by omega, fun h2 g2 pd => ?_⟩
  have g12 := g1.trans g2
  refine for_list (I8 h fs P h1.length qs cps) ?_
  rw [we_var]
  refine ⟨_, rfl, P, _, rfl, g12.lst l, ⟨rfl, rfl, ⟨_, _, rfl⟩, g12, g12.lst l, pd, by simp⟩, fun k e hh iv => by rw [iv.1, iv.2.1]; exact iv.2.2.2.2.1, ?_, ?_⟩
  · rintro e hh ⟨_, _, ⟨x, y, rfl⟩, g, l', pd', a⟩
    rw [List.length_map, List.take_length] at a
    have len : bltD .len [.ref P] hh = some (.int qs.length, hh) := by
      simp only [bltD, lstAt_some l', List.length_map]
    have lenr : bltD .len [.ref P] = fun hh => bltD .len [.ref P] hh := rfl
    simp only [nx_next, wp_seq, wp_if, we_tst, we_op2, we_opN, we_args_cons, we_args_nil, we_var, we_ret]
    refine ⟨_, rfl, ?_⟩
    rw [wo_iff]
    refine ⟨_, _, len, ?_⟩
    rw [wo_iff]
    refine ⟨_, _, eq_ii _ _ _, _, rfl, ?_⟩
    by_cases hq : qs = []
    · subst hq
      simp [Dd.we_ret, Dd.we_bnd, Dd.we_lift, Dd.we_var, Dd.we_args_nil, Dd.we_args_cons, Dd.we_opN, Dd.we_op1, Dd.we_op2, Dd.we_call, Dd.we_tst, Dd.we_tru, Dd.we_notT, Dd.we_andT, Dd.we_orT, Dd.we_notV, Dd.we_andV, Dd.we_orV, Dd.we_ite, Dd.we_chn, Dd.we_mth, Dd.we_slice, Dd.we_intOf, Dd.nx_next, Dd.nx_ret, Dd.nx_ex, Dd.td_next, Dd.td_cont, Dd.td_brk, Dd.td_ret, Dd.td_ex, Dd.nx_brk, Dd.nx_cont, Dd.wp_skip, Dd.wp_seq, Dd.wp_drop, Dd.wp_ret, Dd.wp_asg, Dd.wp_if, Dd.wp_raise, Dd.wp_set, Dd.WO, Dk.eq_ss, Dk.ne_ss, Dk.eq_ii, Dk.ne_ii, Dk.sn_one_maybe, Dk.sn_one_many, Dk.sn_maybe_one, Dk.sn_maybe_many, Dk.sn_many_one, Dk.sn_many_maybe, Dk.sn_int_bool, Dk.sn_int_text, Dk.sn_bool_int, Dk.sn_bool_text, Dk.sn_text_int, Dk.sn_text_bool, Dk.isNot_non, Dk.q_add, Dk.q_addt, Dk.q_sub, Dk.q_mod, Dk.q_fdiv, Dk.q_mulr, Dk.q_mull, Dk.q_neg, Dk.q_lt, Dk.q_le, Dk.q_gt, Dk.q_ge, Dk.q_ix0, Dk.q_ix1, Dk.q_ix2, Dk.q_is_t, Dk.q_is_s, Dk.q_is_lt, Dk.q_is_ll, Dk.q_tru, Dk.q_lent, Dk.q_lenr, Dk.q_int, Dk.q_intb, Dk.q_abs, Dk.q_tupr, Dk.q_lstt, Dk.q_lst, Dk.q_tup, Dk.q_oka, Dk.q_oke, Dk.q_okj, Dk.q_app, Dk.q_ext, Dk.q_nm, Dk.q_tp, Dk.q_sa0, Dk.q_sa1, Dk.q_isn, Dk.q_isb, Dk.q_wipe0, Dk.q_wipe1, end_ex]
      exact ⟨g, rfl⟩
    · have hq' : ¬ ((qs.length : Int) = 0) := by
        intro z
        exact hq (List.length_eq_zero_iff.mp (by omega))
      have hq2 : decide ((qs.length : Int) = 0) = false := decide_eq_false hq'
      rw [hq2]
      simp [Dd.we_ret, Dd.we_bnd, Dd.we_lift, Dd.we_var, Dd.we_args_nil, Dd.we_args_cons, Dd.we_opN, Dd.we_op1, Dd.we_op2, Dd.we_call, Dd.we_tst, Dd.we_tru, Dd.we_notT, Dd.we_andT, Dd.we_orT, Dd.we_notV, Dd.we_andV, Dd.we_orV, Dd.we_ite, Dd.we_chn, Dd.we_mth, Dd.we_slice, Dd.we_intOf, Dd.nx_next, Dd.nx_ret, Dd.nx_ex, Dd.td_next, Dd.td_cont, Dd.td_brk, Dd.td_ret, Dd.td_ex, Dd.nx_brk, Dd.nx_cont, Dd.wp_skip, Dd.wp_seq, Dd.wp_drop, Dd.wp_ret, Dd.wp_asg, Dd.wp_if, Dd.wp_raise, Dd.wp_set, Dd.WO, Dk.eq_ss, Dk.ne_ss, Dk.eq_ii, Dk.ne_ii, Dk.sn_one_maybe, Dk.sn_one_many, Dk.sn_maybe_one, Dk.sn_maybe_many, Dk.sn_many_one, Dk.sn_many_maybe, Dk.sn_int_bool, Dk.sn_int_text, Dk.sn_bool_int, Dk.sn_bool_text, Dk.sn_text_int, Dk.sn_text_bool, Dk.isNot_non, Dk.q_add, Dk.q_addt, Dk.q_sub, Dk.q_mod, Dk.q_fdiv, Dk.q_mulr, Dk.q_mull, Dk.q_neg, Dk.q_lt, Dk.q_le, Dk.q_gt, Dk.q_ge, Dk.q_ix0, Dk.q_ix1, Dk.q_ix2, Dk.q_is_t, Dk.q_is_s, Dk.q_is_lt, Dk.q_is_ll, Dk.q_tru, Dk.q_lent, Dk.q_lenr, Dk.q_int, Dk.q_intb, Dk.q_abs, Dk.q_tupr, Dk.q_lstt, Dk.q_lst, Dk.q_tup, Dk.q_oka, Dk.q_oke, Dk.q_okj, Dk.q_app, Dk.q_ext, Dk.q_nm, Dk.q_tp, Dk.q_sa0, Dk.q_sa1, Dk.q_isn, Dk.q_isb, Dk.q_wipe0, Dk.q_wipe1]
      refine we_dcp (show 4 < 5 by decide) ?_
      simp [Dd.we_ret, Dd.we_bnd, Dd.we_lift, Dd.we_var, Dd.we_args_nil, Dd.we_args_cons, Dd.we_opN, Dd.we_op1, Dd.we_op2, Dd.we_call, Dd.we_tst, Dd.we_tru, Dd.we_notT, Dd.we_andT, Dd.we_orT, Dd.we_notV, Dd.we_andV, Dd.we_orV, Dd.we_ite, Dd.we_chn, Dd.we_mth, Dd.we_slice, Dd.we_intOf, Dd.nx_next, Dd.nx_ret, Dd.nx_ex, Dd.td_next, Dd.td_cont, Dd.td_brk, Dd.td_ret, Dd.td_ex, Dd.nx_brk, Dd.nx_cont, Dd.wp_skip, Dd.wp_seq, Dd.wp_drop, Dd.wp_ret, Dd.wp_asg, Dd.wp_if, Dd.wp_raise, Dd.wp_set, Dd.WO, Dk.eq_ss, Dk.ne_ss, Dk.eq_ii, Dk.ne_ii, Dk.sn_one_maybe, Dk.sn_one_many, Dk.sn_maybe_one, Dk.sn_maybe_many, Dk.sn_many_one, Dk.sn_many_maybe, Dk.sn_int_bool, Dk.sn_int_text, Dk.sn_bool_int, Dk.sn_bool_text, Dk.sn_text_int, Dk.sn_text_bool, Dk.isNot_non, Dk.q_add, Dk.q_addt, Dk.q_sub, Dk.q_mod, Dk.q_fdiv, Dk.q_mulr, Dk.q_mull, Dk.q_neg, Dk.q_lt, Dk.q_le, Dk.q_gt, Dk.q_ge, Dk.q_ix0, Dk.q_ix1, Dk.q_ix2, Dk.q_is_t, Dk.q_is_s, Dk.q_is_lt, Dk.q_is_ll, Dk.q_tru, Dk.q_lent, Dk.q_lenr, Dk.q_int, Dk.q_intb, Dk.q_abs, Dk.q_tupr, Dk.q_lstt, Dk.q_lst, Dk.q_tup, Dk.q_oka, Dk.q_oke, Dk.q_okj, Dk.q_app, Dk.q_ext, Dk.q_nm, Dk.q_tp, Dk.q_sa0, Dk.q_sa1, Dk.q_isn, Dk.q_isb, Dk.q_wipe0, Dk.q_wipe1]
      refine ⟨qs, l', by omega, fun h3 g3 pd3 => ?_⟩
      rw [show m + n + 2 = m + 2 + n from by omega]
      refine (w9 n (m + 2) fs [] 0 0 hh.length qs h3 p (by show 0 + n ≤ 100; omega) pd3 fun ss d hd e => ?_).mono (fun d h4 w => ?_) fun _ _ _ z => z.elim
      · refine cov a hq ss ?_
        have : col0 d ∈ (colsA n fs).map col0 := List.mem_map_of_mem hd
        rw [hc, e] at this
        obtain ⟨s, hs, e2⟩ := List.mem_map.mp this
        rw [← pD_inj.mp e2]
        exact hs
      · rw [end_ret]
        exact ⟨a, hq, w.1, (g.trans g3).trans w.2⟩
  · rintro k d e hh hd ⟨_, hx, ⟨x, y, rfl⟩, g, l', pd', a⟩
    rw [List.getElem?_map] at hd
    obtain ⟨s, hs, rfl⟩ := Dd.map_some hd
    refine ⟨_, rfl, ?_⟩
    have nin := pd_notIn pd' s
    by_cases hm : s ∈ cps
    · rw [decide_eq_true hm] at nin
      simp [Dd.we_ret, Dd.we_bnd, Dd.we_lift, Dd.we_var, Dd.we_args_nil, Dd.we_args_cons, Dd.we_opN, Dd.we_op1, Dd.we_op2, Dd.we_call, Dd.we_tst, Dd.we_tru, Dd.we_notT, Dd.we_andT, Dd.we_orT, Dd.we_notV, Dd.we_andV, Dd.we_orV, Dd.we_ite, Dd.we_chn, Dd.we_mth, Dd.we_slice, Dd.we_intOf, Dd.nx_next, Dd.nx_ret, Dd.nx_ex, Dd.td_next, Dd.td_cont, Dd.td_brk, Dd.td_ret, Dd.td_ex, Dd.nx_brk, Dd.nx_cont, Dd.wp_skip, Dd.wp_seq, Dd.wp_drop, Dd.wp_ret, Dd.wp_asg, Dd.wp_if, Dd.wp_raise, Dd.wp_set, Dd.WO, Dk.eq_ss, Dk.ne_ss, Dk.eq_ii, Dk.ne_ii, Dk.sn_one_maybe, Dk.sn_one_many, Dk.sn_maybe_one, Dk.sn_maybe_many, Dk.sn_many_one, Dk.sn_many_maybe, Dk.sn_int_bool, Dk.sn_int_text, Dk.sn_bool_int, Dk.sn_bool_text, Dk.sn_text_int, Dk.sn_text_bool, Dk.isNot_non, Dk.q_add, Dk.q_addt, Dk.q_sub, Dk.q_mod, Dk.q_fdiv, Dk.q_mulr, Dk.q_mull, Dk.q_neg, Dk.q_lt, Dk.q_le, Dk.q_gt, Dk.q_ge, Dk.q_ix0, Dk.q_ix1, Dk.q_ix2, Dk.q_is_t, Dk.q_is_s, Dk.q_is_lt, Dk.q_is_ll, Dk.q_tru, Dk.q_lent, Dk.q_lenr, Dk.q_int, Dk.q_intb, Dk.q_abs, Dk.q_tupr, Dk.q_lstt, Dk.q_lst, Dk.q_tup, Dk.q_oka, Dk.q_oke, Dk.q_okj, Dk.q_app, Dk.q_ext, Dk.q_nm, Dk.q_tp, Dk.q_sa0, Dk.q_sa1, Dk.q_isn, Dk.q_isb, Dk.q_wipe0, Dk.q_wipe1, nin]
      refine ⟨rfl, hx, ⟨_, _, rfl⟩, g, l', pd', ?_⟩
      rw [take_snoc hs]
      intro s' hs'
      rcases List.mem_append.mp hs' with hs' | hs'
      · exact a s' hs'
      · rw [List.mem_singleton.mp hs']; exact hm
    · rw [decide_eq_false hm] at nin
      simp [Dd.we_ret, Dd.we_bnd, Dd.we_lift, Dd.we_var, Dd.we_args_nil, Dd.we_args_cons, Dd.we_opN, Dd.we_op1, Dd.we_op2, Dd.we_call, Dd.we_tst, Dd.we_tru, Dd.we_notT, Dd.we_andT, Dd.we_orT, Dd.we_notV, Dd.we_andV, Dd.we_orV, Dd.we_ite, Dd.we_chn, Dd.we_mth, Dd.we_slice, Dd.we_intOf, Dd.nx_next, Dd.nx_ret, Dd.nx_ex, Dd.td_next, Dd.td_cont, Dd.td_brk, Dd.td_ret, Dd.td_ex, Dd.nx_brk, Dd.nx_cont, Dd.wp_skip, Dd.wp_seq, Dd.wp_drop, Dd.wp_ret, Dd.wp_asg, Dd.wp_if, Dd.wp_raise, Dd.wp_set, Dd.WO, Dk.eq_ss, Dk.ne_ss, Dk.eq_ii, Dk.ne_ii, Dk.sn_one_maybe, Dk.sn_one_many, Dk.sn_maybe_one, Dk.sn_maybe_many, Dk.sn_many_one, Dk.sn_many_maybe, Dk.sn_int_bool, Dk.sn_int_text, Dk.sn_bool_int, Dk.sn_bool_text, Dk.sn_text_int, Dk.sn_text_bool, Dk.isNot_non, Dk.q_add, Dk.q_addt, Dk.q_sub, Dk.q_mod, Dk.q_fdiv, Dk.q_mulr, Dk.q_mull, Dk.q_neg, Dk.q_lt, Dk.q_le, Dk.q_gt, Dk.q_ge, Dk.q_ix0, Dk.q_ix1, Dk.q_ix2, Dk.q_is_t, Dk.q_is_s, Dk.q_is_lt, Dk.q_is_ll, Dk.q_tru, Dk.q_lent, Dk.q_lenr, Dk.q_int, Dk.q_intb, Dk.q_abs, Dk.q_tupr, Dk.q_lstt, Dk.q_lst, Dk.q_tup, Dk.q_oka, Dk.q_oke, Dk.q_okj, Dk.q_app, Dk.q_ext, Dk.q_nm, Dk.q_tp, Dk.q_sa0, Dk.q_sa1, Dk.q_isn, Dk.q_isb, Dk.q_wipe0, Dk.q_wipe1, nin, end_ex]
      exact ⟨g, .inr ⟨k, s, hs, hm, a, rfl⟩⟩
end Dk

set_option Elab.async false
set_option linter.all false
set_option maxRecDepth 100000
set_option maxHeartbeats 4000000
namespace Dk
open PySem PySem.Spec PyProof.Rows L2 Dd

theorem fs_up : ∀ {n : Nat} {fs : List D}, FsOk n fs → FsOk (n + 1) fs
  | 0, _, p => p.elim
  | n + 1, fs, ⟨p1, p2, p3⟩ => ⟨p1, p2, fun i d hd => by
    obtain ⟨nm, tm, kd, q1, q2, q3, q4⟩ := p3 i d hd
    refine ⟨nm, tm, kd, q1, q2, q3, ?_⟩
    rcases q4 with q | ⟨gs, e, hg⟩
    · exact .inl q
    · exact .inr ⟨gs, e, fs_up hg⟩⟩
theorem nm_none {k : Nat} {nm : Str} (h : nm3[k]? = some nm) : nmErr (nm3.take k) (.str nm) = none := by
  obtain ⟨q1, q2, _⟩ := nm3_at k nm h
  simp [nmErr, q1, q2]
theorem ok_app {sub : List D → Option Str} : ∀ (ds : List D) (k : Nat) (rest : List D), (∀ (i : Nat) (d : D), ds[i]? = some d → ∃ (nm tm : Str) (kd : D), d = D.tup [.str nm, .str tm, kd] ∧ nm3[k + i]? = some nm ∧ tm ∈ tms ∧ kdErr sub kd = none) → fsErrL sub (nm3.take k) (ds ++ rest) = fsErrL sub (nm3.take (k + ds.length)) rest
  | [], _, _, _ => rfl
  | d :: ds, k, rest, h => by
    obtain ⟨nm, tm, kd, rfl, h1, h2, h3⟩ := h 0 d rfl
    rw [Nat.add_zero] at h1
    obtain ⟨q1, q2, q3, _⟩ := nm3_at k nm h1
    have e : fdErr sub (nm3.take k) (.tup [.str nm, .str tm, kd]) = none := by simp [fdErr, nmErr, q1, q2, tmErr, h2, h3]
    show (match fdErr sub (nm3.take k) (.tup [.str nm, .str tm, kd]) with | some w => some w | none => fsErrL sub (nm3.take k ++ [nm]) (ds ++ rest)) = _
    rw [e, ← q3]
    show fsErrL sub (nm3.take (k + 1)) (ds ++ rest) = _
    rw [ok_app ds (k + 1) rest fun i d hd => by
      obtain ⟨nm', tm', kd', z1, z2, z3⟩ := h (i + 1) d hd
      exact ⟨nm', tm', kd', z1, by rw [show k + 1 + i = k + (i + 1) from by omega]; exact z2, z3⟩]
    rw [List.length_cons, show k + 1 + ds.length = k + (ds.length + 1) from by omega]
theorem ok_parts {n : Nat} {lv : Int} {fs : List D} (p : FsOk (n + 1) fs) (hl : lv + (n + 1) + 1 ≤ 6) (a : Nat) : ∀ (i : Nat) (d : D), (fs.take a)[i]? = some d → ∃ (nm tm : Str) (kd : D), d = D.tup [.str nm, .str tm, kd] ∧ nm3[0 + i]? = some nm ∧ tm ∈ tms ∧ kdErr (fsErr (n + 1) (lv + 1)) kd = none := by
  intro i d hd
  have hd : fs[i]? = some d := by
    rw [List.getElem?_take] at hd
    split at hd
    · exact hd
    · cases hd
  obtain ⟨nm, tm, kd, q1, q2, q3, q4⟩ := p.2.2 i d hd
  refine ⟨nm, tm, kd, q1, by rw [Nat.zero_add]; exact q2, q3, ?_⟩
  rcases q4 with ⟨x, hx, rfl⟩ | ⟨gs, rfl, hg⟩
  · exact if_pos hx
  · exact fs_ok (n + 1) gs (lv + 1) (fs_up hg) (by omega)
/-- one field -/
def PlFd (n : Nat) (h : DH) (d : D) : Prop := (∃ a b k, d = D.tup [a, b, k] ∧ plainV a = true ∧ plainV b = true ∧ plainK h k ∧ ∀ gs, k = .tup gs → PlF n h gs) ∨ (∃ xs, d = .tup xs ∧ xs.length ≠ 3) ∨ ∃ i ys, d = .ref i ∧ lstAt h i = some ys
theorem PlFd.grow {h h' : DH} (g : Grow h h') {n : Nat} {d : D} (p : PlFd n h d) : PlFd n h' d := by
  rcases p with ⟨a, b, k, q1, q2, q3, q4, q5⟩ | q | ⟨i, ys, q1, q2⟩
  · exact .inl ⟨a, b, k, q1, q2, q3, q4.grow g, fun gs z => (q5 gs z).grow g⟩
  · exact .inr (.inl q)
  · exact .inr (.inr ⟨i, ys, q1, g.lst q2⟩)
/-- a field with a mistake, at its place -/
def BadFd (n a : Nat) (x : D) (w : Str) (h : DH) : Prop := (∀ lv : Int, lv + n + 1 ≤ 6 → fdErr (fsErr n (lv + 1)) (nm3.take a) x = some w) ∧ PlFd n h x
theorem BadFd.grow {h h' : DH} (g : Grow h h') {n a : Nat} {x : D} {w : Str} (p : BadFd n a x w h) : BadFd n a x w h' := ⟨p.1, p.2.grow g⟩
/-- what _law_spoil gives -/
def SpoilR (n : Nat) (x : D) (w : Str) (h : DH) : Prop := (∃ xs, x = D.tup xs ∧ PlF (n + 1) h xs ∧ ∀ lv : Int, lv + n + 1 ≤ 6 → fsErr (n + 1) lv xs = some w) ∨ ∃ i ys, x = .ref i ∧ lstAt h i = some ys ∧ w = "fields"
theorem SpoilR.grow {h h' : DH} (g : Grow h h') {n : Nat} {x : D} {w : Str} (p : SpoilR n x w h) : SpoilR n x w h' := by
  rcases p with ⟨xs, q1, q2, q3⟩ | ⟨i, ys, q1, q2, q3⟩
  · exact .inl ⟨xs, q1, q2.grow g, q3⟩
  · exact .inr ⟨i, ys, q1, g.lst q2, q3⟩
theorem fsErr_in {n : Nat} {lv : Int} {xs : List D} (h1 : 1 ≤ xs.length) (h2 : xs.length ≤ 12) (hl : lv ≤ 5) : fsErr (n + 1) lv xs = fsErrL (fsErr n (lv + 1)) [] xs := by
  have c3 : ltI 5 lv = false := by rw [ltI_eq, decide_eq_false_iff_not]; omega
  simp [fsErr, h1, h2, c3]
theorem spoil_at {n a : Nat} {fs : List D} {x : D} {w : Str} {h : DH} (p : FsOk (n + 1) fs) (ha : a < fs.length) (b : BadFd (n + 1) a x w h) : SpoilR (n + 1) (.tup (fs.take a ++ [x] ++ fs.drop (a + 1))) w h := by
  have p2 := p.2.1
  have la : (fs.take a).length = a := by rw [List.length_take]; omega
  refine .inl ⟨_, rfl, fun d hd => ?_, fun lv hl => ?_⟩
  · have mem : d ∈ fs → PlFd (n + 1) h d := fun hd => fs_pl (n + 2) fs h (fs_up p) d hd
    rcases List.mem_append.mp hd with hd | hd
    · rcases List.mem_append.mp hd with hd | hd
      · exact mem (List.mem_of_mem_take hd)
      · rw [List.mem_singleton.mp hd]; exact b.2
    · exact mem (List.mem_of_mem_drop hd)
  · rw [fsErr_in (by simp; omega) (by simp; omega) (by omega), List.append_assoc]
    have := ok_app (sub := fsErr (n + 1) (lv + 1)) (fs.take a) 0 ([x] ++ fs.drop (a + 1)) (ok_parts p (by omega) a)
    rw [show ([] : List Str) = nm3.take 0 from rfl, this, la, Nat.zero_add]
    show (match fdErr (fsErr (n + 1) (lv + 1)) (nm3.take a) x with | some w => some w | none => _) = _
    rw [b.1 lv (by omega)]
theorem spoil_twice {n a : Nat} {fs : List D} {f : D} {h : DH} (p : FsOk (n + 1) fs) (ha : fs[a]? = some f) : SpoilR (n + 1) (.tup (fs ++ [f])) "twice" h := by
  have p2 := p.2.1
  have hlt := (List.getElem?_eq_some_iff.mp ha).1
  obtain ⟨nm, tm, kd, rfl, q2, q3, q4⟩ := p.2.2 a f ha
  refine .inl ⟨_, rfl, fun d hd => ?_, fun lv hl => ?_⟩
  · have mem : d ∈ fs → PlFd (n + 1) h d := fun hd => fs_pl (n + 2) fs h (fs_up p) d hd
    rcases List.mem_append.mp hd with hd | hd
    · exact mem hd
    · have e := List.mem_singleton.mp hd
      subst e
      exact mem (List.mem_of_getElem? ha)
  · rw [fsErr_in (by simp) (by simp; omega) (by omega)]
    have := ok_app (sub := fsErr (n + 1) (lv + 1)) (fs.take fs.length) 0 [.tup [.str nm, .str tm, kd]] (ok_parts p (by omega) fs.length)
    rw [List.take_length] at this
    rw [show ([] : List Str) = nm3.take 0 from rfl, this, Nat.zero_add]
    have hm : ((nm3.take fs.length).any fun y => decide (y = nm)) = true := by
      refine List.any_eq_true.mpr ⟨nm, ?_, decide_eq_true rfl⟩
      refine List.mem_of_getElem? (i := a) ?_
      rw [List.getElem?_take, if_pos hlt]
      exact q2
    have e : fdErr (fsErr (n + 1) (lv + 1)) (nm3.take fs.length) (.tup [.str nm, .str tm, kd]) = some ("twice" : Str) := by
      simp [fdErr, nmErr, (nm3_at a nm q2).1, hm]
    show (match fdErr (fsErr (n + 1) (lv + 1)) (nm3.take fs.length) (.tup [.str nm, .str tm, kd]) with | some w => some w | none => _) = _
    rw [e]
/-- slices -/
theorem cut_to {α : Type} {xs : List α} {a : Nat} (h : a ≤ xs.length) : Dd.cutD xs none (some (a : Int)) = xs.take a := by
  unfold Dd.cutD
  rw [HT.sIx_none, HT.sIx_nat, Nat.min_eq_left h]
  simp
theorem cut_from {α : Type} {xs : List α} {a : Nat} (h : a ≤ xs.length) : Dd.cutD xs (some (a : Int)) none = xs.drop a := by
  unfold Dd.cutD
  rw [HT.sIx_none, HT.sIx_nat, Nat.min_eq_left h]
  exact List.take_of_length_le (by rw [List.length_drop]; omega)
theorem q_slt {xs : List D} {a : Nat} (h : DH) (ha : a ≤ xs.length) : sliceD (.tup xs) none (some (a : Int)) h = some (.tup (xs.take a), h) := by
  rw [← cut_to ha]; rfl
theorem q_slf {xs : List D} {a : Nat} (h : DH) (ha : a + 1 ≤ xs.length) : sliceD (.tup xs) (some ((a : Int) + 1)) none h = some (.tup (xs.drop (a + 1)), h) := by
  rw [← cut_from ha]; rfl
theorem q_tpr (is : List Nat) (i : Nat) (h : DH) (e : DE) : (Tg.tp is).put (.ref i) h e = (match lstAt h i with | some ds => setAll is ds e | none => none) := rfl
/-- rows: each a fresh list of two -/
theorem we_rows {R : D → Str → DH → Prop} {e : DE} {X : Nat → D → DH → Prop} (mono : ∀ x w h h', Grow h h' → R x w h → R x w h') : ∀ (L : List (M D × Str)) (h : DH), (∀ p ∈ L, ∀ (h : DH) (Q : D → DH → Prop), (∀ x h', Grow h h' → R x p.2 h' → Q x h') → WE p.1 e h Q X) →
    ∀ Q : List D → DH → Prop, (∀ xs h', Grow h h' → xs.length = L.length → (∀ d ∈ xs, ∃ i x w, d = .ref i ∧ lstAt h' i = some [x, .str w] ∧ R x w h') → Q xs h') → WE (args (L.map fun p => opN lstM [p.1, Dd.ret (.str p.2)])) e h Q X
  | [], h, _, Q, q => by
    rw [List.map_nil, we_args_nil]
    exact q [] h (Grow.refl h) rfl fun _ z => nomatch z
  | p :: L, h, hp, Q, q => by
    rw [List.map_cons, we_args_cons, we_opN, we_args_cons]
    refine hp p List.mem_cons_self h _ fun x h1 g1 r => ?_
    simp only [we_args_cons, we_args_nil, we_ret]
    refine wo_of (q_lst [x, .str p.2] h1 (show 2 ≤ 16777216 by decide)) ?_
    refine we_rows mono L _ (fun p' hp' => hp p' (List.mem_cons_of_mem _ hp')) _ fun xs h2 g2 hl a => ?_
    have g := (Grow.one h1 (Ob.lst [x, .str p.2])).trans g2
    refine q _ h2 (g1.trans g) (by rw [List.length_cons, List.length_cons, hl]) fun d hd => ?_
    rcases List.mem_cons.mp hd with rfl | hd
    · exact ⟨_, x, p.2, rfl, g2.lst lst_new, mono _ _ _ _ g r⟩
    · exact a d hd
end Dk

set_option Elab.async false
set_option linter.all false
set_option maxRecDepth 100000
set_option maxHeartbeats 4000000
namespace Dk
open PySem PySem.Spec PyProof.Rows L2 Dd

def rowsL : List (M D × Str) := [(opN tupM [Dd.ret (.str "B"), var 5, var 6], "name"), (opN tupM [Dd.ret (.str ""), var 5, var 6], "name"), (opN tupM [op2 mulD (Dd.ret (.str "a")) (Dd.ret (.int 13)), var 5, var 6], "name"), (opN tupM [var 4, Dd.ret (.str "none"), var 6], "times"), (opN tupM [var 4, var 5, Dd.ret (.str "float")], "kind"), (opN tupM [var 4, var 5, opN tupM []], "fields"), (opN tupM [var 4, var 5], "field"), (opN lstM [var 4, var 5, var 6], "field"), (opN tupM [var 4, Dd.ret (.int 1), var 6], "times"), (opN tupM [var 4, var 5, Dd.ret .non], "kind"), (opN tupM [Dd.ret (.int 7), var 5, var 6], "name"), (opN tupM [Dd.ret (.str "a_"), var 5, var 6], "name")]
theorem rows_bad {n a : Nat} {nm tm : Str} {kd : D} {x0 x1 x2 x3 x7 x8 x9 x10 x11 : Option D} {X : Nat → D → DH → Prop} (hn : nm3[a]? = some nm) (ht : tm ∈ tms) (hk : KdOk n kd) : ∀ p ∈ rowsL, ∀ (h : DH) (Q : D → DH → Prop), (∀ x h', Grow h h' → BadFd (n + 1) a x p.2 h' → Q x h') →
    WE p.1 [x0, x1, x2, x3, some (.str nm), some (.str tm), some kd, x7, x8, x9, x10, x11] h Q X := by
  have pn : plainV (.str nm) = true := decide_eq_true (nm3_at a nm hn).2.2.2
  have pt : plainV (.str tm) = true := decide_eq_true (short_tm ht)
  have pk : ∀ h, plainK h kd := fun h => by
    rcases hk with ⟨x, hx, rfl⟩ | ⟨gs, rfl, hg⟩
    · exact .inl (decide_eq_true (short_kd hx))
    · exact .inl rfl
  have pg : ∀ h gs, kd = .tup gs → PlF (n + 1) h gs := fun h gs z => by
    rcases hk with ⟨x, hx, rfl⟩ | ⟨gs', rfl, hg⟩
    · cases z
    · cases z
      exact fs_pl (n + 1) _ h (fs_up hg)
  have none := nm_none hn
  have nB : nameB "B" = false := by decide +kernel
  have nE : nameB "" = false := by decide +kernel
  have n13 : nameB (PySem.Txt.mul "a" 13) = false := by decide +kernel
  have nU : nameB "a_" = false := by decide +kernel
  have l13 : plainV (.str (PySem.Txt.mul "a" 13)) = true := by decide +kernel
  have ml : ∀ h, mulD (.str "a") (.int 13) h = some (.str (PySem.Txt.mul "a" 13), h) := fun h => rfl
  have tmk : tmErr (.str tm) = false := by simp [tmErr, ht]
  have tmn : tmErr (.str "none") = true := by decide +kernel
  have kf : ¬ ((Str.ofString "float") ∈ knds) := by decide +kernel
  intro p hp h Q q
  simp only [rowsL, List.mem_cons, List.not_mem_nil, or_false] at hp
  rcases hp with rfl | rfl | rfl | rfl | rfl | rfl | rfl | rfl | rfl | rfl | rfl | rfl
  · simp [Dd.we_ret, Dd.we_bnd, Dd.we_lift, Dd.we_var, Dd.we_args_nil, Dd.we_args_cons, Dd.we_opN, Dd.we_op1, Dd.we_op2, Dd.we_call, Dd.we_tst, Dd.we_tru, Dd.we_notT, Dd.we_andT, Dd.we_orT, Dd.we_notV, Dd.we_andV, Dd.we_orV, Dd.we_ite, Dd.we_chn, Dd.we_mth, Dd.we_slice, Dd.we_intOf, Dd.nx_next, Dd.nx_ret, Dd.nx_ex, Dd.td_next, Dd.td_cont, Dd.td_brk, Dd.td_ret, Dd.td_ex, Dd.nx_brk, Dd.nx_cont, Dd.wp_skip, Dd.wp_seq, Dd.wp_drop, Dd.wp_ret, Dd.wp_asg, Dd.wp_if, Dd.wp_raise, Dd.wp_set, Dd.WO, Dk.eq_ss, Dk.ne_ss, Dk.eq_ii, Dk.ne_ii, Dk.sn_one_maybe, Dk.sn_one_many, Dk.sn_maybe_one, Dk.sn_maybe_many, Dk.sn_many_one, Dk.sn_many_maybe, Dk.sn_int_bool, Dk.sn_int_text, Dk.sn_bool_int, Dk.sn_bool_text, Dk.sn_text_int, Dk.sn_text_bool, Dk.isNot_non, Dk.q_add, Dk.q_addt, Dk.q_sub, Dk.q_mod, Dk.q_fdiv, Dk.q_mulr, Dk.q_mull, Dk.q_neg, Dk.q_lt, Dk.q_le, Dk.q_gt, Dk.q_ge, Dk.q_ix0, Dk.q_ix1, Dk.q_ix2, Dk.q_is_t, Dk.q_is_s, Dk.q_is_lt, Dk.q_is_ll, Dk.q_tru, Dk.q_lent, Dk.q_lenr, Dk.q_int, Dk.q_intb, Dk.q_abs, Dk.q_tupr, Dk.q_lstt, Dk.q_lst, Dk.q_tup, Dk.q_oka, Dk.q_oke, Dk.q_okj, Dk.q_app, Dk.q_ext, Dk.q_nm, Dk.q_tp, Dk.q_sa0, Dk.q_sa1, Dk.q_isn, Dk.q_isb, Dk.q_wipe0, Dk.q_wipe1]
    exact q _ _ (Grow.refl h) ⟨fun lv _ => by simp [fdErr, nmErr, nB], .inl ⟨_, _, _, rfl, by decide +kernel, pt, pk h, pg h⟩⟩
  · simp [Dd.we_ret, Dd.we_bnd, Dd.we_lift, Dd.we_var, Dd.we_args_nil, Dd.we_args_cons, Dd.we_opN, Dd.we_op1, Dd.we_op2, Dd.we_call, Dd.we_tst, Dd.we_tru, Dd.we_notT, Dd.we_andT, Dd.we_orT, Dd.we_notV, Dd.we_andV, Dd.we_orV, Dd.we_ite, Dd.we_chn, Dd.we_mth, Dd.we_slice, Dd.we_intOf, Dd.nx_next, Dd.nx_ret, Dd.nx_ex, Dd.td_next, Dd.td_cont, Dd.td_brk, Dd.td_ret, Dd.td_ex, Dd.nx_brk, Dd.nx_cont, Dd.wp_skip, Dd.wp_seq, Dd.wp_drop, Dd.wp_ret, Dd.wp_asg, Dd.wp_if, Dd.wp_raise, Dd.wp_set, Dd.WO, Dk.eq_ss, Dk.ne_ss, Dk.eq_ii, Dk.ne_ii, Dk.sn_one_maybe, Dk.sn_one_many, Dk.sn_maybe_one, Dk.sn_maybe_many, Dk.sn_many_one, Dk.sn_many_maybe, Dk.sn_int_bool, Dk.sn_int_text, Dk.sn_bool_int, Dk.sn_bool_text, Dk.sn_text_int, Dk.sn_text_bool, Dk.isNot_non, Dk.q_add, Dk.q_addt, Dk.q_sub, Dk.q_mod, Dk.q_fdiv, Dk.q_mulr, Dk.q_mull, Dk.q_neg, Dk.q_lt, Dk.q_le, Dk.q_gt, Dk.q_ge, Dk.q_ix0, Dk.q_ix1, Dk.q_ix2, Dk.q_is_t, Dk.q_is_s, Dk.q_is_lt, Dk.q_is_ll, Dk.q_tru, Dk.q_lent, Dk.q_lenr, Dk.q_int, Dk.q_intb, Dk.q_abs, Dk.q_tupr, Dk.q_lstt, Dk.q_lst, Dk.q_tup, Dk.q_oka, Dk.q_oke, Dk.q_okj, Dk.q_app, Dk.q_ext, Dk.q_nm, Dk.q_tp, Dk.q_sa0, Dk.q_sa1, Dk.q_isn, Dk.q_isb, Dk.q_wipe0, Dk.q_wipe1]
    exact q _ _ (Grow.refl h) ⟨fun lv _ => by simp [fdErr, nmErr, nE], .inl ⟨_, _, _, rfl, by decide +kernel, pt, pk h, pg h⟩⟩
  · simp [Dd.we_ret, Dd.we_bnd, Dd.we_lift, Dd.we_var, Dd.we_args_nil, Dd.we_args_cons, Dd.we_opN, Dd.we_op1, Dd.we_op2, Dd.we_call, Dd.we_tst, Dd.we_tru, Dd.we_notT, Dd.we_andT, Dd.we_orT, Dd.we_notV, Dd.we_andV, Dd.we_orV, Dd.we_ite, Dd.we_chn, Dd.we_mth, Dd.we_slice, Dd.we_intOf, Dd.nx_next, Dd.nx_ret, Dd.nx_ex, Dd.td_next, Dd.td_cont, Dd.td_brk, Dd.td_ret, Dd.td_ex, Dd.nx_brk, Dd.nx_cont, Dd.wp_skip, Dd.wp_seq, Dd.wp_drop, Dd.wp_ret, Dd.wp_asg, Dd.wp_if, Dd.wp_raise, Dd.wp_set, Dd.WO, Dk.eq_ss, Dk.ne_ss, Dk.eq_ii, Dk.ne_ii, Dk.sn_one_maybe, Dk.sn_one_many, Dk.sn_maybe_one, Dk.sn_maybe_many, Dk.sn_many_one, Dk.sn_many_maybe, Dk.sn_int_bool, Dk.sn_int_text, Dk.sn_bool_int, Dk.sn_bool_text, Dk.sn_text_int, Dk.sn_text_bool, Dk.isNot_non, Dk.q_add, Dk.q_addt, Dk.q_sub, Dk.q_mod, Dk.q_fdiv, Dk.q_mulr, Dk.q_mull, Dk.q_neg, Dk.q_lt, Dk.q_le, Dk.q_gt, Dk.q_ge, Dk.q_ix0, Dk.q_ix1, Dk.q_ix2, Dk.q_is_t, Dk.q_is_s, Dk.q_is_lt, Dk.q_is_ll, Dk.q_tru, Dk.q_lent, Dk.q_lenr, Dk.q_int, Dk.q_intb, Dk.q_abs, Dk.q_tupr, Dk.q_lstt, Dk.q_lst, Dk.q_tup, Dk.q_oka, Dk.q_oke, Dk.q_okj, Dk.q_app, Dk.q_ext, Dk.q_nm, Dk.q_tp, Dk.q_sa0, Dk.q_sa1, Dk.q_isn, Dk.q_isb, Dk.q_wipe0, Dk.q_wipe1, ml]
    exact q _ _ (Grow.refl h) ⟨fun lv _ => by simp [fdErr, nmErr, n13], .inl ⟨_, _, _, rfl, l13, pt, pk h, pg h⟩⟩
  · simp [Dd.we_ret, Dd.we_bnd, Dd.we_lift, Dd.we_var, Dd.we_args_nil, Dd.we_args_cons, Dd.we_opN, Dd.we_op1, Dd.we_op2, Dd.we_call, Dd.we_tst, Dd.we_tru, Dd.we_notT, Dd.we_andT, Dd.we_orT, Dd.we_notV, Dd.we_andV, Dd.we_orV, Dd.we_ite, Dd.we_chn, Dd.we_mth, Dd.we_slice, Dd.we_intOf, Dd.nx_next, Dd.nx_ret, Dd.nx_ex, Dd.td_next, Dd.td_cont, Dd.td_brk, Dd.td_ret, Dd.td_ex, Dd.nx_brk, Dd.nx_cont, Dd.wp_skip, Dd.wp_seq, Dd.wp_drop, Dd.wp_ret, Dd.wp_asg, Dd.wp_if, Dd.wp_raise, Dd.wp_set, Dd.WO, Dk.eq_ss, Dk.ne_ss, Dk.eq_ii, Dk.ne_ii, Dk.sn_one_maybe, Dk.sn_one_many, Dk.sn_maybe_one, Dk.sn_maybe_many, Dk.sn_many_one, Dk.sn_many_maybe, Dk.sn_int_bool, Dk.sn_int_text, Dk.sn_bool_int, Dk.sn_bool_text, Dk.sn_text_int, Dk.sn_text_bool, Dk.isNot_non, Dk.q_add, Dk.q_addt, Dk.q_sub, Dk.q_mod, Dk.q_fdiv, Dk.q_mulr, Dk.q_mull, Dk.q_neg, Dk.q_lt, Dk.q_le, Dk.q_gt, Dk.q_ge, Dk.q_ix0, Dk.q_ix1, Dk.q_ix2, Dk.q_is_t, Dk.q_is_s, Dk.q_is_lt, Dk.q_is_ll, Dk.q_tru, Dk.q_lent, Dk.q_lenr, Dk.q_int, Dk.q_intb, Dk.q_abs, Dk.q_tupr, Dk.q_lstt, Dk.q_lst, Dk.q_tup, Dk.q_oka, Dk.q_oke, Dk.q_okj, Dk.q_app, Dk.q_ext, Dk.q_nm, Dk.q_tp, Dk.q_sa0, Dk.q_sa1, Dk.q_isn, Dk.q_isb, Dk.q_wipe0, Dk.q_wipe1]
    exact q _ _ (Grow.refl h) ⟨fun lv _ => by simp [fdErr, none, tmn], .inl ⟨_, _, _, rfl, pn, by decide +kernel, pk h, pg h⟩⟩
  · simp [Dd.we_ret, Dd.we_bnd, Dd.we_lift, Dd.we_var, Dd.we_args_nil, Dd.we_args_cons, Dd.we_opN, Dd.we_op1, Dd.we_op2, Dd.we_call, Dd.we_tst, Dd.we_tru, Dd.we_notT, Dd.we_andT, Dd.we_orT, Dd.we_notV, Dd.we_andV, Dd.we_orV, Dd.we_ite, Dd.we_chn, Dd.we_mth, Dd.we_slice, Dd.we_intOf, Dd.nx_next, Dd.nx_ret, Dd.nx_ex, Dd.td_next, Dd.td_cont, Dd.td_brk, Dd.td_ret, Dd.td_ex, Dd.nx_brk, Dd.nx_cont, Dd.wp_skip, Dd.wp_seq, Dd.wp_drop, Dd.wp_ret, Dd.wp_asg, Dd.wp_if, Dd.wp_raise, Dd.wp_set, Dd.WO, Dk.eq_ss, Dk.ne_ss, Dk.eq_ii, Dk.ne_ii, Dk.sn_one_maybe, Dk.sn_one_many, Dk.sn_maybe_one, Dk.sn_maybe_many, Dk.sn_many_one, Dk.sn_many_maybe, Dk.sn_int_bool, Dk.sn_int_text, Dk.sn_bool_int, Dk.sn_bool_text, Dk.sn_text_int, Dk.sn_text_bool, Dk.isNot_non, Dk.q_add, Dk.q_addt, Dk.q_sub, Dk.q_mod, Dk.q_fdiv, Dk.q_mulr, Dk.q_mull, Dk.q_neg, Dk.q_lt, Dk.q_le, Dk.q_gt, Dk.q_ge, Dk.q_ix0, Dk.q_ix1, Dk.q_ix2, Dk.q_is_t, Dk.q_is_s, Dk.q_is_lt, Dk.q_is_ll, Dk.q_tru, Dk.q_lent, Dk.q_lenr, Dk.q_int, Dk.q_intb, Dk.q_abs, Dk.q_tupr, Dk.q_lstt, Dk.q_lst, Dk.q_tup, Dk.q_oka, Dk.q_oke, Dk.q_okj, Dk.q_app, Dk.q_ext, Dk.q_nm, Dk.q_tp, Dk.q_sa0, Dk.q_sa1, Dk.q_isn, Dk.q_isb, Dk.q_wipe0, Dk.q_wipe1]
    exact q _ _ (Grow.refl h) ⟨fun lv _ => by simp [fdErr, none, tmk, kdErr, kf], .inl ⟨_, _, _, rfl, pn, pt, .inl (by decide +kernel), fun gs z => nomatch z⟩⟩
  · simp [Dd.we_ret, Dd.we_bnd, Dd.we_lift, Dd.we_var, Dd.we_args_nil, Dd.we_args_cons, Dd.we_opN, Dd.we_op1, Dd.we_op2, Dd.we_call, Dd.we_tst, Dd.we_tru, Dd.we_notT, Dd.we_andT, Dd.we_orT, Dd.we_notV, Dd.we_andV, Dd.we_orV, Dd.we_ite, Dd.we_chn, Dd.we_mth, Dd.we_slice, Dd.we_intOf, Dd.nx_next, Dd.nx_ret, Dd.nx_ex, Dd.td_next, Dd.td_cont, Dd.td_brk, Dd.td_ret, Dd.td_ex, Dd.nx_brk, Dd.nx_cont, Dd.wp_skip, Dd.wp_seq, Dd.wp_drop, Dd.wp_ret, Dd.wp_asg, Dd.wp_if, Dd.wp_raise, Dd.wp_set, Dd.WO, Dk.eq_ss, Dk.ne_ss, Dk.eq_ii, Dk.ne_ii, Dk.sn_one_maybe, Dk.sn_one_many, Dk.sn_maybe_one, Dk.sn_maybe_many, Dk.sn_many_one, Dk.sn_many_maybe, Dk.sn_int_bool, Dk.sn_int_text, Dk.sn_bool_int, Dk.sn_bool_text, Dk.sn_text_int, Dk.sn_text_bool, Dk.isNot_non, Dk.q_add, Dk.q_addt, Dk.q_sub, Dk.q_mod, Dk.q_fdiv, Dk.q_mulr, Dk.q_mull, Dk.q_neg, Dk.q_lt, Dk.q_le, Dk.q_gt, Dk.q_ge, Dk.q_ix0, Dk.q_ix1, Dk.q_ix2, Dk.q_is_t, Dk.q_is_s, Dk.q_is_lt, Dk.q_is_ll, Dk.q_tru, Dk.q_lent, Dk.q_lenr, Dk.q_int, Dk.q_intb, Dk.q_abs, Dk.q_tupr, Dk.q_lstt, Dk.q_lst, Dk.q_tup, Dk.q_oka, Dk.q_oke, Dk.q_okj, Dk.q_app, Dk.q_ext, Dk.q_nm, Dk.q_tp, Dk.q_sa0, Dk.q_sa1, Dk.q_isn, Dk.q_isb, Dk.q_wipe0, Dk.q_wipe1]
    exact q _ _ (Grow.refl h) ⟨fun lv _ => by simp [fdErr, none, tmk, kdErr, fsErr], .inl ⟨_, _, _, rfl, pn, pt, .inl rfl, fun gs z => by cases z; exact fun d hd => nomatch hd⟩⟩
  · simp [Dd.we_ret, Dd.we_bnd, Dd.we_lift, Dd.we_var, Dd.we_args_nil, Dd.we_args_cons, Dd.we_opN, Dd.we_op1, Dd.we_op2, Dd.we_call, Dd.we_tst, Dd.we_tru, Dd.we_notT, Dd.we_andT, Dd.we_orT, Dd.we_notV, Dd.we_andV, Dd.we_orV, Dd.we_ite, Dd.we_chn, Dd.we_mth, Dd.we_slice, Dd.we_intOf, Dd.nx_next, Dd.nx_ret, Dd.nx_ex, Dd.td_next, Dd.td_cont, Dd.td_brk, Dd.td_ret, Dd.td_ex, Dd.nx_brk, Dd.nx_cont, Dd.wp_skip, Dd.wp_seq, Dd.wp_drop, Dd.wp_ret, Dd.wp_asg, Dd.wp_if, Dd.wp_raise, Dd.wp_set, Dd.WO, Dk.eq_ss, Dk.ne_ss, Dk.eq_ii, Dk.ne_ii, Dk.sn_one_maybe, Dk.sn_one_many, Dk.sn_maybe_one, Dk.sn_maybe_many, Dk.sn_many_one, Dk.sn_many_maybe, Dk.sn_int_bool, Dk.sn_int_text, Dk.sn_bool_int, Dk.sn_bool_text, Dk.sn_text_int, Dk.sn_text_bool, Dk.isNot_non, Dk.q_add, Dk.q_addt, Dk.q_sub, Dk.q_mod, Dk.q_fdiv, Dk.q_mulr, Dk.q_mull, Dk.q_neg, Dk.q_lt, Dk.q_le, Dk.q_gt, Dk.q_ge, Dk.q_ix0, Dk.q_ix1, Dk.q_ix2, Dk.q_is_t, Dk.q_is_s, Dk.q_is_lt, Dk.q_is_ll, Dk.q_tru, Dk.q_lent, Dk.q_lenr, Dk.q_int, Dk.q_intb, Dk.q_abs, Dk.q_tupr, Dk.q_lstt, Dk.q_lst, Dk.q_tup, Dk.q_oka, Dk.q_oke, Dk.q_okj, Dk.q_app, Dk.q_ext, Dk.q_nm, Dk.q_tp, Dk.q_sa0, Dk.q_sa1, Dk.q_isn, Dk.q_isb, Dk.q_wipe0, Dk.q_wipe1]
    exact q _ _ (Grow.refl h) ⟨fun lv _ => by simp [fdErr], .inr (.inl ⟨_, rfl, by simp⟩)⟩
  · simp [Dd.we_ret, Dd.we_bnd, Dd.we_lift, Dd.we_var, Dd.we_args_nil, Dd.we_args_cons, Dd.we_opN, Dd.we_op1, Dd.we_op2, Dd.we_call, Dd.we_tst, Dd.we_tru, Dd.we_notT, Dd.we_andT, Dd.we_orT, Dd.we_notV, Dd.we_andV, Dd.we_orV, Dd.we_ite, Dd.we_chn, Dd.we_mth, Dd.we_slice, Dd.we_intOf, Dd.nx_next, Dd.nx_ret, Dd.nx_ex, Dd.td_next, Dd.td_cont, Dd.td_brk, Dd.td_ret, Dd.td_ex, Dd.nx_brk, Dd.nx_cont, Dd.wp_skip, Dd.wp_seq, Dd.wp_drop, Dd.wp_ret, Dd.wp_asg, Dd.wp_if, Dd.wp_raise, Dd.wp_set, Dd.WO, Dk.eq_ss, Dk.ne_ss, Dk.eq_ii, Dk.ne_ii, Dk.sn_one_maybe, Dk.sn_one_many, Dk.sn_maybe_one, Dk.sn_maybe_many, Dk.sn_many_one, Dk.sn_many_maybe, Dk.sn_int_bool, Dk.sn_int_text, Dk.sn_bool_int, Dk.sn_bool_text, Dk.sn_text_int, Dk.sn_text_bool, Dk.isNot_non, Dk.q_add, Dk.q_addt, Dk.q_sub, Dk.q_mod, Dk.q_fdiv, Dk.q_mulr, Dk.q_mull, Dk.q_neg, Dk.q_lt, Dk.q_le, Dk.q_gt, Dk.q_ge, Dk.q_ix0, Dk.q_ix1, Dk.q_ix2, Dk.q_is_t, Dk.q_is_s, Dk.q_is_lt, Dk.q_is_ll, Dk.q_tru, Dk.q_lent, Dk.q_lenr, Dk.q_int, Dk.q_intb, Dk.q_abs, Dk.q_tupr, Dk.q_lstt, Dk.q_lst, Dk.q_tup, Dk.q_oka, Dk.q_oke, Dk.q_okj, Dk.q_app, Dk.q_ext, Dk.q_nm, Dk.q_tp, Dk.q_sa0, Dk.q_sa1, Dk.q_isn, Dk.q_isb, Dk.q_wipe0, Dk.q_wipe1]
    exact q _ _ (Grow.one h _) ⟨fun lv _ => by simp [fdErr], .inr (.inr ⟨_, _, rfl, lst_new⟩)⟩
  · simp [Dd.we_ret, Dd.we_bnd, Dd.we_lift, Dd.we_var, Dd.we_args_nil, Dd.we_args_cons, Dd.we_opN, Dd.we_op1, Dd.we_op2, Dd.we_call, Dd.we_tst, Dd.we_tru, Dd.we_notT, Dd.we_andT, Dd.we_orT, Dd.we_notV, Dd.we_andV, Dd.we_orV, Dd.we_ite, Dd.we_chn, Dd.we_mth, Dd.we_slice, Dd.we_intOf, Dd.nx_next, Dd.nx_ret, Dd.nx_ex, Dd.td_next, Dd.td_cont, Dd.td_brk, Dd.td_ret, Dd.td_ex, Dd.nx_brk, Dd.nx_cont, Dd.wp_skip, Dd.wp_seq, Dd.wp_drop, Dd.wp_ret, Dd.wp_asg, Dd.wp_if, Dd.wp_raise, Dd.wp_set, Dd.WO, Dk.eq_ss, Dk.ne_ss, Dk.eq_ii, Dk.ne_ii, Dk.sn_one_maybe, Dk.sn_one_many, Dk.sn_maybe_one, Dk.sn_maybe_many, Dk.sn_many_one, Dk.sn_many_maybe, Dk.sn_int_bool, Dk.sn_int_text, Dk.sn_bool_int, Dk.sn_bool_text, Dk.sn_text_int, Dk.sn_text_bool, Dk.isNot_non, Dk.q_add, Dk.q_addt, Dk.q_sub, Dk.q_mod, Dk.q_fdiv, Dk.q_mulr, Dk.q_mull, Dk.q_neg, Dk.q_lt, Dk.q_le, Dk.q_gt, Dk.q_ge, Dk.q_ix0, Dk.q_ix1, Dk.q_ix2, Dk.q_is_t, Dk.q_is_s, Dk.q_is_lt, Dk.q_is_ll, Dk.q_tru, Dk.q_lent, Dk.q_lenr, Dk.q_int, Dk.q_intb, Dk.q_abs, Dk.q_tupr, Dk.q_lstt, Dk.q_lst, Dk.q_tup, Dk.q_oka, Dk.q_oke, Dk.q_okj, Dk.q_app, Dk.q_ext, Dk.q_nm, Dk.q_tp, Dk.q_sa0, Dk.q_sa1, Dk.q_isn, Dk.q_isb, Dk.q_wipe0, Dk.q_wipe1]
    exact q _ _ (Grow.refl h) ⟨fun lv _ => by simp [fdErr, none, tmErr], .inl ⟨_, _, _, rfl, pn, rfl, pk h, pg h⟩⟩
  · simp [Dd.we_ret, Dd.we_bnd, Dd.we_lift, Dd.we_var, Dd.we_args_nil, Dd.we_args_cons, Dd.we_opN, Dd.we_op1, Dd.we_op2, Dd.we_call, Dd.we_tst, Dd.we_tru, Dd.we_notT, Dd.we_andT, Dd.we_orT, Dd.we_notV, Dd.we_andV, Dd.we_orV, Dd.we_ite, Dd.we_chn, Dd.we_mth, Dd.we_slice, Dd.we_intOf, Dd.nx_next, Dd.nx_ret, Dd.nx_ex, Dd.td_next, Dd.td_cont, Dd.td_brk, Dd.td_ret, Dd.td_ex, Dd.nx_brk, Dd.nx_cont, Dd.wp_skip, Dd.wp_seq, Dd.wp_drop, Dd.wp_ret, Dd.wp_asg, Dd.wp_if, Dd.wp_raise, Dd.wp_set, Dd.WO, Dk.eq_ss, Dk.ne_ss, Dk.eq_ii, Dk.ne_ii, Dk.sn_one_maybe, Dk.sn_one_many, Dk.sn_maybe_one, Dk.sn_maybe_many, Dk.sn_many_one, Dk.sn_many_maybe, Dk.sn_int_bool, Dk.sn_int_text, Dk.sn_bool_int, Dk.sn_bool_text, Dk.sn_text_int, Dk.sn_text_bool, Dk.isNot_non, Dk.q_add, Dk.q_addt, Dk.q_sub, Dk.q_mod, Dk.q_fdiv, Dk.q_mulr, Dk.q_mull, Dk.q_neg, Dk.q_lt, Dk.q_le, Dk.q_gt, Dk.q_ge, Dk.q_ix0, Dk.q_ix1, Dk.q_ix2, Dk.q_is_t, Dk.q_is_s, Dk.q_is_lt, Dk.q_is_ll, Dk.q_tru, Dk.q_lent, Dk.q_lenr, Dk.q_int, Dk.q_intb, Dk.q_abs, Dk.q_tupr, Dk.q_lstt, Dk.q_lst, Dk.q_tup, Dk.q_oka, Dk.q_oke, Dk.q_okj, Dk.q_app, Dk.q_ext, Dk.q_nm, Dk.q_tp, Dk.q_sa0, Dk.q_sa1, Dk.q_isn, Dk.q_isb, Dk.q_wipe0, Dk.q_wipe1]
    exact q _ _ (Grow.refl h) ⟨fun lv _ => by simp [fdErr, none, tmk, kdErr], .inl ⟨_, _, _, rfl, pn, pt, .inl rfl, fun gs z => nomatch z⟩⟩
  · simp [Dd.we_ret, Dd.we_bnd, Dd.we_lift, Dd.we_var, Dd.we_args_nil, Dd.we_args_cons, Dd.we_opN, Dd.we_op1, Dd.we_op2, Dd.we_call, Dd.we_tst, Dd.we_tru, Dd.we_notT, Dd.we_andT, Dd.we_orT, Dd.we_notV, Dd.we_andV, Dd.we_orV, Dd.we_ite, Dd.we_chn, Dd.we_mth, Dd.we_slice, Dd.we_intOf, Dd.nx_next, Dd.nx_ret, Dd.nx_ex, Dd.td_next, Dd.td_cont, Dd.td_brk, Dd.td_ret, Dd.td_ex, Dd.nx_brk, Dd.nx_cont, Dd.wp_skip, Dd.wp_seq, Dd.wp_drop, Dd.wp_ret, Dd.wp_asg, Dd.wp_if, Dd.wp_raise, Dd.wp_set, Dd.WO, Dk.eq_ss, Dk.ne_ss, Dk.eq_ii, Dk.ne_ii, Dk.sn_one_maybe, Dk.sn_one_many, Dk.sn_maybe_one, Dk.sn_maybe_many, Dk.sn_many_one, Dk.sn_many_maybe, Dk.sn_int_bool, Dk.sn_int_text, Dk.sn_bool_int, Dk.sn_bool_text, Dk.sn_text_int, Dk.sn_text_bool, Dk.isNot_non, Dk.q_add, Dk.q_addt, Dk.q_sub, Dk.q_mod, Dk.q_fdiv, Dk.q_mulr, Dk.q_mull, Dk.q_neg, Dk.q_lt, Dk.q_le, Dk.q_gt, Dk.q_ge, Dk.q_ix0, Dk.q_ix1, Dk.q_ix2, Dk.q_is_t, Dk.q_is_s, Dk.q_is_lt, Dk.q_is_ll, Dk.q_tru, Dk.q_lent, Dk.q_lenr, Dk.q_int, Dk.q_intb, Dk.q_abs, Dk.q_tupr, Dk.q_lstt, Dk.q_lst, Dk.q_tup, Dk.q_oka, Dk.q_oke, Dk.q_okj, Dk.q_app, Dk.q_ext, Dk.q_nm, Dk.q_tp, Dk.q_sa0, Dk.q_sa1, Dk.q_isn, Dk.q_isb, Dk.q_wipe0, Dk.q_wipe1]
    exact q _ _ (Grow.refl h) ⟨fun lv _ => by simp [fdErr, nmErr], .inl ⟨_, _, _, rfl, rfl, pt, pk h, pg h⟩⟩
  · simp [Dd.we_ret, Dd.we_bnd, Dd.we_lift, Dd.we_var, Dd.we_args_nil, Dd.we_args_cons, Dd.we_opN, Dd.we_op1, Dd.we_op2, Dd.we_call, Dd.we_tst, Dd.we_tru, Dd.we_notT, Dd.we_andT, Dd.we_orT, Dd.we_notV, Dd.we_andV, Dd.we_orV, Dd.we_ite, Dd.we_chn, Dd.we_mth, Dd.we_slice, Dd.we_intOf, Dd.nx_next, Dd.nx_ret, Dd.nx_ex, Dd.td_next, Dd.td_cont, Dd.td_brk, Dd.td_ret, Dd.td_ex, Dd.nx_brk, Dd.nx_cont, Dd.wp_skip, Dd.wp_seq, Dd.wp_drop, Dd.wp_ret, Dd.wp_asg, Dd.wp_if, Dd.wp_raise, Dd.wp_set, Dd.WO, Dk.eq_ss, Dk.ne_ss, Dk.eq_ii, Dk.ne_ii, Dk.sn_one_maybe, Dk.sn_one_many, Dk.sn_maybe_one, Dk.sn_maybe_many, Dk.sn_many_one, Dk.sn_many_maybe, Dk.sn_int_bool, Dk.sn_int_text, Dk.sn_bool_int, Dk.sn_bool_text, Dk.sn_text_int, Dk.sn_text_bool, Dk.isNot_non, Dk.q_add, Dk.q_addt, Dk.q_sub, Dk.q_mod, Dk.q_fdiv, Dk.q_mulr, Dk.q_mull, Dk.q_neg, Dk.q_lt, Dk.q_le, Dk.q_gt, Dk.q_ge, Dk.q_ix0, Dk.q_ix1, Dk.q_ix2, Dk.q_is_t, Dk.q_is_s, Dk.q_is_lt, Dk.q_is_ll, Dk.q_tru, Dk.q_lent, Dk.q_lenr, Dk.q_int, Dk.q_intb, Dk.q_abs, Dk.q_tupr, Dk.q_lstt, Dk.q_lst, Dk.q_tup, Dk.q_oka, Dk.q_oke, Dk.q_okj, Dk.q_app, Dk.q_ext, Dk.q_nm, Dk.q_tp, Dk.q_sa0, Dk.q_sa1, Dk.q_isn, Dk.q_isb, Dk.q_wipe0, Dk.q_wipe1]
    exact q _ _ (Grow.refl h) ⟨fun lv _ => by simp [fdErr, nmErr, nU], .inl ⟨_, _, _, rfl, by decide +kernel, pt, pk h, pg h⟩⟩
end Dk

set_option Elab.async false
set_option linter.all false
set_option maxRecDepth 100000
set_option maxHeartbeats 4000000
namespace Dk
open PySem PySem.Spec PyProof.Rows L2 Dd

/-- what _law_spoil answers -/
def SpQ (n : Nat) (h : DH) (d : D) (h' : DH) : Prop := ∃ id x w, d = D.ref id ∧ lstAt h' id = some [x, .str w] ∧ SpoilR n x w h' ∧ Grow h h'
theorem spq_new {n : Nat} {h0 h : DH} {x : D} {w : Str} (g : Grow h0 h) (s : SpoilR n x w h) : SpQ n h0 (.ref h.length) (h ++ [Ob.lst [x, .str w]]) := ⟨_, x, w, rfl, lst_new, s.grow (Grow.one _ _), g.trans (Grow.one _ _)⟩
theorem spq_lst {n : Nat} {h0 h : DH} {fs : List D} (g : Grow h0 h) : SpQ n h0 (.ref (h.length + 1)) (h ++ [Ob.lst fs, Ob.lst [D.ref h.length, .str "fields"]]) :=
  ⟨_, .ref h.length, "fields", rfl, by simp [lstAt], .inr ⟨_, fs, rfl, by simp [lstAt], rfl⟩, g.trans ⟨_, rfl⟩⟩
def put25 (j : Nat) : MS := retS (opN lstM [op2 addD (op2 addD (sliceM (var 0) (Dd.ret none) (intOf (var 3))) (opN tupM [var j])) (sliceM (var 0) (intOf (op2 addD (var 3) (Dd.ret (.int 1)))) (Dd.ret none)), var 8])
def tail25 : MS := seq (asg (.nm 9) (opN lstM (rowsL.map fun p => opN lstM [p.1, Dd.ret (.str p.2)]))) (
seq (asg (.tp [10, 8]) (op2 ixD (var 9) (op2 modD (var 2) (opN (bltD .len) [var 9])))) (
seq (ifS (tst (op2 eqD (op2 modD (var 2) (Dd.ret (.int 15))) (Dd.ret (.int 12))))
(seq (retS (opN lstM [op2 addD (var 0) (opN tupM [op2 ixD (var 0) (var 3)]), Dd.ret (.str "twice")])) (skip))
(skip)) (
seq (ifS (tst (op2 eqD (op2 modD (var 2) (Dd.ret (.int 15))) (Dd.ret (.int 13))))
(seq (retS (opN lstM [opN (bltD .list) [var 0], Dd.ret (.str "fields")])) (skip))
(skip)) (
seq (ifS (tst (op2 eqD (op2 modD (var 2) (Dd.ret (.int 15))) (Dd.ret (.int 14))))
(seq (retS (opN lstM [opN (bltD .tuple) [lcM [11] (bnd (Dd.ret (.int 13)) fun x => lift (rng1 x)) (.nm 11) (Dd.ret true) (opN tupM [op2 addD (Dd.ret (.str "f")) (opN (bltD .str) [var 11]), Dd.ret (.str "one"), Dd.ret (.str "int")])], Dd.ret (.str "fields")])) (skip))
(skip)) (
seq (put25 10) (
skip))))))
theorem str13 : ∀ k : Nat, k < 13 → (Str.ofString (toString (k : Int))).length ≤ 10 := by decide +kernel
theorem log13 : ∀ k : Nat, k < 13 → (k : Int).natAbs.log2 < 1920 := by decide +kernel
def I25 (hb : DH) (L k : Nat) (acc : List D) (hh : DH) : Prop := L = hb.length ∧ Grow hb hh ∧ acc.length = k ∧ ∀ d ∈ acc, ∀ n h, PlFd n h d
theorem w25_tail {n a : Nat} {fs : List D} {place kind : Int} {nm tm : Str} {kd : D} {x7 x8 x9 x10 x11 : Option D} {h0 h : DH} (p : FsOk (n + 1) fs) (hf : fs[a]? = some (.tup [.str nm, .str tm, kd])) (hkind : 0 ≤ kind) (g : Grow h0 h) :
    WP tail25 [some (.tup fs), some (.int place), some (.int kind), some (.int a), some (.str nm), some (.str tm), some kd, x7, x8, x9, x10, x11] h (End (SpQ (n + 1) h0) fun _ _ _ => False) := by
  have ha := (List.getElem?_eq_some_iff.mp hf).1
  have p2 := p.2.1
  obtain ⟨nm', tm', kd', e, hn, ht, hk⟩ := p.2.2 a _ hf
  cases e
  have zz : Z = 16777216 := rfl
  unfold tail25
  rw [wp_seq, wp_asg, we_opN]
  refine we_rows (R := BadFd (n + 1) a) (fun x w h h' g r => r.grow g) rowsL h (rows_bad hn ht hk) _ fun xs h1 g1 hl hall => ?_
  have hl : xs.length = 12 := hl
  refine wo_of (q_lst xs h1 (by omega)) ?_
  refine ⟨_, rfl, ?_⟩
  have g2 : Grow h0 (h1 ++ [Ob.lst xs]) := (g.trans g1).trans (Grow.one _ _)
  have e0 : (h1 ++ [Ob.lst xs])[h1.length]? = some (Ob.lst xs) := by
    rw [List.getElem?_append_right (Nat.le_refl _), Nat.sub_self]
    rfl
  obtain ⟨d, hd, at12⟩ := pickN (xs := xs) (v := kind % 12) (Int.emod_nonneg _ (by decide)) (by rw [hl]; omega)
  obtain ⟨i, x, w, rfl, li, bad⟩ := hall d hd
  have li2 := (Grow.one h1 (Ob.lst xs)).lst li
  have bad2 := bad.grow (Grow.one h1 (Ob.lst xs))
  have ixr : ixD (.ref h1.length) (.int (kind % 12)) (h1 ++ [Ob.lst xs]) = some (.ref i, h1 ++ [Ob.lst xs]) := by
    simp only [ixD, e0, pureO, at12, Option.map_some]
  have lenr : bltD .len [.ref h1.length] (h1 ++ [Ob.lst xs]) = some (.int 12, h1 ++ [Ob.lst xs]) := by
    simp only [bltD, e0, hl]
    rfl
  have ixa : ∀ h, ixD (.tup fs) (.int (a : Int)) h = some (.tup [.str nm, .str tm, kd], h) := fun h => by
    simp only [ixD, pureO, atI_of (k := a) rfl hf, Option.map_some]
  have tpr : ∀ e : DE, (Tg.tp [10, 8]).put (.ref i) (h1 ++ [Ob.lst xs]) e = some ((e.set 10 (some x)).set 8 (some (.str w))) := fun e => by
    rw [q_tpr, li2]
    rfl
  generalize h1 ++ [Ob.lst xs] = hb at *
  generalize h1.length = I at *
  have s1 : ∀ h, sliceD (.tup fs) none (some (a : Int)) h = some (.tup (fs.take a), h) := fun h => q_slt h (by omega)
  have s2 : ∀ h, sliceD (.tup fs) (some ((a : Int) + 1)) none h = some (.tup (fs.drop (a + 1)), h) := fun h => q_slf h (by omega)
  have la : (fs.take a).length + 1 ≤ 16777216 := by rw [List.length_take]; omega
  have lb : (fs.take a ++ [x]).length + (fs.drop (a + 1)).length ≤ 16777216 := by rw [List.length_append, List.length_take, List.length_drop]; simp; omega
  have ad1 : ∀ h, addD (.tup (fs.take a)) (.tup [x]) h = some (.tup (fs.take a ++ [x]), h) := fun h => q_addt _ _ h la
  have ad2 : ∀ h, addD (.tup (fs.take a ++ [x])) (.tup (fs.drop (a + 1))) h = some (.tup (fs.take a ++ [x] ++ fs.drop (a + 1)), h) := fun h => q_addt _ _ h lb
  have ad3 : ∀ (f : D) h, addD (.tup fs) (.tup [f]) h = some (.tup (fs ++ [f]), h) := fun f h => q_addt _ _ h (by show fs.length + 1 ≤ _; omega)
  simp only [nx_next, wp_seq, wp_asg, we_op2, we_opN, we_args_cons, we_args_nil, we_var]
  refine ⟨_, rfl, _, rfl, _, rfl, ?_⟩
  refine wo_of lenr ?_
  refine wo_of (q_mod _ _ _ (by decide)) ?_
  refine wo_of ixr ?_
  refine ⟨_, tpr _, ?_⟩
  by_cases c1 : kind % 15 = 12
  · simp [Dd.we_ret, Dd.we_bnd, Dd.we_lift, Dd.we_var, Dd.we_args_nil, Dd.we_args_cons, Dd.we_opN, Dd.we_op1, Dd.we_op2, Dd.we_call, Dd.we_tst, Dd.we_tru, Dd.we_notT, Dd.we_andT, Dd.we_orT, Dd.we_notV, Dd.we_andV, Dd.we_orV, Dd.we_ite, Dd.we_chn, Dd.we_mth, Dd.we_slice, Dd.we_intOf, Dd.nx_next, Dd.nx_ret, Dd.nx_ex, Dd.td_next, Dd.td_cont, Dd.td_brk, Dd.td_ret, Dd.td_ex, Dd.nx_brk, Dd.nx_cont, Dd.wp_skip, Dd.wp_seq, Dd.wp_drop, Dd.wp_ret, Dd.wp_asg, Dd.wp_if, Dd.wp_raise, Dd.wp_set, Dd.WO, Dk.eq_ss, Dk.ne_ss, Dk.eq_ii, Dk.ne_ii, Dk.sn_one_maybe, Dk.sn_one_many, Dk.sn_maybe_one, Dk.sn_maybe_many, Dk.sn_many_one, Dk.sn_many_maybe, Dk.sn_int_bool, Dk.sn_int_text, Dk.sn_bool_int, Dk.sn_bool_text, Dk.sn_text_int, Dk.sn_text_bool, Dk.isNot_non, Dk.q_add, Dk.q_addt, Dk.q_sub, Dk.q_mod, Dk.q_fdiv, Dk.q_mulr, Dk.q_mull, Dk.q_neg, Dk.q_lt, Dk.q_le, Dk.q_gt, Dk.q_ge, Dk.q_ix0, Dk.q_ix1, Dk.q_ix2, Dk.q_is_t, Dk.q_is_s, Dk.q_is_lt, Dk.q_is_ll, Dk.q_tru, Dk.q_lent, Dk.q_lenr, Dk.q_int, Dk.q_intb, Dk.q_abs, Dk.q_tupr, Dk.q_lstt, Dk.q_lst, Dk.q_tup, Dk.q_oka, Dk.q_oke, Dk.q_okj, Dk.q_app, Dk.q_ext, Dk.q_nm, Dk.q_tp, Dk.q_sa0, Dk.q_sa1, Dk.q_isn, Dk.q_isb, Dk.q_wipe0, Dk.q_wipe1, c1, ixa, ad3, end_ret]
    exact spq_new g2 (spoil_twice p hf)
  by_cases c2 : kind % 15 = 13
  · simp [Dd.we_ret, Dd.we_bnd, Dd.we_lift, Dd.we_var, Dd.we_args_nil, Dd.we_args_cons, Dd.we_opN, Dd.we_op1, Dd.we_op2, Dd.we_call, Dd.we_tst, Dd.we_tru, Dd.we_notT, Dd.we_andT, Dd.we_orT, Dd.we_notV, Dd.we_andV, Dd.we_orV, Dd.we_ite, Dd.we_chn, Dd.we_mth, Dd.we_slice, Dd.we_intOf, Dd.nx_next, Dd.nx_ret, Dd.nx_ex, Dd.td_next, Dd.td_cont, Dd.td_brk, Dd.td_ret, Dd.td_ex, Dd.nx_brk, Dd.nx_cont, Dd.wp_skip, Dd.wp_seq, Dd.wp_drop, Dd.wp_ret, Dd.wp_asg, Dd.wp_if, Dd.wp_raise, Dd.wp_set, Dd.WO, Dk.eq_ss, Dk.ne_ss, Dk.eq_ii, Dk.ne_ii, Dk.sn_one_maybe, Dk.sn_one_many, Dk.sn_maybe_one, Dk.sn_maybe_many, Dk.sn_many_one, Dk.sn_many_maybe, Dk.sn_int_bool, Dk.sn_int_text, Dk.sn_bool_int, Dk.sn_bool_text, Dk.sn_text_int, Dk.sn_text_bool, Dk.isNot_non, Dk.q_add, Dk.q_addt, Dk.q_sub, Dk.q_mod, Dk.q_fdiv, Dk.q_mulr, Dk.q_mull, Dk.q_neg, Dk.q_lt, Dk.q_le, Dk.q_gt, Dk.q_ge, Dk.q_ix0, Dk.q_ix1, Dk.q_ix2, Dk.q_is_t, Dk.q_is_s, Dk.q_is_lt, Dk.q_is_ll, Dk.q_tru, Dk.q_lent, Dk.q_lenr, Dk.q_int, Dk.q_intb, Dk.q_abs, Dk.q_tupr, Dk.q_lstt, Dk.q_lst, Dk.q_tup, Dk.q_oka, Dk.q_oke, Dk.q_okj, Dk.q_app, Dk.q_ext, Dk.q_nm, Dk.q_tp, Dk.q_sa0, Dk.q_sa1, Dk.q_isn, Dk.q_isb, Dk.q_wipe0, Dk.q_wipe1, c2, end_ret]
    exact spq_lst g2
  by_cases c3 : kind % 15 = 14
  · simp [Dd.we_ret, Dd.we_bnd, Dd.we_lift, Dd.we_var, Dd.we_args_nil, Dd.we_args_cons, Dd.we_opN, Dd.we_op1, Dd.we_op2, Dd.we_call, Dd.we_tst, Dd.we_tru, Dd.we_notT, Dd.we_andT, Dd.we_orT, Dd.we_notV, Dd.we_andV, Dd.we_orV, Dd.we_ite, Dd.we_chn, Dd.we_mth, Dd.we_slice, Dd.we_intOf, Dd.nx_next, Dd.nx_ret, Dd.nx_ex, Dd.td_next, Dd.td_cont, Dd.td_brk, Dd.td_ret, Dd.td_ex, Dd.nx_brk, Dd.nx_cont, Dd.wp_skip, Dd.wp_seq, Dd.wp_drop, Dd.wp_ret, Dd.wp_asg, Dd.wp_if, Dd.wp_raise, Dd.wp_set, Dd.WO, Dk.eq_ss, Dk.ne_ss, Dk.eq_ii, Dk.ne_ii, Dk.sn_one_maybe, Dk.sn_one_many, Dk.sn_maybe_one, Dk.sn_maybe_many, Dk.sn_many_one, Dk.sn_many_maybe, Dk.sn_int_bool, Dk.sn_int_text, Dk.sn_bool_int, Dk.sn_bool_text, Dk.sn_text_int, Dk.sn_text_bool, Dk.isNot_non, Dk.q_add, Dk.q_addt, Dk.q_sub, Dk.q_mod, Dk.q_fdiv, Dk.q_mulr, Dk.q_mull, Dk.q_neg, Dk.q_lt, Dk.q_le, Dk.q_gt, Dk.q_ge, Dk.q_ix0, Dk.q_ix1, Dk.q_ix2, Dk.q_is_t, Dk.q_is_s, Dk.q_is_lt, Dk.q_is_ll, Dk.q_tru, Dk.q_lent, Dk.q_lenr, Dk.q_int, Dk.q_intb, Dk.q_abs, Dk.q_tupr, Dk.q_lstt, Dk.q_lst, Dk.q_tup, Dk.q_oka, Dk.q_oke, Dk.q_okj, Dk.q_app, Dk.q_ext, Dk.q_nm, Dk.q_tp, Dk.q_sa0, Dk.q_sa1, Dk.q_isn, Dk.q_isb, Dk.q_wipe0, Dk.q_wipe1, c3]
    refine lc_rngW (I25 hb) ?_
    simp only [we_ret]
    refine ⟨13, rfl, by decide, ⟨rfl, Grow.one _ _, rfl, fun _ z => nomatch z⟩, ?_, ?_⟩
    · rintro acc hh l ⟨_, g3, l3, a3⟩
      simp [Dd.we_ret, Dd.we_bnd, Dd.we_lift, Dd.we_var, Dd.we_args_nil, Dd.we_args_cons, Dd.we_opN, Dd.we_op1, Dd.we_op2, Dd.we_call, Dd.we_tst, Dd.we_tru, Dd.we_notT, Dd.we_andT, Dd.we_orT, Dd.we_notV, Dd.we_andV, Dd.we_orV, Dd.we_ite, Dd.we_chn, Dd.we_mth, Dd.we_slice, Dd.we_intOf, Dd.nx_next, Dd.nx_ret, Dd.nx_ex, Dd.td_next, Dd.td_cont, Dd.td_brk, Dd.td_ret, Dd.td_ex, Dd.nx_brk, Dd.nx_cont, Dd.wp_skip, Dd.wp_seq, Dd.wp_drop, Dd.wp_ret, Dd.wp_asg, Dd.wp_if, Dd.wp_raise, Dd.wp_set, Dd.WO, Dk.eq_ss, Dk.ne_ss, Dk.eq_ii, Dk.ne_ii, Dk.sn_one_maybe, Dk.sn_one_many, Dk.sn_maybe_one, Dk.sn_maybe_many, Dk.sn_many_one, Dk.sn_many_maybe, Dk.sn_int_bool, Dk.sn_int_text, Dk.sn_bool_int, Dk.sn_bool_text, Dk.sn_text_int, Dk.sn_text_bool, Dk.isNot_non, Dk.q_add, Dk.q_addt, Dk.q_sub, Dk.q_mod, Dk.q_fdiv, Dk.q_mulr, Dk.q_mull, Dk.q_neg, Dk.q_lt, Dk.q_le, Dk.q_gt, Dk.q_ge, Dk.q_ix0, Dk.q_ix1, Dk.q_ix2, Dk.q_is_t, Dk.q_is_s, Dk.q_is_lt, Dk.q_is_ll, Dk.q_tru, Dk.q_lent, Dk.q_lenr, Dk.q_int, Dk.q_intb, Dk.q_abs, Dk.q_tupr, Dk.q_lstt, Dk.q_lst, Dk.q_tup, Dk.q_oka, Dk.q_oke, Dk.q_okj, Dk.q_app, Dk.q_ext, Dk.q_nm, Dk.q_tp, Dk.q_sa0, Dk.q_sa1, Dk.q_isn, Dk.q_isb, Dk.q_wipe0, Dk.q_wipe1, l, end_ret]
      refine spq_new (g2.trans g3) (.inl ⟨acc, rfl, fun d hd => a3 d hd _ _, fun lv _ => ?_⟩)
      have : ¬ (acc.length ≤ 12) := by omega
      simp [fsErr, this]
    · rintro k acc hh hk l ⟨_, g3, l3, a3⟩
      have z1 := str13 k hk
      have st : bltD .str [.int (k : Int)] hh = some (.str (Str.ofString (toString (k : Int))), hh) := if_pos (log13 k hk)
      have fs1 : (Str.ofString "f").length = 1 := by decide +kernel
      have af : addD (.str "f") (.str (Str.ofString (toString (k : Int)))) hh = some (.str ("f" ++ Str.ofString (toString (k : Int))), hh) := by
        show (if _ then _ else none) = _
        rw [if_pos (by rw [fs1]; omega)]
      have fl : (("f" : Str) ++ Str.ofString (toString (k : Int))).length ≤ 1000 := by
        have : (("f" : Str) ++ Str.ofString (toString (k : Int))).length = (Str.ofString "f").length + (Str.ofString (toString (k : Int))).length := Array.size_append
        omega
      refine ⟨_, rfl, ?_⟩
      unfold Elt
      generalize Str.ofString (toString (k : Int)) = sk at *
      simp [Dd.we_ret, Dd.we_bnd, Dd.we_lift, Dd.we_var, Dd.we_args_nil, Dd.we_args_cons, Dd.we_opN, Dd.we_op1, Dd.we_op2, Dd.we_call, Dd.we_tst, Dd.we_tru, Dd.we_notT, Dd.we_andT, Dd.we_orT, Dd.we_notV, Dd.we_andV, Dd.we_orV, Dd.we_ite, Dd.we_chn, Dd.we_mth, Dd.we_slice, Dd.we_intOf, Dd.nx_next, Dd.nx_ret, Dd.nx_ex, Dd.td_next, Dd.td_cont, Dd.td_brk, Dd.td_ret, Dd.td_ex, Dd.nx_brk, Dd.nx_cont, Dd.wp_skip, Dd.wp_seq, Dd.wp_drop, Dd.wp_ret, Dd.wp_asg, Dd.wp_if, Dd.wp_raise, Dd.wp_set, Dd.WO, Dk.eq_ss, Dk.ne_ss, Dk.eq_ii, Dk.ne_ii, Dk.sn_one_maybe, Dk.sn_one_many, Dk.sn_maybe_one, Dk.sn_maybe_many, Dk.sn_many_one, Dk.sn_many_maybe, Dk.sn_int_bool, Dk.sn_int_text, Dk.sn_bool_int, Dk.sn_bool_text, Dk.sn_text_int, Dk.sn_text_bool, Dk.isNot_non, Dk.q_add, Dk.q_addt, Dk.q_sub, Dk.q_mod, Dk.q_fdiv, Dk.q_mulr, Dk.q_mull, Dk.q_neg, Dk.q_lt, Dk.q_le, Dk.q_gt, Dk.q_ge, Dk.q_ix0, Dk.q_ix1, Dk.q_ix2, Dk.q_is_t, Dk.q_is_s, Dk.q_is_lt, Dk.q_is_ll, Dk.q_tru, Dk.q_lent, Dk.q_lenr, Dk.q_int, Dk.q_intb, Dk.q_abs, Dk.q_tupr, Dk.q_lstt, Dk.q_lst, Dk.q_tup, Dk.q_oka, Dk.q_oke, Dk.q_okj, Dk.q_app, Dk.q_ext, Dk.q_nm, Dk.q_tp, Dk.q_sa0, Dk.q_sa1, Dk.q_isn, Dk.q_isb, Dk.q_wipe0, Dk.q_wipe1, st, af]
      refine ⟨l, rfl, g3.set _ (Nat.le_refl _), by rw [List.length_append, l3]; rfl, fun d hd n h => ?_⟩
      rcases List.mem_append.mp hd with hd | hd
      · exact a3 d hd n h
      · rw [List.mem_singleton.mp hd]
        exact .inl ⟨_, _, _, rfl, decide_eq_true fl, by decide +kernel, .inl (by decide +kernel), fun gs z => nomatch z⟩
  · simp [put25, Dd.we_ret, Dd.we_bnd, Dd.we_lift, Dd.we_var, Dd.we_args_nil, Dd.we_args_cons, Dd.we_opN, Dd.we_op1, Dd.we_op2, Dd.we_call, Dd.we_tst, Dd.we_tru, Dd.we_notT, Dd.we_andT, Dd.we_orT, Dd.we_notV, Dd.we_andV, Dd.we_orV, Dd.we_ite, Dd.we_chn, Dd.we_mth, Dd.we_slice, Dd.we_intOf, Dd.nx_next, Dd.nx_ret, Dd.nx_ex, Dd.td_next, Dd.td_cont, Dd.td_brk, Dd.td_ret, Dd.td_ex, Dd.nx_brk, Dd.nx_cont, Dd.wp_skip, Dd.wp_seq, Dd.wp_drop, Dd.wp_ret, Dd.wp_asg, Dd.wp_if, Dd.wp_raise, Dd.wp_set, Dd.WO, Dk.eq_ss, Dk.ne_ss, Dk.eq_ii, Dk.ne_ii, Dk.sn_one_maybe, Dk.sn_one_many, Dk.sn_maybe_one, Dk.sn_maybe_many, Dk.sn_many_one, Dk.sn_many_maybe, Dk.sn_int_bool, Dk.sn_int_text, Dk.sn_bool_int, Dk.sn_bool_text, Dk.sn_text_int, Dk.sn_text_bool, Dk.isNot_non, Dk.q_add, Dk.q_addt, Dk.q_sub, Dk.q_mod, Dk.q_fdiv, Dk.q_mulr, Dk.q_mull, Dk.q_neg, Dk.q_lt, Dk.q_le, Dk.q_gt, Dk.q_ge, Dk.q_ix0, Dk.q_ix1, Dk.q_ix2, Dk.q_is_t, Dk.q_is_s, Dk.q_is_lt, Dk.q_is_ll, Dk.q_tru, Dk.q_lent, Dk.q_lenr, Dk.q_int, Dk.q_intb, Dk.q_abs, Dk.q_tupr, Dk.q_lstt, Dk.q_lst, Dk.q_tup, Dk.q_oka, Dk.q_oke, Dk.q_okj, Dk.q_app, Dk.q_ext, Dk.q_nm, Dk.q_tp, Dk.q_sa0, Dk.q_sa1, Dk.q_isn, Dk.q_isb, Dk.q_wipe0, Dk.q_wipe1, c1, c2, c3, s1, s2, ad1, ad2, end_ret]
    have := spq_new g2 (spoil_at p ha bad2)
    simpa using this
end Dk

set_option Elab.async false
set_option linter.all false
set_option maxRecDepth 100000
set_option maxHeartbeats 4000000
namespace Dk
open PySem PySem.Spec PyProof.Rows L2 Dd

def if25 (F : Call) : MS := ifS (andT (tru truD (op1 (isinD "tuple") (var 6))) (tst (op2 eqD (op2 modD (opN (bltD .int) [op2 fdivD (var 1) (Dd.ret (.int 7))]) (Dd.ret (.int 2))) (Dd.ret (.int 0)))))
  (seq (asg (.tp [7, 8]) (callM F 25 [var 6, op2 fdivD (var 1) (Dd.ret (.int 14)), var 2])) (seq (ifS (tru truD (op1 (isinD "list") (var 7)))
  (seq (asg (.nm 8) (Dd.ret (.str "kind"))) (skip))
  (skip)) (seq (retS (opN lstM [op2 addD (op2 addD (sliceM (var 0) (Dd.ret none) (intOf (var 3))) (opN tupM [opN tupM [var 4, var 5, var 7]])) (sliceM (var 0) (intOf (op2 addD (var 3) (Dd.ret (.int 1)))) (Dd.ret none)), var 8])) (skip)))) skip
theorem b25_eq (F : Call) : b25 F = seq (asg (.nm 3) (op2 modD (var 1) (opN (bltD .len) [var 0]))) (seq (asg (.tp [4, 5, 6]) (op2 ixD (var 0) (var 3))) (seq (if25 F) tail25)) := rfl
theorem w25 : ∀ (n m : Nat) (fs : List D) (place kind : Int) (h : DH), FsOk n fs → 0 ≤ place → 0 ≤ kind → WC (pg.run (m + n)) 25 [.tup fs, .int place, .int kind] h (SpQ n h) fun _ _ _ => False
  | 0, _, _, _, _, _, p, _, _ => p.elim
  | n + 1, m, fs, place, kind, h, p, hp, hkind => by
    refine wc_of (f := f25) rfl e25 rfl ?_
    have p1 := p.1
    have p2 := p.2.1
    obtain ⟨a, ha⟩ : ∃ a : Nat, place % (fs.length : Int) = a := ⟨(place % (fs.length : Int)).toNat, by rw [Int.toNat_of_nonneg (Int.emod_nonneg _ (by omega))]⟩
    have hlt : a < fs.length := by
      have := Int.emod_lt_of_pos place (show (0 : Int) < fs.length by omega)
      omega
    have hf := List.getElem?_eq_getElem hlt
    generalize fs[a] = f at hf
    obtain ⟨nm, tm, kd, rfl, hn, ht, hk⟩ := p.2.2 a f hf
    have ixa : ∀ h, ixD (.tup fs) (.int (a : Int)) h = some (.tup [.str nm, .str tm, kd], h) := fun h => by
      simp only [ixD, pureO, atI_of (k := a) rfl hf, Option.map_some]
    have p1' : 0 < fs.length := p1
    have md : ∀ h, modD (.int place) (.int fs.length) h = some (.int a, h) := fun h => by
      rw [← ha]
      exact q_mod _ _ _ (by omega)
    rw [b25_eq]
    simp [startD, f25, Dd.we_ret, Dd.we_bnd, Dd.we_lift, Dd.we_var, Dd.we_args_nil, Dd.we_args_cons, Dd.we_opN, Dd.we_op1, Dd.we_op2, Dd.we_call, Dd.we_tst, Dd.we_tru, Dd.we_notT, Dd.we_andT, Dd.we_orT, Dd.we_notV, Dd.we_andV, Dd.we_orV, Dd.we_ite, Dd.we_chn, Dd.we_mth, Dd.we_slice, Dd.we_intOf, Dd.nx_next, Dd.nx_ret, Dd.nx_ex, Dd.td_next, Dd.td_cont, Dd.td_brk, Dd.td_ret, Dd.td_ex, Dd.nx_brk, Dd.nx_cont, Dd.wp_skip, Dd.wp_seq, Dd.wp_drop, Dd.wp_ret, Dd.wp_asg, Dd.wp_if, Dd.wp_raise, Dd.wp_set, Dd.WO, Dk.eq_ss, Dk.ne_ss, Dk.eq_ii, Dk.ne_ii, Dk.sn_one_maybe, Dk.sn_one_many, Dk.sn_maybe_one, Dk.sn_maybe_many, Dk.sn_many_one, Dk.sn_many_maybe, Dk.sn_int_bool, Dk.sn_int_text, Dk.sn_bool_int, Dk.sn_bool_text, Dk.sn_text_int, Dk.sn_text_bool, Dk.isNot_non, Dk.q_add, Dk.q_addt, Dk.q_sub, Dk.q_mod, Dk.q_fdiv, Dk.q_mulr, Dk.q_mull, Dk.q_neg, Dk.q_lt, Dk.q_le, Dk.q_gt, Dk.q_ge, Dk.q_ix0, Dk.q_ix1, Dk.q_ix2, Dk.q_is_t, Dk.q_is_s, Dk.q_is_lt, Dk.q_is_ll, Dk.q_tru, Dk.q_lent, Dk.q_lenr, Dk.q_int, Dk.q_intb, Dk.q_abs, Dk.q_tupr, Dk.q_lstt, Dk.q_lst, Dk.q_tup, Dk.q_oka, Dk.q_oke, Dk.q_okj, Dk.q_app, Dk.q_ext, Dk.q_nm, Dk.q_tp, Dk.q_sa0, Dk.q_sa1, Dk.q_isn, Dk.q_isb, Dk.q_wipe0, Dk.q_wipe1, md, ixa]
    unfold if25
    have tl : WP tail25 [some (.tup fs), some (.int place), some (.int kind), some (.int a), some (.str nm), some (.str tm), some kd, none, none, none, none, none] h (End (SpQ (n + 1) h) fun _ _ _ => False) := w25_tail p hf hkind (Grow.refl h)
    rcases hk with ⟨x, hx, rfl⟩ | ⟨gs, rfl, hg⟩
    · simp [Dd.we_ret, Dd.we_bnd, Dd.we_lift, Dd.we_var, Dd.we_args_nil, Dd.we_args_cons, Dd.we_opN, Dd.we_op1, Dd.we_op2, Dd.we_call, Dd.we_tst, Dd.we_tru, Dd.we_notT, Dd.we_andT, Dd.we_orT, Dd.we_notV, Dd.we_andV, Dd.we_orV, Dd.we_ite, Dd.we_chn, Dd.we_mth, Dd.we_slice, Dd.we_intOf, Dd.nx_next, Dd.nx_ret, Dd.nx_ex, Dd.td_next, Dd.td_cont, Dd.td_brk, Dd.td_ret, Dd.td_ex, Dd.nx_brk, Dd.nx_cont, Dd.wp_skip, Dd.wp_seq, Dd.wp_drop, Dd.wp_ret, Dd.wp_asg, Dd.wp_if, Dd.wp_raise, Dd.wp_set, Dd.WO, Dk.eq_ss, Dk.ne_ss, Dk.eq_ii, Dk.ne_ii, Dk.sn_one_maybe, Dk.sn_one_many, Dk.sn_maybe_one, Dk.sn_maybe_many, Dk.sn_many_one, Dk.sn_many_maybe, Dk.sn_int_bool, Dk.sn_int_text, Dk.sn_bool_int, Dk.sn_bool_text, Dk.sn_text_int, Dk.sn_text_bool, Dk.isNot_non, Dk.q_add, Dk.q_addt, Dk.q_sub, Dk.q_mod, Dk.q_fdiv, Dk.q_mulr, Dk.q_mull, Dk.q_neg, Dk.q_lt, Dk.q_le, Dk.q_gt, Dk.q_ge, Dk.q_ix0, Dk.q_ix1, Dk.q_ix2, Dk.q_is_t, Dk.q_is_s, Dk.q_is_lt, Dk.q_is_ll, Dk.q_tru, Dk.q_lent, Dk.q_lenr, Dk.q_int, Dk.q_intb, Dk.q_abs, Dk.q_tupr, Dk.q_lstt, Dk.q_lst, Dk.q_tup, Dk.q_oka, Dk.q_oke, Dk.q_okj, Dk.q_app, Dk.q_ext, Dk.q_nm, Dk.q_tp, Dk.q_sa0, Dk.q_sa1, Dk.q_isn, Dk.q_isb, Dk.q_wipe0, Dk.q_wipe1]
      exact tl
    · by_cases c : place / 7 % 2 = 0
      · simp [Dd.we_ret, Dd.we_bnd, Dd.we_lift, Dd.we_var, Dd.we_args_nil, Dd.we_args_cons, Dd.we_opN, Dd.we_op1, Dd.we_op2, Dd.we_call, Dd.we_tst, Dd.we_tru, Dd.we_notT, Dd.we_andT, Dd.we_orT, Dd.we_notV, Dd.we_andV, Dd.we_orV, Dd.we_ite, Dd.we_chn, Dd.we_mth, Dd.we_slice, Dd.we_intOf, Dd.nx_next, Dd.nx_ret, Dd.nx_ex, Dd.td_next, Dd.td_cont, Dd.td_brk, Dd.td_ret, Dd.td_ex, Dd.nx_brk, Dd.nx_cont, Dd.wp_skip, Dd.wp_seq, Dd.wp_drop, Dd.wp_ret, Dd.wp_asg, Dd.wp_if, Dd.wp_raise, Dd.wp_set, Dd.WO, Dk.eq_ss, Dk.ne_ss, Dk.eq_ii, Dk.ne_ii, Dk.sn_one_maybe, Dk.sn_one_many, Dk.sn_maybe_one, Dk.sn_maybe_many, Dk.sn_many_one, Dk.sn_many_maybe, Dk.sn_int_bool, Dk.sn_int_text, Dk.sn_bool_int, Dk.sn_bool_text, Dk.sn_text_int, Dk.sn_text_bool, Dk.isNot_non, Dk.q_add, Dk.q_addt, Dk.q_sub, Dk.q_mod, Dk.q_fdiv, Dk.q_mulr, Dk.q_mull, Dk.q_neg, Dk.q_lt, Dk.q_le, Dk.q_gt, Dk.q_ge, Dk.q_ix0, Dk.q_ix1, Dk.q_ix2, Dk.q_is_t, Dk.q_is_s, Dk.q_is_lt, Dk.q_is_ll, Dk.q_tru, Dk.q_lent, Dk.q_lenr, Dk.q_int, Dk.q_intb, Dk.q_abs, Dk.q_tupr, Dk.q_lstt, Dk.q_lst, Dk.q_tup, Dk.q_oka, Dk.q_oke, Dk.q_okj, Dk.q_app, Dk.q_ext, Dk.q_nm, Dk.q_tp, Dk.q_sa0, Dk.q_sa1, Dk.q_isn, Dk.q_isb, Dk.q_wipe0, Dk.q_wipe1, c]
        refine (w25 n m gs (place / 14) kind h hg (Int.ediv_nonneg hp (by decide)) hkind).mono (fun d h1 w => ?_) fun _ _ _ z => z.elim
        obtain ⟨id, x, w, rfl, l, sp, g⟩ := w
        have tpr : ∀ e : DE, (Tg.tp [7, 8]).put (.ref id) h1 e = some ((e.set 7 (some x)).set 8 (some (.str w))) := fun e => by
          rw [q_tpr, l]
          rfl
        have s1 : ∀ h, sliceD (.tup fs) none (some (a : Int)) h = some (.tup (fs.take a), h) := fun h => q_slt h (by omega)
        have s2 : ∀ h, sliceD (.tup fs) (some ((a : Int) + 1)) none h = some (.tup (fs.drop (a + 1)), h) := fun h => q_slf h (by omega)
        have la : ∀ x : D, (fs.take a).length + [x].length ≤ 16777216 := fun x => by rw [List.length_take]; show _ + 1 ≤ _; omega
        have lb : ∀ x : D, (fs.take a ++ [x]).length + (fs.drop (a + 1)).length ≤ 16777216 := fun x => by rw [List.length_append, List.length_take, List.length_drop]; simp; omega
        have ad1 : ∀ x h, addD (.tup (fs.take a)) (.tup [x]) h = some (.tup (fs.take a ++ [x]), h) := fun x h => q_addt _ _ h (la x)
        have ad2 : ∀ x h, addD (.tup (fs.take a ++ [x])) (.tup (fs.drop (a + 1))) h = some (.tup (fs.take a ++ [x] ++ fs.drop (a + 1)), h) := fun x h => q_addt _ _ h (lb x)
        have none := nm_none hn
        have tmk : tmErr (.str tm) = false := by simp [tmErr, ht]
        have pn : plainV (.str nm) = true := decide_eq_true (nm3_at a nm hn).2.2.2
        have pt : plainV (.str tm) = true := decide_eq_true (short_tm ht)
        rcases sp with ⟨xs, rfl, pl, er⟩ | ⟨i, ys, rfl, li, rfl⟩
        · have bad : BadFd (n + 1) a (.tup [.str nm, .str tm, .tup xs]) w h1 := by
            refine ⟨fun lv hl => ?_, .inl ⟨_, _, _, rfl, pn, pt, .inl rfl, fun gs z => by cases z; exact pl⟩⟩
            simp [fdErr, none, tmk, kdErr]
            exact er (lv + 1) (by omega)
          simp [Dd.we_ret, Dd.we_bnd, Dd.we_lift, Dd.we_var, Dd.we_args_nil, Dd.we_args_cons, Dd.we_opN, Dd.we_op1, Dd.we_op2, Dd.we_call, Dd.we_tst, Dd.we_tru, Dd.we_notT, Dd.we_andT, Dd.we_orT, Dd.we_notV, Dd.we_andV, Dd.we_orV, Dd.we_ite, Dd.we_chn, Dd.we_mth, Dd.we_slice, Dd.we_intOf, Dd.nx_next, Dd.nx_ret, Dd.nx_ex, Dd.td_next, Dd.td_cont, Dd.td_brk, Dd.td_ret, Dd.td_ex, Dd.nx_brk, Dd.nx_cont, Dd.wp_skip, Dd.wp_seq, Dd.wp_drop, Dd.wp_ret, Dd.wp_asg, Dd.wp_if, Dd.wp_raise, Dd.wp_set, Dd.WO, Dk.eq_ss, Dk.ne_ss, Dk.eq_ii, Dk.ne_ii, Dk.sn_one_maybe, Dk.sn_one_many, Dk.sn_maybe_one, Dk.sn_maybe_many, Dk.sn_many_one, Dk.sn_many_maybe, Dk.sn_int_bool, Dk.sn_int_text, Dk.sn_bool_int, Dk.sn_bool_text, Dk.sn_text_int, Dk.sn_text_bool, Dk.isNot_non, Dk.q_add, Dk.q_addt, Dk.q_sub, Dk.q_mod, Dk.q_fdiv, Dk.q_mulr, Dk.q_mull, Dk.q_neg, Dk.q_lt, Dk.q_le, Dk.q_gt, Dk.q_ge, Dk.q_ix0, Dk.q_ix1, Dk.q_ix2, Dk.q_is_t, Dk.q_is_s, Dk.q_is_lt, Dk.q_is_ll, Dk.q_tru, Dk.q_lent, Dk.q_lenr, Dk.q_int, Dk.q_intb, Dk.q_abs, Dk.q_tupr, Dk.q_lstt, Dk.q_lst, Dk.q_tup, Dk.q_oka, Dk.q_oke, Dk.q_okj, Dk.q_app, Dk.q_ext, Dk.q_nm, Dk.q_tp, Dk.q_sa0, Dk.q_sa1, Dk.q_isn, Dk.q_isb, Dk.q_wipe0, Dk.q_wipe1, tpr, s1, s2, ad1, ad2, end_ret]
          have := spq_new g (spoil_at p hlt bad)
          simpa using this
        · have bad : BadFd (n + 1) a (.tup [.str nm, .str tm, .ref i]) "kind" h1 := by
            refine ⟨fun lv hl => ?_, .inl ⟨_, _, _, rfl, pn, pt, .inr ⟨i, ys, rfl, li⟩, fun gs z => nomatch z⟩⟩
            simp [fdErr, none, tmk, kdErr]
          have tn : tyName (.ref i) h1 = some "list" := by simp only [tyName, lstAt_some li]
          simp [Dd.we_ret, Dd.we_bnd, Dd.we_lift, Dd.we_var, Dd.we_args_nil, Dd.we_args_cons, Dd.we_opN, Dd.we_op1, Dd.we_op2, Dd.we_call, Dd.we_tst, Dd.we_tru, Dd.we_notT, Dd.we_andT, Dd.we_orT, Dd.we_notV, Dd.we_andV, Dd.we_orV, Dd.we_ite, Dd.we_chn, Dd.we_mth, Dd.we_slice, Dd.we_intOf, Dd.nx_next, Dd.nx_ret, Dd.nx_ex, Dd.td_next, Dd.td_cont, Dd.td_brk, Dd.td_ret, Dd.td_ex, Dd.nx_brk, Dd.nx_cont, Dd.wp_skip, Dd.wp_seq, Dd.wp_drop, Dd.wp_ret, Dd.wp_asg, Dd.wp_if, Dd.wp_raise, Dd.wp_set, Dd.WO, Dk.eq_ss, Dk.ne_ss, Dk.eq_ii, Dk.ne_ii, Dk.sn_one_maybe, Dk.sn_one_many, Dk.sn_maybe_one, Dk.sn_maybe_many, Dk.sn_many_one, Dk.sn_many_maybe, Dk.sn_int_bool, Dk.sn_int_text, Dk.sn_bool_int, Dk.sn_bool_text, Dk.sn_text_int, Dk.sn_text_bool, Dk.isNot_non, Dk.q_add, Dk.q_addt, Dk.q_sub, Dk.q_mod, Dk.q_fdiv, Dk.q_mulr, Dk.q_mull, Dk.q_neg, Dk.q_lt, Dk.q_le, Dk.q_gt, Dk.q_ge, Dk.q_ix0, Dk.q_ix1, Dk.q_ix2, Dk.q_is_t, Dk.q_is_s, Dk.q_is_lt, Dk.q_is_ll, Dk.q_tru, Dk.q_lent, Dk.q_lenr, Dk.q_int, Dk.q_intb, Dk.q_abs, Dk.q_tupr, Dk.q_lstt, Dk.q_lst, Dk.q_tup, Dk.q_oka, Dk.q_oke, Dk.q_okj, Dk.q_app, Dk.q_ext, Dk.q_nm, Dk.q_tp, Dk.q_sa0, Dk.q_sa1, Dk.q_isn, Dk.q_isb, Dk.q_wipe0, Dk.q_wipe1, tpr, s1, s2, ad1, ad2, tn, isTy, end_ret]
          have := spq_new g (spoil_at p hlt bad)
          simpa using this
      · simp [Dd.we_ret, Dd.we_bnd, Dd.we_lift, Dd.we_var, Dd.we_args_nil, Dd.we_args_cons, Dd.we_opN, Dd.we_op1, Dd.we_op2, Dd.we_call, Dd.we_tst, Dd.we_tru, Dd.we_notT, Dd.we_andT, Dd.we_orT, Dd.we_notV, Dd.we_andV, Dd.we_orV, Dd.we_ite, Dd.we_chn, Dd.we_mth, Dd.we_slice, Dd.we_intOf, Dd.nx_next, Dd.nx_ret, Dd.nx_ex, Dd.td_next, Dd.td_cont, Dd.td_brk, Dd.td_ret, Dd.td_ex, Dd.nx_brk, Dd.nx_cont, Dd.wp_skip, Dd.wp_seq, Dd.wp_drop, Dd.wp_ret, Dd.wp_asg, Dd.wp_if, Dd.wp_raise, Dd.wp_set, Dd.WO, Dk.eq_ss, Dk.ne_ss, Dk.eq_ii, Dk.ne_ii, Dk.sn_one_maybe, Dk.sn_one_many, Dk.sn_maybe_one, Dk.sn_maybe_many, Dk.sn_many_one, Dk.sn_many_maybe, Dk.sn_int_bool, Dk.sn_int_text, Dk.sn_bool_int, Dk.sn_bool_text, Dk.sn_text_int, Dk.sn_text_bool, Dk.isNot_non, Dk.q_add, Dk.q_addt, Dk.q_sub, Dk.q_mod, Dk.q_fdiv, Dk.q_mulr, Dk.q_mull, Dk.q_neg, Dk.q_lt, Dk.q_le, Dk.q_gt, Dk.q_ge, Dk.q_ix0, Dk.q_ix1, Dk.q_ix2, Dk.q_is_t, Dk.q_is_s, Dk.q_is_lt, Dk.q_is_ll, Dk.q_tru, Dk.q_lent, Dk.q_lenr, Dk.q_int, Dk.q_intb, Dk.q_abs, Dk.q_tupr, Dk.q_lstt, Dk.q_lst, Dk.q_tup, Dk.q_oka, Dk.q_oke, Dk.q_okj, Dk.q_app, Dk.q_ext, Dk.q_nm, Dk.q_tp, Dk.q_sa0, Dk.q_sa1, Dk.q_isn, Dk.q_isb, Dk.q_wipe0, Dk.q_wipe1, c]
        exact tl
end Dk

set_option Elab.async false
set_option linter.all false
set_option maxRecDepth 100000
set_option maxHeartbeats 4000000
namespace Dk
open PySem PySem.Spec PyProof.Rows L2 Dd

theorem w27_no (n : Nat) (x : D) (h : DH) (q : NoTup h x) : WC (pg.run (n + 3)) 27 [x] h (fun d h' => d = .str "fields" ∧ Grow h h') fun _ _ _ => False := by
  have w1 : WC (pg.run (n + 1)) 1 [x, .int 1] h (fun _ _ => False) fun c p h' => c = 0 ∧ p = .str "fields" ∧ h' = h := by
    refine wc_of (f := f1) rfl e1 rfl ?_
    have is := q.isin
    unfold b1
    simp [startD, f1, Dd.we_ret, Dd.we_bnd, Dd.we_lift, Dd.we_var, Dd.we_args_nil, Dd.we_args_cons, Dd.we_opN, Dd.we_op1, Dd.we_op2, Dd.we_call, Dd.we_tst, Dd.we_tru, Dd.we_notT, Dd.we_andT, Dd.we_orT, Dd.we_notV, Dd.we_andV, Dd.we_orV, Dd.we_ite, Dd.we_chn, Dd.we_mth, Dd.we_slice, Dd.we_intOf, Dd.nx_next, Dd.nx_ret, Dd.nx_ex, Dd.td_next, Dd.td_cont, Dd.td_brk, Dd.td_ret, Dd.td_ex, Dd.nx_brk, Dd.nx_cont, Dd.wp_skip, Dd.wp_seq, Dd.wp_drop, Dd.wp_ret, Dd.wp_asg, Dd.wp_if, Dd.wp_raise, Dd.wp_set, Dd.WO, Dk.eq_ss, Dk.ne_ss, Dk.eq_ii, Dk.ne_ii, Dk.sn_one_maybe, Dk.sn_one_many, Dk.sn_maybe_one, Dk.sn_maybe_many, Dk.sn_many_one, Dk.sn_many_maybe, Dk.sn_int_bool, Dk.sn_int_text, Dk.sn_bool_int, Dk.sn_bool_text, Dk.sn_text_int, Dk.sn_text_bool, Dk.isNot_non, Dk.q_add, Dk.q_addt, Dk.q_sub, Dk.q_mod, Dk.q_fdiv, Dk.q_mulr, Dk.q_mull, Dk.q_neg, Dk.q_lt, Dk.q_le, Dk.q_gt, Dk.q_ge, Dk.q_ix0, Dk.q_ix1, Dk.q_ix2, Dk.q_is_t, Dk.q_is_s, Dk.q_is_lt, Dk.q_is_ll, Dk.q_tru, Dk.q_lent, Dk.q_lenr, Dk.q_int, Dk.q_intb, Dk.q_abs, Dk.q_tupr, Dk.q_lstt, Dk.q_lst, Dk.q_tup, Dk.q_oka, Dk.q_oke, Dk.q_okj, Dk.q_app, Dk.q_ext, Dk.q_nm, Dk.q_tp, Dk.q_sa0, Dk.q_sa1, Dk.q_isn, Dk.q_isb, Dk.q_wipe0, Dk.q_wipe1, is, end_ex]
  have w0 : WC (pg.run (n + 2)) 0 [x] h (fun _ _ => False) fun c p h' => c = 0 ∧ p = .str "fields" ∧ h' = h := by
    refine wc_of (f := f0) rfl e0 rfl ?_
    unfold b0
    simp [startD, f0, Dd.we_ret, Dd.we_bnd, Dd.we_lift, Dd.we_var, Dd.we_args_nil, Dd.we_args_cons, Dd.we_opN, Dd.we_op1, Dd.we_op2, Dd.we_call, Dd.we_tst, Dd.we_tru, Dd.we_notT, Dd.we_andT, Dd.we_orT, Dd.we_notV, Dd.we_andV, Dd.we_orV, Dd.we_ite, Dd.we_chn, Dd.we_mth, Dd.we_slice, Dd.we_intOf, Dd.nx_next, Dd.nx_ret, Dd.nx_ex, Dd.td_next, Dd.td_cont, Dd.td_brk, Dd.td_ret, Dd.td_ex, Dd.nx_brk, Dd.nx_cont, Dd.wp_skip, Dd.wp_seq, Dd.wp_drop, Dd.wp_ret, Dd.wp_asg, Dd.wp_if, Dd.wp_raise, Dd.wp_set, Dd.WO, Dk.eq_ss, Dk.ne_ss, Dk.eq_ii, Dk.ne_ii, Dk.sn_one_maybe, Dk.sn_one_many, Dk.sn_maybe_one, Dk.sn_maybe_many, Dk.sn_many_one, Dk.sn_many_maybe, Dk.sn_int_bool, Dk.sn_int_text, Dk.sn_bool_int, Dk.sn_bool_text, Dk.sn_text_int, Dk.sn_text_bool, Dk.isNot_non, Dk.q_add, Dk.q_addt, Dk.q_sub, Dk.q_mod, Dk.q_fdiv, Dk.q_mulr, Dk.q_mull, Dk.q_neg, Dk.q_lt, Dk.q_le, Dk.q_gt, Dk.q_ge, Dk.q_ix0, Dk.q_ix1, Dk.q_ix2, Dk.q_is_t, Dk.q_is_s, Dk.q_is_lt, Dk.q_is_ll, Dk.q_tru, Dk.q_lent, Dk.q_lenr, Dk.q_int, Dk.q_intb, Dk.q_abs, Dk.q_tupr, Dk.q_lstt, Dk.q_lst, Dk.q_tup, Dk.q_oka, Dk.q_oke, Dk.q_okj, Dk.q_app, Dk.q_ext, Dk.q_nm, Dk.q_tp, Dk.q_sa0, Dk.q_sa1, Dk.q_isn, Dk.q_isb, Dk.q_wipe0, Dk.q_wipe1, end_ex]
    exact w1.mono (fun _ _ z => z.elim) fun _ _ _ z => z
  refine wc_of (f := f27) rfl e27 rfl ?_
  unfold b27
  rw [wp_seq]
  refine wp_try ?_
  simp only [wp_seq, wp_drop, we_call, we_args_cons, we_args_nil, we_var, we_ret]
  refine ⟨x, rfl, w0.mono (fun d h1 w => w.elim) fun c pp h1 w => ?_⟩
  rw [nx_ex]
  obtain ⟨rfl, rfl, rfl⟩ := w
  refine ⟨rfl, ?_⟩
  simp only [wp_ret, we_var, nx_ret]
  refine ⟨_, rfl, ⟨fun c p z => (by cases z), ?_⟩⟩
  rw [end_ret]
  exact ⟨rfl, Grow.refl _⟩
theorem w27_sp (n : Nat) (x : D) (w : Str) (h : DH) (q : SpoilR 3 x w h) : WC (pg.run (n + 11)) 27 [x] h (fun d h' => d = .str w ∧ Grow h h') fun _ _ _ => False := by
  rcases q with ⟨xs, rfl, pl, er⟩ | ⟨i, ys, rfl, l, rfl⟩
  · have z := w27 4 n xs h pl
    rw [er 1 (by decide)] at z
    exact z
  · exact w27_no (n + 8) _ h (.inr ⟨i, ys, rfl, l⟩)
/-- deep schemas -/
def deepF : Nat → List D
  | 0 => [.tup [.str "x", .str "one", .str "int"]]
  | k + 1 => [.tup [.str "g", .str (tms.getD (k % 3) ""), .tup (deepF k)]]
theorem deep_pl (h : DH) : ∀ k j, PlF (k + 1 + j) h (deepF k)
  | 0, j => by
    rw [show 0 + 1 + j = j + 1 from by omega]
    intro d hd
    rw [List.mem_singleton.mp hd]
    exact .inl ⟨_, _, _, rfl, by decide +kernel, by decide +kernel, .inl (by decide +kernel), fun gs z => nomatch z⟩
  | k + 1, j => by
    rw [show k + 1 + 1 + j = (k + 1 + j) + 1 from by omega]
    intro d hd
    rw [List.mem_singleton.mp hd]
    refine .inl ⟨_, _, _, rfl, by decide +kernel, ?_, .inl rfl, fun gs z => by cases z; exact deep_pl h k j⟩
    have : k % 3 = 0 ∨ k % 3 = 1 ∨ k % 3 = 2 := by omega
    rcases this with e | e | e <;> rw [e] <;> decide +kernel
theorem deep_word : ∀ k : Nat, k < 8 → word (fsErr 8 1 (deepF k)) = if k < 5 then (Str.ofString "") else (Str.ofString "depth") := by decide +kernel
theorem w26 (n k : Nat) (hk : k < 8) (h : DH) : WC (pg.run (n + 1)) 26 [.int ((k : Int) + 1)] h (fun d h' => d = .tup (deepF k) ∧ Grow h h') fun _ _ _ => False := by
  refine wc_of (f := f26) rfl e26 rfl ?_
  have zz : Z = 16777216 := rfl
  unfold b26
  simp [startD, f26, Dd.we_ret, Dd.we_bnd, Dd.we_lift, Dd.we_var, Dd.we_args_nil, Dd.we_args_cons, Dd.we_opN, Dd.we_op1, Dd.we_op2, Dd.we_call, Dd.we_tst, Dd.we_tru, Dd.we_notT, Dd.we_andT, Dd.we_orT, Dd.we_notV, Dd.we_andV, Dd.we_orV, Dd.we_ite, Dd.we_chn, Dd.we_mth, Dd.we_slice, Dd.we_intOf, Dd.nx_next, Dd.nx_ret, Dd.nx_ex, Dd.td_next, Dd.td_cont, Dd.td_brk, Dd.td_ret, Dd.td_ex, Dd.nx_brk, Dd.nx_cont, Dd.wp_skip, Dd.wp_seq, Dd.wp_drop, Dd.wp_ret, Dd.wp_asg, Dd.wp_if, Dd.wp_raise, Dd.wp_set, Dd.WO, Dk.eq_ss, Dk.ne_ss, Dk.eq_ii, Dk.ne_ii, Dk.sn_one_maybe, Dk.sn_one_many, Dk.sn_maybe_one, Dk.sn_maybe_many, Dk.sn_many_one, Dk.sn_many_maybe, Dk.sn_int_bool, Dk.sn_int_text, Dk.sn_bool_int, Dk.sn_bool_text, Dk.sn_text_int, Dk.sn_text_bool, Dk.isNot_non, Dk.q_add, Dk.q_addt, Dk.q_sub, Dk.q_mod, Dk.q_fdiv, Dk.q_mulr, Dk.q_mull, Dk.q_neg, Dk.q_lt, Dk.q_le, Dk.q_gt, Dk.q_ge, Dk.q_ix0, Dk.q_ix1, Dk.q_ix2, Dk.q_is_t, Dk.q_is_s, Dk.q_is_lt, Dk.q_is_ll, Dk.q_tru, Dk.q_lent, Dk.q_lenr, Dk.q_int, Dk.q_intb, Dk.q_abs, Dk.q_tupr, Dk.q_lstt, Dk.q_lst, Dk.q_tup, Dk.q_oka, Dk.q_oke, Dk.q_okj, Dk.q_app, Dk.q_ext, Dk.q_nm, Dk.q_tp, Dk.q_sa0, Dk.q_sa1, Dk.q_isn, Dk.q_isb, Dk.q_wipe0, Dk.q_wipe1]
  refine for_rng (fun j e hh => (∃ x, e = [some (.int ((k : Int) + 1)), some (.tup (deepF j)), x]) ∧ Grow h hh) ?_
  simp [Dd.we_ret, Dd.we_bnd, Dd.we_lift, Dd.we_var, Dd.we_args_nil, Dd.we_args_cons, Dd.we_opN, Dd.we_op1, Dd.we_op2, Dd.we_call, Dd.we_tst, Dd.we_tru, Dd.we_notT, Dd.we_andT, Dd.we_orT, Dd.we_notV, Dd.we_andV, Dd.we_orV, Dd.we_ite, Dd.we_chn, Dd.we_mth, Dd.we_slice, Dd.we_intOf, Dd.nx_next, Dd.nx_ret, Dd.nx_ex, Dd.td_next, Dd.td_cont, Dd.td_brk, Dd.td_ret, Dd.td_ex, Dd.nx_brk, Dd.nx_cont, Dd.wp_skip, Dd.wp_seq, Dd.wp_drop, Dd.wp_ret, Dd.wp_asg, Dd.wp_if, Dd.wp_raise, Dd.wp_set, Dd.WO, Dk.eq_ss, Dk.ne_ss, Dk.eq_ii, Dk.ne_ii, Dk.sn_one_maybe, Dk.sn_one_many, Dk.sn_maybe_one, Dk.sn_maybe_many, Dk.sn_many_one, Dk.sn_many_maybe, Dk.sn_int_bool, Dk.sn_int_text, Dk.sn_bool_int, Dk.sn_bool_text, Dk.sn_text_int, Dk.sn_text_bool, Dk.isNot_non, Dk.q_add, Dk.q_addt, Dk.q_sub, Dk.q_mod, Dk.q_fdiv, Dk.q_mulr, Dk.q_mull, Dk.q_neg, Dk.q_lt, Dk.q_le, Dk.q_gt, Dk.q_ge, Dk.q_ix0, Dk.q_ix1, Dk.q_ix2, Dk.q_is_t, Dk.q_is_s, Dk.q_is_lt, Dk.q_is_ll, Dk.q_tru, Dk.q_lent, Dk.q_lenr, Dk.q_int, Dk.q_intb, Dk.q_abs, Dk.q_tupr, Dk.q_lstt, Dk.q_lst, Dk.q_tup, Dk.q_oka, Dk.q_oke, Dk.q_okj, Dk.q_app, Dk.q_ext, Dk.q_nm, Dk.q_tp, Dk.q_sa0, Dk.q_sa1, Dk.q_isn, Dk.q_isb, Dk.q_wipe0, Dk.q_wipe1]
  refine ⟨k, by omega, in62_nat (by omega), ⟨rfl, Grow.refl h⟩, ?_, ?_⟩
  · rintro e hh x rfl g
    simp [Dd.we_ret, Dd.we_bnd, Dd.we_lift, Dd.we_var, Dd.we_args_nil, Dd.we_args_cons, Dd.we_opN, Dd.we_op1, Dd.we_op2, Dd.we_call, Dd.we_tst, Dd.we_tru, Dd.we_notT, Dd.we_andT, Dd.we_orT, Dd.we_notV, Dd.we_andV, Dd.we_orV, Dd.we_ite, Dd.we_chn, Dd.we_mth, Dd.we_slice, Dd.we_intOf, Dd.nx_next, Dd.nx_ret, Dd.nx_ex, Dd.td_next, Dd.td_cont, Dd.td_brk, Dd.td_ret, Dd.td_ex, Dd.nx_brk, Dd.nx_cont, Dd.wp_skip, Dd.wp_seq, Dd.wp_drop, Dd.wp_ret, Dd.wp_asg, Dd.wp_if, Dd.wp_raise, Dd.wp_set, Dd.WO, Dk.eq_ss, Dk.ne_ss, Dk.eq_ii, Dk.ne_ii, Dk.sn_one_maybe, Dk.sn_one_many, Dk.sn_maybe_one, Dk.sn_maybe_many, Dk.sn_many_one, Dk.sn_many_maybe, Dk.sn_int_bool, Dk.sn_int_text, Dk.sn_bool_int, Dk.sn_bool_text, Dk.sn_text_int, Dk.sn_text_bool, Dk.isNot_non, Dk.q_add, Dk.q_addt, Dk.q_sub, Dk.q_mod, Dk.q_fdiv, Dk.q_mulr, Dk.q_mull, Dk.q_neg, Dk.q_lt, Dk.q_le, Dk.q_gt, Dk.q_ge, Dk.q_ix0, Dk.q_ix1, Dk.q_ix2, Dk.q_is_t, Dk.q_is_s, Dk.q_is_lt, Dk.q_is_ll, Dk.q_tru, Dk.q_lent, Dk.q_lenr, Dk.q_int, Dk.q_intb, Dk.q_abs, Dk.q_tupr, Dk.q_lstt, Dk.q_lst, Dk.q_tup, Dk.q_oka, Dk.q_oke, Dk.q_okj, Dk.q_app, Dk.q_ext, Dk.q_nm, Dk.q_tp, Dk.q_sa0, Dk.q_sa1, Dk.q_isn, Dk.q_isb, Dk.q_wipe0, Dk.q_wipe1, end_ret]
    exact g
  · rintro j e hh hj x rfl g
    have ix : ixD (.ref hh.length) (.int ((j : Int) % 3)) (hh ++ [Ob.lst [D.str "one", D.str "maybe", D.str "many"]]) = some (.str (tms.getD (j % 3) ""), hh ++ [Ob.lst [D.str "one", D.str "maybe", D.str "many"]]) := by
      have e0 : (hh ++ [Ob.lst [D.str "one", D.str "maybe", D.str "many"]])[hh.length]? = some (Ob.lst [D.str "one", D.str "maybe", D.str "many"]) := by
        rw [List.getElem?_append_right (Nat.le_refl _), Nat.sub_self]
        rfl
      have : L2.atI [D.str "one", D.str "maybe", D.str "many"] ((j : Int) % 3) = some (.str (tms.getD (j % 3) "")) := by
        have : j % 3 = 0 ∨ j % 3 = 1 ∨ j % 3 = 2 := by omega
        rcases this with e | e | e <;> rw [e]
        · exact atI_of (k := 0) (by omega) rfl
        · exact atI_of (k := 1) (by omega) rfl
        · exact atI_of (k := 2) (by omega) rfl
      simp only [ixD, e0, pureO, this, Option.map_some]
    simp [Dd.we_ret, Dd.we_bnd, Dd.we_lift, Dd.we_var, Dd.we_args_nil, Dd.we_args_cons, Dd.we_opN, Dd.we_op1, Dd.we_op2, Dd.we_call, Dd.we_tst, Dd.we_tru, Dd.we_notT, Dd.we_andT, Dd.we_orT, Dd.we_notV, Dd.we_andV, Dd.we_orV, Dd.we_ite, Dd.we_chn, Dd.we_mth, Dd.we_slice, Dd.we_intOf, Dd.nx_next, Dd.nx_ret, Dd.nx_ex, Dd.td_next, Dd.td_cont, Dd.td_brk, Dd.td_ret, Dd.td_ex, Dd.nx_brk, Dd.nx_cont, Dd.wp_skip, Dd.wp_seq, Dd.wp_drop, Dd.wp_ret, Dd.wp_asg, Dd.wp_if, Dd.wp_raise, Dd.wp_set, Dd.WO, Dk.eq_ss, Dk.ne_ss, Dk.eq_ii, Dk.ne_ii, Dk.sn_one_maybe, Dk.sn_one_many, Dk.sn_maybe_one, Dk.sn_maybe_many, Dk.sn_many_one, Dk.sn_many_maybe, Dk.sn_int_bool, Dk.sn_int_text, Dk.sn_bool_int, Dk.sn_bool_text, Dk.sn_text_int, Dk.sn_text_bool, Dk.isNot_non, Dk.q_add, Dk.q_addt, Dk.q_sub, Dk.q_mod, Dk.q_fdiv, Dk.q_mulr, Dk.q_mull, Dk.q_neg, Dk.q_lt, Dk.q_le, Dk.q_gt, Dk.q_ge, Dk.q_ix0, Dk.q_ix1, Dk.q_ix2, Dk.q_is_t, Dk.q_is_s, Dk.q_is_lt, Dk.q_is_ll, Dk.q_tru, Dk.q_lent, Dk.q_lenr, Dk.q_int, Dk.q_intb, Dk.q_abs, Dk.q_tupr, Dk.q_lstt, Dk.q_lst, Dk.q_tup, Dk.q_oka, Dk.q_oke, Dk.q_okj, Dk.q_app, Dk.q_ext, Dk.q_nm, Dk.q_tp, Dk.q_sa0, Dk.q_sa1, Dk.q_isn, Dk.q_isb, Dk.q_wipe0, Dk.q_wipe1, ix]
    exact ⟨rfl, g.trans (Grow.one _ _)⟩
theorem w27_deep (n k : Nat) (hk : k < 8) (h : DH) : WC (pg.run (n + 19)) 27 [.tup (deepF k)] h (fun d h' => d = .str (if k < 5 then (Str.ofString "") else (Str.ofString "depth")) ∧ Grow h h') fun _ _ _ => False := by
  have pl : PlF 8 h (deepF k) := by
    have := deep_pl h k (7 - k)
    rw [show k + 1 + (7 - k) = 8 from by omega] at this
    exact this
  have z := w27 8 n (deepF k) h pl
  rw [deep_word k hk] at z
  exact z
end Dk

set_option Elab.async false
set_option linter.all false
set_option maxRecDepth 100000
set_option maxHeartbeats 4000000
namespace Dk
open PySem PySem.Spec PyProof.Rows L2 Dd

theorem lst_app {h l : DH} {i k : Nat} {xs : List D} (hi : i = h.length + k) (hk : l[k]? = some (.lst xs)) : lstAt (h ++ l) i = some xs := by
  unfold lstAt
  rw [hi, List.getElem?_append_right (by omega), Nat.add_sub_cancel_left, hk]
theorem take_get {α : Type} {l : List α} {a i : Nat} {x : α} (h : (l.take a)[i]? = some x) : l[i]? = some x := by
  rw [List.getElem?_take] at h
  split at h
  · exact h
  · cases h
def BdQ (n : Nat) (fs : List D) (h : DH) (d : D) (h' : DH) : Prop := ∃ id x w, d = D.ref id ∧ lstAt h' id = some [x, .str w] ∧ RcRes n h' fs x (some w) ∧ Grow h h' ∧ x ≠ .non
theorem bdq_new {n : Nat} {fs : List D} {h0 h : DH} {x : D} {w : Str} (g : Grow h0 h) (s : RcRes n h fs x (some w)) (hx : x ≠ .non) : BdQ n fs h0 (.ref h.length) (h ++ [Ob.lst [x, .str w]]) := ⟨_, x, w, rfl, lst_new, s.grow (Grow.one _ _), g.trans (Grow.one _ _), hx⟩
theorem ls_at {α : Type} {P : α → Option Str → Prop} {w : Str} {y : α} {ys : List α} (hy : P y (some w)) : ∀ {xs : List α}, (∀ x ∈ xs, P x none) → LsRes P (xs ++ y :: ys) (some w)
  | [], _ => .inl ⟨w, rfl, hy⟩
  | x :: xs, a => .inr ⟨a x List.mem_cons_self, ls_at hy fun z hz => a z (List.mem_cons_of_mem _ hz)⟩
theorem rec_at {n a : Nat} {fs vs : List D} {f x : D} {w : Str} {h h' : DH} (q : RcRes (n + 1) h' fs (.tup vs) none) (hf : fs[a]? = some f) (b : FdRes (RcRes n h) h f x (some w)) : RcRes (n + 1) h fs (.tup (vs.take a ++ [x] ++ vs.drop (a + 1))) (some w) := by
  rcases q with ⟨q1, _⟩ | ⟨vs', e, q2, q3⟩
  · cases q1
  cases e
  have hlt := (List.getElem?_eq_some_iff.mp hf).1
  refine .inr ⟨_, rfl, ?_, ?_⟩
  · simp; omega
  · have ef : fs = fs.take a ++ f :: fs.drop (a + 1) := by rw [← drop_cons hf, List.take_append_drop]
    have l1 : (fs.take a).length = (vs.take a).length := by rw [List.length_take, List.length_take, q2]
    have ez : fs.zip (vs.take a ++ [x] ++ vs.drop (a + 1)) = (fs.take a).zip (vs.take a) ++ (f, x) :: (fs.drop (a + 1)).zip (vs.drop (a + 1)) := by
      rw [List.append_assoc]
      conv => lhs; rw [ef]
      rw [List.zip_append l1]
      rfl
    rw [ez]
    refine ls_at (P := fun (p : D × D) r => FdRes (RcRes n h) h p.1 p.2 r) (y := (f, x)) b fun p hp => ?_
    have hm : p ∈ fs.zip vs := by
      obtain ⟨i, hi⟩ := List.getElem?_of_mem hp
      rw [List.getElem?_zip_eq_some] at hi
      refine List.mem_of_getElem? (i := i) ?_
      rw [List.getElem?_zip_eq_some]
      exact ⟨take_get hi.1, take_get hi.2⟩
    exact fd_any (fun _ _ z => rc_any z) (ls_none.mp q3 p hm)
theorem rec_len {n : Nat} {fs vs : List D} {h h' : DH} {ws : List D} (q : RcRes (n + 1) h' fs (.tup vs) none) (hl : ws.length ≠ vs.length) : RcRes (n + 1) h fs (.tup ws) (some "fields") := by
  rcases q with ⟨q1, _⟩ | ⟨vs', e, q2, q3⟩
  · cases q1
  cases e
  exact .inl ⟨rfl, .inr ⟨ws, rfl, by omega⟩⟩
theorem rec_get {n a : Nat} {fs vs : List D} {f : D} {h : DH} (q : RcRes (n + 1) h fs (.tup vs) none) (hf : fs[a]? = some f) : vs.length = fs.length ∧ ∃ v, vs[a]? = some v ∧ FdRes (RcRes n h) h f v none := by
  rcases q with ⟨q1, _⟩ | ⟨vs', e, q2, q3⟩
  · cases q1
  cases e
  have hlt := (List.getElem?_eq_some_iff.mp hf).1
  refine ⟨q2, vs[a], List.getElem?_eq_getElem (by omega), ?_⟩
  have hm : (f, vs[a]'(by omega)) ∈ fs.zip vs := by
    refine List.mem_of_getElem? (i := a) ?_
    rw [List.getElem?_zip_eq_some]
    exact ⟨hf, List.getElem?_eq_getElem (by omega)⟩
  exact ls_none.mp q3 _ hm
/-- values that are none of their kind -/
def badL (k : Str) : List D := if k = "int" then [.int 2147483648, .int (-2147483649), .bl true, .str "1"] else if k = "bool" then [.int 0, .int 1, .str "x", .str "true"] else [.str "\n", .str (PySem.Txt.mul "a" 61), .int 5, .bl true]
theorem badL_ok {k : Str} (hk : k ∈ knds) : (badL k).length = 4 ∧ ∀ d ∈ badL k, plainV d = true ∧ valB k d = false := by
  simp only [knds, List.mem_cons, List.not_mem_nil, or_false] at hk
  have one : ∀ d ∈ badL "int", plainV d = true ∧ valB "int" d = false := by
    intro d hd
    simp only [badL, if_true, List.mem_cons, List.not_mem_nil, or_false] at hd
    rcases hd with rfl | rfl | rfl | rfl <;> exact ⟨by decide +kernel, by decide +kernel⟩
  have two : ∀ d ∈ badL "bool", plainV d = true ∧ valB "bool" d = false := by
    intro d hd
    simp only [badL, if_neg sn_bool_int, if_true, List.mem_cons, List.not_mem_nil, or_false] at hd
    rcases hd with rfl | rfl | rfl | rfl <;> exact ⟨by decide +kernel, by decide +kernel⟩
  have three : ∀ d ∈ badL "text", plainV d = true ∧ valB "text" d = false := by
    intro d hd
    simp only [badL, if_neg sn_text_int, if_neg sn_text_bool, List.mem_cons, List.not_mem_nil, or_false] at hd
    rcases hd with rfl | rfl | rfl | rfl <;> exact ⟨by decide +kernel, by decide +kernel⟩
  rcases hk with rfl | rfl | rfl
  · exact ⟨rfl, one⟩
  · exact ⟨rfl, two⟩
  · exact ⟨rfl, three⟩
def dict29 : M D := dispM [(Dd.ret (.str "int"), opN lstM [Dd.ret (.int 2147483648), op2 subD (Dd.ret (.int 0)) (Dd.ret (.int 2147483649)), Dd.ret (.bl true), Dd.ret (.str "1")]), (Dd.ret (.str "bool"), opN lstM [Dd.ret (.int 0), Dd.ret (.int 1), Dd.ret (.str "x"), Dd.ret (.str "true")]), (Dd.ret (.str "text"), opN lstM [Dd.ret (.str "\n"), op2 mulD (Dd.ret (.str "a")) (Dd.ret (.int 61)), Dd.ret (.int 5), Dd.ret (.bl true)])]
theorem we_dict29 {e : DE} {h : DH} {Q : D → DH → Prop} {X : Nat → D → DH → Prop} (q : ∀ i h', Grow h h' → (∀ k ∈ knds, ∃ j, ixD (.ref i) (.str k) h' = some (.ref j, h') ∧ lstAt h' j = some (badL k)) → Q (.ref i) h') : WE dict29 e h Q X := by
  unfold dict29
  refine we_disp ?_
  have ml : ∀ h, mulD (.str "a") (.int 61) h = some (.str (PySem.Txt.mul "a" 61), h) := fun h => rfl
  simp only [we_dispL_cons, we_dispL_nil]
  simp [Dd.we_ret, Dd.we_bnd, Dd.we_lift, Dd.we_var, Dd.we_args_nil, Dd.we_args_cons, Dd.we_opN, Dd.we_op1, Dd.we_op2, Dd.we_call, Dd.we_tst, Dd.we_tru, Dd.we_notT, Dd.we_andT, Dd.we_orT, Dd.we_notV, Dd.we_andV, Dd.we_orV, Dd.we_ite, Dd.we_chn, Dd.we_mth, Dd.we_slice, Dd.we_intOf, Dd.nx_next, Dd.nx_ret, Dd.nx_ex, Dd.td_next, Dd.td_cont, Dd.td_brk, Dd.td_ret, Dd.td_ex, Dd.nx_brk, Dd.nx_cont, Dd.wp_skip, Dd.wp_seq, Dd.wp_drop, Dd.wp_ret, Dd.wp_asg, Dd.wp_if, Dd.wp_raise, Dd.wp_set, Dd.WO, Dk.eq_ss, Dk.ne_ss, Dk.eq_ii, Dk.ne_ii, Dk.sn_one_maybe, Dk.sn_one_many, Dk.sn_maybe_one, Dk.sn_maybe_many, Dk.sn_many_one, Dk.sn_many_maybe, Dk.sn_int_bool, Dk.sn_int_text, Dk.sn_bool_int, Dk.sn_bool_text, Dk.sn_text_int, Dk.sn_text_bool, Dk.isNot_non, Dk.q_add, Dk.q_addt, Dk.q_sub, Dk.q_mod, Dk.q_fdiv, Dk.q_mulr, Dk.q_mull, Dk.q_neg, Dk.q_lt, Dk.q_le, Dk.q_gt, Dk.q_ge, Dk.q_ix0, Dk.q_ix1, Dk.q_ix2, Dk.q_is_t, Dk.q_is_s, Dk.q_is_lt, Dk.q_is_ll, Dk.q_tru, Dk.q_lent, Dk.q_lenr, Dk.q_int, Dk.q_intb, Dk.q_abs, Dk.q_tupr, Dk.q_lstt, Dk.q_lst, Dk.q_tup, Dk.q_oka, Dk.q_oke, Dk.q_okj, Dk.q_app, Dk.q_ext, Dk.q_nm, Dk.q_tp, Dk.q_sa0, Dk.q_sa1, Dk.q_isn, Dk.q_isb, Dk.q_wipe0, Dk.q_wipe1, ml]
  refine ⟨[(.inr "int", .ref (h.length + 1)), (.inr "bool", .ref (h.length + 1 + 1)), (.inr "text", .ref (h.length + 1 + 1 + 1))], rfl, show 3 ≤ 15 by decide, ?_⟩
  have kv : ([(Sum.inr (Str.ofString "int"), D.ref (h.length + 1)), (.inr "bool", .ref (h.length + 1 + 1)), (.inr "text", .ref (h.length + 1 + 1 + 1))] : List (Key × D)).foldl (fun acc kv => putD acc kv.1 kv.2) [] = [(.inr "int", .ref (h.length + 1)), (.inr "bool", .ref (h.length + 1 + 1)), (.inr "text", .ref (h.length + 1 + 1 + 1))] := by
    simp [putD, sn_int_bool, sn_int_text, sn_bool_text]
  rw [kv]
  refine q _ _ ⟨[_, _, _, _], rfl⟩ ?_
  intro k hk
  simp only [knds, List.mem_cons, List.not_mem_nil, or_false] at hk
  rcases hk with rfl | rfl | rfl
  · exact ⟨h.length + 1, by simp [ixD, dGet, keyD, lookD], by simp [lstAt, badL]⟩
  · exact ⟨h.length + 1 + 1, by simp [ixD, dGet, keyD, lookD, sn_int_bool], by
    simp [badL, sn_bool_int]
    exact lst_app (k := 2) rfl rfl⟩
  · exact ⟨h.length + 1 + 1 + 1, by simp [ixD, dGet, keyD, lookD, sn_int_text, sn_bool_text], by
    simp [badL, sn_text_int, sn_text_bool]
    exact lst_app (k := 3) rfl rfl⟩
end Dk

set_option Elab.async false
set_option linter.all false
set_option maxRecDepth 100000
set_option maxHeartbeats 4000000
namespace Dk
open PySem PySem.Spec PyProof.Rows L2 Dd

theorem w29 : ∀ (n m : Nat) (fs vs : List D) (place kind : Int) (h : DH), FsOk n fs → RcRes n [] fs (.tup vs) none → 0 ≤ place → 0 ≤ kind → WC (pg.run (m + n)) 29 [.tup fs, .tup vs, .int place, .int kind] h (BdQ n fs h) fun _ _ _ => False
  | 0, _, _, _, _, _, _, p, _, _, _ => p.elim
  | n + 1, m, fs, vs, place, kind, h, p, rc, hp, hkind => by
    refine wc_of (f := f29) rfl e29 rfl ?_
    have p1 := p.1
    have p2 := p.2.1
    obtain ⟨a, ha⟩ : ∃ a : Nat, place % (fs.length : Int) = a := ⟨(place % (fs.length : Int)).toNat, by rw [Int.toNat_of_nonneg (Int.emod_nonneg _ (by omega))]⟩
    have hlt : a < fs.length := by
      have := Int.emod_lt_of_pos place (show (0 : Int) < fs.length by omega)
      omega
    have hf := List.getElem?_eq_getElem hlt
    generalize fs[a] = f at hf
    obtain ⟨lv, v, hv, fd⟩ := rec_get rc hf
    have fd0 := fd
    obtain ⟨nm, tm, kd, rfl, fd⟩ := fd
    have hk : KdOk n kd := by
      obtain ⟨nm', tm', kd', e, _, _, hk⟩ := p.2.2 a _ hf
      cases e
      exact hk
    have ixa : ∀ h, ixD (.tup fs) (.int (a : Int)) h = some (.tup [.str nm, .str tm, kd], h) := fun h => by
      simp only [ixD, pureO, atI_of (k := a) rfl hf, Option.map_some]
    have ixv : ∀ h, ixD (.tup vs) (.int (a : Int)) h = some (v, h) := fun h => by
      simp only [ixD, pureO, atI_of (k := a) rfl hv, Option.map_some]
    have md : ∀ h, modD (.int place) (.int fs.length) h = some (.int a, h) := fun h => by
      rw [← ha]
      exact q_mod _ _ _ (by omega)
    have s1 : ∀ h, sliceD (.tup vs) none (some (a : Int)) h = some (.tup (vs.take a), h) := fun h => q_slt h (by omega)
    have s2 : ∀ h, sliceD (.tup vs) (some ((a : Int) + 1)) none h = some (.tup (vs.drop (a + 1)), h) := fun h => q_slf h (by omega)
    have ad1 : ∀ x h, addD (.tup (vs.take a)) (.tup [x]) h = some (.tup (vs.take a ++ [x]), h) := fun x h => q_addt _ _ h (by rw [List.length_take]; show _ + 1 ≤ _; omega)
    have ad2 : ∀ x h, addD (.tup (vs.take a ++ [x])) (.tup (vs.drop (a + 1))) h = some (.tup (vs.take a ++ [x] ++ vs.drop (a + 1)), h) := fun x h => q_addt _ _ h (by rw [List.length_append, List.length_take, List.length_drop]; simp; omega)
    have ad3 : ∀ x h, addD (.tup (vs.take a)) (.tup [x, x]) h = some (.tup (vs.take a ++ [x, x]), h) := fun x h => q_addt _ _ h (by rw [List.length_take]; show _ + 2 ≤ _; omega)
    have ad4 : ∀ x h, addD (.tup (vs.take a ++ [x, x])) (.tup (vs.drop (a + 1))) h = some (.tup (vs.take a ++ [x, x] ++ vs.drop (a + 1)), h) := fun x h => q_addt _ _ h (by rw [List.length_append, List.length_take, List.length_drop]; simp; omega)
    have whole : ∀ h, RcRes (n + 1) h fs (.tup (vs.take a ++ [v, v] ++ vs.drop (a + 1))) (some "fields") := fun h => rec_len rc (by simp; omega)
    unfold b29
    simp [startD, f29, Dd.we_ret, Dd.we_bnd, Dd.we_lift, Dd.we_var, Dd.we_args_nil, Dd.we_args_cons, Dd.we_opN, Dd.we_op1, Dd.we_op2, Dd.we_call, Dd.we_tst, Dd.we_tru, Dd.we_notT, Dd.we_andT, Dd.we_orT, Dd.we_notV, Dd.we_andV, Dd.we_orV, Dd.we_ite, Dd.we_chn, Dd.we_mth, Dd.we_slice, Dd.we_intOf, Dd.nx_next, Dd.nx_ret, Dd.nx_ex, Dd.td_next, Dd.td_cont, Dd.td_brk, Dd.td_ret, Dd.td_ex, Dd.nx_brk, Dd.nx_cont, Dd.wp_skip, Dd.wp_seq, Dd.wp_drop, Dd.wp_ret, Dd.wp_asg, Dd.wp_if, Dd.wp_raise, Dd.wp_set, Dd.WO, Dk.eq_ss, Dk.ne_ss, Dk.eq_ii, Dk.ne_ii, Dk.sn_one_maybe, Dk.sn_one_many, Dk.sn_maybe_one, Dk.sn_maybe_many, Dk.sn_many_one, Dk.sn_many_maybe, Dk.sn_int_bool, Dk.sn_int_text, Dk.sn_bool_int, Dk.sn_bool_text, Dk.sn_text_int, Dk.sn_text_bool, Dk.isNot_non, Dk.q_add, Dk.q_addt, Dk.q_sub, Dk.q_mod, Dk.q_fdiv, Dk.q_mulr, Dk.q_mull, Dk.q_neg, Dk.q_lt, Dk.q_le, Dk.q_gt, Dk.q_ge, Dk.q_ix0, Dk.q_ix1, Dk.q_ix2, Dk.q_is_t, Dk.q_is_s, Dk.q_is_lt, Dk.q_is_ll, Dk.q_tru, Dk.q_lent, Dk.q_lenr, Dk.q_int, Dk.q_intb, Dk.q_abs, Dk.q_tupr, Dk.q_lstt, Dk.q_lst, Dk.q_tup, Dk.q_oka, Dk.q_oke, Dk.q_okj, Dk.q_app, Dk.q_ext, Dk.q_nm, Dk.q_tp, Dk.q_sa0, Dk.q_sa1, Dk.q_isn, Dk.q_isb, Dk.q_wipe0, Dk.q_wipe1, md, ixa, ixv, s1, s2, ad3, ad4]
    by_cases c0 : kind % 7 = 0
    · simp [Dd.we_ret, Dd.we_bnd, Dd.we_lift, Dd.we_var, Dd.we_args_nil, Dd.we_args_cons, Dd.we_opN, Dd.we_op1, Dd.we_op2, Dd.we_call, Dd.we_tst, Dd.we_tru, Dd.we_notT, Dd.we_andT, Dd.we_orT, Dd.we_notV, Dd.we_andV, Dd.we_orV, Dd.we_ite, Dd.we_chn, Dd.we_mth, Dd.we_slice, Dd.we_intOf, Dd.nx_next, Dd.nx_ret, Dd.nx_ex, Dd.td_next, Dd.td_cont, Dd.td_brk, Dd.td_ret, Dd.td_ex, Dd.nx_brk, Dd.nx_cont, Dd.wp_skip, Dd.wp_seq, Dd.wp_drop, Dd.wp_ret, Dd.wp_asg, Dd.wp_if, Dd.wp_raise, Dd.wp_set, Dd.WO, Dk.eq_ss, Dk.ne_ss, Dk.eq_ii, Dk.ne_ii, Dk.sn_one_maybe, Dk.sn_one_many, Dk.sn_maybe_one, Dk.sn_maybe_many, Dk.sn_many_one, Dk.sn_many_maybe, Dk.sn_int_bool, Dk.sn_int_text, Dk.sn_bool_int, Dk.sn_bool_text, Dk.sn_text_int, Dk.sn_text_bool, Dk.isNot_non, Dk.q_add, Dk.q_addt, Dk.q_sub, Dk.q_mod, Dk.q_fdiv, Dk.q_mulr, Dk.q_mull, Dk.q_neg, Dk.q_lt, Dk.q_le, Dk.q_gt, Dk.q_ge, Dk.q_ix0, Dk.q_ix1, Dk.q_ix2, Dk.q_is_t, Dk.q_is_s, Dk.q_is_lt, Dk.q_is_ll, Dk.q_tru, Dk.q_lent, Dk.q_lenr, Dk.q_int, Dk.q_intb, Dk.q_abs, Dk.q_tupr, Dk.q_lstt, Dk.q_lst, Dk.q_tup, Dk.q_oka, Dk.q_oke, Dk.q_okj, Dk.q_app, Dk.q_ext, Dk.q_nm, Dk.q_tp, Dk.q_sa0, Dk.q_sa1, Dk.q_isn, Dk.q_isb, Dk.q_wipe0, Dk.q_wipe1, c0, end_ret]
      have := bdq_new (Grow.refl h) (whole h) (fun z => nomatch z)
      simpa using this
    by_cases c1 : kind % 7 = 1
    · simp [Dd.we_ret, Dd.we_bnd, Dd.we_lift, Dd.we_var, Dd.we_args_nil, Dd.we_args_cons, Dd.we_opN, Dd.we_op1, Dd.we_op2, Dd.we_call, Dd.we_tst, Dd.we_tru, Dd.we_notT, Dd.we_andT, Dd.we_orT, Dd.we_notV, Dd.we_andV, Dd.we_orV, Dd.we_ite, Dd.we_chn, Dd.we_mth, Dd.we_slice, Dd.we_intOf, Dd.nx_next, Dd.nx_ret, Dd.nx_ex, Dd.td_next, Dd.td_cont, Dd.td_brk, Dd.td_ret, Dd.td_ex, Dd.nx_brk, Dd.nx_cont, Dd.wp_skip, Dd.wp_seq, Dd.wp_drop, Dd.wp_ret, Dd.wp_asg, Dd.wp_if, Dd.wp_raise, Dd.wp_set, Dd.WO, Dk.eq_ss, Dk.ne_ss, Dk.eq_ii, Dk.ne_ii, Dk.sn_one_maybe, Dk.sn_one_many, Dk.sn_maybe_one, Dk.sn_maybe_many, Dk.sn_many_one, Dk.sn_many_maybe, Dk.sn_int_bool, Dk.sn_int_text, Dk.sn_bool_int, Dk.sn_bool_text, Dk.sn_text_int, Dk.sn_text_bool, Dk.isNot_non, Dk.q_add, Dk.q_addt, Dk.q_sub, Dk.q_mod, Dk.q_fdiv, Dk.q_mulr, Dk.q_mull, Dk.q_neg, Dk.q_lt, Dk.q_le, Dk.q_gt, Dk.q_ge, Dk.q_ix0, Dk.q_ix1, Dk.q_ix2, Dk.q_is_t, Dk.q_is_s, Dk.q_is_lt, Dk.q_is_ll, Dk.q_tru, Dk.q_lent, Dk.q_lenr, Dk.q_int, Dk.q_intb, Dk.q_abs, Dk.q_tupr, Dk.q_lstt, Dk.q_lst, Dk.q_tup, Dk.q_oka, Dk.q_oke, Dk.q_okj, Dk.q_app, Dk.q_ext, Dk.q_nm, Dk.q_tp, Dk.q_sa0, Dk.q_sa1, Dk.q_isn, Dk.q_isb, Dk.q_wipe0, Dk.q_wipe1, c0, c1, end_ret]
      refine ⟨_, _, _, rfl, lst_app (k := 2) rfl rfl, .inl ⟨rfl, .inl (.inr ⟨_, vs, rfl, lst_app (k := 1) rfl rfl⟩)⟩, ⟨_, rfl⟩, fun z => nomatch z⟩
    simp [Dd.we_ret, Dd.we_bnd, Dd.we_lift, Dd.we_var, Dd.we_args_nil, Dd.we_args_cons, Dd.we_opN, Dd.we_op1, Dd.we_op2, Dd.we_call, Dd.we_tst, Dd.we_tru, Dd.we_notT, Dd.we_andT, Dd.we_orT, Dd.we_notV, Dd.we_andV, Dd.we_orV, Dd.we_ite, Dd.we_chn, Dd.we_mth, Dd.we_slice, Dd.we_intOf, Dd.nx_next, Dd.nx_ret, Dd.nx_ex, Dd.td_next, Dd.td_cont, Dd.td_brk, Dd.td_ret, Dd.td_ex, Dd.nx_brk, Dd.nx_cont, Dd.wp_skip, Dd.wp_seq, Dd.wp_drop, Dd.wp_ret, Dd.wp_asg, Dd.wp_if, Dd.wp_raise, Dd.wp_set, Dd.WO, Dk.eq_ss, Dk.ne_ss, Dk.eq_ii, Dk.ne_ii, Dk.sn_one_maybe, Dk.sn_one_many, Dk.sn_maybe_one, Dk.sn_maybe_many, Dk.sn_many_one, Dk.sn_many_maybe, Dk.sn_int_bool, Dk.sn_int_text, Dk.sn_bool_int, Dk.sn_bool_text, Dk.sn_text_int, Dk.sn_text_bool, Dk.isNot_non, Dk.q_add, Dk.q_addt, Dk.q_sub, Dk.q_mod, Dk.q_fdiv, Dk.q_mulr, Dk.q_mull, Dk.q_neg, Dk.q_lt, Dk.q_le, Dk.q_gt, Dk.q_ge, Dk.q_ix0, Dk.q_ix1, Dk.q_ix2, Dk.q_is_t, Dk.q_is_s, Dk.q_is_lt, Dk.q_is_ll, Dk.q_tru, Dk.q_lent, Dk.q_lenr, Dk.q_int, Dk.q_intb, Dk.q_abs, Dk.q_tupr, Dk.q_lstt, Dk.q_lst, Dk.q_tup, Dk.q_oka, Dk.q_oke, Dk.q_okj, Dk.q_app, Dk.q_ext, Dk.q_nm, Dk.q_tp, Dk.q_sa0, Dk.q_sa1, Dk.q_isn, Dk.q_isb, Dk.q_wipe0, Dk.q_wipe1, c0, c1]
    have g1 : Grow h (h ++ [Ob.lst [D.tup (List.take a vs ++ v :: v :: List.drop (a + 1) vs), D.str (Str.ofString "fields")]]) := Grow.one _ _
    generalize (h ++ [Ob.lst [D.tup (List.take a vs ++ v :: v :: List.drop (a + 1) vs), D.str (Str.ofString "fields")]]) = hb at *
    generalize List.length h = I at *
    have fin : ∀ x w hc, Grow hb hc → FdRes (RcRes n hc) hc (.tup [.str nm, .str tm, kd]) x (some w) → BdQ (n + 1) fs h (.ref (List.length hc)) (hc ++ [Ob.lst [.tup (List.take a vs ++ x :: List.drop (a + 1) vs), .str w]]) := fun x w hc g b => by
      have := bdq_new (g1.trans g) (rec_at rc hf b) (fun z => nomatch z)
      simpa using this
    by_cases hm : tm = "many"
    · subst hm
      obtain ⟨xs, rfl⟩ : ∃ xs, v = .tup xs := by
        rcases fd with ⟨_, ⟨_, q3⟩ | ⟨xs, q2, _⟩⟩ | ⟨q1, _⟩ | ⟨q1, _⟩
        · cases q3
        · exact ⟨xs, q2⟩
        · exact absurd rfl q1
        · exact absurd rfl q1
      obtain ⟨y, y1, y2⟩ := pickN (xs := [.ref (List.length hb), .int 5, .non]) (v := kind % 3) (Int.emod_nonneg _ (by decide)) (by show kind % 3 < 3; omega)
      have e0 : (hb ++ [Ob.lst xs, Ob.lst [D.ref (List.length hb), D.int 5, D.non]])[List.length hb + 1]? = some (Ob.lst [D.ref (List.length hb), D.int 5, D.non]) := lstAt_some (lst_app (k := 1) rfl rfl)
      have ixm : ixD (.ref (List.length hb + 1)) (.int (kind % 3)) (hb ++ [Ob.lst xs, Ob.lst [D.ref (List.length hb), D.int 5, D.non]]) = some (y, hb ++ [Ob.lst xs, Ob.lst [D.ref (List.length hb), D.int 5, D.non]]) := by
        simp only [ixD, e0, pureO, y2, Option.map_some]
      have nt : NoTup (hb ++ [Ob.lst xs, Ob.lst [D.ref (List.length hb), D.int 5, D.non]]) y := by
        simp only [List.mem_cons, List.not_mem_nil, or_false] at y1
        rcases y1 with rfl | rfl | rfl
        · exact .inr ⟨_, xs, rfl, lst_app (k := 0) rfl rfl⟩
        · exact .inl ⟨rfl, fun _ z => nomatch z⟩
        · exact .inl ⟨rfl, fun _ z => nomatch z⟩
      have := fin y "many" _ ⟨_, rfl⟩ ⟨nm, _, kd, rfl, .inl ⟨rfl, .inl ⟨nt, rfl⟩⟩⟩
      simp [Dd.we_ret, Dd.we_bnd, Dd.we_lift, Dd.we_var, Dd.we_args_nil, Dd.we_args_cons, Dd.we_opN, Dd.we_op1, Dd.we_op2, Dd.we_call, Dd.we_tst, Dd.we_tru, Dd.we_notT, Dd.we_andT, Dd.we_orT, Dd.we_notV, Dd.we_andV, Dd.we_orV, Dd.we_ite, Dd.we_chn, Dd.we_mth, Dd.we_slice, Dd.we_intOf, Dd.nx_next, Dd.nx_ret, Dd.nx_ex, Dd.td_next, Dd.td_cont, Dd.td_brk, Dd.td_ret, Dd.td_ex, Dd.nx_brk, Dd.nx_cont, Dd.wp_skip, Dd.wp_seq, Dd.wp_drop, Dd.wp_ret, Dd.wp_asg, Dd.wp_if, Dd.wp_raise, Dd.wp_set, Dd.WO, Dk.eq_ss, Dk.ne_ss, Dk.eq_ii, Dk.ne_ii, Dk.sn_one_maybe, Dk.sn_one_many, Dk.sn_maybe_one, Dk.sn_maybe_many, Dk.sn_many_one, Dk.sn_many_maybe, Dk.sn_int_bool, Dk.sn_int_text, Dk.sn_bool_int, Dk.sn_bool_text, Dk.sn_text_int, Dk.sn_text_bool, Dk.isNot_non, Dk.q_add, Dk.q_addt, Dk.q_sub, Dk.q_mod, Dk.q_fdiv, Dk.q_mulr, Dk.q_mull, Dk.q_neg, Dk.q_lt, Dk.q_le, Dk.q_gt, Dk.q_ge, Dk.q_ix0, Dk.q_ix1, Dk.q_ix2, Dk.q_is_t, Dk.q_is_s, Dk.q_is_lt, Dk.q_is_ll, Dk.q_tru, Dk.q_lent, Dk.q_lenr, Dk.q_int, Dk.q_intb, Dk.q_abs, Dk.q_tupr, Dk.q_lstt, Dk.q_lst, Dk.q_tup, Dk.q_oka, Dk.q_oke, Dk.q_okj, Dk.q_app, Dk.q_ext, Dk.q_nm, Dk.q_tp, Dk.q_sa0, Dk.q_sa1, Dk.q_isn, Dk.q_isb, Dk.q_wipe0, Dk.q_wipe1, ixm, ad1, ad2, end_ret]
      simpa using this
    · rcases hk with ⟨k, hk, rfl⟩ | ⟨gs, rfl, hg⟩
      · simp [Dd.we_ret, Dd.we_bnd, Dd.we_lift, Dd.we_var, Dd.we_args_nil, Dd.we_args_cons, Dd.we_opN, Dd.we_op1, Dd.we_op2, Dd.we_call, Dd.we_tst, Dd.we_tru, Dd.we_notT, Dd.we_andT, Dd.we_orT, Dd.we_notV, Dd.we_andV, Dd.we_orV, Dd.we_ite, Dd.we_chn, Dd.we_mth, Dd.we_slice, Dd.we_intOf, Dd.nx_next, Dd.nx_ret, Dd.nx_ex, Dd.td_next, Dd.td_cont, Dd.td_brk, Dd.td_ret, Dd.td_ex, Dd.nx_brk, Dd.nx_cont, Dd.wp_skip, Dd.wp_seq, Dd.wp_drop, Dd.wp_ret, Dd.wp_asg, Dd.wp_if, Dd.wp_raise, Dd.wp_set, Dd.WO, Dk.eq_ss, Dk.ne_ss, Dk.eq_ii, Dk.ne_ii, Dk.sn_one_maybe, Dk.sn_one_many, Dk.sn_maybe_one, Dk.sn_maybe_many, Dk.sn_many_one, Dk.sn_many_maybe, Dk.sn_int_bool, Dk.sn_int_text, Dk.sn_bool_int, Dk.sn_bool_text, Dk.sn_text_int, Dk.sn_text_bool, Dk.isNot_non, Dk.q_add, Dk.q_addt, Dk.q_sub, Dk.q_mod, Dk.q_fdiv, Dk.q_mulr, Dk.q_mull, Dk.q_neg, Dk.q_lt, Dk.q_le, Dk.q_gt, Dk.q_ge, Dk.q_ix0, Dk.q_ix1, Dk.q_ix2, Dk.q_is_t, Dk.q_is_s, Dk.q_is_lt, Dk.q_is_ll, Dk.q_tru, Dk.q_lent, Dk.q_lenr, Dk.q_int, Dk.q_intb, Dk.q_abs, Dk.q_tupr, Dk.q_lstt, Dk.q_lst, Dk.q_tup, Dk.q_oka, Dk.q_oke, Dk.q_okj, Dk.q_app, Dk.q_ext, Dk.q_nm, Dk.q_tp, Dk.q_sa0, Dk.q_sa1, Dk.q_isn, Dk.q_isb, Dk.q_wipe0, Dk.q_wipe1, hm]
        refine we_dict29 fun i h' g2 hd => ?_
        obtain ⟨j, d1, d2⟩ := hd k hk
        obtain ⟨l4, bok⟩ := badL_ok hk
        obtain ⟨y, y1, y2⟩ := pickN (xs := badL k) (v := kind % 4) (Int.emod_nonneg _ (by decide)) (by rw [l4]; omega)
        have ix4 : ixD (.ref j) (.int (kind % 4)) h' = some (y, h') := by
          simp only [ixD, lstAt_some d2, pureO, y2, Option.map_some]
        obtain ⟨b1, b2⟩ := bok y y1
        have yn : tm = "one" ∨ y ≠ .non := .inr fun z => by
          subst z
          have : D.non ∈ badL k := y1
          simp only [knds, List.mem_cons, List.not_mem_nil, or_false] at hk
          rcases hk with rfl | rfl | rfl
          · simp [badL] at this
          · simp [badL, sn_bool_int] at this
          · simp [badL, sn_text_int, sn_text_bool] at this
        have := fin y "value" _ g2 ⟨nm, tm, .str k, rfl, .inr (.inl ⟨hm, yn, b1, by rw [b2]; rfl⟩)⟩
        simp [d1, ix4, ad1, ad2, end_ret]
        exact this
      · have seven : ∀ hc, Grow hb hc → BdQ (n + 1) fs h (.ref (List.length hc)) (hc ++ [Ob.lst [.tup (List.take a vs ++ .int 7 :: List.drop (a + 1) vs), .str "fields"]]) := fun hc g => by
          refine fin _ _ hc g ⟨nm, tm, .tup gs, rfl, .inr (.inl ⟨hm, .inr (fun z => nomatch z), ?_⟩)⟩
          cases n with
          | zero => exact hg.elim
          | succ n => exact .inl ⟨rfl, .inl (.inl ⟨rfl, fun _ z => nomatch z⟩)⟩
        have s7 := seven hb (Grow.refl hb)
        rcases fd with ⟨q1, _⟩ | ⟨q1, q2, q3⟩ | ⟨q1, q2, rfl, q4⟩
        · exact absurd q1 hm
        · have q3 : RcRes n [] gs v none := q3
          obtain ⟨us, rfl⟩ : ∃ us, v = .tup us := by
            cases n with
            | zero => exact hg.elim
            | succ n =>
              rcases q3 with ⟨z, _⟩ | ⟨us, z, _⟩
              · cases z
              · exact ⟨us, z⟩
          have call := w29 n m gs us (place / 5) (kind / 7) hb hg q3 (Int.ediv_nonneg hp (by decide)) (Int.ediv_nonneg hkind (by decide))
          have rest : ∀ (x : D) (w : Str) (hc : DH), RcRes n hc gs x (some w) → Grow hb hc → x ≠ .non → BdQ (n + 1) fs h (.ref (List.length hc)) (hc ++ [Ob.lst [.tup (List.take a vs ++ x :: List.drop (a + 1) vs), .str w]]) := fun x w hc r g hx =>
            fin x w hc g ⟨nm, tm, .tup gs, rfl, .inr (.inl ⟨hm, .inr hx, r⟩)⟩
          have nn : isNonD (D.tup us) = false := rfl
          by_cases h2 : tm = "one" ∧ kind % 7 = 2
          · obtain ⟨h2, h3⟩ := h2
            subst h2
            simp [Dd.we_ret, Dd.we_bnd, Dd.we_lift, Dd.we_var, Dd.we_args_nil, Dd.we_args_cons, Dd.we_opN, Dd.we_op1, Dd.we_op2, Dd.we_call, Dd.we_tst, Dd.we_tru, Dd.we_notT, Dd.we_andT, Dd.we_orT, Dd.we_notV, Dd.we_andV, Dd.we_orV, Dd.we_ite, Dd.we_chn, Dd.we_mth, Dd.we_slice, Dd.we_intOf, Dd.nx_next, Dd.nx_ret, Dd.nx_ex, Dd.td_next, Dd.td_cont, Dd.td_brk, Dd.td_ret, Dd.td_ex, Dd.nx_brk, Dd.nx_cont, Dd.wp_skip, Dd.wp_seq, Dd.wp_drop, Dd.wp_ret, Dd.wp_asg, Dd.wp_if, Dd.wp_raise, Dd.wp_set, Dd.WO, Dk.eq_ss, Dk.ne_ss, Dk.eq_ii, Dk.ne_ii, Dk.sn_one_maybe, Dk.sn_one_many, Dk.sn_maybe_one, Dk.sn_maybe_many, Dk.sn_many_one, Dk.sn_many_maybe, Dk.sn_int_bool, Dk.sn_int_text, Dk.sn_bool_int, Dk.sn_bool_text, Dk.sn_text_int, Dk.sn_text_bool, Dk.isNot_non, Dk.q_add, Dk.q_addt, Dk.q_sub, Dk.q_mod, Dk.q_fdiv, Dk.q_mulr, Dk.q_mull, Dk.q_neg, Dk.q_lt, Dk.q_le, Dk.q_gt, Dk.q_ge, Dk.q_ix0, Dk.q_ix1, Dk.q_ix2, Dk.q_is_t, Dk.q_is_s, Dk.q_is_lt, Dk.q_is_ll, Dk.q_tru, Dk.q_lent, Dk.q_lenr, Dk.q_int, Dk.q_intb, Dk.q_abs, Dk.q_tupr, Dk.q_lstt, Dk.q_lst, Dk.q_tup, Dk.q_oka, Dk.q_oke, Dk.q_okj, Dk.q_app, Dk.q_ext, Dk.q_nm, Dk.q_tp, Dk.q_sa0, Dk.q_sa1, Dk.q_isn, Dk.q_isb, Dk.q_wipe0, Dk.q_wipe1, hm, nn, h3, ad1, ad2, end_ret]
            exact s7
          · have go : WC (pg.run (m + n)) 29 [.tup gs, .tup us, .int (place / 5), .int (kind / 7)] hb (fun d h1 => ∃ x w id, lstAt h1 id = some [x, .str w] ∧ d = .ref id ∧ BdQ (n + 1) fs h (.ref (List.length h1)) (h1 ++ [Ob.lst [.tup (List.take a vs ++ x :: List.drop (a + 1) vs), .str w]])) fun _ _ _ => False := call.mono (fun d h1 w => by
              obtain ⟨id, x, w, rfl, l, r, g, hx⟩ := w
              exact ⟨x, w, id, l, rfl, rest x w h1 r g hx⟩) fun _ _ _ z => z
            by_cases ho : tm = "one"
            · have h3 : ¬ (kind % 7 = 2) := fun z => h2 ⟨ho, z⟩
              subst ho
              simp [Dd.we_ret, Dd.we_bnd, Dd.we_lift, Dd.we_var, Dd.we_args_nil, Dd.we_args_cons, Dd.we_opN, Dd.we_op1, Dd.we_op2, Dd.we_call, Dd.we_tst, Dd.we_tru, Dd.we_notT, Dd.we_andT, Dd.we_orT, Dd.we_notV, Dd.we_andV, Dd.we_orV, Dd.we_ite, Dd.we_chn, Dd.we_mth, Dd.we_slice, Dd.we_intOf, Dd.nx_next, Dd.nx_ret, Dd.nx_ex, Dd.td_next, Dd.td_cont, Dd.td_brk, Dd.td_ret, Dd.td_ex, Dd.nx_brk, Dd.nx_cont, Dd.wp_skip, Dd.wp_seq, Dd.wp_drop, Dd.wp_ret, Dd.wp_asg, Dd.wp_if, Dd.wp_raise, Dd.wp_set, Dd.WO, Dk.eq_ss, Dk.ne_ss, Dk.eq_ii, Dk.ne_ii, Dk.sn_one_maybe, Dk.sn_one_many, Dk.sn_maybe_one, Dk.sn_maybe_many, Dk.sn_many_one, Dk.sn_many_maybe, Dk.sn_int_bool, Dk.sn_int_text, Dk.sn_bool_int, Dk.sn_bool_text, Dk.sn_text_int, Dk.sn_text_bool, Dk.isNot_non, Dk.q_add, Dk.q_addt, Dk.q_sub, Dk.q_mod, Dk.q_fdiv, Dk.q_mulr, Dk.q_mull, Dk.q_neg, Dk.q_lt, Dk.q_le, Dk.q_gt, Dk.q_ge, Dk.q_ix0, Dk.q_ix1, Dk.q_ix2, Dk.q_is_t, Dk.q_is_s, Dk.q_is_lt, Dk.q_is_ll, Dk.q_tru, Dk.q_lent, Dk.q_lenr, Dk.q_int, Dk.q_intb, Dk.q_abs, Dk.q_tupr, Dk.q_lstt, Dk.q_lst, Dk.q_tup, Dk.q_oka, Dk.q_oke, Dk.q_okj, Dk.q_app, Dk.q_ext, Dk.q_nm, Dk.q_tp, Dk.q_sa0, Dk.q_sa1, Dk.q_isn, Dk.q_isb, Dk.q_wipe0, Dk.q_wipe1, hm, nn, h3]
              refine go.mono (fun d h1 w => ?_) fun _ _ _ z => z.elim
              obtain ⟨x, w, id, l, rfl, b⟩ := w
              simp [Dd.we_ret, Dd.we_bnd, Dd.we_lift, Dd.we_var, Dd.we_args_nil, Dd.we_args_cons, Dd.we_opN, Dd.we_op1, Dd.we_op2, Dd.we_call, Dd.we_tst, Dd.we_tru, Dd.we_notT, Dd.we_andT, Dd.we_orT, Dd.we_notV, Dd.we_andV, Dd.we_orV, Dd.we_ite, Dd.we_chn, Dd.we_mth, Dd.we_slice, Dd.we_intOf, Dd.nx_next, Dd.nx_ret, Dd.nx_ex, Dd.td_next, Dd.td_cont, Dd.td_brk, Dd.td_ret, Dd.td_ex, Dd.nx_brk, Dd.nx_cont, Dd.wp_skip, Dd.wp_seq, Dd.wp_drop, Dd.wp_ret, Dd.wp_asg, Dd.wp_if, Dd.wp_raise, Dd.wp_set, Dd.WO, Dk.eq_ss, Dk.ne_ss, Dk.eq_ii, Dk.ne_ii, Dk.sn_one_maybe, Dk.sn_one_many, Dk.sn_maybe_one, Dk.sn_maybe_many, Dk.sn_many_one, Dk.sn_many_maybe, Dk.sn_int_bool, Dk.sn_int_text, Dk.sn_bool_int, Dk.sn_bool_text, Dk.sn_text_int, Dk.sn_text_bool, Dk.isNot_non, Dk.q_add, Dk.q_addt, Dk.q_sub, Dk.q_mod, Dk.q_fdiv, Dk.q_mulr, Dk.q_mull, Dk.q_neg, Dk.q_lt, Dk.q_le, Dk.q_gt, Dk.q_ge, Dk.q_ix0, Dk.q_ix1, Dk.q_ix2, Dk.q_is_t, Dk.q_is_s, Dk.q_is_lt, Dk.q_is_ll, Dk.q_tru, Dk.q_lent, Dk.q_lenr, Dk.q_int, Dk.q_intb, Dk.q_abs, Dk.q_tupr, Dk.q_lstt, Dk.q_lst, Dk.q_tup, Dk.q_oka, Dk.q_oke, Dk.q_okj, Dk.q_app, Dk.q_ext, Dk.q_nm, Dk.q_tp, Dk.q_sa0, Dk.q_sa1, Dk.q_isn, Dk.q_isb, Dk.q_wipe0, Dk.q_wipe1, q_tpr, l, s1, s2, ad1, ad2, end_ret]
              exact b
            · simp [Dd.we_ret, Dd.we_bnd, Dd.we_lift, Dd.we_var, Dd.we_args_nil, Dd.we_args_cons, Dd.we_opN, Dd.we_op1, Dd.we_op2, Dd.we_call, Dd.we_tst, Dd.we_tru, Dd.we_notT, Dd.we_andT, Dd.we_orT, Dd.we_notV, Dd.we_andV, Dd.we_orV, Dd.we_ite, Dd.we_chn, Dd.we_mth, Dd.we_slice, Dd.we_intOf, Dd.nx_next, Dd.nx_ret, Dd.nx_ex, Dd.td_next, Dd.td_cont, Dd.td_brk, Dd.td_ret, Dd.td_ex, Dd.nx_brk, Dd.nx_cont, Dd.wp_skip, Dd.wp_seq, Dd.wp_drop, Dd.wp_ret, Dd.wp_asg, Dd.wp_if, Dd.wp_raise, Dd.wp_set, Dd.WO, Dk.eq_ss, Dk.ne_ss, Dk.eq_ii, Dk.ne_ii, Dk.sn_one_maybe, Dk.sn_one_many, Dk.sn_maybe_one, Dk.sn_maybe_many, Dk.sn_many_one, Dk.sn_many_maybe, Dk.sn_int_bool, Dk.sn_int_text, Dk.sn_bool_int, Dk.sn_bool_text, Dk.sn_text_int, Dk.sn_text_bool, Dk.isNot_non, Dk.q_add, Dk.q_addt, Dk.q_sub, Dk.q_mod, Dk.q_fdiv, Dk.q_mulr, Dk.q_mull, Dk.q_neg, Dk.q_lt, Dk.q_le, Dk.q_gt, Dk.q_ge, Dk.q_ix0, Dk.q_ix1, Dk.q_ix2, Dk.q_is_t, Dk.q_is_s, Dk.q_is_lt, Dk.q_is_ll, Dk.q_tru, Dk.q_lent, Dk.q_lenr, Dk.q_int, Dk.q_intb, Dk.q_abs, Dk.q_tupr, Dk.q_lstt, Dk.q_lst, Dk.q_tup, Dk.q_oka, Dk.q_oke, Dk.q_okj, Dk.q_app, Dk.q_ext, Dk.q_nm, Dk.q_tp, Dk.q_sa0, Dk.q_sa1, Dk.q_isn, Dk.q_isb, Dk.q_wipe0, Dk.q_wipe1, hm, nn, ho]
              refine go.mono (fun d h1 w => ?_) fun _ _ _ z => z.elim
              obtain ⟨x, w, id, l, rfl, b⟩ := w
              simp [Dd.we_ret, Dd.we_bnd, Dd.we_lift, Dd.we_var, Dd.we_args_nil, Dd.we_args_cons, Dd.we_opN, Dd.we_op1, Dd.we_op2, Dd.we_call, Dd.we_tst, Dd.we_tru, Dd.we_notT, Dd.we_andT, Dd.we_orT, Dd.we_notV, Dd.we_andV, Dd.we_orV, Dd.we_ite, Dd.we_chn, Dd.we_mth, Dd.we_slice, Dd.we_intOf, Dd.nx_next, Dd.nx_ret, Dd.nx_ex, Dd.td_next, Dd.td_cont, Dd.td_brk, Dd.td_ret, Dd.td_ex, Dd.nx_brk, Dd.nx_cont, Dd.wp_skip, Dd.wp_seq, Dd.wp_drop, Dd.wp_ret, Dd.wp_asg, Dd.wp_if, Dd.wp_raise, Dd.wp_set, Dd.WO, Dk.eq_ss, Dk.ne_ss, Dk.eq_ii, Dk.ne_ii, Dk.sn_one_maybe, Dk.sn_one_many, Dk.sn_maybe_one, Dk.sn_maybe_many, Dk.sn_many_one, Dk.sn_many_maybe, Dk.sn_int_bool, Dk.sn_int_text, Dk.sn_bool_int, Dk.sn_bool_text, Dk.sn_text_int, Dk.sn_text_bool, Dk.isNot_non, Dk.q_add, Dk.q_addt, Dk.q_sub, Dk.q_mod, Dk.q_fdiv, Dk.q_mulr, Dk.q_mull, Dk.q_neg, Dk.q_lt, Dk.q_le, Dk.q_gt, Dk.q_ge, Dk.q_ix0, Dk.q_ix1, Dk.q_ix2, Dk.q_is_t, Dk.q_is_s, Dk.q_is_lt, Dk.q_is_ll, Dk.q_tru, Dk.q_lent, Dk.q_lenr, Dk.q_int, Dk.q_intb, Dk.q_abs, Dk.q_tupr, Dk.q_lstt, Dk.q_lst, Dk.q_tup, Dk.q_oka, Dk.q_oke, Dk.q_okj, Dk.q_app, Dk.q_ext, Dk.q_nm, Dk.q_tp, Dk.q_sa0, Dk.q_sa1, Dk.q_isn, Dk.q_isb, Dk.q_wipe0, Dk.q_wipe1, q_tpr, l, s1, s2, ad1, ad2, end_ret]
              exact b
        · simp [Dd.we_ret, Dd.we_bnd, Dd.we_lift, Dd.we_var, Dd.we_args_nil, Dd.we_args_cons, Dd.we_opN, Dd.we_op1, Dd.we_op2, Dd.we_call, Dd.we_tst, Dd.we_tru, Dd.we_notT, Dd.we_andT, Dd.we_orT, Dd.we_notV, Dd.we_andV, Dd.we_orV, Dd.we_ite, Dd.we_chn, Dd.we_mth, Dd.we_slice, Dd.we_intOf, Dd.nx_next, Dd.nx_ret, Dd.nx_ex, Dd.td_next, Dd.td_cont, Dd.td_brk, Dd.td_ret, Dd.td_ex, Dd.nx_brk, Dd.nx_cont, Dd.wp_skip, Dd.wp_seq, Dd.wp_drop, Dd.wp_ret, Dd.wp_asg, Dd.wp_if, Dd.wp_raise, Dd.wp_set, Dd.WO, Dk.eq_ss, Dk.ne_ss, Dk.eq_ii, Dk.ne_ii, Dk.sn_one_maybe, Dk.sn_one_many, Dk.sn_maybe_one, Dk.sn_maybe_many, Dk.sn_many_one, Dk.sn_many_maybe, Dk.sn_int_bool, Dk.sn_int_text, Dk.sn_bool_int, Dk.sn_bool_text, Dk.sn_text_int, Dk.sn_text_bool, Dk.isNot_non, Dk.q_add, Dk.q_addt, Dk.q_sub, Dk.q_mod, Dk.q_fdiv, Dk.q_mulr, Dk.q_mull, Dk.q_neg, Dk.q_lt, Dk.q_le, Dk.q_gt, Dk.q_ge, Dk.q_ix0, Dk.q_ix1, Dk.q_ix2, Dk.q_is_t, Dk.q_is_s, Dk.q_is_lt, Dk.q_is_ll, Dk.q_tru, Dk.q_lent, Dk.q_lenr, Dk.q_int, Dk.q_intb, Dk.q_abs, Dk.q_tupr, Dk.q_lstt, Dk.q_lst, Dk.q_tup, Dk.q_oka, Dk.q_oke, Dk.q_okj, Dk.q_app, Dk.q_ext, Dk.q_nm, Dk.q_tp, Dk.q_sa0, Dk.q_sa1, Dk.q_isn, Dk.q_isb, Dk.q_wipe0, Dk.q_wipe1, hm, isNonD, ad1, ad2, end_ret]
          exact s7
end Dk

set_option Elab.async false
set_option linter.all false
set_option maxRecDepth 100000
set_option maxHeartbeats 4000000
namespace Dk
open PySem PySem.Spec PyProof.Rows L2 Dd

/-- what is small enough to be shown -/
structure Small (y : PyData) (dp wt : Nat) : Prop where
  sh : y.showable = true
  nd : y.hasDict = false
  dp : y.depth ≤ dp
  ls : y.leavesShort 100 = true
  wt : y.weight ≤ wt
theorem names_small : ∀ ss : List Str, (∀ s ∈ ss, s ∈ nm3) → PyData.showableAll (ss.map PyData.str) = true ∧ PyData.hasDictAll (ss.map PyData.str) = false ∧ PyData.depthAll (ss.map PyData.str) = 0 ∧ PyData.leavesShortAll 100 (ss.map PyData.str) = true ∧ PyData.weightAll (ss.map PyData.str) ≤ 3 * ss.length
  | [], _ => ⟨rfl, rfl, rfl, rfl, Nat.le_refl _⟩
  | s :: ss, a => by
    obtain ⟨h1, h2, h3, h4, h5⟩ := names_small ss fun x hx => a x (List.mem_cons_of_mem _ hx)
    have hs := a s List.mem_cons_self
    have l : PyData.leavesShort 100 (.str s) = true ∧ s.cps.size ≤ 2 := by
      simp only [nm3, List.mem_cons, List.not_mem_nil, or_false] at hs
      rcases hs with rfl | rfl | rfl <;> exact ⟨by decide +kernel, by decide +kernel⟩
    refine ⟨?_, ?_, ?_, ?_, ?_⟩
    · simp only [List.map_cons, PyData.showableAll, PyData.showable, h1, Bool.and_self]
    · simp only [List.map_cons, PyData.hasDictAll, PyData.hasDict, h2, Bool.or_self]
    · simp only [List.map_cons, PyData.depthAll, PyData.depth, h3, Nat.max_self]
    · simp only [List.map_cons, PyData.leavesShortAll, l.1, h4, Bool.and_self]
    · simp only [List.map_cons, PyData.weightAll, PyData.weight, List.length_cons]
      have := l.2
      omega
theorem small_int {a : Int} (h0 : 0 ≤ a) (h1 : a ≤ 3) : Small (.int a) 0 2 := by
  have : a = 0 ∨ a = 1 ∨ a = 2 ∨ a = 3 := by omega
  rcases this with rfl | rfl | rfl | rfl <;> exact ⟨by decide +kernel, rfl, Nat.le_refl 0, by decide +kernel, by decide +kernel⟩
theorem small_kind {k : Str} (h : k ∈ knds) : Small (.str k) 0 4 := by
  simp only [knds, List.mem_cons, List.not_mem_nil, or_false] at h
  rcases h with rfl | rfl | rfl <;> exact ⟨by decide +kernel, rfl, Nat.le_refl 0, by decide +kernel, by decide +kernel⟩
theorem col_py {d : D} (c : CShape [] 0 0 3 d) : ∃ y, (∀ h, toPy h 19 d = some y) ∧ Small y 2 30 := by
  obtain ⟨ss, k, a, b, rfl, q1, q2, q3, q4, q5, q6, q7⟩ := c
  obtain ⟨h1, h2, h3, h4, h5⟩ := names_small ss q2
  have sa := small_int q4 (by omega)
  have sb := small_int q6 (by omega)
  have sk := small_kind q1
  refine ⟨.tuple [.tuple (ss.map PyData.str), .str k, .int a, .int b], fun h => ?_, ⟨?_, ?_, ?_, ?_, ?_⟩⟩
  · have e : toPy h 18 (pD ss) = some (.tuple (ss.map PyData.str)) := by
      show ((ss.map D.str).mapM (toPy h 17)).map PyData.tuple = _
      rw [toPy_strs h 16 ss]
      rfl
    show (([pD ss, .str k, .int a, .int b] : List D).mapM (toPy h 18)).map PyData.tuple = _
    rw [List.mapM_cons, e]
    rfl
  · simp only [PyData.showable, PyData.showableAll, h1, sk.sh, Bool.and_self, Bool.and_true, Bool.true_and]
    have a1 := sa.sh
    have b1 := sb.sh
    simp only [PyData.showable] at a1 b1
    rw [a1, b1]; rfl
  · simp only [PyData.hasDict, PyData.hasDictAll, h2, Bool.or_self]
  · simp only [PyData.depth, PyData.depthAll, h3]
    omega
  · simp only [PyData.leavesShort, PyData.leavesShortAll, h4, Bool.true_and, Bool.and_true]
    have a1 := sa.ls
    have b1 := sb.ls
    have k1 := sk.ls
    simp only [PyData.leavesShort] at a1 b1 k1
    rw [a1, b1, k1]; rfl
  · have a1 := sa.wt
    have b1 := sb.wt
    have k1 := sk.wt
    simp only [PyData.weight, PyData.weightAll] at a1 b1 k1 ⊢
    omega
theorem cols_py : ∀ cs : List D, (∀ d ∈ cs, CShape [] 0 0 3 d) → ∃ ys, (∀ h, cs.mapM (toPy h 19) = some ys) ∧ PyData.showableAll ys = true ∧ PyData.hasDictAll ys = false ∧ PyData.depthAll ys ≤ 2 ∧ PyData.leavesShortAll 100 ys = true ∧ PyData.weightAll ys ≤ 31 * cs.length
  | [], _ => ⟨[], fun _ => rfl, rfl, rfl, Nat.zero_le _, rfl, Nat.le_refl _⟩
  | d :: cs, a => by
    obtain ⟨y, y1, s⟩ := col_py (a d List.mem_cons_self)
    obtain ⟨ys, z1, z2, z3, z4, z5, z6⟩ := cols_py cs fun x hx => a x (List.mem_cons_of_mem _ hx)
    refine ⟨y :: ys, fun h => ?_, ?_, ?_, ?_, ?_, ?_⟩
    · rw [List.mapM_cons, y1 h, z1 h]; rfl
    · simp only [PyData.showableAll, s.sh, z2, Bool.and_self]
    · simp only [PyData.hasDictAll, s.nd, z3, Bool.or_self]
    · have := s.dp
      simp only [PyData.depthAll]; omega
    · simp only [PyData.leavesShortAll, s.ls, z5, Bool.and_self]
    · have := s.wt
      simp only [PyData.weightAll, List.length_cons]; omega
/-- a list of columns is shown the same way wherever it stands -/
theorem repr_cols {fs : List D} (p : FsOk 3 fs) : ∃ x : Str, ∀ (h : DH) (i : Nat), lstAt h i = some (colsA 3 fs) → bltD .repr [.ref i] h = some (.str x, h) := by
  obtain ⟨ys, z1, z2, z3, z4, z5, z6⟩ := cols_py (colsA 3 fs) fun d hd => colsA_path p hd
  have clen : (colsA 3 fs).length ≤ 27 := cols_len 3 fs [] 0 0 p
  have sl := PyData.shown_le 100 (by decide) (.list ys) z5
  have ok : reprOk (.list ys) = true := by
    have zz : Z = 16777216 := rfl
    have w : (PyData.list ys).weight = PyData.weightAll ys := rfl
    have l : (PyData.list ys).shown.length + 64 ≤ Z := by
      rw [w] at sl
      have : (100 + 2) * PyData.weightAll ys ≤ 102 * 837 := Nat.mul_le_mul_left _ (by omega)
      omega
    have dp : (PyData.list ys).depth ≤ 60 := by simp only [PyData.depth]; omega
    unfold reprOk
    rw [decide_eq_true l, decide_eq_true dp]
    simp only [PyData.showable, PyData.hasDict, z2, z3]
    rfl
  refine ⟨(PyData.list ys).shown, fun h i l => ?_⟩
  have e : toPy h 20 (.ref i) = some (.list ys) := by
    have := lstAt_some l
    show (match h[i]? with | some (.lst xs) => (xs.mapM (toPy h 19)).map PyData.list | _ => none) = _
    rw [this]
    dsimp only
    rw [z1 h]
    rfl
  show (match toPy h 20 (.ref i) with
    | some x => if reprOk x then some (D.str x.shown, h) else none
    | none => none) = _
  rw [e]
  dsimp only
  rw [if_pos ok]
/-- a schema is plain data -/
theorem fs_pure : ∀ (n : Nat) (fs : List D), FsOk n fs → Pure (2 * n + 2) (.tup fs)
  | 0, _, p => p.elim
  | n + 1, fs, p => by
    rw [show 2 * (n + 1) + 2 = (2 * n + 2) + 1 + 1 from by omega]
    intro d hd
    obtain ⟨i, hi⟩ := List.getElem?_of_mem hd
    obtain ⟨nm, tm, kd, rfl, q2, q3, q4⟩ := p.2.2 i d hi
    intro x hx
    simp only [List.mem_cons, List.not_mem_nil, or_false] at hx
    rcases hx with rfl | rfl | rfl
    · exact nm3_ok _ (nm3_mem q2)
    · simp only [tms, List.mem_cons, List.not_mem_nil, or_false] at q3
      show PyData.strOk tm = true
      rcases q3 with rfl | rfl | rfl <;> decide +kernel
    · rcases q4 with ⟨x, hx, rfl⟩ | ⟨gs, rfl, hg⟩
      · simp only [knds, List.mem_cons, List.not_mem_nil, or_false] at hx
        show PyData.strOk x = true
        rcases hx with rfl | rfl | rfl <;> decide +kernel
      · exact fs_pure n gs hg
end Dk

set_option Elab.async false
set_option linter.all false
set_option maxRecDepth 100000
set_option maxHeartbeats 4000000
namespace Dk
open PySem PySem.Spec PyProof.Rows L2 Dd

def La1 (F : Call) : MS := asg (.nm 1) (callM F 20 [callM F 18 [callM F 16 [var 0, Dd.ret (.int 0)], Dd.ret (.int 30)], Dd.ret (.int 2)])
def La2 (F : Call) : MS := asg (.nm 2) (callM F 23 [callM F 18 [callM F 16 [var 0, Dd.ret (.int 1)], Dd.ret (.int 30)], var 1])
def La3 (F : Call) : MS := ifS (orT (tst (op2 neD (callM F 27 [var 1]) (Dd.ret (.str "")))) (tst (op2 neD (callM F 28 [var 1, var 2]) (Dd.ret (.str ""))))) (seq (retS (Dd.ret (.bl false))) (skip)) (skip)
def La4 (F : Call) : MS := asg (.nm 3) (callM F 24 [var 1, opN tupM [], Dd.ret (.int 0), Dd.ret (.int 0)])
def La5 (F : Call) : MS := ifS (orT (tst (op2 neD (opN (bltD .repr) [callM F 4 [var 1]]) (opN (bltD .repr) [var 3]))) (tst (op2 neD (callM F 6 [var 1]) (lcM [12] (bnd (var 3) fun x => lift (srcD x)) (.nm 12) (Dd.ret true) (op2 ixD (var 12) (Dd.ret (.int 0))))))) (seq (retS (Dd.ret (.bl false))) (skip)) (skip)
def La6 (F : Call) : MS := asg (.nm 4) (opN (bltD .abs) [callM F 16 [var 0, Dd.ret (.int 2)]])
def La7 (F : Call) : MS := ifS (tst (op2 neD (callM F 7 [var 1, op2 ixD (op2 ixD (var 3) (op2 modD (var 4) (opN (bltD .len) [var 3]))) (Dd.ret (.int 0))]) (op2 ixD (var 3) (op2 modD (var 4) (opN (bltD .len) [var 3]))))) (seq (retS (Dd.ret (.bl false))) (skip)) (skip)
def La8 (F : Call) : MS := asg (.nm 5) (opN lstM [])
def La9 (F : Call) : MS := forS (bnd (opN lstM [opN lstM [], opN lstM [op2 ixD (op2 ixD (var 3) (Dd.ret (.int 0))) (Dd.ret (.int 0)), opN tupM [Dd.ret (.str "zz")]], opN lstM [opN tupM []]]) fun x => lift (srcD x)) (.nm 6) (seq (tryS (seq (drop (callM F 8 [var 1, var 6])) (skip)) 2 (some 7) (seq (drop (mthM .append (var 5) [var 7])) (skip))) (skip))
def La10 (F : Call) : MS := tryS (seq (drop (callM F 7 [var 1, opN tupM [Dd.ret (.str "zz"), Dd.ret (.str "a")]])) (skip)) 2 (some 7) (seq (drop (mthM .append (var 5) [var 7])) (skip))
def La11 (F : Call) : MS := ifS (tst (op2 neD (var 5) (opN lstM [opN tupM [], opN tupM [Dd.ret (.str "zz")], opN tupM [], opN tupM [Dd.ret (.str "zz"), Dd.ret (.str "a")]]))) (seq (retS (Dd.ret (.bl false))) (skip)) (skip)
def La12 (F : Call) : MS := ifS (tst (op2 neD (callM F 8 [var 1, op2 addD (lcM [12] (bnd (var 3) fun x => lift (srcD x)) (.nm 12) (Dd.ret true) (op2 ixD (var 12) (Dd.ret (.int 0)))) (opN lstM [op2 ixD (op2 ixD (var 3) (Dd.ret (.int 0))) (Dd.ret (.int 0))])]) (var 1))) (seq (retS (Dd.ret (.bl false))) (skip)) (skip)
def La13 (F : Call) : MS := asg (.tp [8, 9]) (callM F 25 [var 1, opN (bltD .int) [op2 fdivD (var 4) (Dd.ret (.int 3))], opN (bltD .int) [op2 fdivD (var 4) (Dd.ret (.int 11))]])
def La14 (F : Call) : MS := ifS (orT (tst (op2 neD (callM F 27 [var 8]) (var 9))) (tst (op2 neD (callM F 27 [Dd.ret .non]) (Dd.ret (.str "fields"))))) (seq (retS (Dd.ret (.bl false))) (skip)) (skip)
def La15 (F : Call) : MS := asg (.nm 10) (op2 addD (Dd.ret (.int 1)) (op2 modD (opN (bltD .int) [op2 fdivD (var 4) (Dd.ret (.int 5))]) (Dd.ret (.int 8))))
def La16 (F : Call) : MS := ifS (tst (op2 neD (callM F 27 [callM F 26 [var 10]]) (op2 ixD (opN lstM [Dd.ret (.str ""), Dd.ret (.str "depth")]) (opN (bltD .int) [op2 gtD (var 10) (Dd.ret (.int 5))])))) (seq (retS (Dd.ret (.bl false))) (skip)) (skip)
def La17 (F : Call) : MS := asg (.tp [11, 9]) (callM F 29 [var 1, var 2, opN (bltD .int) [op2 fdivD (var 4) (Dd.ret (.int 2))], opN (bltD .int) [op2 fdivD (var 4) (Dd.ret (.int 13))]])
def La18 (F : Call) : MS := ifS (tst (op2 neD (callM F 28 [var 1, var 11]) (var 9))) (seq (retS (Dd.ret (.bl false))) (skip)) (skip)
def La19 (F : Call) : MS := retS (andV (op2 isD (callM F 10 [Dd.ret (.str "int"), op2 subD (Dd.ret (.int 0)) (Dd.ret (.int 2147483648))]) (Dd.ret (.bl true))) (andV (op2 isD (callM F 10 [Dd.ret (.str "int"), Dd.ret (.bl false)]) (Dd.ret (.bl false))) (op2 isD (callM F 10 [Dd.ret (.str "text"), Dd.ret (.str "~ ")]) (Dd.ret (.bl true)))))
def LaR20 (F : Call) : MS := skip
def LaR19 (F : Call) : MS := seq (La19 F) (LaR20 F)
def LaR18 (F : Call) : MS := seq (La18 F) (LaR19 F)
def LaR17 (F : Call) : MS := seq (La17 F) (LaR18 F)
def LaR16 (F : Call) : MS := seq (La16 F) (LaR17 F)
def LaR15 (F : Call) : MS := seq (La15 F) (LaR16 F)
def LaR14 (F : Call) : MS := seq (La14 F) (LaR15 F)
def LaR13 (F : Call) : MS := seq (La13 F) (LaR14 F)
def LaR12 (F : Call) : MS := seq (La12 F) (LaR13 F)
def LaR11 (F : Call) : MS := seq (La11 F) (LaR12 F)
def LaR10 (F : Call) : MS := seq (La10 F) (LaR11 F)
def LaR9 (F : Call) : MS := seq (La9 F) (LaR10 F)
def LaR8 (F : Call) : MS := seq (La8 F) (LaR9 F)
def LaR7 (F : Call) : MS := seq (La7 F) (LaR8 F)
def LaR6 (F : Call) : MS := seq (La6 F) (LaR7 F)
def LaR5 (F : Call) : MS := seq (La5 F) (LaR6 F)
def LaR4 (F : Call) : MS := seq (La4 F) (LaR5 F)
def LaR3 (F : Call) : MS := seq (La3 F) (LaR4 F)
def LaR2 (F : Call) : MS := seq (La2 F) (LaR3 F)
def LaR1 (F : Call) : MS := seq (La1 F) (LaR2 F)
theorem La_eq (F : Call) : b30 F = LaR1 F := rfl
abbrev F39 : Call := pg.run 39
abbrev QL : Fl → DE → DH → Prop := End (fun d _ => d = D.bl true) fun _ _ _ => False
section
variable {ns : List Int} {R : MS} {h : DH} {x1 x2 x3 x4 x5 x6 x7 x8 x9 x10 x11 x12 : Option D}
theorem st1 (k : ∀ fs h', FsOk 3 fs → WP R [some (.frz ns), some (.tup fs), x2, x3, x4, x5, x6, x7, x8, x9, x10, x11, x12] h' QL) : WP (La1 F39) [some (.frz ns), x1, x2, x3, x4, x5, x6, x7, x8, x9, x10, x11, x12] h (Nx QL R) := by
  unfold La1
  simp [Dd.we_ret, Dd.we_bnd, Dd.we_lift, Dd.we_var, Dd.we_args_nil, Dd.we_args_cons, Dd.we_opN, Dd.we_op1, Dd.we_op2, Dd.we_call, Dd.we_tst, Dd.we_tru, Dd.we_notT, Dd.we_andT, Dd.we_orT, Dd.we_notV, Dd.we_andV, Dd.we_orV, Dd.we_ite, Dd.we_chn, Dd.we_mth, Dd.we_slice, Dd.we_intOf, Dd.nx_next, Dd.nx_ret, Dd.nx_ex, Dd.td_next, Dd.td_cont, Dd.td_brk, Dd.td_ret, Dd.td_ex, Dd.nx_brk, Dd.nx_cont, Dd.wp_skip, Dd.wp_seq, Dd.wp_drop, Dd.wp_ret, Dd.wp_asg, Dd.wp_if, Dd.wp_raise, Dd.wp_set, Dd.WO, Dk.eq_ss, Dk.ne_ss, Dk.eq_ii, Dk.ne_ii, Dk.sn_one_maybe, Dk.sn_one_many, Dk.sn_maybe_one, Dk.sn_maybe_many, Dk.sn_many_one, Dk.sn_many_maybe, Dk.sn_int_bool, Dk.sn_int_text, Dk.sn_bool_int, Dk.sn_bool_text, Dk.sn_text_int, Dk.sn_text_bool, Dk.isNot_non, Dk.q_add, Dk.q_addt, Dk.q_sub, Dk.q_mod, Dk.q_fdiv, Dk.q_mulr, Dk.q_mull, Dk.q_neg, Dk.q_lt, Dk.q_le, Dk.q_gt, Dk.q_ge, Dk.q_ix0, Dk.q_ix1, Dk.q_ix2, Dk.q_is_t, Dk.q_is_s, Dk.q_is_lt, Dk.q_is_ll, Dk.q_tru, Dk.q_lent, Dk.q_lenr, Dk.q_int, Dk.q_intb, Dk.q_abs, Dk.q_tupr, Dk.q_lstt, Dk.q_lst, Dk.q_tup, Dk.q_oka, Dk.q_oke, Dk.q_okj, Dk.q_app, Dk.q_ext, Dk.q_nm, Dk.q_tp, Dk.q_sa0, Dk.q_sa1, Dk.q_isn, Dk.q_isb, Dk.q_wipe0, Dk.q_wipe1]
  refine (w16 38 ns 0 h).mono (fun d h1 w => ?_) fun _ _ _ z => z.elim
  obtain ⟨⟨c, rfl⟩, rfl⟩ := w
  refine (w18 37 c h1).mono (fun d h2 w => ?_) fun _ _ _ z => z.elim
  obtain ⟨i, j, rfl, f⟩ := w
  refine (w20 2 35 h2 i j 0 (by decide) f).mono (fun d h3 w => ?_) fun _ _ _ z => z.elim
  obtain ⟨⟨fs, rfl, p⟩, _⟩ := w
  exact k fs h3 p
theorem st2 {fs : List D} (p : FsOk 3 fs) (k : ∀ vs h', RcRes 3 [] fs (.tup vs) none → WP R [some (.frz ns), some (.tup fs), some (.tup vs), x3, x4, x5, x6, x7, x8, x9, x10, x11, x12] h' QL) : WP (La2 F39) [some (.frz ns), some (.tup fs), x2, x3, x4, x5, x6, x7, x8, x9, x10, x11, x12] h (Nx QL R) := by
  unfold La2
  simp [Dd.we_ret, Dd.we_bnd, Dd.we_lift, Dd.we_var, Dd.we_args_nil, Dd.we_args_cons, Dd.we_opN, Dd.we_op1, Dd.we_op2, Dd.we_call, Dd.we_tst, Dd.we_tru, Dd.we_notT, Dd.we_andT, Dd.we_orT, Dd.we_notV, Dd.we_andV, Dd.we_orV, Dd.we_ite, Dd.we_chn, Dd.we_mth, Dd.we_slice, Dd.we_intOf, Dd.nx_next, Dd.nx_ret, Dd.nx_ex, Dd.td_next, Dd.td_cont, Dd.td_brk, Dd.td_ret, Dd.td_ex, Dd.nx_brk, Dd.nx_cont, Dd.wp_skip, Dd.wp_seq, Dd.wp_drop, Dd.wp_ret, Dd.wp_asg, Dd.wp_if, Dd.wp_raise, Dd.wp_set, Dd.WO, Dk.eq_ss, Dk.ne_ss, Dk.eq_ii, Dk.ne_ii, Dk.sn_one_maybe, Dk.sn_one_many, Dk.sn_maybe_one, Dk.sn_maybe_many, Dk.sn_many_one, Dk.sn_many_maybe, Dk.sn_int_bool, Dk.sn_int_text, Dk.sn_bool_int, Dk.sn_bool_text, Dk.sn_text_int, Dk.sn_text_bool, Dk.isNot_non, Dk.q_add, Dk.q_addt, Dk.q_sub, Dk.q_mod, Dk.q_fdiv, Dk.q_mulr, Dk.q_mull, Dk.q_neg, Dk.q_lt, Dk.q_le, Dk.q_gt, Dk.q_ge, Dk.q_ix0, Dk.q_ix1, Dk.q_ix2, Dk.q_is_t, Dk.q_is_s, Dk.q_is_lt, Dk.q_is_ll, Dk.q_tru, Dk.q_lent, Dk.q_lenr, Dk.q_int, Dk.q_intb, Dk.q_abs, Dk.q_tupr, Dk.q_lstt, Dk.q_lst, Dk.q_tup, Dk.q_oka, Dk.q_oke, Dk.q_okj, Dk.q_app, Dk.q_ext, Dk.q_nm, Dk.q_tp, Dk.q_sa0, Dk.q_sa1, Dk.q_isn, Dk.q_isb, Dk.q_wipe0, Dk.q_wipe1]
  refine (w16 38 ns 1 h).mono (fun d h1 w => ?_) fun _ _ _ z => z.elim
  obtain ⟨⟨c, rfl⟩, rfl⟩ := w
  refine (w18 37 c h1).mono (fun d h2 w => ?_) fun _ _ _ z => z.elim
  obtain ⟨i, j, rfl, f⟩ := w
  refine (w23 3 31 fs h2 i j 0 p (by decide) f).mono (fun d h3 w => ?_) fun _ _ _ z => z.elim
  obtain ⟨⟨vs, rfl, q⟩, _⟩ := w
  exact k vs h3 q
theorem st3 {fs vs : List D} (p : FsOk 3 fs) (q : RcRes 3 [] fs (.tup vs) none) (k : ∀ h', WP R [some (.frz ns), some (.tup fs), some (.tup vs), x3, x4, x5, x6, x7, x8, x9, x10, x11, x12] h' QL) : WP (La3 F39) [some (.frz ns), some (.tup fs), some (.tup vs), x3, x4, x5, x6, x7, x8, x9, x10, x11, x12] h (Nx QL R) := by
  unfold La3
  simp [Dd.we_ret, Dd.we_bnd, Dd.we_lift, Dd.we_var, Dd.we_args_nil, Dd.we_args_cons, Dd.we_opN, Dd.we_op1, Dd.we_op2, Dd.we_call, Dd.we_tst, Dd.we_tru, Dd.we_notT, Dd.we_andT, Dd.we_orT, Dd.we_notV, Dd.we_andV, Dd.we_orV, Dd.we_ite, Dd.we_chn, Dd.we_mth, Dd.we_slice, Dd.we_intOf, Dd.nx_next, Dd.nx_ret, Dd.nx_ex, Dd.td_next, Dd.td_cont, Dd.td_brk, Dd.td_ret, Dd.td_ex, Dd.nx_brk, Dd.nx_cont, Dd.wp_skip, Dd.wp_seq, Dd.wp_drop, Dd.wp_ret, Dd.wp_asg, Dd.wp_if, Dd.wp_raise, Dd.wp_set, Dd.WO, Dk.eq_ss, Dk.ne_ss, Dk.eq_ii, Dk.ne_ii, Dk.sn_one_maybe, Dk.sn_one_many, Dk.sn_maybe_one, Dk.sn_maybe_many, Dk.sn_many_one, Dk.sn_many_maybe, Dk.sn_int_bool, Dk.sn_int_text, Dk.sn_bool_int, Dk.sn_bool_text, Dk.sn_text_int, Dk.sn_text_bool, Dk.isNot_non, Dk.q_add, Dk.q_addt, Dk.q_sub, Dk.q_mod, Dk.q_fdiv, Dk.q_mulr, Dk.q_mull, Dk.q_neg, Dk.q_lt, Dk.q_le, Dk.q_gt, Dk.q_ge, Dk.q_ix0, Dk.q_ix1, Dk.q_ix2, Dk.q_is_t, Dk.q_is_s, Dk.q_is_lt, Dk.q_is_ll, Dk.q_tru, Dk.q_lent, Dk.q_lenr, Dk.q_int, Dk.q_intb, Dk.q_abs, Dk.q_tupr, Dk.q_lstt, Dk.q_lst, Dk.q_tup, Dk.q_oka, Dk.q_oke, Dk.q_okj, Dk.q_app, Dk.q_ext, Dk.q_nm, Dk.q_tp, Dk.q_sa0, Dk.q_sa1, Dk.q_isn, Dk.q_isb, Dk.q_wipe0, Dk.q_wipe1]
  refine (w27_ok 30 fs h p).mono (fun d h1 w => ?_) fun _ _ _ z => z.elim
  obtain ⟨rfl, g⟩ := w
  simp [Dd.we_ret, Dd.we_bnd, Dd.we_lift, Dd.we_var, Dd.we_args_nil, Dd.we_args_cons, Dd.we_opN, Dd.we_op1, Dd.we_op2, Dd.we_call, Dd.we_tst, Dd.we_tru, Dd.we_notT, Dd.we_andT, Dd.we_orT, Dd.we_notV, Dd.we_andV, Dd.we_orV, Dd.we_ite, Dd.we_chn, Dd.we_mth, Dd.we_slice, Dd.we_intOf, Dd.nx_next, Dd.nx_ret, Dd.nx_ex, Dd.td_next, Dd.td_cont, Dd.td_brk, Dd.td_ret, Dd.td_ex, Dd.nx_brk, Dd.nx_cont, Dd.wp_skip, Dd.wp_seq, Dd.wp_drop, Dd.wp_ret, Dd.wp_asg, Dd.wp_if, Dd.wp_raise, Dd.wp_set, Dd.WO, Dk.eq_ss, Dk.ne_ss, Dk.eq_ii, Dk.ne_ii, Dk.sn_one_maybe, Dk.sn_one_many, Dk.sn_maybe_one, Dk.sn_maybe_many, Dk.sn_many_one, Dk.sn_many_maybe, Dk.sn_int_bool, Dk.sn_int_text, Dk.sn_bool_int, Dk.sn_bool_text, Dk.sn_text_int, Dk.sn_text_bool, Dk.isNot_non, Dk.q_add, Dk.q_addt, Dk.q_sub, Dk.q_mod, Dk.q_fdiv, Dk.q_mulr, Dk.q_mull, Dk.q_neg, Dk.q_lt, Dk.q_le, Dk.q_gt, Dk.q_ge, Dk.q_ix0, Dk.q_ix1, Dk.q_ix2, Dk.q_is_t, Dk.q_is_s, Dk.q_is_lt, Dk.q_is_ll, Dk.q_tru, Dk.q_lent, Dk.q_lenr, Dk.q_int, Dk.q_intb, Dk.q_abs, Dk.q_tupr, Dk.q_lstt, Dk.q_lst, Dk.q_tup, Dk.q_oka, Dk.q_oke, Dk.q_okj, Dk.q_app, Dk.q_ext, Dk.q_nm, Dk.q_tp, Dk.q_sa0, Dk.q_sa1, Dk.q_isn, Dk.q_isb, Dk.q_wipe0, Dk.q_wipe1]
  refine (w28 3 27 fs (.tup vs) none h1 (rc_any q)).mono (fun d h2 w => ?_) fun _ _ _ z => z.elim
  obtain ⟨rfl, g2⟩ := w
  simp [Dd.we_ret, Dd.we_bnd, Dd.we_lift, Dd.we_var, Dd.we_args_nil, Dd.we_args_cons, Dd.we_opN, Dd.we_op1, Dd.we_op2, Dd.we_call, Dd.we_tst, Dd.we_tru, Dd.we_notT, Dd.we_andT, Dd.we_orT, Dd.we_notV, Dd.we_andV, Dd.we_orV, Dd.we_ite, Dd.we_chn, Dd.we_mth, Dd.we_slice, Dd.we_intOf, Dd.nx_next, Dd.nx_ret, Dd.nx_ex, Dd.td_next, Dd.td_cont, Dd.td_brk, Dd.td_ret, Dd.td_ex, Dd.nx_brk, Dd.nx_cont, Dd.wp_skip, Dd.wp_seq, Dd.wp_drop, Dd.wp_ret, Dd.wp_asg, Dd.wp_if, Dd.wp_raise, Dd.wp_set, Dd.WO, Dk.eq_ss, Dk.ne_ss, Dk.eq_ii, Dk.ne_ii, Dk.sn_one_maybe, Dk.sn_one_many, Dk.sn_maybe_one, Dk.sn_maybe_many, Dk.sn_many_one, Dk.sn_many_maybe, Dk.sn_int_bool, Dk.sn_int_text, Dk.sn_bool_int, Dk.sn_bool_text, Dk.sn_text_int, Dk.sn_text_bool, Dk.isNot_non, Dk.q_add, Dk.q_addt, Dk.q_sub, Dk.q_mod, Dk.q_fdiv, Dk.q_mulr, Dk.q_mull, Dk.q_neg, Dk.q_lt, Dk.q_le, Dk.q_gt, Dk.q_ge, Dk.q_ix0, Dk.q_ix1, Dk.q_ix2, Dk.q_is_t, Dk.q_is_s, Dk.q_is_lt, Dk.q_is_ll, Dk.q_tru, Dk.q_lent, Dk.q_lenr, Dk.q_int, Dk.q_intb, Dk.q_abs, Dk.q_tupr, Dk.q_lstt, Dk.q_lst, Dk.q_tup, Dk.q_oka, Dk.q_oke, Dk.q_okj, Dk.q_app, Dk.q_ext, Dk.q_nm, Dk.q_tp, Dk.q_sa0, Dk.q_sa1, Dk.q_isn, Dk.q_isb, Dk.q_wipe0, Dk.q_wipe1, word]
  exact k h2
theorem st4 {fs : List D} {v : Option D} (p : FsOk 3 fs) (k : ∀ C h', lstAt h' C = some (colsA 3 fs) → WP R [some (.frz ns), some (.tup fs), v, some (.ref C), x4, x5, x6, x7, x8, x9, x10, x11, x12] h' QL) : WP (La4 F39) [some (.frz ns), some (.tup fs), v, x3, x4, x5, x6, x7, x8, x9, x10, x11, x12] h (Nx QL R) := by
  unfold La4
  simp [Dd.we_ret, Dd.we_bnd, Dd.we_lift, Dd.we_var, Dd.we_args_nil, Dd.we_args_cons, Dd.we_opN, Dd.we_op1, Dd.we_op2, Dd.we_call, Dd.we_tst, Dd.we_tru, Dd.we_notT, Dd.we_andT, Dd.we_orT, Dd.we_notV, Dd.we_andV, Dd.we_orV, Dd.we_ite, Dd.we_chn, Dd.we_mth, Dd.we_slice, Dd.we_intOf, Dd.nx_next, Dd.nx_ret, Dd.nx_ex, Dd.td_next, Dd.td_cont, Dd.td_brk, Dd.td_ret, Dd.td_ex, Dd.nx_brk, Dd.nx_cont, Dd.wp_skip, Dd.wp_seq, Dd.wp_drop, Dd.wp_ret, Dd.wp_asg, Dd.wp_if, Dd.wp_raise, Dd.wp_set, Dd.WO, Dk.eq_ss, Dk.ne_ss, Dk.eq_ii, Dk.ne_ii, Dk.sn_one_maybe, Dk.sn_one_many, Dk.sn_maybe_one, Dk.sn_maybe_many, Dk.sn_many_one, Dk.sn_many_maybe, Dk.sn_int_bool, Dk.sn_int_text, Dk.sn_bool_int, Dk.sn_bool_text, Dk.sn_text_int, Dk.sn_text_bool, Dk.isNot_non, Dk.q_add, Dk.q_addt, Dk.q_sub, Dk.q_mod, Dk.q_fdiv, Dk.q_mulr, Dk.q_mull, Dk.q_neg, Dk.q_lt, Dk.q_le, Dk.q_gt, Dk.q_ge, Dk.q_ix0, Dk.q_ix1, Dk.q_ix2, Dk.q_is_t, Dk.q_is_s, Dk.q_is_lt, Dk.q_is_ll, Dk.q_tru, Dk.q_lent, Dk.q_lenr, Dk.q_int, Dk.q_intb, Dk.q_abs, Dk.q_tupr, Dk.q_lstt, Dk.q_lst, Dk.q_tup, Dk.q_oka, Dk.q_oke, Dk.q_okj, Dk.q_app, Dk.q_ext, Dk.q_nm, Dk.q_tp, Dk.q_sa0, Dk.q_sa1, Dk.q_isn, Dk.q_isb, Dk.q_wipe0, Dk.q_wipe1]
  refine (w24 3 36 fs [] 0 0 h p (by decide) (by decide)).mono (fun d h1 w => ?_) fun _ _ _ z => z.elim
  obtain ⟨⟨C, rfl, l⟩, _⟩ := w
  exact k C h1 l
end
def c12 : M D := lcM [12] (bnd (var 3) fun x => lift (srcD x)) (.nm 12) (Dd.ret true) (op2 ixD (var 12) (Dd.ret (.int 0)))
theorem colA_ix {fs : List D} (p : FsOk 3 fs) {d : D} (hd : d ∈ colsA 3 fs) (h : DH) : ixD d (.int 0) h = some (col0 d, h) := by
  obtain ⟨ss, k, a, b, rfl, _⟩ := colsA_path p hd
  exact q_ix0 _ _ h
theorem we_c12 {fs : List D} (p : FsOk 3 fs) {C : Nat} {x0 x1 x2 x4 x5 x6 x7 x8 x9 x10 x11 x12 : Option D} {h : DH} {Q : D → DH → Prop} {X : Nat → D → DH → Prop} (l : lstAt h C = some (colsA 3 fs)) (q : ∀ h', Grow h h' → lstAt h' h.length = some ((colsA 3 fs).map col0) → Q (.ref h.length) h') :
    WE c12 [x0, x1, x2, some (.ref C), x4, x5, x6, x7, x8, x9, x10, x11, x12] h Q X := by
  have clen : (colsA 3 fs).length ≤ 27 := cols_len 3 fs [] 0 0 p
  have zz : Z = 16777216 := rfl
  have hC := (List.getElem?_eq_some_iff.mp (lstAt_some l)).1
  unfold c12
  refine lc_list (fun i xs L k acc hh => L = h.length ∧ Grow h hh ∧ i = C ∧ xs = colsA 3 fs ∧ acc = ((colsA 3 fs).map col0).take k) ?_
  rw [we_var]
  refine ⟨_, rfl, C, _, rfl, l, by omega, ⟨rfl, Grow.one _ _, rfl, rfl, rfl⟩, fun k acc hh iv => by rw [iv.2.2.1, iv.2.2.2.1]; exact iv.2.1.lst l, ?_, ?_⟩
  · rintro acc hh la ⟨_, g, _, _, rfl⟩
    rw [List.take_of_length_le (by rw [List.length_map]; exact Nat.le_refl _)] at la
    exact q hh g la
  · rintro k d acc hh hd la ⟨_, g, _, _, rfl⟩
    have hm := List.mem_of_getElem? hd
    have ix := fun h => colA_ix p hm h
    refine ⟨_, rfl, ?_⟩
    unfold Elt
    simp [Dd.we_ret, Dd.we_bnd, Dd.we_lift, Dd.we_var, Dd.we_args_nil, Dd.we_args_cons, Dd.we_opN, Dd.we_op1, Dd.we_op2, Dd.we_call, Dd.we_tst, Dd.we_tru, Dd.we_notT, Dd.we_andT, Dd.we_orT, Dd.we_notV, Dd.we_andV, Dd.we_orV, Dd.we_ite, Dd.we_chn, Dd.we_mth, Dd.we_slice, Dd.we_intOf, Dd.nx_next, Dd.nx_ret, Dd.nx_ex, Dd.td_next, Dd.td_cont, Dd.td_brk, Dd.td_ret, Dd.td_ex, Dd.nx_brk, Dd.nx_cont, Dd.wp_skip, Dd.wp_seq, Dd.wp_drop, Dd.wp_ret, Dd.wp_asg, Dd.wp_if, Dd.wp_raise, Dd.wp_set, Dd.WO, Dk.eq_ss, Dk.ne_ss, Dk.eq_ii, Dk.ne_ii, Dk.sn_one_maybe, Dk.sn_one_many, Dk.sn_maybe_one, Dk.sn_maybe_many, Dk.sn_many_one, Dk.sn_many_maybe, Dk.sn_int_bool, Dk.sn_int_text, Dk.sn_bool_int, Dk.sn_bool_text, Dk.sn_text_int, Dk.sn_text_bool, Dk.isNot_non, Dk.q_add, Dk.q_addt, Dk.q_sub, Dk.q_mod, Dk.q_fdiv, Dk.q_mulr, Dk.q_mull, Dk.q_neg, Dk.q_lt, Dk.q_le, Dk.q_gt, Dk.q_ge, Dk.q_ix0, Dk.q_ix1, Dk.q_ix2, Dk.q_is_t, Dk.q_is_s, Dk.q_is_lt, Dk.q_is_ll, Dk.q_tru, Dk.q_lent, Dk.q_lenr, Dk.q_int, Dk.q_intb, Dk.q_abs, Dk.q_tupr, Dk.q_lstt, Dk.q_lst, Dk.q_tup, Dk.q_oka, Dk.q_oke, Dk.q_okj, Dk.q_app, Dk.q_ext, Dk.q_nm, Dk.q_tp, Dk.q_sa0, Dk.q_sa1, Dk.q_isn, Dk.q_isb, Dk.q_wipe0, Dk.q_wipe1, ix]
    refine ⟨la, g.set _ (Nat.le_refl _), ?_⟩
    have hd' : ((colsA 3 fs).map col0)[k]? = some (col0 d) := by rw [List.getElem?_map, hd]; rfl
    rw [take_snoc hd']
theorem cols0_pure {fs : List D} (p : FsOk 3 fs) : ∀ x ∈ (colsA 3 fs).map col0, Pure 2 x := by
  intro x hx
  obtain ⟨d, hd, rfl⟩ := List.mem_map.mp hx
  obtain ⟨ss, k, a, b, rfl, q1, q2, _⟩ := colsA_path p hd
  intro y hy
  obtain ⟨s, hs, rfl⟩ := List.mem_map.mp hy
  exact okS_nm3 q2 s hs
section
variable {ns : List Int} {R : MS} {h : DH} {x1 x2 x3 x4 x5 x6 x7 x8 x9 x10 x11 x12 : Option D}
theorem st5 {fs : List D} {v : Option D} {C : Nat} (p : FsOk 3 fs) (l : lstAt h C = some (colsA 3 fs)) (k : ∀ h', lstAt h' C = some (colsA 3 fs) → WP R [some (.frz ns), some (.tup fs), v, some (.ref C), x4, x5, x6, x7, x8, x9, x10, x11, x12] h' QL) : WP (La5 F39) [some (.frz ns), some (.tup fs), v, some (.ref C), x4, x5, x6, x7, x8, x9, x10, x11, x12] h (Nx QL R) := by
  obtain ⟨s, hs⟩ := repr_cols p
  unfold La5
  simp [Dd.we_ret, Dd.we_bnd, Dd.we_lift, Dd.we_var, Dd.we_args_nil, Dd.we_args_cons, Dd.we_opN, Dd.we_op1, Dd.we_op2, Dd.we_call, Dd.we_tst, Dd.we_tru, Dd.we_notT, Dd.we_andT, Dd.we_orT, Dd.we_notV, Dd.we_andV, Dd.we_orV, Dd.we_ite, Dd.we_chn, Dd.we_mth, Dd.we_slice, Dd.we_intOf, Dd.nx_next, Dd.nx_ret, Dd.nx_ex, Dd.td_next, Dd.td_cont, Dd.td_brk, Dd.td_ret, Dd.td_ex, Dd.nx_brk, Dd.nx_cont, Dd.wp_skip, Dd.wp_seq, Dd.wp_drop, Dd.wp_ret, Dd.wp_asg, Dd.wp_if, Dd.wp_raise, Dd.wp_set, Dd.WO, Dk.eq_ss, Dk.ne_ss, Dk.eq_ii, Dk.ne_ii, Dk.sn_one_maybe, Dk.sn_one_many, Dk.sn_maybe_one, Dk.sn_maybe_many, Dk.sn_many_one, Dk.sn_many_maybe, Dk.sn_int_bool, Dk.sn_int_text, Dk.sn_bool_int, Dk.sn_bool_text, Dk.sn_text_int, Dk.sn_text_bool, Dk.isNot_non, Dk.q_add, Dk.q_addt, Dk.q_sub, Dk.q_mod, Dk.q_fdiv, Dk.q_mulr, Dk.q_mull, Dk.q_neg, Dk.q_lt, Dk.q_le, Dk.q_gt, Dk.q_ge, Dk.q_ix0, Dk.q_ix1, Dk.q_ix2, Dk.q_is_t, Dk.q_is_s, Dk.q_is_lt, Dk.q_is_ll, Dk.q_tru, Dk.q_lent, Dk.q_lenr, Dk.q_int, Dk.q_intb, Dk.q_abs, Dk.q_tupr, Dk.q_lstt, Dk.q_lst, Dk.q_tup, Dk.q_oka, Dk.q_oke, Dk.q_okj, Dk.q_app, Dk.q_ext, Dk.q_nm, Dk.q_tp, Dk.q_sa0, Dk.q_sa1, Dk.q_isn, Dk.q_isb, Dk.q_wipe0, Dk.q_wipe1]
  refine (w4 3 35 fs h p (by decide)).mono (fun d h1 w => ?_) fun _ _ _ z => z.elim
  obtain ⟨rfl, l1, g1⟩ := w
  have r1 := hs h1 _ l1
  have r2 := hs h1 _ (g1.lst l)
  simp [Dd.we_ret, Dd.we_bnd, Dd.we_lift, Dd.we_var, Dd.we_args_nil, Dd.we_args_cons, Dd.we_opN, Dd.we_op1, Dd.we_op2, Dd.we_call, Dd.we_tst, Dd.we_tru, Dd.we_notT, Dd.we_andT, Dd.we_orT, Dd.we_notV, Dd.we_andV, Dd.we_orV, Dd.we_ite, Dd.we_chn, Dd.we_mth, Dd.we_slice, Dd.we_intOf, Dd.nx_next, Dd.nx_ret, Dd.nx_ex, Dd.td_next, Dd.td_cont, Dd.td_brk, Dd.td_ret, Dd.td_ex, Dd.nx_brk, Dd.nx_cont, Dd.wp_skip, Dd.wp_seq, Dd.wp_drop, Dd.wp_ret, Dd.wp_asg, Dd.wp_if, Dd.wp_raise, Dd.wp_set, Dd.WO, Dk.eq_ss, Dk.ne_ss, Dk.eq_ii, Dk.ne_ii, Dk.sn_one_maybe, Dk.sn_one_many, Dk.sn_maybe_one, Dk.sn_maybe_many, Dk.sn_many_one, Dk.sn_many_maybe, Dk.sn_int_bool, Dk.sn_int_text, Dk.sn_bool_int, Dk.sn_bool_text, Dk.sn_text_int, Dk.sn_text_bool, Dk.isNot_non, Dk.q_add, Dk.q_addt, Dk.q_sub, Dk.q_mod, Dk.q_fdiv, Dk.q_mulr, Dk.q_mull, Dk.q_neg, Dk.q_lt, Dk.q_le, Dk.q_gt, Dk.q_ge, Dk.q_ix0, Dk.q_ix1, Dk.q_ix2, Dk.q_is_t, Dk.q_is_s, Dk.q_is_lt, Dk.q_is_ll, Dk.q_tru, Dk.q_lent, Dk.q_lenr, Dk.q_int, Dk.q_intb, Dk.q_abs, Dk.q_tupr, Dk.q_lstt, Dk.q_lst, Dk.q_tup, Dk.q_oka, Dk.q_oke, Dk.q_okj, Dk.q_app, Dk.q_ext, Dk.q_nm, Dk.q_tp, Dk.q_sa0, Dk.q_sa1, Dk.q_isn, Dk.q_isb, Dk.q_wipe0, Dk.q_wipe1, r1, r2]
  refine (w6 3 34 fs h1 p (by decide)).mono (fun d h2 w => ?_) fun _ _ _ z => z.elim
  obtain ⟨⟨i, rfl, l2⟩, g2⟩ := w
  refine we_c12 p ((g1.trans g2).lst l) fun h3 g3 l3 => ?_
  have ne := ne_lists (g3.lst l2) l3 (cols0_pure p) (by decide)
  simp [Dd.we_ret, Dd.we_bnd, Dd.we_lift, Dd.we_var, Dd.we_args_nil, Dd.we_args_cons, Dd.we_opN, Dd.we_op1, Dd.we_op2, Dd.we_call, Dd.we_tst, Dd.we_tru, Dd.we_notT, Dd.we_andT, Dd.we_orT, Dd.we_notV, Dd.we_andV, Dd.we_orV, Dd.we_ite, Dd.we_chn, Dd.we_mth, Dd.we_slice, Dd.we_intOf, Dd.nx_next, Dd.nx_ret, Dd.nx_ex, Dd.td_next, Dd.td_cont, Dd.td_brk, Dd.td_ret, Dd.td_ex, Dd.nx_brk, Dd.nx_cont, Dd.wp_skip, Dd.wp_seq, Dd.wp_drop, Dd.wp_ret, Dd.wp_asg, Dd.wp_if, Dd.wp_raise, Dd.wp_set, Dd.WO, Dk.eq_ss, Dk.ne_ss, Dk.eq_ii, Dk.ne_ii, Dk.sn_one_maybe, Dk.sn_one_many, Dk.sn_maybe_one, Dk.sn_maybe_many, Dk.sn_many_one, Dk.sn_many_maybe, Dk.sn_int_bool, Dk.sn_int_text, Dk.sn_bool_int, Dk.sn_bool_text, Dk.sn_text_int, Dk.sn_text_bool, Dk.isNot_non, Dk.q_add, Dk.q_addt, Dk.q_sub, Dk.q_mod, Dk.q_fdiv, Dk.q_mulr, Dk.q_mull, Dk.q_neg, Dk.q_lt, Dk.q_le, Dk.q_gt, Dk.q_ge, Dk.q_ix0, Dk.q_ix1, Dk.q_ix2, Dk.q_is_t, Dk.q_is_s, Dk.q_is_lt, Dk.q_is_ll, Dk.q_tru, Dk.q_lent, Dk.q_lenr, Dk.q_int, Dk.q_intb, Dk.q_abs, Dk.q_tupr, Dk.q_lstt, Dk.q_lst, Dk.q_tup, Dk.q_oka, Dk.q_oke, Dk.q_okj, Dk.q_app, Dk.q_ext, Dk.q_nm, Dk.q_tp, Dk.q_sa0, Dk.q_sa1, Dk.q_isn, Dk.q_isb, Dk.q_wipe0, Dk.q_wipe1, ne]
  exact k h3 (((g1.trans g2).trans g3).lst l)
theorem st6 {v1 v2 v3 : Option D} {C : Nat} {cs : List D} (l : lstAt h C = some cs) (k : ∀ s : Int, 0 ≤ s → WP R [some (.frz ns), v1, v2, v3, some (.int s), x5, x6, x7, x8, x9, x10, x11, x12] h QL) : WP (La6 F39) [some (.frz ns), v1, v2, v3, x4, x5, x6, x7, x8, x9, x10, x11, x12] h (Nx QL R) := by
  unfold La6
  simp [Dd.we_ret, Dd.we_bnd, Dd.we_lift, Dd.we_var, Dd.we_args_nil, Dd.we_args_cons, Dd.we_opN, Dd.we_op1, Dd.we_op2, Dd.we_call, Dd.we_tst, Dd.we_tru, Dd.we_notT, Dd.we_andT, Dd.we_orT, Dd.we_notV, Dd.we_andV, Dd.we_orV, Dd.we_ite, Dd.we_chn, Dd.we_mth, Dd.we_slice, Dd.we_intOf, Dd.nx_next, Dd.nx_ret, Dd.nx_ex, Dd.td_next, Dd.td_cont, Dd.td_brk, Dd.td_ret, Dd.td_ex, Dd.nx_brk, Dd.nx_cont, Dd.wp_skip, Dd.wp_seq, Dd.wp_drop, Dd.wp_ret, Dd.wp_asg, Dd.wp_if, Dd.wp_raise, Dd.wp_set, Dd.WO, Dk.eq_ss, Dk.ne_ss, Dk.eq_ii, Dk.ne_ii, Dk.sn_one_maybe, Dk.sn_one_many, Dk.sn_maybe_one, Dk.sn_maybe_many, Dk.sn_many_one, Dk.sn_many_maybe, Dk.sn_int_bool, Dk.sn_int_text, Dk.sn_bool_int, Dk.sn_bool_text, Dk.sn_text_int, Dk.sn_text_bool, Dk.isNot_non, Dk.q_add, Dk.q_addt, Dk.q_sub, Dk.q_mod, Dk.q_fdiv, Dk.q_mulr, Dk.q_mull, Dk.q_neg, Dk.q_lt, Dk.q_le, Dk.q_gt, Dk.q_ge, Dk.q_ix0, Dk.q_ix1, Dk.q_ix2, Dk.q_is_t, Dk.q_is_s, Dk.q_is_lt, Dk.q_is_ll, Dk.q_tru, Dk.q_lent, Dk.q_lenr, Dk.q_int, Dk.q_intb, Dk.q_abs, Dk.q_tupr, Dk.q_lstt, Dk.q_lst, Dk.q_tup, Dk.q_oka, Dk.q_oke, Dk.q_okj, Dk.q_app, Dk.q_ext, Dk.q_nm, Dk.q_tp, Dk.q_sa0, Dk.q_sa1, Dk.q_isn, Dk.q_isb, Dk.q_wipe0, Dk.q_wipe1]
  refine (w16 38 ns 2 h).mono (fun d h1 w => ?_) fun _ _ _ z => z.elim
  obtain ⟨⟨c, rfl⟩, rfl⟩ := w
  simp [Dd.we_ret, Dd.we_bnd, Dd.we_lift, Dd.we_var, Dd.we_args_nil, Dd.we_args_cons, Dd.we_opN, Dd.we_op1, Dd.we_op2, Dd.we_call, Dd.we_tst, Dd.we_tru, Dd.we_notT, Dd.we_andT, Dd.we_orT, Dd.we_notV, Dd.we_andV, Dd.we_orV, Dd.we_ite, Dd.we_chn, Dd.we_mth, Dd.we_slice, Dd.we_intOf, Dd.nx_next, Dd.nx_ret, Dd.nx_ex, Dd.td_next, Dd.td_cont, Dd.td_brk, Dd.td_ret, Dd.td_ex, Dd.nx_brk, Dd.nx_cont, Dd.wp_skip, Dd.wp_seq, Dd.wp_drop, Dd.wp_ret, Dd.wp_asg, Dd.wp_if, Dd.wp_raise, Dd.wp_set, Dd.WO, Dk.eq_ss, Dk.ne_ss, Dk.eq_ii, Dk.ne_ii, Dk.sn_one_maybe, Dk.sn_one_many, Dk.sn_maybe_one, Dk.sn_maybe_many, Dk.sn_many_one, Dk.sn_many_maybe, Dk.sn_int_bool, Dk.sn_int_text, Dk.sn_bool_int, Dk.sn_bool_text, Dk.sn_text_int, Dk.sn_text_bool, Dk.isNot_non, Dk.q_add, Dk.q_addt, Dk.q_sub, Dk.q_mod, Dk.q_fdiv, Dk.q_mulr, Dk.q_mull, Dk.q_neg, Dk.q_lt, Dk.q_le, Dk.q_gt, Dk.q_ge, Dk.q_ix0, Dk.q_ix1, Dk.q_ix2, Dk.q_is_t, Dk.q_is_s, Dk.q_is_lt, Dk.q_is_ll, Dk.q_tru, Dk.q_lent, Dk.q_lenr, Dk.q_int, Dk.q_intb, Dk.q_abs, Dk.q_tupr, Dk.q_lstt, Dk.q_lst, Dk.q_tup, Dk.q_oka, Dk.q_oke, Dk.q_okj, Dk.q_app, Dk.q_ext, Dk.q_nm, Dk.q_tp, Dk.q_sa0, Dk.q_sa1, Dk.q_isn, Dk.q_isb, Dk.q_wipe0, Dk.q_wipe1]
  exact k _ (by split <;> omega)
end
end Dk

set_option Elab.async false
set_option linter.all false
set_option maxRecDepth 100000
set_option maxHeartbeats 4000000
namespace Dk
open PySem PySem.Spec PyProof.Rows L2 Dd

theorem cols_get {fs : List D} (p : FsOk 3 fs) (s : Int) (hs : 0 ≤ s) : ∃ d, d ∈ colsA 3 fs ∧ L2.atI (colsA 3 fs) (s % ((colsA 3 fs).length : Int)) = some d := by
  have hl : 1 ≤ (colsA 3 fs).length := cols_ne 3 fs [] 0 0 p
  exact pickN (Int.emod_nonneg _ (by omega)) (Int.emod_lt_of_pos _ (by omega))
section
variable {ns : List Int} {R : MS} {h : DH} {x1 x2 x3 x4 x5 x6 x7 x8 x9 x10 x11 x12 : Option D}
theorem st7 {fs : List D} {v : Option D} {C : Nat} {s : Int} (hs : 0 ≤ s) (p : FsOk 3 fs) (l : lstAt h C = some (colsA 3 fs)) (k : ∀ h', lstAt h' C = some (colsA 3 fs) → WP R [some (.frz ns), some (.tup fs), v, some (.ref C), some (.int s), x5, x6, x7, x8, x9, x10, x11, x12] h' QL) : WP (La7 F39) [some (.frz ns), some (.tup fs), v, some (.ref C), some (.int s), x5, x6, x7, x8, x9, x10, x11, x12] h (Nx QL R) := by
  obtain ⟨d, hd, at1⟩ := cols_get p s hs
  have hl : 1 ≤ (colsA 3 fs).length := cols_ne 3 fs [] 0 0 p
  have lenr : ∀ h, lstAt h C = some (colsA 3 fs) → bltD .len [.ref C] h = some (.int (colsA 3 fs).length, h) := fun h l => by simp only [bltD, lstAt_some l]
  have ixc : ∀ h, lstAt h C = some (colsA 3 fs) → ixD (.ref C) (.int (s % ((colsA 3 fs).length : Int))) h = some (d, h) := fun h l => by simp only [ixD, lstAt_some l, pureO, at1, Option.map_some]
  have md : ∀ h, modD (.int s) (.int (colsA 3 fs).length) h = some (.int (s % ((colsA 3 fs).length : Int)), h) := fun h => q_mod _ _ _ (by omega)
  have hd2 := hd
  have cs := colsA_path p hd
  obtain ⟨ss, kk, a, b, rfl, q1, q2, _⟩ := cs
  simp only [List.nil_append] at *
  have ix0 : ∀ h, ixD (D.tup [pD ss, .str kk, .int a, .int b]) (.int 0) h = some (pD ss, h) := fun h => q_ix0 _ _ h
  unfold La7
  have l1 := lenr h l
  have l2 := ixc h l
  simp only [wp_if, we_tst, we_op2, we_call, we_opN, we_args_cons, we_args_nil, we_var, we_ret]
  refine ⟨_, rfl, _, rfl, _, rfl, _, rfl, ?_⟩
  refine wo_of l1 (wo_of (md h) (wo_of l2 (wo_of (ix0 h) ?_)))
  refine (w7 3 34 fs ss h p (by decide) (okS_nm3 q2)).mono (fun d' h1 w => ?_) fun c v h1 w => ?_
  · obtain ⟨w1, w2, g⟩ := w
    have e : d' = D.tup [pD ss, .str kk, .int a, .int b] := colsA_inj p w1 hd w2
    subst e
    refine ⟨_, rfl, _, rfl, _, rfl, ?_⟩
    refine wo_of (lenr h1 (g.lst l)) (wo_of (md h1) (wo_of (ixc h1 (g.lst l)) (wo_of (ne_pure h1 (pure_col (colsA_path p hd)) (by decide)) ?_)))
    refine ⟨_, rfl, ?_⟩
    simp [Dd.we_ret, Dd.we_bnd, Dd.we_lift, Dd.we_var, Dd.we_args_nil, Dd.we_args_cons, Dd.we_opN, Dd.we_op1, Dd.we_op2, Dd.we_call, Dd.we_tst, Dd.we_tru, Dd.we_notT, Dd.we_andT, Dd.we_orT, Dd.we_notV, Dd.we_andV, Dd.we_orV, Dd.we_ite, Dd.we_chn, Dd.we_mth, Dd.we_slice, Dd.we_intOf, Dd.nx_next, Dd.nx_ret, Dd.nx_ex, Dd.td_next, Dd.td_cont, Dd.td_brk, Dd.td_ret, Dd.td_ex, Dd.nx_brk, Dd.nx_cont, Dd.wp_skip, Dd.wp_seq, Dd.wp_drop, Dd.wp_ret, Dd.wp_asg, Dd.wp_if, Dd.wp_raise, Dd.wp_set, Dd.WO, Dk.eq_ss, Dk.ne_ss, Dk.eq_ii, Dk.ne_ii, Dk.sn_one_maybe, Dk.sn_one_many, Dk.sn_maybe_one, Dk.sn_maybe_many, Dk.sn_many_one, Dk.sn_many_maybe, Dk.sn_int_bool, Dk.sn_int_text, Dk.sn_bool_int, Dk.sn_bool_text, Dk.sn_text_int, Dk.sn_text_bool, Dk.isNot_non, Dk.q_add, Dk.q_addt, Dk.q_sub, Dk.q_mod, Dk.q_fdiv, Dk.q_mulr, Dk.q_mull, Dk.q_neg, Dk.q_lt, Dk.q_le, Dk.q_gt, Dk.q_ge, Dk.q_ix0, Dk.q_ix1, Dk.q_ix2, Dk.q_is_t, Dk.q_is_s, Dk.q_is_lt, Dk.q_is_ll, Dk.q_tru, Dk.q_lent, Dk.q_lenr, Dk.q_int, Dk.q_intb, Dk.q_abs, Dk.q_tupr, Dk.q_lstt, Dk.q_lst, Dk.q_tup, Dk.q_oka, Dk.q_oke, Dk.q_okj, Dk.q_app, Dk.q_ext, Dk.q_nm, Dk.q_tp, Dk.q_sa0, Dk.q_sa1, Dk.q_isn, Dk.q_isb, Dk.q_wipe0, Dk.q_wipe1]
    exact k h1 (g.lst l)
  · obtain ⟨_, _, w3, _⟩ := w
    exact absurd rfl (w3 _ hd)
theorem st8 {v1 v2 v4 : Option D} {C : Nat} {cs : List D} (l : lstAt h C = some cs) (k : ∀ Fd h', Fd ≠ C → lstAt h' C = some cs → lstAt h' Fd = some [] → WP R [some (.frz ns), v1, v2, some (.ref C), v4, some (.ref Fd), x6, x7, x8, x9, x10, x11, x12] h' QL) : WP (La8 F39) [some (.frz ns), v1, v2, some (.ref C), v4, x5, x6, x7, x8, x9, x10, x11, x12] h (Nx QL R) := by
  have hC := (List.getElem?_eq_some_iff.mp (lstAt_some l)).1
  unfold La8
  simp [Dd.we_ret, Dd.we_bnd, Dd.we_lift, Dd.we_var, Dd.we_args_nil, Dd.we_args_cons, Dd.we_opN, Dd.we_op1, Dd.we_op2, Dd.we_call, Dd.we_tst, Dd.we_tru, Dd.we_notT, Dd.we_andT, Dd.we_orT, Dd.we_notV, Dd.we_andV, Dd.we_orV, Dd.we_ite, Dd.we_chn, Dd.we_mth, Dd.we_slice, Dd.we_intOf, Dd.nx_next, Dd.nx_ret, Dd.nx_ex, Dd.td_next, Dd.td_cont, Dd.td_brk, Dd.td_ret, Dd.td_ex, Dd.nx_brk, Dd.nx_cont, Dd.wp_skip, Dd.wp_seq, Dd.wp_drop, Dd.wp_ret, Dd.wp_asg, Dd.wp_if, Dd.wp_raise, Dd.wp_set, Dd.WO, Dk.eq_ss, Dk.ne_ss, Dk.eq_ii, Dk.ne_ii, Dk.sn_one_maybe, Dk.sn_one_many, Dk.sn_maybe_one, Dk.sn_maybe_many, Dk.sn_many_one, Dk.sn_many_maybe, Dk.sn_int_bool, Dk.sn_int_text, Dk.sn_bool_int, Dk.sn_bool_text, Dk.sn_text_int, Dk.sn_text_bool, Dk.isNot_non, Dk.q_add, Dk.q_addt, Dk.q_sub, Dk.q_mod, Dk.q_fdiv, Dk.q_mulr, Dk.q_mull, Dk.q_neg, Dk.q_lt, Dk.q_le, Dk.q_gt, Dk.q_ge, Dk.q_ix0, Dk.q_ix1, Dk.q_ix2, Dk.q_is_t, Dk.q_is_s, Dk.q_is_lt, Dk.q_is_ll, Dk.q_tru, Dk.q_lent, Dk.q_lenr, Dk.q_int, Dk.q_intb, Dk.q_abs, Dk.q_tupr, Dk.q_lstt, Dk.q_lst, Dk.q_tup, Dk.q_oka, Dk.q_oke, Dk.q_okj, Dk.q_app, Dk.q_ext, Dk.q_nm, Dk.q_tp, Dk.q_sa0, Dk.q_sa1, Dk.q_isn, Dk.q_isb, Dk.q_wipe0, Dk.q_wipe1]
  exact k _ _ (by omega) ((Grow.one _ _).lst l) lst_new
end
/-- try project_schema(..) except NoColumn as e: found.append(e.path) -/
def try8 (F : Call) : MS := tryS (seq (drop (callM F 8 [var 1, var 6])) skip) 2 (some 7) (seq (drop (mthM .append (var 5) [var 7])) skip)
theorem w_try8 {fs : List D} {P Fd : Nat} {qs : List (List Str)} {sv : List Str} {acc : List D} {h : DH} {x0 x2 x3 x4 x7 x8 x9 x10 x11 x12 : Option D} {Q : Fl → DE → DH → Prop} (p : FsOk 3 fs) (l : lstAt h P = some (qs.map pD)) (hz : qs.length ≤ 2) (lf : lstAt h Fd = some acc) (az : acc.length ≤ 4)
    (bad : ∀ cps : List (List Str), (colsA 3 fs).map col0 = cps.map pD → (∀ s ∈ cps, s ≠ [] ∧ ∀ x ∈ s, x ∈ nm3) → (qs = [] ∧ sv = []) ∨ ∃ s ∈ qs, s ∉ cps ∧ s = sv ∧ ∀ s' ∈ qs, s' ∉ cps → s' = sv)
    (k : ∀ h1, Grow h h1 → Q .next [x0, some (.tup fs), x2, x3, x4, some (.ref Fd), some (.ref P), none, x8, x9, x10, x11, x12] (h1.set Fd (.lst (acc ++ [pD sv])))) :
    WP (try8 F39) [x0, some (.tup fs), x2, x3, x4, some (.ref Fd), some (.ref P), x7, x8, x9, x10, x11, x12] h Q := by
  obtain ⟨cps, hc, hn⟩ := cps_of p
  have zz : Z = 16777216 := rfl
  have b := bad cps hc hn
  unfold try8
  refine wp_try ?_
  simp only [wp_seq, wp_drop, we_call, we_args_cons, we_args_nil, we_var]
  refine ⟨_, rfl, _, rfl, ?_⟩
  have no : ¬ ((∀ s ∈ qs, s ∈ cps) ∧ qs ≠ []) := by
    rintro ⟨a1, a2⟩
    rcases b with ⟨b1, _⟩ | ⟨s, b1, b2, _⟩
    · exact a2 b1
    · exact b2 (a1 s b1)
  refine (w8 3 33 fs P qs cps h p (by decide) hc l (by omega) (fun a1 a2 => absurd ⟨a1, a2⟩ no)).mono (fun d h1 w => ?_) fun c v h1 w => ?_
  · exact absurd ⟨w.1, w.2.1⟩ no
  · obtain ⟨rfl, g, w⟩ := w
    have hv : v = pD sv := by
      rcases w with ⟨e, rfl⟩ | ⟨j, s, w1, w2, w3, rfl⟩
      · rcases b with ⟨_, b2⟩ | ⟨s, b1, _⟩
        · rw [b2]
        · rw [e] at b1; cases b1
      · rcases b with ⟨b1, _⟩ | ⟨s', b1, b2, b3, b4⟩
        · rw [b1] at w1; cases w1
        · rw [b4 s (List.mem_of_getElem? w1) w2]
    subst hv
    have lf1 := g.lst lf
    have az' : acc.length < Z := by omega
    rw [nx_ex]
    refine ⟨rfl, ?_⟩
    simp [Dd.we_ret, Dd.we_bnd, Dd.we_lift, Dd.we_var, Dd.we_args_nil, Dd.we_args_cons, Dd.we_opN, Dd.we_op1, Dd.we_op2, Dd.we_call, Dd.we_tst, Dd.we_tru, Dd.we_notT, Dd.we_andT, Dd.we_orT, Dd.we_notV, Dd.we_andV, Dd.we_orV, Dd.we_ite, Dd.we_chn, Dd.we_mth, Dd.we_slice, Dd.we_intOf, Dd.nx_next, Dd.nx_ret, Dd.nx_ex, Dd.td_next, Dd.td_cont, Dd.td_brk, Dd.td_ret, Dd.td_ex, Dd.nx_brk, Dd.nx_cont, Dd.wp_skip, Dd.wp_seq, Dd.wp_drop, Dd.wp_ret, Dd.wp_asg, Dd.wp_if, Dd.wp_raise, Dd.wp_set, Dd.WO, Dk.eq_ss, Dk.ne_ss, Dk.eq_ii, Dk.ne_ii, Dk.sn_one_maybe, Dk.sn_one_many, Dk.sn_maybe_one, Dk.sn_maybe_many, Dk.sn_many_one, Dk.sn_many_maybe, Dk.sn_int_bool, Dk.sn_int_text, Dk.sn_bool_int, Dk.sn_bool_text, Dk.sn_text_int, Dk.sn_text_bool, Dk.isNot_non, Dk.q_add, Dk.q_addt, Dk.q_sub, Dk.q_mod, Dk.q_fdiv, Dk.q_mulr, Dk.q_mull, Dk.q_neg, Dk.q_lt, Dk.q_le, Dk.q_gt, Dk.q_ge, Dk.q_ix0, Dk.q_ix1, Dk.q_ix2, Dk.q_is_t, Dk.q_is_s, Dk.q_is_lt, Dk.q_is_ll, Dk.q_tru, Dk.q_lent, Dk.q_lenr, Dk.q_int, Dk.q_intb, Dk.q_abs, Dk.q_tupr, Dk.q_lstt, Dk.q_lst, Dk.q_tup, Dk.q_oka, Dk.q_oke, Dk.q_okj, Dk.q_app, Dk.q_ext, Dk.q_nm, Dk.q_tp, Dk.q_sa0, Dk.q_sa1, Dk.q_isn, Dk.q_isb, Dk.q_wipe0, Dk.q_wipe1, lf1, az']
    exact k h1 g
end Dk

set_option Elab.async false
set_option linter.all false
set_option maxRecDepth 100000
set_option maxHeartbeats 4000000
namespace Dk
open PySem PySem.Spec PyProof.Rows L2 Dd

theorem zz_no : ¬ ((Str.ofString "zz") ∈ nm3) := by decide +kernel
def accs : List D := [pD [], pD ["zz"], pD []]
structure HL (h : DH) (C Fd P0 P1 P2 L : Nat) (cs : List D) (s0 : List Str) (acc : List D) : Prop where
  c : lstAt h C = some cs
  f : lstAt h Fd = some acc
  p0 : lstAt h P0 = some (([] : List (List Str)).map pD)
  p1 : lstAt h P1 = some ([s0, ["zz"]].map pD)
  p2 : lstAt h P2 = some ([([] : List Str)].map pD)
  l : lstAt h L = some [.ref P0, .ref P1, .ref P2]
theorem lst_other {h : DH} {i k : Nat} {xs ys : List D} (ne : i ≠ k) (l : lstAt h k = some xs) : lstAt (h.set i (.lst ys)) k = some xs := by
  have := lstAt_some l
  unfold lstAt
  rw [List.getElem?_set_ne ne, this]
theorem HL.app {h h1 : DH} {C Fd P0 P1 P2 L : Nat} {cs : List D} {s0 : List Str} {acc : List D} (x : D) (q : HL h C Fd P0 P1 P2 L cs s0 acc) (g : Grow h h1) (n : Fd ≠ C ∧ Fd ≠ P0 ∧ Fd ≠ P1 ∧ Fd ≠ P2 ∧ Fd ≠ L) : HL (h1.set Fd (.lst (acc ++ [x]))) C Fd P0 P1 P2 L cs s0 (acc ++ [x]) :=
  ⟨lst_other n.1 (g.lst q.c), lst_set (g.lst q.f), lst_other n.2.1 (g.lst q.p0), lst_other n.2.2.1 (g.lst q.p1), lst_other n.2.2.2.1 (g.lst q.p2), lst_other n.2.2.2.2 (g.lst q.l)⟩
def I9L (ns : List Int) (fs : List D) (v2 v4 : Option D) (C Fd P0 P1 P2 L : Nat) (s0 : List Str) (x8 x9 x10 x11 x12 : Option D) (i : Nat) (xs : List D) (k : Nat) (e : DE) (hh : DH) : Prop := i = L ∧ xs = [.ref P0, .ref P1, .ref P2] ∧ (∃ x6, e = [some (.frz ns), some (.tup fs), v2, some (.ref C), v4, some (.ref Fd), x6, none, x8, x9, x10, x11, x12]) ∧ HL hh C Fd P0 P1 P2 L (colsA 3 fs) s0 (accs.take k)
section
variable {ns : List Int} {R : MS} {h : DH} {x1 x2 x3 x4 x5 x6 x7 x8 x9 x10 x11 x12 : Option D}
theorem st9 {fs : List D} {v2 v4 : Option D} {C Fd : Nat} (p : FsOk 3 fs) (ne : Fd ≠ C) (l : lstAt h C = some (colsA 3 fs)) (lf : lstAt h Fd = some []) (k : ∀ x6 h', lstAt h' C = some (colsA 3 fs) → lstAt h' Fd = some accs → WP R [some (.frz ns), some (.tup fs), v2, some (.ref C), v4, some (.ref Fd), x6, none, x8, x9, x10, x11, x12] h' QL) :
    WP (La9 F39) [some (.frz ns), some (.tup fs), v2, some (.ref C), v4, some (.ref Fd), x6, none, x8, x9, x10, x11, x12] h (Nx QL R) := by
  have hl : 1 ≤ (colsA 3 fs).length := cols_ne 3 fs [] 0 0 p
  have zz : Z = 16777216 := rfl
  have hd : (colsA 3 fs)[0] ∈ colsA 3 fs := List.getElem_mem _
  have hg : (colsA 3 fs)[0]? = some (colsA 3 fs)[0] := List.getElem?_eq_getElem _
  generalize (colsA 3 fs)[0] = d at hd hg
  have cs := colsA_path p hd
  obtain ⟨ss, kk, a, b, rfl, q1, q2, _⟩ := cs
  simp only [List.nil_append] at *
  have hF := (List.getElem?_eq_some_iff.mp (lstAt_some lf)).1
  have at0 : L2.atI (colsA 3 fs) 0 = some (D.tup [pD ss, .str kk, .int a, .int b]) := atI_of (k := 0) rfl hg
  have ixc : ∀ h, lstAt h C = some (colsA 3 fs) → ixD (.ref C) (.int 0) h = some (D.tup [pD ss, .str kk, .int a, .int b], h) := fun h l => by simp only [ixD, lstAt_some l, pureO, at0, Option.map_some]
  have ix1 := ixc _ ((Grow.one h (Ob.lst [])).lst l)
  unfold La9
  refine for_list (I9L ns fs v2 v4 C Fd h.length (h.length + 1) (h.length + 1 + 1) (h.length + 1 + 1 + 1) ss x8 x9 x10 x11 x12) ?_
  simp [Dd.we_ret, Dd.we_bnd, Dd.we_lift, Dd.we_var, Dd.we_args_nil, Dd.we_args_cons, Dd.we_opN, Dd.we_op1, Dd.we_op2, Dd.we_call, Dd.we_tst, Dd.we_tru, Dd.we_notT, Dd.we_andT, Dd.we_orT, Dd.we_notV, Dd.we_andV, Dd.we_orV, Dd.we_ite, Dd.we_chn, Dd.we_mth, Dd.we_slice, Dd.we_intOf, Dd.nx_next, Dd.nx_ret, Dd.nx_ex, Dd.td_next, Dd.td_cont, Dd.td_brk, Dd.td_ret, Dd.td_ex, Dd.nx_brk, Dd.nx_cont, Dd.wp_skip, Dd.wp_seq, Dd.wp_drop, Dd.wp_ret, Dd.wp_asg, Dd.wp_if, Dd.wp_raise, Dd.wp_set, Dd.WO, Dk.eq_ss, Dk.ne_ss, Dk.eq_ii, Dk.ne_ii, Dk.sn_one_maybe, Dk.sn_one_many, Dk.sn_maybe_one, Dk.sn_maybe_many, Dk.sn_many_one, Dk.sn_many_maybe, Dk.sn_int_bool, Dk.sn_int_text, Dk.sn_bool_int, Dk.sn_bool_text, Dk.sn_text_int, Dk.sn_text_bool, Dk.isNot_non, Dk.q_add, Dk.q_addt, Dk.q_sub, Dk.q_mod, Dk.q_fdiv, Dk.q_mulr, Dk.q_mull, Dk.q_neg, Dk.q_lt, Dk.q_le, Dk.q_gt, Dk.q_ge, Dk.q_ix0, Dk.q_ix1, Dk.q_ix2, Dk.q_is_t, Dk.q_is_s, Dk.q_is_lt, Dk.q_is_ll, Dk.q_tru, Dk.q_lent, Dk.q_lenr, Dk.q_int, Dk.q_intb, Dk.q_abs, Dk.q_tupr, Dk.q_lstt, Dk.q_lst, Dk.q_tup, Dk.q_oka, Dk.q_oke, Dk.q_okj, Dk.q_app, Dk.q_ext, Dk.q_nm, Dk.q_tp, Dk.q_sa0, Dk.q_sa1, Dk.q_isn, Dk.q_isb, Dk.q_wipe0, Dk.q_wipe1, ix1]
  have hl0 : HL (h ++ [Ob.lst [], Ob.lst [pD ss, D.tup [D.str "zz"]], Ob.lst [D.tup []], Ob.lst [D.ref h.length, D.ref (h.length + 1), D.ref (h.length + 1 + 1)]]) C Fd h.length (h.length + 1) (h.length + 1 + 1) (h.length + 1 + 1 + 1) (colsA 3 fs) ss (accs.take 0) :=
    ⟨(show Grow h _ from ⟨_, rfl⟩).lst l, (show Grow h _ from ⟨_, rfl⟩).lst lf, lst_app (k := 0) rfl rfl, lst_app (k := 1) rfl rfl, lst_app (k := 2) rfl rfl, lst_app (k := 3) rfl rfl⟩
  have n : Fd ≠ C ∧ Fd ≠ h.length ∧ Fd ≠ h.length + 1 ∧ Fd ≠ h.length + 1 + 1 ∧ Fd ≠ h.length + 1 + 1 + 1 := ⟨ne, by omega, by omega, by omega, by omega⟩
  refine ⟨_, hl0.l, ⟨rfl, rfl, ⟨_, rfl⟩, hl0⟩, fun k e hh iv => by rw [iv.1, iv.2.1]; exact iv.2.2.2.l, ?_, ?_⟩
  · rintro e hh ⟨_, _, ⟨x6, rfl⟩, q⟩
    exact k x6 hh q.c q.f
  · rintro j d e hh hd' ⟨_, hx, ⟨x6, rfl⟩, q⟩
    have hj : j = 0 ∨ j = 1 ∨ j = 2 := by
      have := (List.getElem?_eq_some_iff.mp hd').1
      simp at this
      omega
    rcases hj with rfl | rfl | rfl
    · cases hd'
      refine w_try8 (qs := []) (sv := []) p q.p0 (by decide) q.f (by decide) (fun cps _ _ => .inl ⟨rfl, rfl⟩) fun h1 g => ?_
      rw [nx_next, wp_skip, td_next]
      exact ⟨rfl, hx, ⟨_, rfl⟩, q.app _ g n⟩
    · cases hd'
      refine w_try8 (qs := [ss, ["zz"]]) (sv := ["zz"]) p q.p1 (show 2 ≤ 2 by decide) q.f (by decide) (fun cps hc hn => .inr ⟨["zz"], by simp, fun z => zz_no ((hn _ z).2 _ (by simp)), rfl, fun s' hs' no => ?_⟩) fun h1 g => ?_
      · simp only [List.mem_cons, List.not_mem_nil, or_false] at hs'
        rcases hs' with rfl | rfl
        · exfalso
          have : col0 (D.tup [pD s', .str kk, .int a, .int b]) ∈ (colsA 3 fs).map col0 := List.mem_map_of_mem hd
          rw [hc] at this
          obtain ⟨t, ht, e⟩ := List.mem_map.mp this
          have e : pD t = pD s' := e
          rw [pD_inj.mp e] at ht
          exact no ht
        · rfl
      rw [nx_next, wp_skip, td_next]
      exact ⟨rfl, hx, ⟨_, rfl⟩, q.app _ g n⟩
    · cases hd'
      refine w_try8 (qs := [[]]) (sv := []) p q.p2 (by decide) q.f (by decide) (fun cps hc hn => .inr ⟨[], by simp, fun z => (hn _ z).1 rfl, rfl, fun s' hs' no => ?_⟩) fun h1 g => ?_
      · simpa using hs'
      rw [nx_next, wp_skip, td_next]
      exact ⟨rfl, hx, ⟨_, rfl⟩, q.app _ g n⟩
theorem st10 {fs : List D} {v2 v4 : Option D} {C Fd : Nat} (p : FsOk 3 fs) (ne : Fd ≠ C) (l : lstAt h C = some (colsA 3 fs)) (lf : lstAt h Fd = some accs) (k : ∀ h', lstAt h' C = some (colsA 3 fs) → lstAt h' Fd = some (accs ++ [pD ["zz", "a"]]) → WP R [some (.frz ns), some (.tup fs), v2, some (.ref C), v4, some (.ref Fd), x6, none, x8, x9, x10, x11, x12] h' QL) :
    WP (La10 F39) [some (.frz ns), some (.tup fs), v2, some (.ref C), v4, some (.ref Fd), x6, none, x8, x9, x10, x11, x12] h (Nx QL R) := by
  have ok : OkS ["zz", "a"] := by unfold OkS; decide +kernel
  have az : accs.length < Z := by decide
  unfold La10
  refine wp_try ?_
  simp [Dd.we_ret, Dd.we_bnd, Dd.we_lift, Dd.we_var, Dd.we_args_nil, Dd.we_args_cons, Dd.we_opN, Dd.we_op1, Dd.we_op2, Dd.we_call, Dd.we_tst, Dd.we_tru, Dd.we_notT, Dd.we_andT, Dd.we_orT, Dd.we_notV, Dd.we_andV, Dd.we_orV, Dd.we_ite, Dd.we_chn, Dd.we_mth, Dd.we_slice, Dd.we_intOf, Dd.nx_next, Dd.nx_ret, Dd.nx_ex, Dd.td_next, Dd.td_cont, Dd.td_brk, Dd.td_ret, Dd.td_ex, Dd.nx_brk, Dd.nx_cont, Dd.wp_skip, Dd.wp_seq, Dd.wp_drop, Dd.wp_ret, Dd.wp_asg, Dd.wp_if, Dd.wp_raise, Dd.wp_set, Dd.WO, Dk.eq_ss, Dk.ne_ss, Dk.eq_ii, Dk.ne_ii, Dk.sn_one_maybe, Dk.sn_one_many, Dk.sn_maybe_one, Dk.sn_maybe_many, Dk.sn_many_one, Dk.sn_many_maybe, Dk.sn_int_bool, Dk.sn_int_text, Dk.sn_bool_int, Dk.sn_bool_text, Dk.sn_text_int, Dk.sn_text_bool, Dk.isNot_non, Dk.q_add, Dk.q_addt, Dk.q_sub, Dk.q_mod, Dk.q_fdiv, Dk.q_mulr, Dk.q_mull, Dk.q_neg, Dk.q_lt, Dk.q_le, Dk.q_gt, Dk.q_ge, Dk.q_ix0, Dk.q_ix1, Dk.q_ix2, Dk.q_is_t, Dk.q_is_s, Dk.q_is_lt, Dk.q_is_ll, Dk.q_tru, Dk.q_lent, Dk.q_lenr, Dk.q_int, Dk.q_intb, Dk.q_abs, Dk.q_tupr, Dk.q_lstt, Dk.q_lst, Dk.q_tup, Dk.q_oka, Dk.q_oke, Dk.q_okj, Dk.q_app, Dk.q_ext, Dk.q_nm, Dk.q_tp, Dk.q_sa0, Dk.q_sa1, Dk.q_isn, Dk.q_isb, Dk.q_wipe0, Dk.q_wipe1]
  refine (w7 3 34 fs ["zz", "a"] h p (by decide) ok).mono (fun d h1 w => ?_) fun c v h1 w => ?_
  · exfalso
    obtain ⟨w1, w2, _⟩ := w
    obtain ⟨ss, kk, a, b, rfl, q1, q2, _⟩ := colsA_path p w1
    have e : pD ([] ++ ss) = pD ["zz", "a"] := w2
    have e := pD_inj.mp e
    simp only [List.nil_append] at e
    subst e
    exact zz_no (q2 _ (by simp))
  · obtain ⟨rfl, rfl, _, g⟩ := w
    have lf1 := g.lst lf
    simp [lf1, az, Dd.we_ret, Dd.we_bnd, Dd.we_lift, Dd.we_var, Dd.we_args_nil, Dd.we_args_cons, Dd.we_opN, Dd.we_op1, Dd.we_op2, Dd.we_call, Dd.we_tst, Dd.we_tru, Dd.we_notT, Dd.we_andT, Dd.we_orT, Dd.we_notV, Dd.we_andV, Dd.we_orV, Dd.we_ite, Dd.we_chn, Dd.we_mth, Dd.we_slice, Dd.we_intOf, Dd.nx_next, Dd.nx_ret, Dd.nx_ex, Dd.td_next, Dd.td_cont, Dd.td_brk, Dd.td_ret, Dd.td_ex, Dd.nx_brk, Dd.nx_cont, Dd.wp_skip, Dd.wp_seq, Dd.wp_drop, Dd.wp_ret, Dd.wp_asg, Dd.wp_if, Dd.wp_raise, Dd.wp_set, Dd.WO, Dk.eq_ss, Dk.ne_ss, Dk.eq_ii, Dk.ne_ii, Dk.sn_one_maybe, Dk.sn_one_many, Dk.sn_maybe_one, Dk.sn_maybe_many, Dk.sn_many_one, Dk.sn_many_maybe, Dk.sn_int_bool, Dk.sn_int_text, Dk.sn_bool_int, Dk.sn_bool_text, Dk.sn_text_int, Dk.sn_text_bool, Dk.isNot_non, Dk.q_add, Dk.q_addt, Dk.q_sub, Dk.q_mod, Dk.q_fdiv, Dk.q_mulr, Dk.q_mull, Dk.q_neg, Dk.q_lt, Dk.q_le, Dk.q_gt, Dk.q_ge, Dk.q_ix0, Dk.q_ix1, Dk.q_ix2, Dk.q_is_t, Dk.q_is_s, Dk.q_is_lt, Dk.q_is_ll, Dk.q_tru, Dk.q_lent, Dk.q_lenr, Dk.q_int, Dk.q_intb, Dk.q_abs, Dk.q_tupr, Dk.q_lstt, Dk.q_lst, Dk.q_tup, Dk.q_oka, Dk.q_oke, Dk.q_okj, Dk.q_app, Dk.q_ext, Dk.q_nm, Dk.q_tp, Dk.q_sa0, Dk.q_sa1, Dk.q_isn, Dk.q_isb, Dk.q_wipe0, Dk.q_wipe1]
    exact k _ (lst_other ne (g.lst l)) (lst_set lf1)
theorem st11 {v1 v2 v4 : Option D} {C Fd : Nat} {cs : List D} (l : lstAt h C = some cs) (lf : lstAt h Fd = some (accs ++ [pD ["zz", "a"]])) (k : ∀ h', lstAt h' C = some cs → WP R [some (.frz ns), v1, v2, some (.ref C), v4, some (.ref Fd), x6, x7, x8, x9, x10, x11, x12] h' QL) :
    WP (La11 F39) [some (.frz ns), v1, v2, some (.ref C), v4, some (.ref Fd), x6, x7, x8, x9, x10, x11, x12] h (Nx QL R) := by
  have pu : ∀ x ∈ accs ++ [pD ["zz", "a"]], Pure 2 x := by
    have a1 : ∀ ss : List Str, OkS ss → Pure 2 (pD ss) := fun ss ok y hy => by
      obtain ⟨s, hs, rfl⟩ := List.mem_map.mp hy
      exact ok s hs
    intro x hx
    have : x = pD [] ∨ x = pD ["zz"] ∨ x = pD ["zz", "a"] := by
      simp only [accs, List.mem_append, List.mem_cons, List.not_mem_nil, or_false] at hx
      rcases hx with (rfl | rfl | rfl) | rfl <;> simp
    rcases this with rfl | rfl | rfl
    · exact a1 _ fun _ z => nomatch z
    · exact a1 _ (by unfold OkS; decide +kernel)
    · exact a1 _ (by unfold OkS; decide +kernel)
  have ne := ne_lists (i := Fd) (j := h.length) ((Grow.one h (Ob.lst (accs ++ [pD ["zz", "a"]]))).lst lf) lst_new pu (by decide)
  have ne : neD (.ref Fd) (.ref h.length) (h ++ [Ob.lst [D.tup [], D.tup [D.str "zz"], D.tup [], D.tup [D.str "zz", D.str "a"]]]) = some (.bl false, h ++ [Ob.lst [D.tup [], D.tup [D.str "zz"], D.tup [], D.tup [D.str "zz", D.str "a"]]]) := ne
  unfold La11
  simp [Dd.we_ret, Dd.we_bnd, Dd.we_lift, Dd.we_var, Dd.we_args_nil, Dd.we_args_cons, Dd.we_opN, Dd.we_op1, Dd.we_op2, Dd.we_call, Dd.we_tst, Dd.we_tru, Dd.we_notT, Dd.we_andT, Dd.we_orT, Dd.we_notV, Dd.we_andV, Dd.we_orV, Dd.we_ite, Dd.we_chn, Dd.we_mth, Dd.we_slice, Dd.we_intOf, Dd.nx_next, Dd.nx_ret, Dd.nx_ex, Dd.td_next, Dd.td_cont, Dd.td_brk, Dd.td_ret, Dd.td_ex, Dd.nx_brk, Dd.nx_cont, Dd.wp_skip, Dd.wp_seq, Dd.wp_drop, Dd.wp_ret, Dd.wp_asg, Dd.wp_if, Dd.wp_raise, Dd.wp_set, Dd.WO, Dk.eq_ss, Dk.ne_ss, Dk.eq_ii, Dk.ne_ii, Dk.sn_one_maybe, Dk.sn_one_many, Dk.sn_maybe_one, Dk.sn_maybe_many, Dk.sn_many_one, Dk.sn_many_maybe, Dk.sn_int_bool, Dk.sn_int_text, Dk.sn_bool_int, Dk.sn_bool_text, Dk.sn_text_int, Dk.sn_text_bool, Dk.isNot_non, Dk.q_add, Dk.q_addt, Dk.q_sub, Dk.q_mod, Dk.q_fdiv, Dk.q_mulr, Dk.q_mull, Dk.q_neg, Dk.q_lt, Dk.q_le, Dk.q_gt, Dk.q_ge, Dk.q_ix0, Dk.q_ix1, Dk.q_ix2, Dk.q_is_t, Dk.q_is_s, Dk.q_is_lt, Dk.q_is_ll, Dk.q_tru, Dk.q_lent, Dk.q_lenr, Dk.q_int, Dk.q_intb, Dk.q_abs, Dk.q_tupr, Dk.q_lstt, Dk.q_lst, Dk.q_tup, Dk.q_oka, Dk.q_oke, Dk.q_okj, Dk.q_app, Dk.q_ext, Dk.q_nm, Dk.q_tp, Dk.q_sa0, Dk.q_sa1, Dk.q_isn, Dk.q_isb, Dk.q_wipe0, Dk.q_wipe1, ne]
  exact k _ ((Grow.one _ _).lst l)
theorem st12 {fs : List D} {v2 v4 : Option D} {C : Nat} (p : FsOk 3 fs) (l : lstAt h C = some (colsA 3 fs)) (k : ∀ h', lstAt h' C = some (colsA 3 fs) → WP R [some (.frz ns), some (.tup fs), v2, some (.ref C), v4, x5, x6, x7, x8, x9, x10, x11, x12] h' QL) :
    WP (La12 F39) [some (.frz ns), some (.tup fs), v2, some (.ref C), v4, x5, x6, x7, x8, x9, x10, x11, x12] h (Nx QL R) := by
  have hl : 1 ≤ (colsA 3 fs).length := cols_ne 3 fs [] 0 0 p
  have clen : (colsA 3 fs).length ≤ 27 := cols_len 3 fs [] 0 0 p
  have zz : Z = 16777216 := rfl
  have hd : (colsA 3 fs)[0] ∈ colsA 3 fs := List.getElem_mem _
  have hg : (colsA 3 fs)[0]? = some (colsA 3 fs)[0] := List.getElem?_eq_getElem _
  generalize (colsA 3 fs)[0] = d at hd hg
  have at0 : L2.atI (colsA 3 fs) 0 = some d := atI_of (k := 0) rfl hg
  have ixc : ∀ h, lstAt h C = some (colsA 3 fs) → ixD (.ref C) (.int 0) h = some (d, h) := fun h l => by simp only [ixD, lstAt_some l, pureO, at0, Option.map_some]
  have ix0 := fun h => colA_ix p hd h
  obtain ⟨cps, hc, hn⟩ := cps_of p
  have cl : cps.length ≤ 27 := by
    have : ((colsA 3 fs).map col0).length = (cps.map pD).length := by rw [hc]
    rw [List.length_map, List.length_map] at this
    omega
  obtain ⟨t, ht, et⟩ : ∃ t ∈ cps, pD t = col0 d := by
    have : col0 d ∈ (colsA 3 fs).map col0 := List.mem_map_of_mem hd
    rw [hc] at this
    exact List.mem_map.mp this
  unfold La12
  simp only [wp_if, we_tst, we_op2, we_call, we_opN, we_args_cons, we_args_nil, we_var, we_ret]
  refine ⟨_, rfl, ?_⟩
  refine we_c12 p l fun h1 g1 l1 => ?_
  refine ⟨_, rfl, ?_⟩
  refine wo_of (ixc h1 (g1.lst l)) (wo_of (ix0 h1) (wo_of (q_lst _ _ (show 1 ≤ 16777216 by decide)) ?_))
  have l2 := (Grow.one h1 (Ob.lst [col0 d])).lst l1
  have ad : addD (.ref h.length) (.ref h1.length) (h1 ++ [Ob.lst [col0 d]]) = some (.ref (h1 ++ [Ob.lst [col0 d]]).length, h1 ++ [Ob.lst [col0 d]] ++ [Ob.lst ((colsA 3 fs).map col0 ++ [col0 d])]) := by
    simp only [addD, l2, lst_new]
    rw [if_pos (by rw [List.length_map]; show _ + 1 ≤ Z; omega)]
    rfl
  refine wo_of ad ?_
  have l3 : lstAt (h1 ++ [Ob.lst [col0 d]] ++ [Ob.lst ((colsA 3 fs).map col0 ++ [col0 d])]) (h1 ++ [Ob.lst [col0 d]]).length = some ((cps ++ [t]).map pD) := by
    rw [lst_new, hc, List.map_append, ← et]
    rfl
  have g3 : Grow h (h1 ++ [Ob.lst [col0 d]] ++ [Ob.lst ((colsA 3 fs).map col0 ++ [col0 d])]) := (g1.trans (Grow.one _ _)).trans (Grow.one _ _)
  have inn : ∀ s ∈ cps ++ [t], s ∈ cps := fun s hs => by
    rcases List.mem_append.mp hs with hs | hs
    · exact hs
    · rw [List.mem_singleton.mp hs]; exact ht
  refine (w8 3 33 fs _ (cps ++ [t]) cps _ p (by decide) hc l3 (by rw [List.length_append]; show cps.length + 1 ≤ _; omega) (fun _ _ s hs => List.mem_append.mpr (.inl hs))).mono (fun d h4 w => ?_) fun c v h4 w => ?_
  · obtain ⟨_, _, rfl, g4⟩ := w
    refine ⟨_, rfl, ?_⟩
    refine wo_of (ne_pure h4 (fs_pure 3 fs p) (by decide)) ?_
    refine ⟨_, rfl, ?_⟩
    simp [Dd.we_ret, Dd.we_bnd, Dd.we_lift, Dd.we_var, Dd.we_args_nil, Dd.we_args_cons, Dd.we_opN, Dd.we_op1, Dd.we_op2, Dd.we_call, Dd.we_tst, Dd.we_tru, Dd.we_notT, Dd.we_andT, Dd.we_orT, Dd.we_notV, Dd.we_andV, Dd.we_orV, Dd.we_ite, Dd.we_chn, Dd.we_mth, Dd.we_slice, Dd.we_intOf, Dd.nx_next, Dd.nx_ret, Dd.nx_ex, Dd.td_next, Dd.td_cont, Dd.td_brk, Dd.td_ret, Dd.td_ex, Dd.nx_brk, Dd.nx_cont, Dd.wp_skip, Dd.wp_seq, Dd.wp_drop, Dd.wp_ret, Dd.wp_asg, Dd.wp_if, Dd.wp_raise, Dd.wp_set, Dd.WO, Dk.eq_ss, Dk.ne_ss, Dk.eq_ii, Dk.ne_ii, Dk.sn_one_maybe, Dk.sn_one_many, Dk.sn_maybe_one, Dk.sn_maybe_many, Dk.sn_many_one, Dk.sn_many_maybe, Dk.sn_int_bool, Dk.sn_int_text, Dk.sn_bool_int, Dk.sn_bool_text, Dk.sn_text_int, Dk.sn_text_bool, Dk.isNot_non, Dk.q_add, Dk.q_addt, Dk.q_sub, Dk.q_mod, Dk.q_fdiv, Dk.q_mulr, Dk.q_mull, Dk.q_neg, Dk.q_lt, Dk.q_le, Dk.q_gt, Dk.q_ge, Dk.q_ix0, Dk.q_ix1, Dk.q_ix2, Dk.q_is_t, Dk.q_is_s, Dk.q_is_lt, Dk.q_is_ll, Dk.q_tru, Dk.q_lent, Dk.q_lenr, Dk.q_int, Dk.q_intb, Dk.q_abs, Dk.q_tupr, Dk.q_lstt, Dk.q_lst, Dk.q_tup, Dk.q_oka, Dk.q_oke, Dk.q_okj, Dk.q_app, Dk.q_ext, Dk.q_nm, Dk.q_tp, Dk.q_sa0, Dk.q_sa1, Dk.q_isn, Dk.q_isb, Dk.q_wipe0, Dk.q_wipe1]
    exact k h4 ((g3.trans g4).lst l)
  · exfalso
    obtain ⟨_, _, w⟩ := w
    rcases w with ⟨e, _⟩ | ⟨j, s, w1, w2, _⟩
    · simp at e
    · exact w2 (inn s (List.mem_of_getElem? w1))
end
end Dk

set_option Elab.async false
set_option linter.all false
set_option maxRecDepth 100000
set_option maxHeartbeats 4000000
namespace Dk
open PySem PySem.Spec PyProof.Rows L2 Dd

section
variable {ns : List Int} {R : MS} {h : DH} {x1 x2 x3 x4 x5 x6 x7 x8 x9 x10 x11 x12 : Option D}
theorem st13 {fs : List D} {s : Int} (hs : 0 ≤ s) (p : FsOk 3 fs) (k : ∀ x w h', SpoilR 3 x w h' → WP R [some (.frz ns), some (.tup fs), x2, x3, some (.int s), x5, x6, x7, some x, some (.str w), x10, x11, x12] h' QL) : WP (La13 F39) [some (.frz ns), some (.tup fs), x2, x3, some (.int s), x5, x6, x7, x8, x9, x10, x11, x12] h (Nx QL R) := by
  unfold La13
  simp [Dd.we_ret, Dd.we_bnd, Dd.we_lift, Dd.we_var, Dd.we_args_nil, Dd.we_args_cons, Dd.we_opN, Dd.we_op1, Dd.we_op2, Dd.we_call, Dd.we_tst, Dd.we_tru, Dd.we_notT, Dd.we_andT, Dd.we_orT, Dd.we_notV, Dd.we_andV, Dd.we_orV, Dd.we_ite, Dd.we_chn, Dd.we_mth, Dd.we_slice, Dd.we_intOf, Dd.nx_next, Dd.nx_ret, Dd.nx_ex, Dd.td_next, Dd.td_cont, Dd.td_brk, Dd.td_ret, Dd.td_ex, Dd.nx_brk, Dd.nx_cont, Dd.wp_skip, Dd.wp_seq, Dd.wp_drop, Dd.wp_ret, Dd.wp_asg, Dd.wp_if, Dd.wp_raise, Dd.wp_set, Dd.WO, Dk.eq_ss, Dk.ne_ss, Dk.eq_ii, Dk.ne_ii, Dk.sn_one_maybe, Dk.sn_one_many, Dk.sn_maybe_one, Dk.sn_maybe_many, Dk.sn_many_one, Dk.sn_many_maybe, Dk.sn_int_bool, Dk.sn_int_text, Dk.sn_bool_int, Dk.sn_bool_text, Dk.sn_text_int, Dk.sn_text_bool, Dk.isNot_non, Dk.q_add, Dk.q_addt, Dk.q_sub, Dk.q_mod, Dk.q_fdiv, Dk.q_mulr, Dk.q_mull, Dk.q_neg, Dk.q_lt, Dk.q_le, Dk.q_gt, Dk.q_ge, Dk.q_ix0, Dk.q_ix1, Dk.q_ix2, Dk.q_is_t, Dk.q_is_s, Dk.q_is_lt, Dk.q_is_ll, Dk.q_tru, Dk.q_lent, Dk.q_lenr, Dk.q_int, Dk.q_intb, Dk.q_abs, Dk.q_tupr, Dk.q_lstt, Dk.q_lst, Dk.q_tup, Dk.q_oka, Dk.q_oke, Dk.q_okj, Dk.q_app, Dk.q_ext, Dk.q_nm, Dk.q_tp, Dk.q_sa0, Dk.q_sa1, Dk.q_isn, Dk.q_isb, Dk.q_wipe0, Dk.q_wipe1]
  refine (w25 3 36 fs (s / 3) (s / 11) h p (Int.ediv_nonneg hs (by decide)) (Int.ediv_nonneg hs (by decide))).mono (fun d h1 w => ?_) fun _ _ _ z => z.elim
  obtain ⟨id, x, w, rfl, l, sp, g⟩ := w
  simp [Dd.we_ret, Dd.we_bnd, Dd.we_lift, Dd.we_var, Dd.we_args_nil, Dd.we_args_cons, Dd.we_opN, Dd.we_op1, Dd.we_op2, Dd.we_call, Dd.we_tst, Dd.we_tru, Dd.we_notT, Dd.we_andT, Dd.we_orT, Dd.we_notV, Dd.we_andV, Dd.we_orV, Dd.we_ite, Dd.we_chn, Dd.we_mth, Dd.we_slice, Dd.we_intOf, Dd.nx_next, Dd.nx_ret, Dd.nx_ex, Dd.td_next, Dd.td_cont, Dd.td_brk, Dd.td_ret, Dd.td_ex, Dd.nx_brk, Dd.nx_cont, Dd.wp_skip, Dd.wp_seq, Dd.wp_drop, Dd.wp_ret, Dd.wp_asg, Dd.wp_if, Dd.wp_raise, Dd.wp_set, Dd.WO, Dk.eq_ss, Dk.ne_ss, Dk.eq_ii, Dk.ne_ii, Dk.sn_one_maybe, Dk.sn_one_many, Dk.sn_maybe_one, Dk.sn_maybe_many, Dk.sn_many_one, Dk.sn_many_maybe, Dk.sn_int_bool, Dk.sn_int_text, Dk.sn_bool_int, Dk.sn_bool_text, Dk.sn_text_int, Dk.sn_text_bool, Dk.isNot_non, Dk.q_add, Dk.q_addt, Dk.q_sub, Dk.q_mod, Dk.q_fdiv, Dk.q_mulr, Dk.q_mull, Dk.q_neg, Dk.q_lt, Dk.q_le, Dk.q_gt, Dk.q_ge, Dk.q_ix0, Dk.q_ix1, Dk.q_ix2, Dk.q_is_t, Dk.q_is_s, Dk.q_is_lt, Dk.q_is_ll, Dk.q_tru, Dk.q_lent, Dk.q_lenr, Dk.q_int, Dk.q_intb, Dk.q_abs, Dk.q_tupr, Dk.q_lstt, Dk.q_lst, Dk.q_tup, Dk.q_oka, Dk.q_oke, Dk.q_okj, Dk.q_app, Dk.q_ext, Dk.q_nm, Dk.q_tp, Dk.q_sa0, Dk.q_sa1, Dk.q_isn, Dk.q_isb, Dk.q_wipe0, Dk.q_wipe1, q_tpr, l]
  exact k x w h1 sp
theorem st14 {v1 : Option D} {x : D} {w : Str} (sp : SpoilR 3 x w h) (k : ∀ h', WP R [some (.frz ns), v1, x2, x3, x4, x5, x6, x7, some x, some (.str w), x10, x11, x12] h' QL) : WP (La14 F39) [some (.frz ns), v1, x2, x3, x4, x5, x6, x7, some x, some (.str w), x10, x11, x12] h (Nx QL R) := by
  unfold La14
  simp [Dd.we_ret, Dd.we_bnd, Dd.we_lift, Dd.we_var, Dd.we_args_nil, Dd.we_args_cons, Dd.we_opN, Dd.we_op1, Dd.we_op2, Dd.we_call, Dd.we_tst, Dd.we_tru, Dd.we_notT, Dd.we_andT, Dd.we_orT, Dd.we_notV, Dd.we_andV, Dd.we_orV, Dd.we_ite, Dd.we_chn, Dd.we_mth, Dd.we_slice, Dd.we_intOf, Dd.nx_next, Dd.nx_ret, Dd.nx_ex, Dd.td_next, Dd.td_cont, Dd.td_brk, Dd.td_ret, Dd.td_ex, Dd.nx_brk, Dd.nx_cont, Dd.wp_skip, Dd.wp_seq, Dd.wp_drop, Dd.wp_ret, Dd.wp_asg, Dd.wp_if, Dd.wp_raise, Dd.wp_set, Dd.WO, Dk.eq_ss, Dk.ne_ss, Dk.eq_ii, Dk.ne_ii, Dk.sn_one_maybe, Dk.sn_one_many, Dk.sn_maybe_one, Dk.sn_maybe_many, Dk.sn_many_one, Dk.sn_many_maybe, Dk.sn_int_bool, Dk.sn_int_text, Dk.sn_bool_int, Dk.sn_bool_text, Dk.sn_text_int, Dk.sn_text_bool, Dk.isNot_non, Dk.q_add, Dk.q_addt, Dk.q_sub, Dk.q_mod, Dk.q_fdiv, Dk.q_mulr, Dk.q_mull, Dk.q_neg, Dk.q_lt, Dk.q_le, Dk.q_gt, Dk.q_ge, Dk.q_ix0, Dk.q_ix1, Dk.q_ix2, Dk.q_is_t, Dk.q_is_s, Dk.q_is_lt, Dk.q_is_ll, Dk.q_tru, Dk.q_lent, Dk.q_lenr, Dk.q_int, Dk.q_intb, Dk.q_abs, Dk.q_tupr, Dk.q_lstt, Dk.q_lst, Dk.q_tup, Dk.q_oka, Dk.q_oke, Dk.q_okj, Dk.q_app, Dk.q_ext, Dk.q_nm, Dk.q_tp, Dk.q_sa0, Dk.q_sa1, Dk.q_isn, Dk.q_isb, Dk.q_wipe0, Dk.q_wipe1]
  refine (w27_sp 28 x w h sp).mono (fun d h1 w => ?_) fun _ _ _ z => z.elim
  obtain ⟨rfl, g⟩ := w
  simp [Dd.we_ret, Dd.we_bnd, Dd.we_lift, Dd.we_var, Dd.we_args_nil, Dd.we_args_cons, Dd.we_opN, Dd.we_op1, Dd.we_op2, Dd.we_call, Dd.we_tst, Dd.we_tru, Dd.we_notT, Dd.we_andT, Dd.we_orT, Dd.we_notV, Dd.we_andV, Dd.we_orV, Dd.we_ite, Dd.we_chn, Dd.we_mth, Dd.we_slice, Dd.we_intOf, Dd.nx_next, Dd.nx_ret, Dd.nx_ex, Dd.td_next, Dd.td_cont, Dd.td_brk, Dd.td_ret, Dd.td_ex, Dd.nx_brk, Dd.nx_cont, Dd.wp_skip, Dd.wp_seq, Dd.wp_drop, Dd.wp_ret, Dd.wp_asg, Dd.wp_if, Dd.wp_raise, Dd.wp_set, Dd.WO, Dk.eq_ss, Dk.ne_ss, Dk.eq_ii, Dk.ne_ii, Dk.sn_one_maybe, Dk.sn_one_many, Dk.sn_maybe_one, Dk.sn_maybe_many, Dk.sn_many_one, Dk.sn_many_maybe, Dk.sn_int_bool, Dk.sn_int_text, Dk.sn_bool_int, Dk.sn_bool_text, Dk.sn_text_int, Dk.sn_text_bool, Dk.isNot_non, Dk.q_add, Dk.q_addt, Dk.q_sub, Dk.q_mod, Dk.q_fdiv, Dk.q_mulr, Dk.q_mull, Dk.q_neg, Dk.q_lt, Dk.q_le, Dk.q_gt, Dk.q_ge, Dk.q_ix0, Dk.q_ix1, Dk.q_ix2, Dk.q_is_t, Dk.q_is_s, Dk.q_is_lt, Dk.q_is_ll, Dk.q_tru, Dk.q_lent, Dk.q_lenr, Dk.q_int, Dk.q_intb, Dk.q_abs, Dk.q_tupr, Dk.q_lstt, Dk.q_lst, Dk.q_tup, Dk.q_oka, Dk.q_oke, Dk.q_okj, Dk.q_app, Dk.q_ext, Dk.q_nm, Dk.q_tp, Dk.q_sa0, Dk.q_sa1, Dk.q_isn, Dk.q_isb, Dk.q_wipe0, Dk.q_wipe1]
  refine (w27_no 36 .non h1 (.inl ⟨rfl, fun _ z => nomatch z⟩)).mono (fun d h2 w => ?_) fun _ _ _ z => z.elim
  obtain ⟨rfl, g2⟩ := w
  simp [Dd.we_ret, Dd.we_bnd, Dd.we_lift, Dd.we_var, Dd.we_args_nil, Dd.we_args_cons, Dd.we_opN, Dd.we_op1, Dd.we_op2, Dd.we_call, Dd.we_tst, Dd.we_tru, Dd.we_notT, Dd.we_andT, Dd.we_orT, Dd.we_notV, Dd.we_andV, Dd.we_orV, Dd.we_ite, Dd.we_chn, Dd.we_mth, Dd.we_slice, Dd.we_intOf, Dd.nx_next, Dd.nx_ret, Dd.nx_ex, Dd.td_next, Dd.td_cont, Dd.td_brk, Dd.td_ret, Dd.td_ex, Dd.nx_brk, Dd.nx_cont, Dd.wp_skip, Dd.wp_seq, Dd.wp_drop, Dd.wp_ret, Dd.wp_asg, Dd.wp_if, Dd.wp_raise, Dd.wp_set, Dd.WO, Dk.eq_ss, Dk.ne_ss, Dk.eq_ii, Dk.ne_ii, Dk.sn_one_maybe, Dk.sn_one_many, Dk.sn_maybe_one, Dk.sn_maybe_many, Dk.sn_many_one, Dk.sn_many_maybe, Dk.sn_int_bool, Dk.sn_int_text, Dk.sn_bool_int, Dk.sn_bool_text, Dk.sn_text_int, Dk.sn_text_bool, Dk.isNot_non, Dk.q_add, Dk.q_addt, Dk.q_sub, Dk.q_mod, Dk.q_fdiv, Dk.q_mulr, Dk.q_mull, Dk.q_neg, Dk.q_lt, Dk.q_le, Dk.q_gt, Dk.q_ge, Dk.q_ix0, Dk.q_ix1, Dk.q_ix2, Dk.q_is_t, Dk.q_is_s, Dk.q_is_lt, Dk.q_is_ll, Dk.q_tru, Dk.q_lent, Dk.q_lenr, Dk.q_int, Dk.q_intb, Dk.q_abs, Dk.q_tupr, Dk.q_lstt, Dk.q_lst, Dk.q_tup, Dk.q_oka, Dk.q_oke, Dk.q_okj, Dk.q_app, Dk.q_ext, Dk.q_nm, Dk.q_tp, Dk.q_sa0, Dk.q_sa1, Dk.q_isn, Dk.q_isb, Dk.q_wipe0, Dk.q_wipe1]
  exact k h2
theorem st15 {v1 : Option D} {s : Int} (hs : 0 ≤ s) (k : ∀ j : Nat, j < 8 → WP R [some (.frz ns), v1, x2, x3, some (.int s), x5, x6, x7, x8, x9, some (.int ((j : Int) + 1)), x11, x12] h QL) : WP (La15 F39) [some (.frz ns), v1, x2, x3, some (.int s), x5, x6, x7, x8, x9, x10, x11, x12] h (Nx QL R) := by
  obtain ⟨j, hj⟩ : ∃ j : Nat, s / 5 % 8 = (j : Int) := ⟨(s / 5 % 8).toNat, by rw [Int.toNat_of_nonneg (Int.emod_nonneg _ (by decide))]⟩
  have := k j (by omega)
  unfold La15
  simp [Dd.we_ret, Dd.we_bnd, Dd.we_lift, Dd.we_var, Dd.we_args_nil, Dd.we_args_cons, Dd.we_opN, Dd.we_op1, Dd.we_op2, Dd.we_call, Dd.we_tst, Dd.we_tru, Dd.we_notT, Dd.we_andT, Dd.we_orT, Dd.we_notV, Dd.we_andV, Dd.we_orV, Dd.we_ite, Dd.we_chn, Dd.we_mth, Dd.we_slice, Dd.we_intOf, Dd.nx_next, Dd.nx_ret, Dd.nx_ex, Dd.td_next, Dd.td_cont, Dd.td_brk, Dd.td_ret, Dd.td_ex, Dd.nx_brk, Dd.nx_cont, Dd.wp_skip, Dd.wp_seq, Dd.wp_drop, Dd.wp_ret, Dd.wp_asg, Dd.wp_if, Dd.wp_raise, Dd.wp_set, Dd.WO, Dk.eq_ss, Dk.ne_ss, Dk.eq_ii, Dk.ne_ii, Dk.sn_one_maybe, Dk.sn_one_many, Dk.sn_maybe_one, Dk.sn_maybe_many, Dk.sn_many_one, Dk.sn_many_maybe, Dk.sn_int_bool, Dk.sn_int_text, Dk.sn_bool_int, Dk.sn_bool_text, Dk.sn_text_int, Dk.sn_text_bool, Dk.isNot_non, Dk.q_add, Dk.q_addt, Dk.q_sub, Dk.q_mod, Dk.q_fdiv, Dk.q_mulr, Dk.q_mull, Dk.q_neg, Dk.q_lt, Dk.q_le, Dk.q_gt, Dk.q_ge, Dk.q_ix0, Dk.q_ix1, Dk.q_ix2, Dk.q_is_t, Dk.q_is_s, Dk.q_is_lt, Dk.q_is_ll, Dk.q_tru, Dk.q_lent, Dk.q_lenr, Dk.q_int, Dk.q_intb, Dk.q_abs, Dk.q_tupr, Dk.q_lstt, Dk.q_lst, Dk.q_tup, Dk.q_oka, Dk.q_oke, Dk.q_okj, Dk.q_app, Dk.q_ext, Dk.q_nm, Dk.q_tp, Dk.q_sa0, Dk.q_sa1, Dk.q_isn, Dk.q_isb, Dk.q_wipe0, Dk.q_wipe1, hj]
  rw [Int.add_comm]
  exact this
theorem st16 {v1 : Option D} {j : Nat} (hj : j < 8) (k : ∀ h', WP R [some (.frz ns), v1, x2, x3, x4, x5, x6, x7, x8, x9, some (.int ((j : Int) + 1)), x11, x12] h' QL) : WP (La16 F39) [some (.frz ns), v1, x2, x3, x4, x5, x6, x7, x8, x9, some (.int ((j : Int) + 1)), x11, x12] h (Nx QL R) := by
  unfold La16
  simp only [wp_if, we_tst, we_op2, we_call, we_opN, we_args_cons, we_args_nil, we_var, we_ret]
  refine ⟨_, rfl, ?_⟩
  refine (w26 38 j hj h).mono (fun d h1 w => ?_) fun _ _ _ z => z.elim
  obtain ⟨rfl, g⟩ := w
  refine (w27_deep 20 j hj h1).mono (fun d h2 w => ?_) fun _ _ _ z => z.elim
  obtain ⟨rfl, g2⟩ := w
  have e0 : (h2 ++ [Ob.lst [D.str "", D.str "depth"]])[h2.length]? = some (Ob.lst [D.str "", D.str "depth"]) := by
    rw [List.getElem?_append_right (Nat.le_refl _), Nat.sub_self]
    rfl
  by_cases c : j < 5
  · have c' : ¬ (5 < (j : Int) + 1) := by omega
    have a0 : L2.atI [D.str "", D.str "depth"] 0 = some (D.str "") := atI_of (k := 0) rfl rfl
    have ix : ixD (.ref h2.length) (.int 0) (h2 ++ [Ob.lst [D.str "", D.str "depth"]]) = some (.str "", h2 ++ [Ob.lst [D.str "", D.str "depth"]]) := by
      simp only [ixD, e0, pureO, a0, Option.map_some]
    simp [Dd.we_ret, Dd.we_bnd, Dd.we_lift, Dd.we_var, Dd.we_args_nil, Dd.we_args_cons, Dd.we_opN, Dd.we_op1, Dd.we_op2, Dd.we_call, Dd.we_tst, Dd.we_tru, Dd.we_notT, Dd.we_andT, Dd.we_orT, Dd.we_notV, Dd.we_andV, Dd.we_orV, Dd.we_ite, Dd.we_chn, Dd.we_mth, Dd.we_slice, Dd.we_intOf, Dd.nx_next, Dd.nx_ret, Dd.nx_ex, Dd.td_next, Dd.td_cont, Dd.td_brk, Dd.td_ret, Dd.td_ex, Dd.nx_brk, Dd.nx_cont, Dd.wp_skip, Dd.wp_seq, Dd.wp_drop, Dd.wp_ret, Dd.wp_asg, Dd.wp_if, Dd.wp_raise, Dd.wp_set, Dd.WO, Dk.eq_ss, Dk.ne_ss, Dk.eq_ii, Dk.ne_ii, Dk.sn_one_maybe, Dk.sn_one_many, Dk.sn_maybe_one, Dk.sn_maybe_many, Dk.sn_many_one, Dk.sn_many_maybe, Dk.sn_int_bool, Dk.sn_int_text, Dk.sn_bool_int, Dk.sn_bool_text, Dk.sn_text_int, Dk.sn_text_bool, Dk.isNot_non, Dk.q_add, Dk.q_addt, Dk.q_sub, Dk.q_mod, Dk.q_fdiv, Dk.q_mulr, Dk.q_mull, Dk.q_neg, Dk.q_lt, Dk.q_le, Dk.q_gt, Dk.q_ge, Dk.q_ix0, Dk.q_ix1, Dk.q_ix2, Dk.q_is_t, Dk.q_is_s, Dk.q_is_lt, Dk.q_is_ll, Dk.q_tru, Dk.q_lent, Dk.q_lenr, Dk.q_int, Dk.q_intb, Dk.q_abs, Dk.q_tupr, Dk.q_lstt, Dk.q_lst, Dk.q_tup, Dk.q_oka, Dk.q_oke, Dk.q_okj, Dk.q_app, Dk.q_ext, Dk.q_nm, Dk.q_tp, Dk.q_sa0, Dk.q_sa1, Dk.q_isn, Dk.q_isb, Dk.q_wipe0, Dk.q_wipe1, c, c', ix]
    exact k _
  · have c' : 5 < (j : Int) + 1 := by omega
    have a0 : L2.atI [D.str "", D.str "depth"] 1 = some (D.str "depth") := atI_of (k := 1) rfl rfl
    have ix : ixD (.ref h2.length) (.int 1) (h2 ++ [Ob.lst [D.str "", D.str "depth"]]) = some (.str "depth", h2 ++ [Ob.lst [D.str "", D.str "depth"]]) := by
      simp only [ixD, e0, pureO, a0, Option.map_some]
    simp [Dd.we_ret, Dd.we_bnd, Dd.we_lift, Dd.we_var, Dd.we_args_nil, Dd.we_args_cons, Dd.we_opN, Dd.we_op1, Dd.we_op2, Dd.we_call, Dd.we_tst, Dd.we_tru, Dd.we_notT, Dd.we_andT, Dd.we_orT, Dd.we_notV, Dd.we_andV, Dd.we_orV, Dd.we_ite, Dd.we_chn, Dd.we_mth, Dd.we_slice, Dd.we_intOf, Dd.nx_next, Dd.nx_ret, Dd.nx_ex, Dd.td_next, Dd.td_cont, Dd.td_brk, Dd.td_ret, Dd.td_ex, Dd.nx_brk, Dd.nx_cont, Dd.wp_skip, Dd.wp_seq, Dd.wp_drop, Dd.wp_ret, Dd.wp_asg, Dd.wp_if, Dd.wp_raise, Dd.wp_set, Dd.WO, Dk.eq_ss, Dk.ne_ss, Dk.eq_ii, Dk.ne_ii, Dk.sn_one_maybe, Dk.sn_one_many, Dk.sn_maybe_one, Dk.sn_maybe_many, Dk.sn_many_one, Dk.sn_many_maybe, Dk.sn_int_bool, Dk.sn_int_text, Dk.sn_bool_int, Dk.sn_bool_text, Dk.sn_text_int, Dk.sn_text_bool, Dk.isNot_non, Dk.q_add, Dk.q_addt, Dk.q_sub, Dk.q_mod, Dk.q_fdiv, Dk.q_mulr, Dk.q_mull, Dk.q_neg, Dk.q_lt, Dk.q_le, Dk.q_gt, Dk.q_ge, Dk.q_ix0, Dk.q_ix1, Dk.q_ix2, Dk.q_is_t, Dk.q_is_s, Dk.q_is_lt, Dk.q_is_ll, Dk.q_tru, Dk.q_lent, Dk.q_lenr, Dk.q_int, Dk.q_intb, Dk.q_abs, Dk.q_tupr, Dk.q_lstt, Dk.q_lst, Dk.q_tup, Dk.q_oka, Dk.q_oke, Dk.q_okj, Dk.q_app, Dk.q_ext, Dk.q_nm, Dk.q_tp, Dk.q_sa0, Dk.q_sa1, Dk.q_isn, Dk.q_isb, Dk.q_wipe0, Dk.q_wipe1, c, c', ix]
    exact k _
theorem st17 {fs vs : List D} {s : Int} (hs : 0 ≤ s) (p : FsOk 3 fs) (q : RcRes 3 [] fs (.tup vs) none) (k : ∀ x w h', RcRes 3 h' fs x (some w) → WP R [some (.frz ns), some (.tup fs), some (.tup vs), x3, some (.int s), x5, x6, x7, x8, some (.str w), x10, some x, x12] h' QL) :
    WP (La17 F39) [some (.frz ns), some (.tup fs), some (.tup vs), x3, some (.int s), x5, x6, x7, x8, x9, x10, x11, x12] h (Nx QL R) := by
  unfold La17
  simp [Dd.we_ret, Dd.we_bnd, Dd.we_lift, Dd.we_var, Dd.we_args_nil, Dd.we_args_cons, Dd.we_opN, Dd.we_op1, Dd.we_op2, Dd.we_call, Dd.we_tst, Dd.we_tru, Dd.we_notT, Dd.we_andT, Dd.we_orT, Dd.we_notV, Dd.we_andV, Dd.we_orV, Dd.we_ite, Dd.we_chn, Dd.we_mth, Dd.we_slice, Dd.we_intOf, Dd.nx_next, Dd.nx_ret, Dd.nx_ex, Dd.td_next, Dd.td_cont, Dd.td_brk, Dd.td_ret, Dd.td_ex, Dd.nx_brk, Dd.nx_cont, Dd.wp_skip, Dd.wp_seq, Dd.wp_drop, Dd.wp_ret, Dd.wp_asg, Dd.wp_if, Dd.wp_raise, Dd.wp_set, Dd.WO, Dk.eq_ss, Dk.ne_ss, Dk.eq_ii, Dk.ne_ii, Dk.sn_one_maybe, Dk.sn_one_many, Dk.sn_maybe_one, Dk.sn_maybe_many, Dk.sn_many_one, Dk.sn_many_maybe, Dk.sn_int_bool, Dk.sn_int_text, Dk.sn_bool_int, Dk.sn_bool_text, Dk.sn_text_int, Dk.sn_text_bool, Dk.isNot_non, Dk.q_add, Dk.q_addt, Dk.q_sub, Dk.q_mod, Dk.q_fdiv, Dk.q_mulr, Dk.q_mull, Dk.q_neg, Dk.q_lt, Dk.q_le, Dk.q_gt, Dk.q_ge, Dk.q_ix0, Dk.q_ix1, Dk.q_ix2, Dk.q_is_t, Dk.q_is_s, Dk.q_is_lt, Dk.q_is_ll, Dk.q_tru, Dk.q_lent, Dk.q_lenr, Dk.q_int, Dk.q_intb, Dk.q_abs, Dk.q_tupr, Dk.q_lstt, Dk.q_lst, Dk.q_tup, Dk.q_oka, Dk.q_oke, Dk.q_okj, Dk.q_app, Dk.q_ext, Dk.q_nm, Dk.q_tp, Dk.q_sa0, Dk.q_sa1, Dk.q_isn, Dk.q_isb, Dk.q_wipe0, Dk.q_wipe1]
  refine (w29 3 36 fs vs (s / 2) (s / 13) h p q (Int.ediv_nonneg hs (by decide)) (Int.ediv_nonneg hs (by decide))).mono (fun d h1 w => ?_) fun _ _ _ z => z.elim
  obtain ⟨id, x, w, rfl, l, r, g, hx⟩ := w
  simp [Dd.we_ret, Dd.we_bnd, Dd.we_lift, Dd.we_var, Dd.we_args_nil, Dd.we_args_cons, Dd.we_opN, Dd.we_op1, Dd.we_op2, Dd.we_call, Dd.we_tst, Dd.we_tru, Dd.we_notT, Dd.we_andT, Dd.we_orT, Dd.we_notV, Dd.we_andV, Dd.we_orV, Dd.we_ite, Dd.we_chn, Dd.we_mth, Dd.we_slice, Dd.we_intOf, Dd.nx_next, Dd.nx_ret, Dd.nx_ex, Dd.td_next, Dd.td_cont, Dd.td_brk, Dd.td_ret, Dd.td_ex, Dd.nx_brk, Dd.nx_cont, Dd.wp_skip, Dd.wp_seq, Dd.wp_drop, Dd.wp_ret, Dd.wp_asg, Dd.wp_if, Dd.wp_raise, Dd.wp_set, Dd.WO, Dk.eq_ss, Dk.ne_ss, Dk.eq_ii, Dk.ne_ii, Dk.sn_one_maybe, Dk.sn_one_many, Dk.sn_maybe_one, Dk.sn_maybe_many, Dk.sn_many_one, Dk.sn_many_maybe, Dk.sn_int_bool, Dk.sn_int_text, Dk.sn_bool_int, Dk.sn_bool_text, Dk.sn_text_int, Dk.sn_text_bool, Dk.isNot_non, Dk.q_add, Dk.q_addt, Dk.q_sub, Dk.q_mod, Dk.q_fdiv, Dk.q_mulr, Dk.q_mull, Dk.q_neg, Dk.q_lt, Dk.q_le, Dk.q_gt, Dk.q_ge, Dk.q_ix0, Dk.q_ix1, Dk.q_ix2, Dk.q_is_t, Dk.q_is_s, Dk.q_is_lt, Dk.q_is_ll, Dk.q_tru, Dk.q_lent, Dk.q_lenr, Dk.q_int, Dk.q_intb, Dk.q_abs, Dk.q_tupr, Dk.q_lstt, Dk.q_lst, Dk.q_tup, Dk.q_oka, Dk.q_oke, Dk.q_okj, Dk.q_app, Dk.q_ext, Dk.q_nm, Dk.q_tp, Dk.q_sa0, Dk.q_sa1, Dk.q_isn, Dk.q_isb, Dk.q_wipe0, Dk.q_wipe1, q_tpr, l]
  exact k x w h1 r
theorem st18 {fs : List D} {v2 : Option D} {x : D} {w : Str} (q : RcRes 3 h fs x (some w)) (k : ∀ h', WP R [some (.frz ns), some (.tup fs), v2, x3, x4, x5, x6, x7, x8, some (.str w), x10, some x, x12] h' QL) :
    WP (La18 F39) [some (.frz ns), some (.tup fs), v2, x3, x4, x5, x6, x7, x8, some (.str w), x10, some x, x12] h (Nx QL R) := by
  unfold La18
  simp [Dd.we_ret, Dd.we_bnd, Dd.we_lift, Dd.we_var, Dd.we_args_nil, Dd.we_args_cons, Dd.we_opN, Dd.we_op1, Dd.we_op2, Dd.we_call, Dd.we_tst, Dd.we_tru, Dd.we_notT, Dd.we_andT, Dd.we_orT, Dd.we_notV, Dd.we_andV, Dd.we_orV, Dd.we_ite, Dd.we_chn, Dd.we_mth, Dd.we_slice, Dd.we_intOf, Dd.nx_next, Dd.nx_ret, Dd.nx_ex, Dd.td_next, Dd.td_cont, Dd.td_brk, Dd.td_ret, Dd.td_ex, Dd.nx_brk, Dd.nx_cont, Dd.wp_skip, Dd.wp_seq, Dd.wp_drop, Dd.wp_ret, Dd.wp_asg, Dd.wp_if, Dd.wp_raise, Dd.wp_set, Dd.WO, Dk.eq_ss, Dk.ne_ss, Dk.eq_ii, Dk.ne_ii, Dk.sn_one_maybe, Dk.sn_one_many, Dk.sn_maybe_one, Dk.sn_maybe_many, Dk.sn_many_one, Dk.sn_many_maybe, Dk.sn_int_bool, Dk.sn_int_text, Dk.sn_bool_int, Dk.sn_bool_text, Dk.sn_text_int, Dk.sn_text_bool, Dk.isNot_non, Dk.q_add, Dk.q_addt, Dk.q_sub, Dk.q_mod, Dk.q_fdiv, Dk.q_mulr, Dk.q_mull, Dk.q_neg, Dk.q_lt, Dk.q_le, Dk.q_gt, Dk.q_ge, Dk.q_ix0, Dk.q_ix1, Dk.q_ix2, Dk.q_is_t, Dk.q_is_s, Dk.q_is_lt, Dk.q_is_ll, Dk.q_tru, Dk.q_lent, Dk.q_lenr, Dk.q_int, Dk.q_intb, Dk.q_abs, Dk.q_tupr, Dk.q_lstt, Dk.q_lst, Dk.q_tup, Dk.q_oka, Dk.q_oke, Dk.q_okj, Dk.q_app, Dk.q_ext, Dk.q_nm, Dk.q_tp, Dk.q_sa0, Dk.q_sa1, Dk.q_isn, Dk.q_isb, Dk.q_wipe0, Dk.q_wipe1]
  refine (w28 3 27 fs x (some w) h q).mono (fun d h1 w => ?_) fun _ _ _ z => z.elim
  obtain ⟨rfl, g⟩ := w
  simp [Dd.we_ret, Dd.we_bnd, Dd.we_lift, Dd.we_var, Dd.we_args_nil, Dd.we_args_cons, Dd.we_opN, Dd.we_op1, Dd.we_op2, Dd.we_call, Dd.we_tst, Dd.we_tru, Dd.we_notT, Dd.we_andT, Dd.we_orT, Dd.we_notV, Dd.we_andV, Dd.we_orV, Dd.we_ite, Dd.we_chn, Dd.we_mth, Dd.we_slice, Dd.we_intOf, Dd.nx_next, Dd.nx_ret, Dd.nx_ex, Dd.td_next, Dd.td_cont, Dd.td_brk, Dd.td_ret, Dd.td_ex, Dd.nx_brk, Dd.nx_cont, Dd.wp_skip, Dd.wp_seq, Dd.wp_drop, Dd.wp_ret, Dd.wp_asg, Dd.wp_if, Dd.wp_raise, Dd.wp_set, Dd.WO, Dk.eq_ss, Dk.ne_ss, Dk.eq_ii, Dk.ne_ii, Dk.sn_one_maybe, Dk.sn_one_many, Dk.sn_maybe_one, Dk.sn_maybe_many, Dk.sn_many_one, Dk.sn_many_maybe, Dk.sn_int_bool, Dk.sn_int_text, Dk.sn_bool_int, Dk.sn_bool_text, Dk.sn_text_int, Dk.sn_text_bool, Dk.isNot_non, Dk.q_add, Dk.q_addt, Dk.q_sub, Dk.q_mod, Dk.q_fdiv, Dk.q_mulr, Dk.q_mull, Dk.q_neg, Dk.q_lt, Dk.q_le, Dk.q_gt, Dk.q_ge, Dk.q_ix0, Dk.q_ix1, Dk.q_ix2, Dk.q_is_t, Dk.q_is_s, Dk.q_is_lt, Dk.q_is_ll, Dk.q_tru, Dk.q_lent, Dk.q_lenr, Dk.q_int, Dk.q_intb, Dk.q_abs, Dk.q_tupr, Dk.q_lstt, Dk.q_lst, Dk.q_tup, Dk.q_oka, Dk.q_oke, Dk.q_okj, Dk.q_app, Dk.q_ext, Dk.q_nm, Dk.q_tp, Dk.q_sa0, Dk.q_sa1, Dk.q_isn, Dk.q_isb, Dk.q_wipe0, Dk.q_wipe1, word]
  exact k h1
theorem st19 {v : Option D} : WP (La19 F39) [some (.frz ns), v, x2, x3, x4, x5, x6, x7, x8, x9, x10, x11, x12] h (Nx QL R) := by
  have v1 : valB "int" (.int (-2147483648)) = true := by decide +kernel
  have v2 : valB "int" (.bl false) = false := by decide +kernel
  have v3 : valB "text" (.str "~ ") = true := by decide +kernel
  unfold La19
  simp [Dd.we_ret, Dd.we_bnd, Dd.we_lift, Dd.we_var, Dd.we_args_nil, Dd.we_args_cons, Dd.we_opN, Dd.we_op1, Dd.we_op2, Dd.we_call, Dd.we_tst, Dd.we_tru, Dd.we_notT, Dd.we_andT, Dd.we_orT, Dd.we_notV, Dd.we_andV, Dd.we_orV, Dd.we_ite, Dd.we_chn, Dd.we_mth, Dd.we_slice, Dd.we_intOf, Dd.nx_next, Dd.nx_ret, Dd.nx_ex, Dd.td_next, Dd.td_cont, Dd.td_brk, Dd.td_ret, Dd.td_ex, Dd.nx_brk, Dd.nx_cont, Dd.wp_skip, Dd.wp_seq, Dd.wp_drop, Dd.wp_ret, Dd.wp_asg, Dd.wp_if, Dd.wp_raise, Dd.wp_set, Dd.WO, Dk.eq_ss, Dk.ne_ss, Dk.eq_ii, Dk.ne_ii, Dk.sn_one_maybe, Dk.sn_one_many, Dk.sn_maybe_one, Dk.sn_maybe_many, Dk.sn_many_one, Dk.sn_many_maybe, Dk.sn_int_bool, Dk.sn_int_text, Dk.sn_bool_int, Dk.sn_bool_text, Dk.sn_text_int, Dk.sn_text_bool, Dk.isNot_non, Dk.q_add, Dk.q_addt, Dk.q_sub, Dk.q_mod, Dk.q_fdiv, Dk.q_mulr, Dk.q_mull, Dk.q_neg, Dk.q_lt, Dk.q_le, Dk.q_gt, Dk.q_ge, Dk.q_ix0, Dk.q_ix1, Dk.q_ix2, Dk.q_is_t, Dk.q_is_s, Dk.q_is_lt, Dk.q_is_ll, Dk.q_tru, Dk.q_lent, Dk.q_lenr, Dk.q_int, Dk.q_intb, Dk.q_abs, Dk.q_tupr, Dk.q_lstt, Dk.q_lst, Dk.q_tup, Dk.q_oka, Dk.q_oke, Dk.q_okj, Dk.q_app, Dk.q_ext, Dk.q_nm, Dk.q_tp, Dk.q_sa0, Dk.q_sa1, Dk.q_isn, Dk.q_isb, Dk.q_wipe0, Dk.q_wipe1]
  refine (w10 37 "int" _ h rfl).mono (fun d h1 w => ?_) fun _ _ _ z => z.elim
  obtain ⟨rfl, g⟩ := w
  simp [Dd.we_ret, Dd.we_bnd, Dd.we_lift, Dd.we_var, Dd.we_args_nil, Dd.we_args_cons, Dd.we_opN, Dd.we_op1, Dd.we_op2, Dd.we_call, Dd.we_tst, Dd.we_tru, Dd.we_notT, Dd.we_andT, Dd.we_orT, Dd.we_notV, Dd.we_andV, Dd.we_orV, Dd.we_ite, Dd.we_chn, Dd.we_mth, Dd.we_slice, Dd.we_intOf, Dd.nx_next, Dd.nx_ret, Dd.nx_ex, Dd.td_next, Dd.td_cont, Dd.td_brk, Dd.td_ret, Dd.td_ex, Dd.nx_brk, Dd.nx_cont, Dd.wp_skip, Dd.wp_seq, Dd.wp_drop, Dd.wp_ret, Dd.wp_asg, Dd.wp_if, Dd.wp_raise, Dd.wp_set, Dd.WO, Dk.eq_ss, Dk.ne_ss, Dk.eq_ii, Dk.ne_ii, Dk.sn_one_maybe, Dk.sn_one_many, Dk.sn_maybe_one, Dk.sn_maybe_many, Dk.sn_many_one, Dk.sn_many_maybe, Dk.sn_int_bool, Dk.sn_int_text, Dk.sn_bool_int, Dk.sn_bool_text, Dk.sn_text_int, Dk.sn_text_bool, Dk.isNot_non, Dk.q_add, Dk.q_addt, Dk.q_sub, Dk.q_mod, Dk.q_fdiv, Dk.q_mulr, Dk.q_mull, Dk.q_neg, Dk.q_lt, Dk.q_le, Dk.q_gt, Dk.q_ge, Dk.q_ix0, Dk.q_ix1, Dk.q_ix2, Dk.q_is_t, Dk.q_is_s, Dk.q_is_lt, Dk.q_is_ll, Dk.q_tru, Dk.q_lent, Dk.q_lenr, Dk.q_int, Dk.q_intb, Dk.q_abs, Dk.q_tupr, Dk.q_lstt, Dk.q_lst, Dk.q_tup, Dk.q_oka, Dk.q_oke, Dk.q_okj, Dk.q_app, Dk.q_ext, Dk.q_nm, Dk.q_tp, Dk.q_sa0, Dk.q_sa1, Dk.q_isn, Dk.q_isb, Dk.q_wipe0, Dk.q_wipe1, v1]
  refine (w10 37 "int" _ h1 rfl).mono (fun d h2 w => ?_) fun _ _ _ z => z.elim
  obtain ⟨rfl, g2⟩ := w
  simp [Dd.we_ret, Dd.we_bnd, Dd.we_lift, Dd.we_var, Dd.we_args_nil, Dd.we_args_cons, Dd.we_opN, Dd.we_op1, Dd.we_op2, Dd.we_call, Dd.we_tst, Dd.we_tru, Dd.we_notT, Dd.we_andT, Dd.we_orT, Dd.we_notV, Dd.we_andV, Dd.we_orV, Dd.we_ite, Dd.we_chn, Dd.we_mth, Dd.we_slice, Dd.we_intOf, Dd.nx_next, Dd.nx_ret, Dd.nx_ex, Dd.td_next, Dd.td_cont, Dd.td_brk, Dd.td_ret, Dd.td_ex, Dd.nx_brk, Dd.nx_cont, Dd.wp_skip, Dd.wp_seq, Dd.wp_drop, Dd.wp_ret, Dd.wp_asg, Dd.wp_if, Dd.wp_raise, Dd.wp_set, Dd.WO, Dk.eq_ss, Dk.ne_ss, Dk.eq_ii, Dk.ne_ii, Dk.sn_one_maybe, Dk.sn_one_many, Dk.sn_maybe_one, Dk.sn_maybe_many, Dk.sn_many_one, Dk.sn_many_maybe, Dk.sn_int_bool, Dk.sn_int_text, Dk.sn_bool_int, Dk.sn_bool_text, Dk.sn_text_int, Dk.sn_text_bool, Dk.isNot_non, Dk.q_add, Dk.q_addt, Dk.q_sub, Dk.q_mod, Dk.q_fdiv, Dk.q_mulr, Dk.q_mull, Dk.q_neg, Dk.q_lt, Dk.q_le, Dk.q_gt, Dk.q_ge, Dk.q_ix0, Dk.q_ix1, Dk.q_ix2, Dk.q_is_t, Dk.q_is_s, Dk.q_is_lt, Dk.q_is_ll, Dk.q_tru, Dk.q_lent, Dk.q_lenr, Dk.q_int, Dk.q_intb, Dk.q_abs, Dk.q_tupr, Dk.q_lstt, Dk.q_lst, Dk.q_tup, Dk.q_oka, Dk.q_oke, Dk.q_okj, Dk.q_app, Dk.q_ext, Dk.q_nm, Dk.q_tp, Dk.q_sa0, Dk.q_sa1, Dk.q_isn, Dk.q_isb, Dk.q_wipe0, Dk.q_wipe1, v2]
  refine (w10 37 "text" _ h2 (by decide +kernel)).mono (fun d h3 w => ?_) fun _ _ _ z => z.elim
  obtain ⟨rfl, g3⟩ := w
  simp [Dd.we_ret, Dd.we_bnd, Dd.we_lift, Dd.we_var, Dd.we_args_nil, Dd.we_args_cons, Dd.we_opN, Dd.we_op1, Dd.we_op2, Dd.we_call, Dd.we_tst, Dd.we_tru, Dd.we_notT, Dd.we_andT, Dd.we_orT, Dd.we_notV, Dd.we_andV, Dd.we_orV, Dd.we_ite, Dd.we_chn, Dd.we_mth, Dd.we_slice, Dd.we_intOf, Dd.nx_next, Dd.nx_ret, Dd.nx_ex, Dd.td_next, Dd.td_cont, Dd.td_brk, Dd.td_ret, Dd.td_ex, Dd.nx_brk, Dd.nx_cont, Dd.wp_skip, Dd.wp_seq, Dd.wp_drop, Dd.wp_ret, Dd.wp_asg, Dd.wp_if, Dd.wp_raise, Dd.wp_set, Dd.WO, Dk.eq_ss, Dk.ne_ss, Dk.eq_ii, Dk.ne_ii, Dk.sn_one_maybe, Dk.sn_one_many, Dk.sn_maybe_one, Dk.sn_maybe_many, Dk.sn_many_one, Dk.sn_many_maybe, Dk.sn_int_bool, Dk.sn_int_text, Dk.sn_bool_int, Dk.sn_bool_text, Dk.sn_text_int, Dk.sn_text_bool, Dk.isNot_non, Dk.q_add, Dk.q_addt, Dk.q_sub, Dk.q_mod, Dk.q_fdiv, Dk.q_mulr, Dk.q_mull, Dk.q_neg, Dk.q_lt, Dk.q_le, Dk.q_gt, Dk.q_ge, Dk.q_ix0, Dk.q_ix1, Dk.q_ix2, Dk.q_is_t, Dk.q_is_s, Dk.q_is_lt, Dk.q_is_ll, Dk.q_tru, Dk.q_lent, Dk.q_lenr, Dk.q_int, Dk.q_intb, Dk.q_abs, Dk.q_tupr, Dk.q_lstt, Dk.q_lst, Dk.q_tup, Dk.q_oka, Dk.q_oke, Dk.q_okj, Dk.q_app, Dk.q_ext, Dk.q_nm, Dk.q_tp, Dk.q_sa0, Dk.q_sa1, Dk.q_isn, Dk.q_isb, Dk.q_wipe0, Dk.q_wipe1, v3, end_ret]
end
theorem law_all (ns : List Int) : WC (pg.run 40) 30 [.frz ns] [] (fun d _ => d = .bl true) fun _ _ _ => False := by
  refine wc_of (f := f30) rfl e30 rfl ?_
  rw [La_eq]
  show WP (LaR1 F39) [some (.frz ns), none, none, none, none, none, none, none, none, none, none, none, none] [] QL
  refine wp_seq.mpr (st1 fun fs h1 p => ?_)
  refine wp_seq.mpr (st2 p fun vs h2 q => ?_)
  refine wp_seq.mpr (st3 p q fun h3 => ?_)
  refine wp_seq.mpr (st4 p fun C h4 l => ?_)
  refine wp_seq.mpr (st5 p l fun h5 l => ?_)
  refine wp_seq.mpr (st6 l fun s hs => ?_)
  refine wp_seq.mpr (st7 hs p l fun h7 l => ?_)
  refine wp_seq.mpr (st8 l fun Fd h8 ne l lf => ?_)
  refine wp_seq.mpr (st9 p ne l lf fun x6 h9 l lf => ?_)
  refine wp_seq.mpr (st10 p ne l lf fun h10 l lf => ?_)
  refine wp_seq.mpr (st11 l lf fun h11 l => ?_)
  refine wp_seq.mpr (st12 p l fun h12 l => ?_)
  refine wp_seq.mpr (st13 hs p fun x w h13 sp => ?_)
  refine wp_seq.mpr (st14 sp fun h14 => ?_)
  refine wp_seq.mpr (st15 hs fun j hj => ?_)
  refine wp_seq.mpr (st16 hj fun h16 => ?_)
  refine wp_seq.mpr (st17 hs p q fun x w h17 r => ?_)
  refine wp_seq.mpr (st18 r fun h18 => ?_)
  refine wp_seq.mpr st19
theorem main : ∀ ns : List Int, ns.length ≤ 63 → ∃ h', pg.run 40 30 [.frz ns] [] = some (.ok (.bl true), h') := by
  intro ns _
  obtain ⟨r, h', q, w⟩ := law_all ns
  cases r with
  | ex c p => exact w.elim
  | ok d =>
    have w : d = .bl true := w
    subst w
    exact ⟨h', q⟩
end Dk

set_option Elab.async false
set_option linter.all false
set_option maxRecDepth 100000
set_option maxHeartbeats 4000000
open PySem PySem.W PyProof.Rows
set_option maxRecDepth 100000 in
set_option maxHeartbeats 0 in
theorem PySem.Challenge.cw_stripestack_k00_schemas_and_records_holds : PySem.Challenge.rw_stripestack_k00_schemas_and_records.Holds := by
  w_on; o_law; k_head; (case hw => w_witness2); k_fill
  refine Dd.walkG (l := PySem.Challenge.rw_stripestack_k00_schemas_and_records) (n := 63) (k := 40) (sp := fun w => Dd.spLaw _ 63) rfl (by decide) rfl ⟨rfl, by decide, by decide⟩ (fun w h Y => PySem.W.kIn_of Y) ?F (fun w H a ns hn _ hf => ⟨a, ns, rfl, hn, hf, fun _ => rfl⟩)
  case F =>
    intro w mg fa h KX G hmg base _ _
    have d0 : Dd.KOf KX fun K => Dd.DefAt K mg "check_schema" Dk.s0 := by
      refine' Dd.def_mk KX G ?a ?l ?c ?k
      (case a => k_is); (case l => k_is); (case c => k_is); (case k => k_is)
    have d1 : Dd.KOf KX fun K => Dd.DefAt K mg "_check_fields" Dk.s1 := by
      refine' Dd.def_mk KX G ?a ?l ?c ?k
      (case a => k_is); (case l => k_is); (case c => k_is); (case k => k_is)
    have d2 : Dd.KOf KX fun K => Dd.DefAt K mg "_check_field" Dk.s2 := by
      refine' Dd.def_mk KX G ?a ?l ?c ?k
      (case a => k_is); (case l => k_is); (case c => k_is); (case k => k_is)
    have d3 : Dd.KOf KX fun K => Dd.DefAt K mg "_is_name" Dk.s3 := by
      refine' Dd.def_mk KX G ?a ?l ?c ?k
      (case a => k_is); (case l => k_is); (case c => k_is); (case k => k_is)
    have d4 : Dd.KOf KX fun K => Dd.DefAt K mg "columns_of" Dk.s4 := by
      refine' Dd.def_mk KX G ?a ?l ?c ?k
      (case a => k_is); (case l => k_is); (case c => k_is); (case k => k_is)
    have d5 : Dd.KOf KX fun K => Dd.DefAt K mg "_columns_below" Dk.s5 := by
      refine' Dd.def_mk KX G ?a ?l ?c ?k
      (case a => k_is); (case l => k_is); (case c => k_is); (case k => k_is)
    have d6 : Dd.KOf KX fun K => Dd.DefAt K mg "paths_of" Dk.s6 := by
      refine' Dd.def_mk KX G ?a ?l ?c ?k
      (case a => k_is); (case l => k_is); (case c => k_is); (case k => k_is)
    have d7 : Dd.KOf KX fun K => Dd.DefAt K mg "column_of" Dk.s7 := by
      refine' Dd.def_mk KX G ?a ?l ?c ?k
      (case a => k_is); (case l => k_is); (case c => k_is); (case k => k_is)
    have d8 : Dd.KOf KX fun K => Dd.DefAt K mg "project_schema" Dk.s8 := by
      refine' Dd.def_mk KX G ?a ?l ?c ?k
      (case a => k_is); (case l => k_is); (case c => k_is); (case k => k_is)
    have d9 : Dd.KOf KX fun K => Dd.DefAt K mg "_kept_fields" Dk.s9 := by
      refine' Dd.def_mk KX G ?a ?l ?c ?k
      (case a => k_is); (case l => k_is); (case c => k_is); (case k => k_is)
    have d10 : Dd.KOf KX fun K => Dd.DefAt K mg "is_value" Dk.s10 := by
      refine' Dd.def_mk KX G ?a ?l ?c ?k
      (case a => k_is); (case l => k_is); (case c => k_is); (case k => k_is)
    have d11 : Dd.KOf KX fun K => Dd.DefAt K mg "_is_int" Dk.s11 := by
      refine' Dd.def_mk KX G ?a ?l ?c ?k
      (case a => k_is); (case l => k_is); (case c => k_is); (case k => k_is)
    have d12 : Dd.KOf KX fun K => Dd.DefAt K mg "_is_text" Dk.s12 := by
      refine' Dd.def_mk KX G ?a ?l ?c ?k
      (case a => k_is); (case l => k_is); (case c => k_is); (case k => k_is)
    have d13 : Dd.KOf KX fun K => Dd.DefAt K mg "check_record" Dk.s13 := by
      refine' Dd.def_mk KX G ?a ?l ?c ?k
      (case a => k_is); (case l => k_is); (case c => k_is); (case k => k_is)
    have d14 : Dd.KOf KX fun K => Dd.DefAt K mg "_check_times" Dk.s14 := by
      refine' Dd.def_mk KX G ?a ?l ?c ?k
      (case a => k_is); (case l => k_is); (case c => k_is); (case k => k_is)
    have d15 : Dd.KOf KX fun K => Dd.DefAt K mg "_check_kind" Dk.s15 := by
      refine' Dd.def_mk KX G ?a ?l ?c ?k
      (case a => k_is); (case l => k_is); (case c => k_is); (case k => k_is)
    have d16 : Dd.KOf KX fun K => Dd.DefAt K mg "_law_cell" Dk.s16 := by
      refine' Dd.def_mk KX G ?a ?l ?c ?k
      (case a => k_is); (case l => k_is); (case c => k_is); (case k => k_is)
    have d17 : Dd.KOf KX fun K => Dd.DefAt K mg "_law_numbers" Dk.s17 := by
      refine' Dd.def_mk KX G ?a ?l ?c ?k
      (case a => k_is); (case l => k_is); (case c => k_is); (case k => k_is)
    have d18 : Dd.KOf KX fun K => Dd.DefAt K mg "_law_feed" Dk.s18 := by
      refine' Dd.def_mk KX G ?a ?l ?c ?k
      (case a => k_is); (case l => k_is); (case c => k_is); (case k => k_is)
    have d19 : Dd.KOf KX fun K => Dd.DefAt K mg "_law_take" Dk.s19 := by
      refine' Dd.def_mk KX G ?a ?l ?c ?k
      (case a => k_is); (case l => k_is); (case c => k_is); (case k => k_is)
    have d20 : Dd.KOf KX fun K => Dd.DefAt K mg "_law_fields" Dk.s20 := by
      refine' Dd.def_mk KX G ?a ?l ?c ?k
      (case a => k_is); (case l => k_is); (case c => k_is); (case k => k_is)
    have d21 : Dd.KOf KX fun K => Dd.DefAt K mg "_law_leaf" Dk.s21 := by
      refine' Dd.def_mk KX G ?a ?l ?c ?k
      (case a => k_is); (case l => k_is); (case c => k_is); (case k => k_is)
    have d22 : Dd.KOf KX fun K => Dd.DefAt K mg "_law_value" Dk.s22 := by
      refine' Dd.def_mk KX G ?a ?l ?c ?k
      (case a => k_is); (case l => k_is); (case c => k_is); (case k => k_is)
    have d23 : Dd.KOf KX fun K => Dd.DefAt K mg "_law_record" Dk.s23 := by
      refine' Dd.def_mk KX G ?a ?l ?c ?k
      (case a => k_is); (case l => k_is); (case c => k_is); (case k => k_is)
    have d24 : Dd.KOf KX fun K => Dd.DefAt K mg "_law_columns" Dk.s24 := by
      refine' Dd.def_mk KX G ?a ?l ?c ?k
      (case a => k_is); (case l => k_is); (case c => k_is); (case k => k_is)
    have d25 : Dd.KOf KX fun K => Dd.DefAt K mg "_law_spoil" Dk.s25 := by
      refine' Dd.def_mk KX G ?a ?l ?c ?k
      (case a => k_is); (case l => k_is); (case c => k_is); (case k => k_is)
    have d26 : Dd.KOf KX fun K => Dd.DefAt K mg "_law_deep" Dk.s26 := by
      refine' Dd.def_mk KX G ?a ?l ?c ?k
      (case a => k_is); (case l => k_is); (case c => k_is); (case k => k_is)
    have d27 : Dd.KOf KX fun K => Dd.DefAt K mg "_law_schema_word" Dk.s27 := by
      refine' Dd.def_mk KX G ?a ?l ?c ?k
      (case a => k_is); (case l => k_is); (case c => k_is); (case k => k_is)
    have d28 : Dd.KOf KX fun K => Dd.DefAt K mg "_law_record_word" Dk.s28 := by
      refine' Dd.def_mk KX G ?a ?l ?c ?k
      (case a => k_is); (case l => k_is); (case c => k_is); (case k => k_is)
    have d29 : Dd.KOf KX fun K => Dd.DefAt K mg "_law_bad_value" Dk.s29 := by
      refine' Dd.def_mk KX G ?a ?l ?c ?k
      (case a => k_is); (case l => k_is); (case c => k_is); (case k => k_is)
    have d30 : Dd.KOf KX fun K => Dd.DefAt K mg "law" Dk.s30 := by
      refine' Dd.def_mk KX G ?a ?l ?c ?k
      (case a => k_is); (case l => k_is); (case c => k_is); (case k => k_is)
    have c0 : Dd.KOf KX fun K => Dd.ConAt K w mg "MOST_FIELDS" (.int 12) := by
      refine' Dd.con_int KX G ?a
      (case a => k_is)
    have c1 : Dd.KOf KX fun K => Dd.ConAt K w mg "MOST_LEVELS" (.int 5) := by
      refine' Dd.con_int KX G ?a
      (case a => k_is)
    have c2 : Dd.KOf KX fun K => Dd.ConAt K w mg "MOST_NAME" (.int 12) := by
      refine' Dd.con_int KX G ?a
      (case a => k_is)
    have c3 : Dd.KOf KX fun K => Dd.ConAt K w mg "NAME_SIGNS" (.str "abcdefghijklmnopqrstuvwxyz0123456789") := by
      refine' Dd.con_str KX G ?a
      (case a => k_is)
    have c4 : Dd.KOf KX fun K => Dd.ConAt K w mg "KINDS" (.kt [.str "int", .str "bool", .str "text"]) := by
      refine' Dd.con_kt KX G ?a ?r
      (case a => k_is)
      (case r => exact (Dd.kt_mk (vs := [.str "int", .str "bool", .str "text"]) (by k_is) rfl (by decide) (.cons ⟨_, rfl⟩ (.cons ⟨_, rfl⟩ (.cons ⟨_, rfl⟩ (.nil)))) (⟨_, _, rfl, rfl, ⟨_, _, rfl, rfl, ⟨_, _, rfl, rfl, rfl⟩⟩⟩)))
    have c5 : Dd.KOf KX fun K => Dd.ConAt K w mg "ADDED" (.wd [("one", .kt [.int 0, .int 0]), ("maybe", .kt [.int 1, .int 0]), ("many", .kt [.int 1, .int 1])]) := by
      refine' Dd.con_wd KX G ?a (Dd.wd_mk ?l ?t ?o ?e)
      (case a => k_is); (case l => k_is)
      (case t => exact ⟨⟨_, _, rfl, rfl⟩, ⟨⟨_, _, rfl, rfl⟩, ⟨⟨_, _, rfl, rfl⟩, trivial⟩⟩⟩)
      (case o => decide)
      (case e => exact ⟨_, _, _, _, .ref _, rfl, rfl, rfl, (Dd.kt_mk (vs := [.int 0, .int 0]) (by k_is) rfl (by decide) (.cons ⟨_, rfl⟩ (.cons ⟨_, rfl⟩ (.nil))) (⟨_, _, rfl, rfl, ⟨_, _, rfl, rfl, rfl⟩⟩)), ⟨_, _, _, _, .ref _, rfl, rfl, rfl, (Dd.kt_mk (vs := [.int 1, .int 0]) (by k_is) rfl (by decide) (.cons ⟨_, rfl⟩ (.cons ⟨_, rfl⟩ (.nil))) (⟨_, _, rfl, rfl, ⟨_, _, rfl, rfl, rfl⟩⟩)), ⟨_, _, _, _, .ref _, rfl, rfl, rfl, (Dd.kt_mk (vs := [.int 1, .int 1]) (by k_is) rfl (by decide) (.cons ⟨_, rfl⟩ (.cons ⟨_, rfl⟩ (.nil))) (⟨_, _, rfl, rfl, ⟨_, _, rfl, rfl, rfl⟩⟩)), rfl⟩⟩⟩)
    have c6 : Dd.KOf KX fun K => Dd.ConAt K w mg "LEAST_INT" (.int (-2147483648)) := by
      refine' Dd.con_int KX G ?a
      (case a => k_is)
    have c7 : Dd.KOf KX fun K => Dd.ConAt K w mg "GREATEST_INT" (.int 2147483647) := by
      refine' Dd.con_int KX G ?a
      (case a => k_is)
    have c8 : Dd.KOf KX fun K => Dd.ConAt K w mg "MOST_TEXT" (.int 60) := by
      refine' Dd.con_int KX G ?a
      (case a => k_is)
    have c9 : Dd.KOf KX fun K => Dd.ConAt K w mg "BARRED_CODE" (.int 37) := by
      refine' Dd.con_int KX G ?a
      (case a => k_is)
    obtain ⟨C0, I0, T0⟩ : Dd.KOf KX fun K => ∃ C fI, PySem.OWhy.OTxt K mg "BadSchema" C fI := by
      refine' Dd.own_why KX G ?aC ?xL ?rv ?sa ?ga ?gg ?nb ?a1 ?t1 ?l1 ?c1 ?kC ?eC ?tC ?hC ?iC ?sC
      (case aC => k_is); (case xL => k_is); (case rv => decide +kernel); (case sa => k_is); (case ga => k_is); (case gg => k_is); (case nb => k_is); (case a1 => k_is); (case t1 => k_is)
      (case l1 => k_is); (case c1 => k_is); (case kC => k_is); (case eC => k_is); (case tC => k_is); (case hC => k_is); (case iC => k_is); (case sC => first | rfl | k_is)
    obtain ⟨C1, I1, T1⟩ : Dd.KOf KX fun K => ∃ C fI, PySem.OWhy.OTxt K mg "BadRecord" C fI := by
      refine' Dd.own_why KX G ?aC ?xL ?rv ?sa ?ga ?gg ?nb ?a1 ?t1 ?l1 ?c1 ?kC ?eC ?tC ?hC ?iC ?sC
      (case aC => k_is); (case xL => k_is); (case rv => decide +kernel); (case sa => k_is); (case ga => k_is); (case gg => k_is); (case nb => k_is); (case a1 => k_is); (case t1 => k_is)
      (case l1 => k_is); (case c1 => k_is); (case kC => k_is); (case eC => k_is); (case tC => k_is); (case hC => k_is); (case iC => k_is); (case sC => first | rfl | k_is)
    obtain ⟨C2, I2, T2⟩ : Dd.KOf KX fun K => ∃ C fI, PySem.OPath.OTxt K mg "NoColumn" C fI := by
      refine' Dd.own_path KX G ?aC ?xL ?rv ?sa ?ga ?gg ?nb ?a1 ?t1 ?l1 ?c1 ?kC ?eC ?tC ?hC ?iC ?sC
      (case aC => k_is); (case xL => k_is); (case rv => decide +kernel); (case sa => k_is); (case ga => k_is); (case gg => k_is); (case nb => k_is); (case a1 => k_is); (case t1 => k_is)
      (case l1 => k_is); (case c1 => k_is); (case kC => k_is); (case eC => k_is); (case tC => k_is); (case hC => k_is); (case iC => k_is); (case sC => first | rfl | k_is)
    have bl : ∀ x ∈ Dd.bltNms, mg x = none := by
      have z : ∀ x ∈ (["len", "abs", "int", "str", "tuple", "list", "all", "any", "ord", "repr", "min", "max", "tuple", "str", "int", "bool", "list", "dict", "isinstance", "range", "enumerate", "zip", "reversed", "sorted", "ValueError"] : List PySem.Str), mg x = none := by
        refine List.forall_mem_cons.mpr ⟨by refine' PySem.W.mg_none_of KX G ?_; k_is, ?_⟩
        refine List.forall_mem_cons.mpr ⟨by refine' PySem.W.mg_none_of KX G ?_; k_is, ?_⟩
        refine List.forall_mem_cons.mpr ⟨by refine' PySem.W.mg_none_of KX G ?_; k_is, ?_⟩
        refine List.forall_mem_cons.mpr ⟨by refine' PySem.W.mg_none_of KX G ?_; k_is, ?_⟩
        refine List.forall_mem_cons.mpr ⟨by refine' PySem.W.mg_none_of KX G ?_; k_is, ?_⟩
        refine List.forall_mem_cons.mpr ⟨by refine' PySem.W.mg_none_of KX G ?_; k_is, ?_⟩
        refine List.forall_mem_cons.mpr ⟨by refine' PySem.W.mg_none_of KX G ?_; k_is, ?_⟩
        refine List.forall_mem_cons.mpr ⟨by refine' PySem.W.mg_none_of KX G ?_; k_is, ?_⟩
        refine List.forall_mem_cons.mpr ⟨by refine' PySem.W.mg_none_of KX G ?_; k_is, ?_⟩
        refine List.forall_mem_cons.mpr ⟨by refine' PySem.W.mg_none_of KX G ?_; k_is, ?_⟩
        refine List.forall_mem_cons.mpr ⟨by refine' PySem.W.mg_none_of KX G ?_; k_is, ?_⟩
        refine List.forall_mem_cons.mpr ⟨by refine' PySem.W.mg_none_of KX G ?_; k_is, ?_⟩
        refine List.forall_mem_cons.mpr ⟨by refine' PySem.W.mg_none_of KX G ?_; k_is, ?_⟩
        refine List.forall_mem_cons.mpr ⟨by refine' PySem.W.mg_none_of KX G ?_; k_is, ?_⟩
        refine List.forall_mem_cons.mpr ⟨by refine' PySem.W.mg_none_of KX G ?_; k_is, ?_⟩
        refine List.forall_mem_cons.mpr ⟨by refine' PySem.W.mg_none_of KX G ?_; k_is, ?_⟩
        refine List.forall_mem_cons.mpr ⟨by refine' PySem.W.mg_none_of KX G ?_; k_is, ?_⟩
        refine List.forall_mem_cons.mpr ⟨by refine' PySem.W.mg_none_of KX G ?_; k_is, ?_⟩
        refine List.forall_mem_cons.mpr ⟨by refine' PySem.W.mg_none_of KX G ?_; k_is, ?_⟩
        refine List.forall_mem_cons.mpr ⟨by refine' PySem.W.mg_none_of KX G ?_; k_is, ?_⟩
        refine List.forall_mem_cons.mpr ⟨by refine' PySem.W.mg_none_of KX G ?_; k_is, ?_⟩
        refine List.forall_mem_cons.mpr ⟨by refine' PySem.W.mg_none_of KX G ?_; k_is, ?_⟩
        refine List.forall_mem_cons.mpr ⟨by refine' PySem.W.mg_none_of KX G ?_; k_is, ?_⟩
        refine List.forall_mem_cons.mpr ⟨by refine' PySem.W.mg_none_of KX G ?_; k_is, ?_⟩
        refine List.forall_mem_cons.mpr ⟨by refine' PySem.W.mg_none_of KX G ?_; k_is, ?_⟩
        exact fun x hx => nomatch hx
      exact z
    have L : Dd.KOf KX fun K => Dd.Lk w K mg Dk.pg (fun c => match c with | 0 => C0 | 1 => C1 | 2 => C2 | _ => C0) (fun c => match c with | 0 => "why" | 1 => "why" | 2 => "path" | _ => "why") := by
      refine ⟨?f1, bl, ?f2, ?f3, ?f4⟩
      case f1 =>
        have z : Dd.KOf KX fun K => ∀ f ∈ Dk.pg.fns, Dd.LkF K mg f := by
          refine List.forall_mem_cons.mpr ⟨Dd.lkF Dk.o0 d0, ?_⟩
          refine List.forall_mem_cons.mpr ⟨Dd.lkF Dk.o1 d1, ?_⟩
          refine List.forall_mem_cons.mpr ⟨Dd.lkF Dk.o2 d2, ?_⟩
          refine List.forall_mem_cons.mpr ⟨Dd.lkF Dk.o3 d3, ?_⟩
          refine List.forall_mem_cons.mpr ⟨Dd.lkF Dk.o4 d4, ?_⟩
          refine List.forall_mem_cons.mpr ⟨Dd.lkF Dk.o5 d5, ?_⟩
          refine List.forall_mem_cons.mpr ⟨Dd.lkF Dk.o6 d6, ?_⟩
          refine List.forall_mem_cons.mpr ⟨Dd.lkF Dk.o7 d7, ?_⟩
          refine List.forall_mem_cons.mpr ⟨Dd.lkF Dk.o8 d8, ?_⟩
          refine List.forall_mem_cons.mpr ⟨Dd.lkF Dk.o9 d9, ?_⟩
          refine List.forall_mem_cons.mpr ⟨Dd.lkF Dk.o10 d10, ?_⟩
          refine List.forall_mem_cons.mpr ⟨Dd.lkF Dk.o11 d11, ?_⟩
          refine List.forall_mem_cons.mpr ⟨Dd.lkF Dk.o12 d12, ?_⟩
          refine List.forall_mem_cons.mpr ⟨Dd.lkF Dk.o13 d13, ?_⟩
          refine List.forall_mem_cons.mpr ⟨Dd.lkF Dk.o14 d14, ?_⟩
          refine List.forall_mem_cons.mpr ⟨Dd.lkF Dk.o15 d15, ?_⟩
          refine List.forall_mem_cons.mpr ⟨Dd.lkF Dk.o16 d16, ?_⟩
          refine List.forall_mem_cons.mpr ⟨Dd.lkF Dk.o17 d17, ?_⟩
          refine List.forall_mem_cons.mpr ⟨Dd.lkF Dk.o18 d18, ?_⟩
          refine List.forall_mem_cons.mpr ⟨Dd.lkF Dk.o19 d19, ?_⟩
          refine List.forall_mem_cons.mpr ⟨Dd.lkF Dk.o20 d20, ?_⟩
          refine List.forall_mem_cons.mpr ⟨Dd.lkF Dk.o21 d21, ?_⟩
          refine List.forall_mem_cons.mpr ⟨Dd.lkF Dk.o22 d22, ?_⟩
          refine List.forall_mem_cons.mpr ⟨Dd.lkF Dk.o23 d23, ?_⟩
          refine List.forall_mem_cons.mpr ⟨Dd.lkF Dk.o24 d24, ?_⟩
          refine List.forall_mem_cons.mpr ⟨Dd.lkF Dk.o25 d25, ?_⟩
          refine List.forall_mem_cons.mpr ⟨Dd.lkF Dk.o26 d26, ?_⟩
          refine List.forall_mem_cons.mpr ⟨Dd.lkF Dk.o27 d27, ?_⟩
          refine List.forall_mem_cons.mpr ⟨Dd.lkF Dk.o28 d28, ?_⟩
          refine List.forall_mem_cons.mpr ⟨Dd.lkF Dk.o29 d29, ?_⟩
          refine List.forall_mem_cons.mpr ⟨Dd.lkF Dk.o30 d30, ?_⟩
          exact fun x hx => nomatch hx
        exact fun k f hf => z f (List.mem_of_getElem? hf)
      case f2 =>
        have z : Dd.KOf KX fun K => ∀ p ∈ Dk.pg.con, Dd.ConAt K w mg p.1 p.2 := by
          refine List.forall_mem_cons.mpr ⟨c0, ?_⟩
          refine List.forall_mem_cons.mpr ⟨c1, ?_⟩
          refine List.forall_mem_cons.mpr ⟨c2, ?_⟩
          refine List.forall_mem_cons.mpr ⟨c3, ?_⟩
          refine List.forall_mem_cons.mpr ⟨c4, ?_⟩
          refine List.forall_mem_cons.mpr ⟨c5, ?_⟩
          refine List.forall_mem_cons.mpr ⟨c6, ?_⟩
          refine List.forall_mem_cons.mpr ⟨c7, ?_⟩
          refine List.forall_mem_cons.mpr ⟨c8, ?_⟩
          refine List.forall_mem_cons.mpr ⟨c9, ?_⟩
          exact fun x hx => nomatch hx
        exact fun x d hd => z (x, d) (Dd.lookup_mem hd)
      case f3 =>
        intro x c hx
        rcases Dd.ex0 hx with ⟨rfl, rfl⟩ | hx
        · exact Dd.ExcT.of_why T0
        rcases Dd.ex0 hx with ⟨rfl, rfl⟩ | hx
        · exact Dd.ExcT.of_why T1
        rcases Dd.ex0 hx with ⟨rfl, rfl⟩ | hx
        · exact Dd.ExcT.of_path T2
        cases hx
      case f4 =>
        intro c x f hx
        match c, hx with
        | 0, hx => cases hx; rfl
        | 1, hx => cases hx; rfl
        | 2, hx => cases hx; rfl
        | _ + 3, hx => cases hx
    exact Dd.law_of L (li := 30) (f := Dk.f30) rfl hmg Dk.main

