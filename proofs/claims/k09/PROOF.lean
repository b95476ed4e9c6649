import PyProof.Rows.All
import Wide.All
import OpenK.AllK
import Wide.FinOn
import HandS.ForMost
import HandS.ForExc
import HandS.More
import HandS.TupAny
import HandS.TupLe
import HandS.IsInst
import HandS.DictComp
import KE.KTryBack
import PyProof.ReprRoads
import HandS.Conv
import PyProof.WalkInts
import HandS.SetFor
import HandS.Zip
import HandS.Iter
import PyProof.Rows.ChunkEnd
import HandS.WideBits
import KE.KBits
import KE.KIntText
import PyProof.Rows.ReprOcc
import PySem.Challenge.RW_stripestack_k09_pages_of_any_size
set_option Elab.async false
set_option linter.all false
set_option maxRecDepth 100000
set_option maxHeartbeats 4000000
namespace Dd
open PySem L2

/-! # 1. Plain data and what it stands for -/
inductive D where
  | non
  | bl (b : Bool)
  | int (i : Int)
  | str (x : Str)
  | tup (xs : List D)
  /-- a written tuple -/
  | kt (xs : List D)
  | ref (i : Nat)
  | frz (ns : List Int)
  | wd (kvs : List (Str × D))
  /-- a list, a dict (keys ints and texts; keys tuples), an instance that nobody writes any more -/
  | vl (xs : List D)
  | vk (ks : List Key) (xs : List D)
  | vt (ks : List (List Key)) (xs : List D)
  | vi (c : Nat) (fs : List Str) (xs : List D)
  deriving Inhabited

/-- an object of the logical heap; fl, fk, ft: nobody writes it any more -/
inductive Ob where
  | lst (xs : List D)
  | fl (xs : List D)
  | dk (kvs : List (Key × D))
  | fk (kvs : List (Key × D))
  | dt (kvs : List (List Key × D))
  | ft (kvs : List (List Key × D))
  | ins (c : Nat) (fs : List (Str × D))
  deriving Inhabited
def Ob.mut : Ob → Bool
  | .lst _ => true | .dk _ => true | .dt _ => true | .ins _ _ => true
  | _ => false

abbrev DH := List Ob
abbrev DE := List (Option D)
/-- where the objects stand; who may still write what; where the classes stand -/
structure Mp where
  l : List Addr
  ww : Addr → Prop
  kc : Nat → Addr

section
variable (K : PySem.W.Frag) (w : World)
/-- a written tuple -/
def KTup (a : Addr) (vs : List V) : Prop :=
  ∃ (o : Obj) (its : Array Value) (n : Nat), K.lookup a = some o ∧ o.cls = .type "tuple" ∧ o.data = .seq its n ∧ its.size ≤ sizeLine ∧ Vals vs its.toList
mutual
def RelK : D → V → Prop
  | .non, v => v = .non
  | .bl b, v => v = .bl b
  | .int i, v => v = .int i
  | .str x, v => v = .str x
  | .kt xs, v => ∃ a vs, v = .ref a ∧ KTup K a vs ∧ RelKs xs vs
  | _, _ => False
def RelKs : List D → List V → Prop
  | [], vs => vs = []
  | d :: ds, vs => ∃ v vs', vs = v :: vs' ∧ RelK d v ∧ RelKs ds vs'
end
/-- what a written dict gives at a key -/
def WdAt (a : Addr) (z : Str) : Option D → Prop
  | some d => ∃ u0 v0, PySem.W.nsIn K a z = some (some u0) ∧ RelV v0 u0 ∧ RelK K d v0
  | none => PySem.W.nsIn K a z = some none
def RelW (kvs : List (Str × D)) (v : V) : Prop := ∃ a es n, v = .ref a ∧ KDict K w a es n ∧ ∀ z, WdAt K a z (kvs.lookup z)
/-- a list that nobody writes -/
def FrzL (H : Hp) (a : Addr) (xs : List V) : Prop := (∃ o, H a = some (.frz o (.lst xs))) ∨
  ∃ (o : Obj) (its : Array Value) (n : Nat), K.lookup a = some o ∧ o.cls = .type "list" ∧ o.dict = none ∧ o.data = .seq its n ∧ its.size ≤ sizeLine ∧ Vals xs its.toList
variable (m : Mp) (H : Hp)
mutual
def RelD : D → V → Prop
  | .non, v => v = .non
  | .bl b, v => v = .bl b
  | .int i, v => v = .int i
  | .str x, v => v = .str x
  | .tup xs, v => ∃ a vs, v = .ref a ∧ H a = some (.tup vs) ∧ RelDs xs vs
  | .kt xs, v => ∃ a vs, v = .ref a ∧ KTup K a vs ∧ RelKs K xs vs
  | .ref i, v => ∃ a, m.l[i]? = some a ∧ v = .ref a
  | .frz ns, v => ∃ a, v = .ref a ∧ FrzL K H a (ns.map V.int)
  | .wd kvs, v => RelW K w kvs v
  | .vl xs, v => ∃ a vs, v = .ref a ∧ H a = some (.lst vs) ∧ ¬ m.ww a ∧ RelDs xs vs
  | .vk ks xs, v => ∃ a vs, v = .ref a ∧ H a = some (.dK (ks.zip vs)) ∧ ¬ m.ww a ∧ ks.length = xs.length ∧ RelDs xs vs
  | .vt ks xs, v => ∃ a vs, v = .ref a ∧ H a = some (.dT (ks.zip vs)) ∧ ¬ m.ww a ∧ ks.length = xs.length ∧ RelDs xs vs
  | .vi c fs xs, v => ∃ a dx vs, v = .ref a ∧ H a = some (.ins (m.kc c) dx (fs.zip vs)) ∧ ¬ m.ww a ∧ fs.length = xs.length ∧ RelDs xs vs
def RelDs : List D → List V → Prop
  | [], vs => vs = []
  | d :: ds, vs => ∃ v vs', vs = v :: vs' ∧ RelD d v ∧ RelDs ds vs'
end
def RelKV {κ : Type} : List (κ × D) → List (κ × V) → Prop
  | [], vs => vs = []
  | p :: ps, vs => ∃ v vs', vs = (p.1, v) :: vs' ∧ RelD K w m H p.2 v ∧ RelKV ps vs'
def RelOb : Ob → HO → Prop
  | .lst ds, o => ∃ vs, o = .lst vs ∧ RelDs K w m H ds vs
  | .fl ds, o => ∃ vs, o = .lst vs ∧ RelDs K w m H ds vs
  | .dk kvs, o => ∃ vs, o = .dK vs ∧ RelKV K w m H kvs vs
  | .fk kvs, o => ∃ vs, o = .dK vs ∧ RelKV K w m H kvs vs
  | .dt kvs, o => ∃ vs, o = .dT vs ∧ RelKV K w m H kvs vs
  | .ft kvs, o => ∃ vs, o = .dT vs ∧ RelKV K w m H kvs vs
  | .ins c fs, o => ∃ dx vs, o = .ins (m.kc c) dx vs ∧ RelKV K w m H fs vs
end

/-- what never changes once it is tracked -/
def Imm : HO → Bool
  | .tup _ => true
  | .frz _ _ => true
  | .xd _ => true
  | .own _ => true
  | _ => false
structure Ext (m : Mp) (H : Hp) (m' : Mp) (H' : Hp) : Prop where
  pre : ∃ more, m'.l = m.l ++ more
  kc : m'.kc = m.kc
  imm : ∀ b o, H b = some o → (Imm o = true ∨ b ∉ m.l ∨ ¬ m.ww b) → H' b = some o
  ww : ∀ b, m'.ww b → m.ww b ∨ H b = none
  new : ∀ b, b ∈ m'.l → b ∈ m.l ∨ H b = none
  keep : ∀ b o, m.ww b → H b = some o → b ∉ m.l → m'.ww b
theorem Ext.refl (m : Mp) (H : Hp) : Ext m H m H := ⟨⟨[], (List.append_nil _).symm⟩, rfl, fun _ _ h _ => h, fun _ h => .inl h, fun _ h => .inl h, fun _ _ h _ _ => h⟩
theorem Ext.trans {m m1 m2 : Mp} {H H1 H2 : Hp} (a : Ext m H m1 H1) (b : Ext m1 H1 m2 H2) : Ext m H m2 H2 := by
  obtain ⟨x, ex⟩ := a.pre
  obtain ⟨y, ey⟩ := b.pre
  have nl : ∀ c o, H c = some o → c ∉ m.l → c ∉ m1.l := fun c o h n z => by
    rcases a.new c z with z | z
    · exact n z
    · rw [h] at z; cases z
  have nw : ∀ c o, H c = some o → ¬ m.ww c → ¬ m1.ww c := fun c o h n z => by
    rcases a.ww c z with z | z
    · exact n z
    · rw [h] at z; cases z
  have back : ∀ c, H1 c = none → H c = none ∨ (c ∈ m.l ∧ m.ww c) := fun c h => by
    cases q : H c with
    | none => exact .inl rfl
    | some o =>
      refine .inr ⟨?_, ?_⟩
      · refine Classical.byContradiction fun z => ?_
        have := a.imm c o q (.inr (.inl z))
        rw [h] at this; cases this
      · refine Classical.byContradiction fun z => ?_
        have := a.imm c o q (.inr (.inr z))
        rw [h] at this; cases this
  refine ⟨⟨x ++ y, by rw [ey, ex, List.append_assoc]⟩, b.kc.trans a.kc, fun c o h i => ?_, fun c h => ?_, fun c h => ?_, fun c o h1 h2 h3 => ?_⟩
  · refine b.imm c o (a.imm c o h i) ?_
    rcases i with i | i | i
    · exact .inl i
    · exact .inr (.inl (nl c o h i))
    · exact .inr (.inr (nw c o h i))
  · rcases b.ww c h with h | h
    · exact a.ww c h
    · rcases back c h with h | h
      · exact .inr h
      · exact .inl h.2
  · rcases b.new c h with h | h
    · exact a.new c h
    · rcases back c h with h | h
      · exact .inr h
      · exact .inl h.1
  · exact b.keep c o (a.keep c o h1 h2 h3) (a.imm c o h2 (.inr (.inl h3))) (nl c o h2 h3)
theorem Ext.ix {m m' : Mp} {H H' : Hp} (e : Ext m H m' H') {i : Nat} {a : Addr} (h : m.l[i]? = some a) : m'.l[i]? = some a := by
  obtain ⟨x, ex⟩ := e.pre
  have hi := (List.getElem?_eq_some_iff.mp h).1
  rw [ex, List.getElem?_append_left hi, h]
theorem Ext.imm1 {m m' : Mp} {H H' : Hp} (e : Ext m H m' H') {b : Addr} {o : HO} (h : H b = some o) (i : Imm o = true) : H' b = some o := e.imm b o h (.inl i)
theorem Ext.fix {m m' : Mp} {H H' : Hp} (e : Ext m H m' H') {b : Addr} {o : HO} (h : H b = some o) (i : ¬ m.ww b) : H' b = some o ∧ ¬ m'.ww b :=
  ⟨e.imm b o h (.inr (.inr i)), fun z => (e.ww b z).elim i fun z => by rw [h] at z; cases z⟩
/-- one more that may be written -/
def Mp.add (m : Mp) (p : Addr) : Mp := ⟨m.l ++ [p], fun b => m.ww b ∨ b = p, m.kc⟩
theorem Ext.upd_new {m : Mp} {H : Hp} {p : Addr} {o : HO} (h : H p = none) : Ext m H m (upd H p o) :=
  ⟨⟨[], (List.append_nil _).symm⟩, rfl, fun b u e _ => by rw [upd_ne (ne_of_none e h)]; exact e, fun _ h => .inl h, fun _ h => .inl h, fun _ _ h _ _ => h⟩
theorem Ext.upd_add {m : Mp} {H : Hp} {p : Addr} {o : HO} (h : H p = none) : Ext m H (m.add p) (upd H p o) :=
  ⟨⟨[p], rfl⟩, rfl, fun b u e _ => by rw [upd_ne (ne_of_none e h)]; exact e, fun b z => z.elim .inl fun z => .inr (by rw [z]; exact h),
    fun b z => (List.mem_append.mp z).elim .inl fun z => .inr (by rw [List.mem_singleton.mp z]; exact h), fun _ _ h _ _ => .inl h⟩

section
variable {K : PySem.W.Frag} {w : World} {m m' : Mp} {H H' : Hp}
theorem FrzL.ext (e : Ext m H m' H') {a : Addr} {xs : List V} (h : FrzL K H a xs) : FrzL K H' a xs := by
  rcases h with ⟨o, h⟩ | h
  · exact .inl ⟨o, e.imm1 h rfl⟩
  · exact .inr h
theorem FrzL.sq {a : Addr} {xs : List V} (h : FrzL K H a xs) : SqL K H a xs := by
  rcases h with ⟨o, h⟩ | h
  · exact .inl (.inr ⟨o, h⟩)
  · exact .inr h
theorem KTup.sq {a : Addr} {xs : List V} (h : KTup K a xs) : SqT K H a xs := .inr h
mutual
theorem RelD.ext (e : Ext m H m' H') : ∀ (d : D) (v : V), RelD K w m H d v → RelD K w m' H' d v
  | .non, _, h => h
  | .bl _, _, h => h
  | .int _, _, h => h
  | .str _, _, h => h
  | .tup xs, _, h => by
    obtain ⟨a, vs, e1, h1, h2⟩ := h
    exact ⟨a, vs, e1, e.imm1 h1 rfl, RelDs.ext e xs vs h2⟩
  | .kt _, _, h => h
  | .ref i, _, h => by
    obtain ⟨a, h1, h2⟩ := h
    exact ⟨a, e.ix h1, h2⟩
  | .frz _, _, h => by
    obtain ⟨a, h1, h2⟩ := h
    exact ⟨a, h1, h2.ext e⟩
  | .wd _, _, h => h
  | .vl xs, _, h => by
    obtain ⟨a, vs, e1, h1, h2, h3⟩ := h
    exact ⟨a, vs, e1, (e.fix h1 h2).1, (e.fix h1 h2).2, RelDs.ext e xs vs h3⟩
  | .vk ks xs, _, h => by
    obtain ⟨a, vs, e1, h1, h2, h4, h3⟩ := h
    exact ⟨a, vs, e1, (e.fix h1 h2).1, (e.fix h1 h2).2, h4, RelDs.ext e xs vs h3⟩
  | .vt ks xs, _, h => by
    obtain ⟨a, vs, e1, h1, h2, h4, h3⟩ := h
    exact ⟨a, vs, e1, (e.fix h1 h2).1, (e.fix h1 h2).2, h4, RelDs.ext e xs vs h3⟩
  | .vi c fs xs, _, h => by
    obtain ⟨a, dx, vs, e1, h1, h2, h4, h3⟩ := h
    exact ⟨a, dx, vs, e1, by rw [e.kc]; exact (e.fix h1 h2).1, (e.fix h1 h2).2, h4, RelDs.ext e xs vs h3⟩
theorem RelDs.ext (e : Ext m H m' H') : ∀ (ds : List D) (vs : List V), RelDs K w m H ds vs → RelDs K w m' H' ds vs
  | [], _, h => h
  | d :: ds, _, h => by
    obtain ⟨v, vs', e1, h1, h2⟩ := h
    exact ⟨v, vs', e1, RelD.ext e d v h1, RelDs.ext e ds vs' h2⟩
end
theorem RelKV.ext {κ : Type} (e : Ext m H m' H') : ∀ (ds : List (κ × D)) (vs : List (κ × V)), RelKV K w m H ds vs → RelKV K w m' H' ds vs
  | [], _, h => h
  | d :: ds, _, h => by
    obtain ⟨v, vs', e1, h1, h2⟩ := h
    exact ⟨v, vs', e1, RelD.ext e _ v h1, RelKV.ext e ds vs' h2⟩
theorem RelOb.ext (e : Ext m H m' H') {ob : Ob} {o : HO} (h : RelOb K w m H ob o) : RelOb K w m' H' ob o := by
  cases ob with
  | lst ds => obtain ⟨vs, e1, h1⟩ := h; exact ⟨vs, e1, RelDs.ext e _ _ h1⟩
  | fl ds => obtain ⟨vs, e1, h1⟩ := h; exact ⟨vs, e1, RelDs.ext e _ _ h1⟩
  | dk ds => obtain ⟨vs, e1, h1⟩ := h; exact ⟨vs, e1, RelKV.ext e _ _ h1⟩
  | fk ds => obtain ⟨vs, e1, h1⟩ := h; exact ⟨vs, e1, RelKV.ext e _ _ h1⟩
  | dt ds => obtain ⟨vs, e1, h1⟩ := h; exact ⟨vs, e1, RelKV.ext e _ _ h1⟩
  | ft ds => obtain ⟨vs, e1, h1⟩ := h; exact ⟨vs, e1, RelKV.ext e _ _ h1⟩
  | ins c ds => obtain ⟨dx, vs, e1, h1⟩ := h; exact ⟨dx, vs, by rw [e.kc]; exact e1, RelKV.ext e _ _ h1⟩
theorem RelOb.mut {ob : Ob} {o : HO} (h : RelOb K w m H ob o) : Imm o = false := by
  cases ob with
  | lst ds => obtain ⟨vs, e1, h1⟩ := h; rw [e1]; rfl
  | fl ds => obtain ⟨vs, e1, h1⟩ := h; rw [e1]; rfl
  | dk ds => obtain ⟨vs, e1, h1⟩ := h; rw [e1]; rfl
  | fk ds => obtain ⟨vs, e1, h1⟩ := h; rw [e1]; rfl
  | dt ds => obtain ⟨vs, e1, h1⟩ := h; rw [e1]; rfl
  | ft ds => obtain ⟨vs, e1, h1⟩ := h; rw [e1]; rfl
  | ins c ds => obtain ⟨dx, vs, e1, h1⟩ := h; rw [e1]; rfl
theorem RelDs.length : ∀ {ds : List D} {vs : List V}, RelDs K w m H ds vs → vs.length = ds.length
  | [], _, h => by rw [show _ = [] from h]; rfl
  | d :: ds, _, h => by
    obtain ⟨v, vs', e1, h1, h2⟩ := h
    rw [e1, List.length_cons, List.length_cons, RelDs.length h2]
theorem RelDs.get : ∀ {ds : List D} {vs : List V} {i : Nat} {d : D}, RelDs K w m H ds vs → ds[i]? = some d → ∃ v, vs[i]? = some v ∧ RelD K w m H d v
  | [], _, _, _, _, e => by simp at e
  | d :: ds, _, 0, _, h, e => by
    obtain ⟨v, vs', e1, h1, h2⟩ := h
    simp at e; subst e; subst e1
    exact ⟨v, rfl, h1⟩
  | d :: ds, _, i + 1, x, h, e => by
    obtain ⟨v, vs', e1, h1, h2⟩ := h
    subst e1
    obtain ⟨u, g1, g2⟩ := RelDs.get (i := i) (d := x) h2 (by simpa using e)
    exact ⟨u, by simpa using g1, g2⟩
theorem RelDs.append : ∀ {ds es : List D} {vs us : List V}, RelDs K w m H ds vs → RelDs K w m H es us → RelDs K w m H (ds ++ es) (vs ++ us)
  | [], _, _, _, h, g => by rw [show _ = [] from h]; exact g
  | d :: ds, es, _, us, h, g => by
    obtain ⟨v, vs', e1, h1, h2⟩ := h
    subst e1
    exact ⟨v, vs' ++ us, rfl, h1, RelDs.append h2 g⟩
theorem RelDs.take : ∀ {ds : List D} {vs : List V} (n : Nat), RelDs K w m H ds vs → RelDs K w m H (ds.take n) (vs.take n)
  | _, _, 0, _ => by rw [List.take_zero, List.take_zero]; exact rfl
  | [], _, n + 1, h => by rw [show _ = [] from h]; rfl
  | d :: ds, _, n + 1, h => by
    obtain ⟨v, vs', e1, h1, h2⟩ := h
    subst e1
    exact ⟨v, vs'.take n, rfl, h1, RelDs.take n h2⟩
theorem RelDs.drop : ∀ {ds : List D} {vs : List V} (n : Nat), RelDs K w m H ds vs → RelDs K w m H (ds.drop n) (vs.drop n)
  | _, _, 0, h => h
  | [], _, n + 1, h => by rw [show _ = [] from h]; rfl
  | d :: ds, _, n + 1, h => by
    obtain ⟨v, vs', e1, h1, h2⟩ := h
    subst e1
    exact RelDs.drop n h2
theorem RelDs.set : ∀ {ds : List D} {vs : List V} (i : Nat) {d : D} {v : V}, RelDs K w m H ds vs → RelD K w m H d v → RelDs K w m H (ds.set i d) (vs.set i v)
  | [], _, _, _, _, h, _ => by rw [show _ = [] from h]; rfl
  | x :: ds, _, 0, d, v, h, g => by
    obtain ⟨u, vs', e1, h1, h2⟩ := h
    subst e1
    exact ⟨v, vs', rfl, g, h2⟩
  | x :: ds, _, i + 1, d, v, h, g => by
    obtain ⟨u, vs', e1, h1, h2⟩ := h
    subst e1
    exact ⟨u, vs'.set i v, rfl, h1, RelDs.set i h2 g⟩
theorem RelDs.one {d : D} {v : V} (h : RelD K w m H d v) : RelDs K w m H [d] [v] := ⟨v, [], rfl, h, rfl⟩
theorem RelDs.nil : RelDs K w m H [] [] := rfl
theorem RelDs.cons {d : D} {v : V} {ds : List D} {vs : List V} (h : RelD K w m H d v) (g : RelDs K w m H ds vs) : RelDs K w m H (d :: ds) (v :: vs) := ⟨v, vs, rfl, h, g⟩
theorem RelDs.nil_iff {ds : List D} {vs : List V} (h : RelDs K w m H ds vs) : vs = [] ↔ ds = [] := by
  have := h.length
  constructor
  · intro e; subst e; exact List.length_eq_zero_iff.mp this.symm
  · intro e; subst e; exact List.length_eq_zero_iff.mp this
mutual
theorem RelK.relD : ∀ (d : D) (v : V), RelK K d v → RelD K w m H d v
  | .non, _, h => h
  | .bl _, _, h => h
  | .int _, _, h => h
  | .str _, _, h => h
  | .tup _, _, h => h.elim
  | .kt _, _, h => h
  | .ref _, _, h => h.elim
  | .frz _, _, h => h.elim
  | .wd _, _, h => h.elim
  | .vl _, _, h => h.elim
  | .vk _ _, _, h => h.elim
  | .vt _ _, _, h => h.elim
  | .vi _ _ _, _, h => h.elim
theorem RelKs.relDs : ∀ (ds : List D) (vs : List V), RelKs K ds vs → RelDs K w m H ds vs
  | [], _, h => h
  | d :: ds, _, h => by
    obtain ⟨v, vs', e1, h1, h2⟩ := h
    exact ⟨v, vs', e1, RelK.relD d v h1, RelKs.relDs ds vs' h2⟩
end
/-- pairs: keys beside values -/
theorem KV_zip {κ : Type} : ∀ {ks : List κ} {ds : List D} {vs : List V}, ks.length = ds.length → RelDs K w m H ds vs → RelKV K w m H (ks.zip ds) (ks.zip vs)
  | [], [], _, _, g => by rw [show _ = [] from g]; rfl
  | k :: ks, d :: ds, _, e, g => by
    obtain ⟨v, vs', e1, h1, h2⟩ := g
    subst e1
    exact ⟨v, ks.zip vs', rfl, h1, KV_zip (by simpa using e) h2⟩
  | [], d :: ds, _, e, _ => by simp at e
  | k :: ks, [], _, e, _ => by simp at e
theorem KV_unzip {κ : Type} : ∀ {ps : List (κ × D)} {vs : List (κ × V)}, RelKV K w m H ps vs → RelDs K w m H (ps.map (·.2)) (vs.map (·.2)) ∧ vs.map (·.1) = ps.map (·.1)
  | [], _, g => by rw [show _ = [] from g]; exact ⟨rfl, rfl⟩
  | p :: ps, _, g => by
    obtain ⟨v, vs', e1, h1, h2⟩ := g
    subst e1
    obtain ⟨i1, i2⟩ := KV_unzip h2
    exact ⟨⟨v, _, rfl, h1, i1⟩, by rw [List.map_cons, List.map_cons, i2]⟩
theorem zip_maps {κ β : Type} : ∀ (ps : List (κ × β)), (ps.map (·.1)).zip (ps.map (·.2)) = ps
  | [] => rfl
  | p :: ps => by rw [List.map_cons, List.map_cons, List.zip_cons_cons, zip_maps ps]
end

/-! # 2. The logical heap is held -/
structure RH (K : PySem.W.Frag) (w : World) (kc : Nat → Addr) (m : Mp) (h : DH) (H : Hp) : Prop where
  nd : m.l.Nodup
  kc : m.kc = kc
  len : m.l.length = h.length
  at_ : ∀ (i : Nat) (ob : Ob), h[i]? = some ob → ∃ a o, m.l[i]? = some a ∧ H a = some o ∧ RelOb K w m H ob o ∧ (m.ww a ↔ ob.mut = true)
  ex : ∀ b, m.ww b → ∃ o, H b = some o
section
variable {K : PySem.W.Frag} {w : World} {kc : Nat → Addr} {m m' : Mp} {h : DH} {H H' : Hp}
theorem RH.get (r : RH K w kc m h H) {i : Nat} {a : Addr} {ob : Ob} (e : m.l[i]? = some a) (g : h[i]? = some ob) : ∃ o, H a = some o ∧ RelOb K w m H ob o := by
  obtain ⟨a', o, e1, e2, e3, _⟩ := r.at_ i ob g
  rw [e] at e1; cases e1
  exact ⟨o, e2, e3⟩
theorem RH.wi (r : RH K w kc m h H) {i : Nat} {a : Addr} {ob : Ob} (e : m.l[i]? = some a) (g : h[i]? = some ob) : m.ww a ↔ ob.mut = true := by
  obtain ⟨a', o, e1, e2, e3, e4⟩ := r.at_ i ob g
  rw [e] at e1; cases e1
  exact e4
theorem RH.mem (r : RH K w kc m h H) {a : Addr} (e : a ∈ m.l) : ∃ o, H a = some o := by
  obtain ⟨i, hi, e⟩ := List.getElem_of_mem e
  have : i < h.length := by rw [← r.len]; exact hi
  obtain ⟨a', o, e1, e2, e3⟩ := r.at_ i h[i] (List.getElem?_eq_getElem this)
  rw [List.getElem?_eq_getElem hi] at e1
  cases e1
  rw [e] at e2
  exact ⟨o, e2⟩
theorem RH.lt (r : RH K w kc m h H) {i : Nat} {a : Addr} (e : m.l[i]? = some a) : i < h.length := by
  rw [← r.len]; exact (List.getElem?_eq_some_iff.mp e).1
/-- a new object of ours -/
theorem RH.alloc (r : RH K w kc m h H) {p : Addr} {ob : Ob} {o : HO} (hp : H p = none) (g : RelOb K w m H ob o) (hm : ob.mut = true) : RH K w kc (m.add p) (h ++ [ob]) (upd H p o) ∧ Ext m H (m.add p) (upd H p o) := by
  have e : Ext m H (m.add p) (upd H p o) := Ext.upd_add hp
  have np : p ∉ m.l := fun z => by
    obtain ⟨o', e⟩ := r.mem z
    rw [hp] at e; cases e
  refine ⟨⟨?_, r.kc, by rw [show (m.add p).l = m.l ++ [p] from rfl, List.length_append, List.length_append, r.len]; rfl, fun i ob' hi => ?_, fun b z => ?_⟩, e⟩
  · refine List.nodup_append.mpr ⟨r.nd, by simp, ?_⟩
    intro a ha b hb
    rw [List.mem_singleton] at hb
    subst hb
    exact fun z => np (z ▸ ha)
  · by_cases hlt : i < h.length
    · rw [List.getElem?_append_left hlt] at hi
      obtain ⟨a, o', e1, e2, e3, e4⟩ := r.at_ i ob' hi
      have ne : a ≠ p := ne_of_none e2 hp
      refine ⟨a, o', e.ix e1, ?_, e3.ext e, ?_⟩
      · rw [upd_ne ne]
        exact e2
      · rw [← e4]
        exact ⟨fun z => z.elim id fun z => absurd z ne, .inl⟩
    · rw [List.getElem?_append_right (by omega)] at hi
      have hi0 : i - h.length = 0 := by
        have := (List.getElem?_eq_some_iff.mp hi).1
        simp at this
        omega
      rw [hi0] at hi
      cases hi
      refine ⟨p, o, ?_, upd_same, g.ext e, ⟨fun _ => hm, fun _ => .inr rfl⟩⟩
      show (m.l ++ [p])[i]? = some p
      rw [List.getElem?_append_right (by rw [r.len]; omega), r.len, hi0]
      rfl
  · rcases z with z | z
    · obtain ⟨o', e1⟩ := r.ex b z
      exact ⟨o', by rw [upd_ne (ne_of_none e1 hp)]; exact e1⟩
    · exact ⟨o, by rw [z]; exact upd_same⟩
/-- a new object that never changes -/
theorem RH.imm (r : RH K w kc m h H) {p : Addr} {o : HO} (hp : H p = none) : RH K w kc m h (upd H p o) ∧ Ext m H m (upd H p o) := by
  have e : Ext m H m (upd H p o) := Ext.upd_new hp
  refine ⟨⟨r.nd, r.kc, r.len, fun i ob hi => ?_, fun b z => ?_⟩, e⟩
  · obtain ⟨a, o', e1, e2, e3, e4⟩ := r.at_ i ob hi
    exact ⟨a, o', e1, by rw [upd_ne (ne_of_none e2 hp)]; exact e2, e3.ext e, e4⟩
  · obtain ⟨o', e1⟩ := r.ex b z
    exact ⟨o', by rw [upd_ne (ne_of_none e1 hp)]; exact e1⟩
/-- an object of ours changes -/
theorem RH.write (r : RH K w kc m h H) {i : Nat} {a : Addr} {ob ob0 : Ob} {o : HO} (ha : m.l[i]? = some a) (h0 : h[i]? = some ob0) (m0 : ob0.mut = true) (m1 : ob.mut = true) (g : RelOb K w m H ob o) : RH K w kc m (h.set i ob) (upd H a o) ∧ Ext m H m (upd H a o) := by
  have hi : i < h.length := r.lt ha
  obtain ⟨o0, e0, g0⟩ := r.get ha h0
  have wa : m.ww a := (r.wi ha h0).mpr m0
  have e : Ext m H m (upd H a o) := ⟨⟨[], (List.append_nil _).symm⟩, rfl, fun b u hb im => by
    by_cases z : b = a
    · subst z
      rw [e0] at hb; cases hb
      rcases im with im | im | im
      · rw [g0.mut] at im; cases im
      · exact absurd (List.mem_of_getElem? ha) im
      · exact absurd wa im
    · rw [upd_ne z]; exact hb, fun _ z => .inl z, fun _ z => .inl z, fun _ _ z _ _ => z⟩
  refine ⟨⟨r.nd, r.kc, by rw [List.length_set]; exact r.len, fun j ob' hj => ?_, fun b z => ?_⟩, e⟩
  · by_cases z : j = i
    · subst z
      rw [List.getElem?_set_self hi] at hj
      cases hj
      exact ⟨a, o, ha, upd_same, g.ext e, ⟨fun _ => m1, fun _ => wa⟩⟩
    · rw [List.getElem?_set_ne (fun q => z q.symm)] at hj
      obtain ⟨a', o', e1, e2, e3, e4⟩ := r.at_ j ob' hj
      refine ⟨a', o', e1, ?_, e3.ext e, e4⟩
      have hne : a' ≠ a := fun q => by
        subst q
        obtain ⟨hj1, g1⟩ := List.getElem?_eq_some_iff.mp e1
        obtain ⟨hi1, g2⟩ := List.getElem?_eq_some_iff.mp ha
        exact z ((List.getElem_inj r.nd).mp (g1.trans g2.symm))
      rw [upd_ne hne]
      exact e2
  · obtain ⟨o', e1⟩ := r.ex b z
    by_cases q : b = a
    · exact ⟨o, by rw [q]; exact upd_same⟩
    · exact ⟨o', by rw [upd_ne q]; exact e1⟩
end
end Dd

set_option Elab.async false
set_option linter.all false
set_option maxRecDepth 100000
set_option maxHeartbeats 4000000
namespace Dd
open PySem L2

/-! # 3. What the program does to plain data -/
inductive Rs (α : Type) where
  | ok (a : α)
  | ex (c : Nat) (p : D)
inductive Fl where
  | next | brk | cont | ret (d : D) | ex (c : Nat) (p : D)
/-- an expression; a statement -/
abbrev M (α : Type) := DE → DH → Option (Rs α × DH)
abbrev MS := DE → DH → Option (Fl × DE × DH)
abbrev Call := Nat → List D → DH → Option (Rs D × DH)

section
variable {α β : Type}
def stuck : M α := fun _ _ => none
def ret (a : α) : M α := fun _ h => some (.ok a, h)
def bnd (m : M α) (k : α → M β) : M β := fun e h =>
  match m e h with
  | none => none
  | some (.ex c p, h1) => some (.ex c p, h1)
  | some (.ok a, h1) => k a e h1
/-- an operation on the heap alone -/
def lift (f : DH → Option (α × DH)) : M α := fun _ h => match f h with | some (a, h1) => some (.ok a, h1) | none => none
def var (i : Nat) : M D := fun e h => match e[i]? with | some (some d) => some (.ok d, h) | _ => none
end
def op1 (f : D → DH → Option (D × DH)) (a : M D) : M D := bnd a fun x => lift (f x)
def op2 (f : D → D → DH → Option (D × DH)) (a b : M D) : M D := bnd a fun x => bnd b fun y => lift (f x y)
def args : List (M D) → M (List D)
  | [] => ret []
  | m :: r => bnd m fun x => bnd (args r) fun xs => ret (x :: xs)
def opN (f : List D → DH → Option (D × DH)) (as : List (M D)) : M D := bnd (args as) fun xs => lift (f xs)
def callM (F : Call) (i : Nat) (as : List (M D)) : M D := bnd (args as) fun xs => fun _ h => F i xs h
/-- tests -/
def tst (m : M D) : M Bool := bnd m fun x => match x with | .bl b => ret b | _ => stuck
def tru (f : D → DH → Option Bool) (m : M D) : M Bool := bnd m fun x => lift fun h => (f x h).map fun b => (b, h)
def notT (t : M Bool) : M Bool := bnd t fun b => ret (!b)
def andT (t u : M Bool) : M Bool := bnd t fun b => if b then u else ret false
def orT (t u : M Bool) : M Bool := bnd t fun b => if b then ret true else u
def notV (m : M D) : M D := bnd m fun x => match x with | .bl b => ret (.bl (!b)) | _ => stuck
def andV (m n : M D) : M D := bnd m fun x => match x with | .bl b => if b then n else ret (.bl false) | _ => stuck
def orV (m n : M D) : M D := bnd m fun x => match x with | .bl b => if b then ret (.bl true) else n | _ => stuck
def iteM (t : M Bool) (a b : M D) : M D := bnd t fun c => if c then a else b
def chn (f g : D → D → DH → Option (D × DH)) (a b c : M D) : M D := bnd a fun x => bnd b fun y => bnd (lift (f x y)) fun z =>
  match z with | .bl k => if k then bnd c fun u => lift (g y u) else ret (.bl false) | _ => stuck

/-! ### operations -/
abbrev Z : Nat := 16777216
def lstAt (h : DH) (i : Nat) : Option (List D) := match h[i]? with | some (.lst xs) => some xs | some (.fl xs) => some xs | _ => none
/-- a list that may be written -/
def lstW (h : DH) (i : Nat) : Option (List D) := match h[i]? with | some (.lst xs) => some xs | _ => none
/-- what a list holds -/
def seqD (d : D) (h : DH) : Option (List D) := match d with
  | .vl xs => some xs
  | .ref i => lstAt h i
  | _ => none
/-- what a dict holds -/
def dkD (d : D) (h : DH) : Option (List (Key × D)) := match d with
  | .vk ks xs => some (ks.zip xs)
  | .ref i => match h[i]? with | some (.dk kvs) => some kvs | some (.fk kvs) => some kvs | _ => none
  | _ => none
def dtD (d : D) (h : DH) : Option (List (List Key × D)) := match d with
  | .vt ks xs => some (ks.zip xs)
  | .ref i => match h[i]? with | some (.dt kvs) => some kvs | some (.ft kvs) => some kvs | _ => none
  | _ => none
def newOb (o : Ob) (h : DH) : Option (D × DH) := some (.ref h.length, h ++ [o])
def pureO (d : Option D) (h : DH) : Option (D × DH) := d.map fun x => (x, h)
def addD : D → D → DH → Option (D × DH)
  | .int i, .int j, h => some (.int (i + j), h)
  | .str x, .str y, h => if x.length + y.length ≤ Z then some (.str (x ++ y), h) else none
  | .tup xs, .tup ys, h => if xs.length + ys.length ≤ Z then some (.tup (xs ++ ys), h) else none
  | a, b, h => match seqD a h, seqD b h with
    | some xs, some ys => if xs.length + ys.length ≤ Z then newOb (.lst (xs ++ ys)) h else none
    | _, _ => none
def subD : D → D → DH → Option (D × DH)
  | .int i, .int j, h => some (.int (i - j), h)
  | _, _, _ => none
/-- (kept so that an unknown number stops the reckoning at once) -/
def below (i : Int) (m : Nat) : Bool := Nat.blt i.natAbs m
theorem below_iff {i : Int} {m : Nat} : below i m = true ↔ -(m : Int) < i ∧ i < m := by
  unfold below
  rw [Nat.blt_eq]
  omega
def leI : Int → Int → Bool
  | .ofNat a, .ofNat b => Nat.ble a b
  | .negSucc a, .negSucc b => Nat.ble b a
  | .negSucc _, .ofNat _ => true
  | .ofNat _, .negSucc _ => false
theorem leI_eq (i j : Int) : leI i j = decide (i ≤ j) := by
  apply Bool.eq_iff_iff.mpr
  rw [decide_eq_true_eq]
  cases i with
  | ofNat a => cases j with
    | ofNat b =>
      show Nat.ble a b = true ↔ ((a : Nat) : Int) ≤ ((b : Nat) : Int)
      rw [Nat.ble_eq]
      omega
    | negSucc b =>
      show false = true ↔ ((a : Nat) : Int) ≤ Int.negSucc b
      constructor
      · intro z; cases z
      · intro z; omega
  | negSucc a => cases j with
    | ofNat b =>
      show true = true ↔ Int.negSucc a ≤ ((b : Nat) : Int)
      constructor
      · intro _; omega
      · intro _; rfl
    | negSucc b =>
      show Nat.ble b a = true ↔ _
      rw [Nat.ble_eq]
      omega
def ltI (i j : Int) : Bool := !leI j i
theorem ltI_eq (i j : Int) : ltI i j = decide (i < j) := by
  unfold ltI
  rw [leI_eq]
  apply Bool.eq_iff_iff.mpr
  rw [Bool.not_eq_true', decide_eq_false_iff_not, decide_eq_true_eq]
  omega
def smallI (i : Int) : Bool := below i 18446744073709551616
def mulD : D → D → DH → Option (D × DH)
  | .int i, .int j, h => if smallI i || smallI j then some (.int (i * j), h) else none
  | .str x, .int k, h => if below k 1000001 = true ∧ x.length ≤ 1000000 ∧ x.length * k.toNat ≤ 1000000 then some (.str (PySem.Txt.mul x k), h) else none
  | a, .int k, h => match seqD a h with
    | some xs => if below k 9223372036854775808 = true ∧ xs.length * k.toNat ≤ Z then newOb (.lst (List.replicate k.toNat xs).flatten) h else none
    | none => none
  | _, _, _ => none
def fdivD : D → D → DH → Option (D × DH)
  | .int i, .int j, h => if 0 < j ∧ below j 1073741824 = true then some (.int (i / j), h) else none
  | _, _, _ => none
def modD : D → D → DH → Option (D × DH)
  | .int i, .int j, h => if 0 < j then some (.int (i % j), h) else none
  | _, _, _ => none
def andD : D → D → DH → Option (D × DH)
  | .int i, .int j, h => some (.int (PySem.Builtin.bitAnd i j), h)
  | _, _, _ => none
def orD : D → D → DH → Option (D × DH)
  | .int i, .int j, h => some (.int (PySem.Builtin.bitOr i j), h)
  | _, _, _ => none
def shrI (i j : Int) : Int := i / 2 ^ j.toNat
def shlI (i j : Int) : Int := i * 2 ^ j.toNat
def shlD : D → D → DH → Option (D × DH)
  | .int i, .int j, h => if leI 0 j && below j 1000001 && smallI i then some (.int (shlI i j), h) else none
  | _, _, _ => none
def shrD : D → D → DH → Option (D × DH)
  | .int i, .int j, h => if leI 0 j then some (.int (shrI i j), h) else none
  | _, _, _ => none
def bitsD : D → DH → Option (D × DH)
  | .int i, h => some (.int (PySem.Builtin.Int.intBits i : Nat), h)
  | _, _ => none
def negD : D → DH → Option (D × DH)
  | .int i, h => some (.int (-i), h)
  | _, _ => none
def binD : PySem.Operator → Option (D → D → DH → Option (D × DH))
  | .Add => some addD
  | .Sub => some subD
  | .Mult => some mulD
  | .FloorDiv => some fdivD
  | .Mod => some modD
  | .BitAnd => some andD
  | .BitOr => some orD
  | .LShift => some shlD
  | .RShift => some shrD
  | _ => none

/-- as the library's data; the number bounds how deep lists are followed -/
def toPy (h : DH) : Nat → D → Option PyData
  | 0, _ => none
  | n + 1, d => match d with
    | .non => some .none
    | .bl b => some (.bool b)
    | .int i => some (.int i)
    | .str x => some (.str x)
    | .tup xs => (xs.mapM (toPy h n)).map .tuple
    | .kt xs => (xs.mapM (toPy h n)).map .tuple
    | .vl xs => (xs.mapM (toPy h n)).map .list
    | .ref i => match lstAt h i with
      | some xs => (xs.mapM (toPy h n)).map .list
      | none => none
    | .frz ns => some (.list (ns.map .int))
    | _ => none
def scalD : D → D → Option Bool
  | .non, .non => some true
  | .non, .int _ => some false | .int _, .non => some false | .non, .bl _ => some false | .bl _, .non => some false | .non, .str _ => some false | .str _, .non => some false
  | .int i, .int j => some (decide (i = j))
  | .bl i, .bl j => some (decide (i = j))
  | .str i, .str j => some (decide (i = j))
  | .int _, .str _ => some false | .str _, .int _ => some false | .bl _, .str _ => some false | .str _, .bl _ => some false
  | _, _ => none
def eqB (a b : D) (h : DH) : Option Bool := match scalD a b with
  | some r => some r
  | none => match toPy h 20 a, toPy h 20 b with
    | some x, some y => if SeqAt.shaped x && SeqAt.shaped y then some (PyData.eqv x y) else none
    | _, _ => none
def eqD (a b : D) (h : DH) : Option (D × DH) := (eqB a b h).map fun r => (.bl r, h)
def neD (a b : D) (h : DH) : Option (D × DH) := (eqB a b h).map fun r => (.bl (!r), h)
def b2n (b : Bool) : Nat := if b then 1 else 0
def ltD : D → D → DH → Option (D × DH)
  | .int i, .int j, h => some (.bl (ltI i j), h)
  | .bl i, .bl j, h => some (.bl (decide (b2n i < b2n j)), h)
  | .str i, .str j, h => some (.bl (decide (i.cps.toList < j.cps.toList)), h)
  | _, _, _ => none
def leD : D → D → DH → Option (D × DH)
  | .int i, .int j, h => some (.bl (leI i j), h)
  | .bl i, .bl j, h => some (.bl (decide (b2n i ≤ b2n j)), h)
  | .str i, .str j, h => some (.bl (!decide (j.cps.toList < i.cps.toList)), h)
  | _, _, _ => none
def gtD : D → D → DH → Option (D × DH)
  | .int i, .int j, h => some (.bl (ltI j i), h)
  | .bl i, .bl j, h => some (.bl (decide (b2n j < b2n i)), h)
  | .str i, .str j, h => some (.bl (decide (j.cps.toList < i.cps.toList)), h)
  | _, _, _ => none
def geD : D → D → DH → Option (D × DH)
  | .int i, .int j, h => some (.bl (leI j i), h)
  | .bl i, .bl j, h => some (.bl (decide (b2n j ≤ b2n i)), h)
  | .str i, .str j, h => some (.bl (!decide (i.cps.toList < j.cps.toList)), h)
  | _, _, _ => none
def isNonD : D → Bool
  | .non => true
  | _ => false
def isD : D → D → DH → Option (D × DH)
  | x, .non, h => some (.bl (isNonD x), h)
  | .bl a, .bl b, h => some (.bl (decide (a = b)), h)
  | _, _, _ => none
def isNotD (a b : D) (h : DH) : Option (D × DH) := match isD a b h with | some (.bl r, h1) => some (.bl (!r), h1) | _ => none
def keyD : D → Option Key
  | .int i => some (.inl i)
  | .str x => some (.inr x)
  | _ => none
def keysD (xs : List D) : Option (List Key) := xs.mapM keyD
def lookD {κ : Type} [DecidableEq κ] (kvs : List (κ × D)) (k : κ) : Option D := (kvs.find? fun p => decide (p.1 = k)).map (·.2)
def putD {κ : Type} [DecidableEq κ] (kvs : List (κ × D)) (k : κ) (v : D) : List (κ × D) :=
  if (kvs.any fun p => decide (p.1 = k)) then kvs.map fun p => if p.1 = k then (p.1, v) else p else kvs ++ [(k, v)]
/-- what a dict has at a key; none: no dict, or no such keys -/
def dGet (d k : D) (h : DH) : Option (Option D) := match dkD d h with
  | some kvs => (keyD k).map (lookD kvs)
  | none => match dtD d h, k with
    | some kvs, .tup ks => (keysD ks).map (lookD kvs)
    | _, _ => none
def wdGet (kvs : List (Str × D)) (k : D) : Option (Option D) := match k with
  | .str x => some (kvs.lookup x)
  | _ => none
def flatD : D → Bool
  | .non => true | .bl _ => true | .int _ => true | .str _ => true
  | _ => false
def anyEq (x : D) (h : DH) : List D → Option Bool
  | [] => some false
  | y :: r => match scalD y x with
    | some a => (anyEq x h r).map (a || ·)
    | none => none
def inB (x d : D) (h : DH) : Option Bool := match d with
  | .str z => match x with
    | .str c => if c.length = 1 then some (decide (c.cps.getD 0 0 ∈ z.cps.toList)) else none
    | _ => none
  | .tup xs => if flatD x && xs.all flatD then anyEq x h xs else none
  | .kt xs => if flatD x && xs.all flatD then anyEq x h xs else none
  | .wd kvs => (wdGet kvs x).map Option.isSome
  | d => match seqD d h with
    | some xs => if flatD x && xs.all flatD then anyEq x h xs else none
    | none => (dGet d x h).map Option.isSome
def inD (x d : D) (h : DH) : Option (D × DH) := (inB x d h).map fun r => (.bl r, h)
def notInD (x d : D) (h : DH) : Option (D × DH) := (inB x d h).map fun r => (.bl (!r), h)
def cmpD : PySem.CmpOp → Option (D → D → DH → Option (D × DH))
  | .Eq => some eqD
  | .NotEq => some neD
  | .Lt => some ltD
  | .LtE => some leD
  | .Gt => some gtD
  | .GtE => some geD
  | .Is => some isD
  | .IsNot => some isNotD
  | .In => some inD
  | .NotIn => some notInD
/-- order alone: what may stand in a chain -/
def ordD : PySem.CmpOp → Option (D → D → DH → Option (D × DH))
  | .Lt => some ltD
  | .LtE => some leD
  | .Gt => some gtD
  | .GtE => some geD
  | _ => none
def truD (x : D) (h : DH) : Option Bool := match x with
  | .non => some false
  | .bl b => some b
  | .int i => some (i != 0)
  | .tup xs => some (!xs.isEmpty)
  | .kt xs => some (!xs.isEmpty)
  | d => match seqD d h with
    | some xs => some (!xs.isEmpty)
    | none => none
def strAt (x : Str) (i : Int) : Option Nat := if x.length ≤ Z then L2.atI x.cps.toList i else none
def ixD (a b : D) (h : DH) : Option (D × DH) := match a, b with
  | .tup xs, .int i => pureO (L2.atI xs i) h
  | .kt xs, .int i => pureO (L2.atI xs i) h
  | .frz ns, .int i => pureO ((L2.atI ns i).map D.int) h
  | .str x, .int i => pureO ((strAt x i).map fun c => .str ⟨#[c]⟩) h
  | .wd kvs, k => match wdGet kvs k with
    | some (some d) => some (d, h)
    | _ => none
  | a, k => match seqD a h with
    | some xs => match k with
      | .int j => pureO (L2.atI xs j) h
      | _ => none
    | none => match dGet a k h with
      | some (some d) => some (d, h)
      | _ => none
def sIxN (n d : Nat) : Option Int → Nat := HT.sIx n d
def cutD {α : Type} (xs : List α) (lo hi : Option Int) : List α := (xs.drop (HT.sIx xs.length 0 lo)).take (HT.sIx xs.length xs.length hi - HT.sIx xs.length 0 lo)
def sliceD (a : D) (lo hi : Option Int) (h : DH) : Option (D × DH) := match a with
  | .tup xs => some (.tup (cutD xs lo hi), h)
  | .str x => if x.length ≤ Z then some (.str (cutS x lo hi), h) else none
  | a => match seqD a h with
    | some xs => newOb (.lst (cutD xs lo hi)) h
    | none => none
def tyName (d : D) (h : DH) : Option String := match d with
  | .non => some "NoneType"
  | .bl _ => some "bool"
  | .int _ => some "int"
  | .str _ => some "str"
  | .tup _ => some "tuple"
  | .kt _ => some "tuple"
  | .frz _ => some "list"
  | .wd _ => some "dict"
  | .vl _ => some "list"
  | .vk _ _ => some "dict"
  | .vt _ _ => some "dict"
  | .vi _ _ _ => none
  | .ref i => match h[i]? with
    | some (.lst _) => some "list"
    | some (.fl _) => some "list"
    | some (.dk _) => some "dict"
    | some (.fk _) => some "dict"
    | some (.dt _) => some "dict"
    | some (.ft _) => some "dict"
    | _ => none
def isTy (T n : String) : Bool := n == T || (n == "bool" && T == "int")
def isinD (T : String) (d : D) (h : DH) : Option (D × DH) := (tyName d h).map fun n => (.bl (isTy T n), h)
def typNames : List (Str × String) := [("tuple", "tuple"), ("str", "str"), ("int", "int"), ("bool", "bool"), ("list", "list"), ("dict", "dict")]

inductive Blt where
  | len | abs | int | str | tuple | list | all | any | ord | repr | min | max
  deriving DecidableEq
def blts : List (Str × Blt) := [("len", .len), ("abs", .abs), ("int", .int), ("str", .str), ("tuple", .tuple), ("list", .list), ("all", .all), ("any", .any), ("ord", .ord), ("repr", .repr), ("min", .min), ("max", .max)]
def bools : List D → Option (List Bool)
  | [] => some []
  | .bl b :: r => (bools r).map (b :: ·)
  | _ => none
def intsD : List D → Option (List Int)
  | [] => some []
  | .int i :: r => (intsD r).map (i :: ·)
  | _ => none
/-- an object -/
def isRf : D → Bool
  | .tup _ => true | .kt _ => true | .ref _ => true | .vl _ => true
  | _ => false
def reprOk (x : PyData) : Bool := x.showable && !x.hasDict && decide (x.depth ≤ 60) && decide (x.shown.length + 64 ≤ Z)
/-- less, of values of one kind -/
def ltB : D → D → Bool
  | .int i, .int j => ltI i j
  | .str i, .str j => decide (i.cps.toList < j.cps.toList)
  | .bl i, .bl j => decide (b2n i < b2n j)
  | _, _ => false
def kindN : D → Nat
  | .int _ => 1 | .str _ => 2 | .bl _ => 3
  | _ => 0
def homD : List D → Bool
  | [] => false
  | x :: r => Nat.blt 0 (kindN x) && r.all fun y => kindN y == kindN x
/-- the greatest, the least: of equal ones the first -/
def maxD (x : D) (r : List D) : D := r.foldl (fun a b => if ltB a b then b else a) x
def minD (x : D) (r : List D) : D := r.foldl (fun a b => if ltB b a then b else a) x
def extremeD (mx : Bool) (ds : List D) : Option D := match ds with
  | [] => none
  | x :: r => if homD (x :: r) then some (if mx then maxD x r else minD x r) else none
def keyV : Key → D
  | .inl i => .int i
  | .inr x => .str x
def bltD (b : Blt) (xs : List D) (h : DH) : Option (D × DH) := match b, xs with
  | .len, [.str x] => if x.length ≤ Z then some (.int x.length, h) else none
  | .len, [.tup ds] => some (.int ds.length, h)
  | .len, [.kt ds] => some (.int ds.length, h)
  | .len, [.frz ns] => some (.int ns.length, h)
  | .len, [d] => match seqD d h with
    | some ds => some (.int ds.length, h)
    | none => match dkD d h with
      | some ds => some (.int ds.length, h)
      | none => none
  | .abs, [.int i] => some (.int (if i < 0 then -i else i), h)
  | .int, [.int i] => some (.int i, h)
  | .int, [.bl k] => some (.int (if k then 1 else 0), h)
  | .str, [.int i] => if i.natAbs.log2 < 1920 then some (.str (toString i), h) else none
  | .tuple, [.tup ds] => some (.tup ds, h)
  | .tuple, [d] => match seqD d h with
    | some ds => some (.tup ds, h)
    | none => none
  | .list, [.tup ds] => newOb (.lst ds) h
  | .list, [.kt ds] => newOb (.lst ds) h
  | .list, [.frz ns] => newOb (.lst (ns.map .int)) h
  | .list, [d] => match seqD d h with
    | some ds => newOb (.lst ds) h
    | none => match dkD d h with
      | some kvs => newOb (.lst (kvs.map fun p => keyV p.1)) h
      | none => match dtD d h with
        | some kvs => newOb (.lst (kvs.map fun p => .tup (p.1.map keyV))) h
        | none => none
  | .all, [d] => match seqD d h with
    | some ds => (bools ds).map fun bs => (.bl (bs.all id), h)
    | none => none
  | .any, [d] => match seqD d h with
    | some ds => (bools ds).map fun bs => (.bl (bs.any id), h)
    | none => none
  | .ord, [.str x] => if x.length = 1 then some (.int (x.cps.getD 0 0 : Nat), h) else none
  | .repr, [d] => match toPy h 20 d with
    | some x => if reprOk x && isRf d then some (.str x.shown, h) else none
    | none => none
  | .min, [.int i, .int j] => some (.int (if j < i then j else i), h)
  | .max, [.int i, .int j] => some (.int (if j > i then j else i), h)
  | .min, [d] => match seqD d h with
    | some ds => (extremeD false ds).map fun d => (d, h)
    | none => none
  | .max, [d] => match seqD d h with
    | some ds => (extremeD true ds).map fun d => (d, h)
    | none => none
  | _, _ => none
/-- built-ins that ask a calm frame -/
def needsCalm : Blt → Bool
  | .all => true | .any => true | .min => true | .max => true | .list => true
  | _ => false

inductive Mth where
  | append | extend | pop | join | count | index
  deriving DecidableEq
def mths : List (Str × Mth) := [("append", .append), ("extend", .extend), ("pop", .pop), ("join", .join), ("count", .count), ("index", .index)]
def txts : List D → Option (List Str)
  | [] => some []
  | .str x :: r => (txts r).map (x :: ·)
  | _ => none
def joinLen (a : Str) (ys : List Str) : Nat := (ys.map fun y => y.length).sum + ys.length * a.length
/-- the first place of a flat value -/
def placeD (x : D) : List D → Nat → Option Nat
  | [], _ => none
  | y :: r, k => match scalD y x with
    | some true => some k
    | some false => placeD x r (k + 1)
    | none => none
def mthD (m : Mth) (o : D) (xs : List D) (h : DH) : Option (D × DH) := match m, o, xs with
  | .append, .ref i, [d] => match lstW h i with
    | some ds => if ds.length < Z then some (.non, h.set i (.lst (ds ++ [d]))) else none
    | none => none
  | .extend, .ref i, [d] => match lstW h i, seqD d h with
    | some xs, some ys => if xs.length + ys.length ≤ Z then some (.non, h.set i (.lst (xs ++ ys))) else none
    | _, _ => none
  | .pop, .ref i, [] => match lstW h i with
    | some ds => match ds.getLast? with
      | some d => some (d, h.set i (.lst ds.dropLast))
      | none => none
    | none => none
  | .join, .str a, [d] => match seqD d h with
    | some ds => match txts ds with
      | some ys => if joinLen a ys ≤ Z then some (.str (PySem.Str.join a ys), h) else none
      | none => none
    | none => none
  | .index, .kt ds, [d] => if flatD d && ds.all flatD then (placeD d ds 0).map fun j => (.int (j : Nat), h) else none
  | .count, o, [.int k] => match seqD o h with
    | some ds => match intsD ds with
      | some ns => some (.int (ns.count k : Nat), h)
      | none => none
    | none => none
  | .index, o, [d] => match seqD o h with
    | some ds => if flatD d && ds.all flatD then (placeD d ds 0).map fun j => (.int (j : Nat), h) else none
    | none => none
  | _, _, _ => none
/-- what is walked by a for -/
inductive Src where
  | items (xs : List D)
  | live (i n : Nat)
def Src.len : Src → Nat
  | .items xs => xs.length
  | .live _ n => n
def Src.at_ (s : Src) (k : Nat) (h : DH) : Option D := match s with
  | .items xs => xs[k]?
  | .live i n => match lstAt h i with
    | some xs => if xs.length = n then xs[k]? else none
    | none => none
def Src.done (s : Src) (h : DH) : Bool := match s with
  | .items _ => true
  | .live i n => match lstAt h i with
    | some xs => decide (xs.length = n)
    | none => false
def signs (x : Str) : List D := x.cps.toList.map fun c => .str ⟨#[c]⟩
def srcD (d : D) (h : DH) : Option (Src × DH) := match d with
  | .tup xs => some (.items xs, h)
  | .kt xs => some (.items xs, h)
  | .str x => some (.items (signs x), h)
  | .frz ns => some (.items (ns.map .int), h)
  | .vl xs => some (.items xs, h)
  | .ref i => (lstAt h i).map fun xs => (.live i xs.length, h)
  | _ => none
def rngs (lo : Int) (n : Nat) : Src := .items ((List.range n).map fun k => .int (lo + (k : Nat)))
def in62 (i : Int) : Bool := below i 4611686018427387904
def rng1 : D → DH → Option (Src × DH)
  | .int j, h => if in62 j then some (rngs 0 j.toNat, h) else none
  | _, _ => none
def rng2 : D → D → DH → Option (Src × DH)
  | .int i, .int j, h => if in62 i && in62 j then some (rngs i (j - i).toNat, h) else none
  | _, _, _ => none
def rngsC (c : Int) (n : Nat) : Src := .items ((List.range n).map fun k => .int ((k : Nat) * c))
/-- range(0, j, c) -/
def rng3 : D → D → D → DH → Option (Src × DH)
  | .int i, .int j, .int c, h => if leI 0 i && leI i 0 && leI 0 j && in62 j && leI 1 c && below c 1073741824 then some (rngsC c ((j + c - 1) / c).toNat, h) else none
  | _, _, _, _ => none
/-- zip of two: pairs as far as both go -/
def zipD (a b : D) (h : DH) : Option (Src × DH) := match a, b with
  | .tup xs, .tup ys => some (.items ((xs.zip ys).map fun p => .tup [p.1, p.2]), h)
  | .vl xs, .vl ys => some (.items ((xs.zip ys).map fun p => .tup [p.1, p.2]), h)
  | _, _ => none
/-- targets -/
inductive Tg where
  | nm (i : Nat)
  | tp (is : List Nat)
def setAll : List Nat → List D → DE → Option DE
  | [], [], e => some e
  | i :: is, d :: ds, e => setAll is ds (e.set i (some d))
  | _, _, _ => none
def unpk (d : D) (h : DH) : Option (List D) := match d with
  | .tup xs => some xs
  | .kt xs => some xs
  | d => seqD d h
def Tg.put (t : Tg) (d : D) (h : DH) (e : DE) : Option DE := match t with
  | .nm i => some (e.set i (some d))
  | .tp is => match unpk d h with
    | some ds => setAll is ds e
    | none => none
def wipeE (e : DE) : List Nat → DE
  | [] => e
  | v :: vs => (wipeE e vs).set v none
/-! ### comprehensions: the list stands at id while it grows -/
def lcLoop (s : Src) (t : Tg) (c : M Bool) (m : M D) (id : Nat) (e : DE) : Nat → Nat → DH → Option DH
  | 0, _, h => if s.done h then some h else none
  | r + 1, k, h => match s.at_ k h with
    | none => none
    | some d => match t.put d h e with
      | none => none
      | some e1 => match c e1 h with
        | some (.ok true, h1) => match m e1 h1 with
          | some (.ok x, h2) => match lstW h2 id with
            | some acc => if acc.length < Z then lcLoop s t c m id e r (k + 1) (h2.set id (.lst (acc ++ [x]))) else none
            | none => none
          | _ => none
        | some (.ok false, h1) => lcLoop s t c m id e r (k + 1) h1
        | _ => none
def lcM (vs : List Nat) (it : M Src) (t : Tg) (c : M Bool) (m : M D) : M D := bnd it fun s => fun e h =>
  (lcLoop s t c m h.length (wipeE e vs) s.len 0 (h ++ [.lst []])).map fun h1 => (.ok (.ref h.length), h1)
/-- two clauses -/
def lc2Loop (s : Src) (t : Tg) (it1 : M Src) (vs1 : List Nat) (t1 : Tg) (m : M D) (id : Nat) (e : DE) : Nat → Nat → DH → Option DH
  | 0, _, h => if s.done h then some h else none
  | r + 1, k, h => match s.at_ k h with
    | none => none
    | some d => match t.put d h e with
      | none => none
      | some e1 => match it1 e1 h with
        | some (.ok s1, h1) => match lcLoop s1 t1 (ret true) m id (wipeE e1 vs1) s1.len 0 h1 with
          | some h2 => lc2Loop s t it1 vs1 t1 m id e r (k + 1) h2
          | none => none
        | _ => none
def lc2M (vs : List Nat) (it : M Src) (t : Tg) (it1 : M Src) (vs1 : List Nat) (t1 : Tg) (m : M D) : M D := bnd it fun s => fun e h =>
  (lc2Loop s t it1 vs1 t1 m h.length (wipeE e vs) s.len 0 (h ++ [.lst []])).map fun h1 => (.ok (.ref h.length), h1)
/-- {k: v for ..}: keys tuples -/
def dcLoop (s : Src) (t : Tg) (mk mv : M D) (id : Nat) (e : DE) : Nat → Nat → DH → Option DH
  | 0, _, h => if s.done h then some h else none
  | r + 1, k, h => match s.at_ k h with
    | none => none
    | some d => match t.put d h e with
      | none => none
      | some e1 => match mk e1 h with
        | some (.ok (.tup ks), h1) => match mv e1 h1 with
          | some (.ok x, h2) => match keysD ks, h2[id]? with
            | some kk, some (.dt kvs) => if kvs.length < Z then dcLoop s t mk mv id e r (k + 1) (h2.set id (.dt (putD kvs kk x))) else none
            | _, _ => none
          | _ => none
        | _ => none
def dcM (vs : List Nat) (it : M Src) (t : Tg) (mk mv : M D) : M D := bnd it fun s => fun e h =>
  (dcLoop s t mk mv h.length (wipeE e vs) s.len 0 (h ++ [.dt []])).map fun h1 => (.ok (.ref h.length), h1)
/-- {k: v, ..} written out, keys texts or ints -/
def dispL : List (M D × M D) → M (List (D × D))
  | [] => ret []
  | p :: r => bnd p.1 fun k => bnd p.2 fun v => bnd (dispL r) fun rs => ret ((k, v) :: rs)
def dispKV (ps : List (D × D)) : Option (List (Key × D)) := ps.mapM fun p => (keyD p.1).map fun k => (k, p.2)
def dispM (ps : List (M D × M D)) : M D := fun e h =>
  match dispL ps e (h ++ [.dk []]) with
  | some (.ok kvs, h1) => match h1[h.length]?, dispKV kvs with
    | some (.dk []), some l => if l.length ≤ 15 then some (.ok (.ref h.length), h1.set h.length (.dk (l.foldl (fun acc kv => putD acc kv.1 kv.2) []))) else none
    | _, _ => none
  | _ => none

/-! ### what is new stands still from here on -/
mutual
def pureD : D → Bool
  | .tup xs => pureDs xs
  | .vl xs => pureDs xs
  | .vk _ xs => pureDs xs
  | .vt _ xs => pureDs xs
  | .vi _ _ xs => pureDs xs
  | .ref _ => false
  | _ => true
def pureDs : List D → Bool
  | [] => true
  | d :: ds => pureD d && pureDs ds
end
mutual
/-- all that it names stands below n -/
def belD (n : Nat) : D → Bool
  | .tup xs => belDs n xs
  | .vl xs => belDs n xs
  | .vk _ xs => belDs n xs
  | .vt _ xs => belDs n xs
  | .vi _ _ xs => belDs n xs
  | .ref i => Nat.blt i n
  | _ => true
def belDs (n : Nat) : List D → Bool
  | [] => true
  | d :: ds => belD n d && belDs n ds
end
def Ob.vals : Ob → List D
  | .lst xs => xs
  | .fl xs => xs
  | .dk kvs => kvs.map (·.2)
  | .fk kvs => kvs.map (·.2)
  | .dt kvs => kvs.map (·.2)
  | .ft kvs => kvs.map (·.2)
  | .ins _ fs => fs.map (·.2)
mutual
/-- each name replaced -/
def frF (look : Nat → Option D) : D → Option D
  | .tup xs => (frFs look xs).map .tup
  | .vl xs => (frFs look xs).map .vl
  | .vk ks xs => (frFs look xs).map (.vk ks)
  | .vt ks xs => (frFs look xs).map (.vt ks)
  | .vi c fs xs => (frFs look xs).map (.vi c fs)
  | .ref i => look i
  | d => some d
def frFs (look : Nat → Option D) : List D → Option (List D)
  | [] => some []
  | d :: ds => match frF look d with
    | some d' => match frFs look ds with
      | some r => some (d' :: r)
      | none => none
    | none => none
end
/-- an object as a value, its parts given -/
def Ob.vw : Ob → List D → D
  | .lst _, xs => .vl xs
  | .fl _, xs => .vl xs
  | .dk kvs, xs => .vk (kvs.map (·.1)) xs
  | .fk kvs, xs => .vk (kvs.map (·.1)) xs
  | .dt kvs, xs => .vt (kvs.map (·.1)) xs
  | .ft kvs, xs => .vt (kvs.map (·.1)) xs
  | .ins c fs, xs => .vi c (fs.map (·.1)) xs
/-- all from base on as values -/
def deep (base : Nat) (h : DH) : Nat → D → Option D
  | 0, d => frF (fun i => if Nat.blt i base then some (.ref i) else none) d
  | n + 1, d => frF (fun i => if Nat.blt i base then some (.ref i) else match h[i]? with
    | some ob => (ob.vals.mapM (deep base h n)).map ob.vw
    | none => none) d
def deepN : Nat := 6
def obBel (n : Nat) (ob : Ob) : Bool := belDs n ob.vals
def Clean (h h1 : DH) : Prop := h.length ≤ h1.length ∧ ∀ i, i < h.length → h1[i]? = h[i]? ∨ ∃ ob, h1[i]? = some ob ∧ obBel h.length ob = true
open Classical in
noncomputable def frzR (h h1 : DH) (d : D) : Option (D × DH) :=
  if h1.length = h.length then some (d, h1) else
    if Clean h h1 then match deep h.length h1 deepN d with
      | some d' => some (d', h1.take h.length)
      | none => none
    else none
mutual
def refsD : D → List Nat
  | .tup xs => refsDs xs
  | .vl xs => refsDs xs
  | .vk _ xs => refsDs xs
  | .vt _ xs => refsDs xs
  | .vi _ _ xs => refsDs xs
  | .ref i => [i]
  | _ => []
def refsDs : List D → List Nat
  | [] => []
  | d :: ds => refsD d ++ refsDs ds
end
def reach (h : DH) : Nat → D → List Nat
  | 0, d => refsD d
  | n + 1, d => refsD d ++ (refsD d).flatMap fun i => match h[i]? with
    | some ob => ob.vals.flatMap (reach h n)
    | none => []
def Ob.still : Ob → Option Ob
  | .lst xs => some (.fl xs)
  | .fl xs => some (.fl xs)
  | .dk xs => some (.fk xs)
  | .fk xs => some (.fk xs)
  | .dt xs => some (.ft xs)
  | .ft xs => some (.ft xs)
  | .ins _ _ => none
def still1 (h : DH) (i : Nat) : Option DH := match h[i]? with
  | some ob => match ob.still with
    | some o => some (h.set i o)
    | none => none
  | none => none
def stillAll : List Nat → DH → Option DH
  | [], h => some h
  | i :: is, h => match still1 h i with
    | some h1 => stillAll is h1
    | none => none
mutual
/-- nothing in it but numbers, texts and the like -/
def scalT : D → Bool
  | .tup xs => scalTs xs
  | .kt _ => true
  | .non => true | .bl _ => true | .int _ => true | .str _ => true
  | _ => false
def scalTs : List D → Bool
  | [] => true
  | d :: ds => scalT d && scalTs ds
end
/-- a call that sees values alone -/
def pcall (F : Call) (i : Nat) (ds : List D) : Option (Rs D) := match F i ds [] with
  | some (.ok d, h) => (deep 0 h deepN d).map .ok
  | some (.ex c p, h) => if scalT p then some (.ex c p) else none
  | none => none
def pcallH (F : Call) (i : Nat) (xs : List D) (h : DH) : Option (Rs D × DH) := match xs.mapM (deep 0 h deepN) with
  | none => none
  | some ys => match pcall F i ys with
    | none => none
    | some (.ex c p) => some (.ex c p, h)
    | some (.ok d) => if scalT d then some (.ok d, h) else (stillAll (xs.flatMap (reach h deepN)) h).map fun h1 => (.ok d, h1)
def callP (F : Call) (i : Nat) (as : List (M D)) : M D := bnd (args as) fun xs => fun _ h => pcallH F i xs h
section
variable {α : Type}
noncomputable def frzM (m : M D) : M D := fun e h => match m e h with
  | some (.ok d, h1) => match frzR h h1 d with
    | some p => some (.ok p.1, p.2)
    | none => none
  | r => r
noncomputable def trimM (m : M α) : M α := fun e h => match m e h with
  | some (.ok d, h1) => match frzR h h1 .non with
    | some p => some (.ok d, p.2)
    | none => none
  | r => r
end
/-! ### statements -/
def skip : MS := fun e h => some (.next, e, h)
def stuckS : MS := fun _ _ => none
def seq (a b : MS) : MS := fun e h =>
  match a e h with
  | some (.next, e1, h1) => b e1 h1
  | r => r
def withM {α : Type} (m : M α) (k : α → MS) : MS := fun e h =>
  match m e h with
  | none => none
  | some (.ex c p, h1) => some (.ex c p, e, h1)
  | some (.ok a, h1) => k a e h1
def drop (m : M D) : MS := withM m fun _ => skip
def retS (m : M D) : MS := withM m fun d => fun e h => some (.ret d, e, h)
def asg (t : Tg) (m : M D) : MS := withM m fun d => fun e h => (t.put d h e).map fun e1 => (.next, e1, h)
def ifS (t : M Bool) (a b : MS) : MS := withM t fun c => if c then a else b
def raiS (c : Nat) (m : M D) : MS := withM m fun p => fun e h => some (.ex c p, e, h)
def putAt (o k v : D) (h : DH) : Option DH := match o with
  | .ref i => match h[i]?, k with
    | some (.lst xs), .int j => match L2.ixN xs.length j with
      | some n => some (h.set i (.lst (xs.set n v)))
      | none => none
    | some (.dk kvs), k => match keyD k with
      | some kk => if kvs.length < Z then some (h.set i (.dk (putD kvs kk v))) else none
      | none => none
    | some (.dt kvs), .tup ks => match keysD ks with
      | some kk => if kvs.length < Z then some (h.set i (.dt (putD kvs kk v))) else none
      | none => none
    | _, _ => none
  | _ => none
def setS (o k m : M D) : MS := withM m fun v => withM o fun x => withM k fun y => fun e h => (putAt x y v h).map fun h1 => (.next, e, h1)
def augS (f : D → D → DH → Option (D × DH)) (i : Nat) (m : M D) : MS := withM (var i) fun x => withM m fun y => withM (lift (f x y)) fun z => fun e h => some (.next, e.set i (some z), h)
def forL (s : Src) (t : Tg) (b : MS) : Nat → Nat → MS
  | 0, _ => fun e h => if s.done h then some (.next, e, h) else none
  | r + 1, k => fun e h => match s.at_ k h with
    | none => none
    | some d => match t.put d h e with
      | none => none
      | some e1 => match b e1 h with
        | some (.next, e2, h2) => forL s t b r (k + 1) e2 h2
        | some (.cont, e2, h2) => forL s t b r (k + 1) e2 h2
        | some (.brk, e2, h2) => some (.next, e2, h2)
        | r => r
def forS (it : M Src) (t : Tg) (b : MS) : MS := withM it fun s => forL s t b s.len 0
def whileL (t : M Bool) (b : MS) : Nat → MS
  | 0 => stuckS
  | r + 1 => withM t fun c => if c then fun e h => match b e h with
      | some (.next, e2, h2) => whileL t b r e2 h2
      | some (.cont, e2, h2) => whileL t b r e2 h2
      | some (.brk, e2, h2) => some (.next, e2, h2)
      | r => r
    else skip
def noEx (r : Option (Fl × DE × DH)) : Option (Fl × DE × DH) := match r with
  | some (.ex _ _, _, _) => none
  | r => r
def tryS (b : MS) (c : Nat) (i : Option Nat) (s : MS) : MS := fun e h =>
  match b e h with
  | some (.ex c' p, e1, h1) => if c' = c then
      match i with
      | some i => match noEx (s (e1.set i (some p)) h1) with
        | some (f, e2, h2) => some (f, e2.set i none, h2)
        | none => none
      | none => noEx (s e1 h1)
    else none
  | r => r
end Dd

set_option Elab.async false
set_option linter.all false
set_option maxRecDepth 100000
set_option maxHeartbeats 4000000
namespace Dd
open PySem L2

/-! # 3b. What is new stands still: this is so -/
section
variable {K : PySem.W.Frag} {w : World} {kc : Nat → Addr} {m m1 m2 : Mp} {h h1 : DH} {H H1 : Hp}
theorem nblt {i n : Nat} : Nat.blt i n = true ↔ i < n := by rw [Nat.blt_eq]
mutual
theorem bel_of : ∀ (d : D) (v : V), RelD K w m H d v → belD m.l.length d = true
  | .non, _, _ => rfl
  | .bl _, _, _ => rfl
  | .int _, _, _ => rfl
  | .str _, _, _ => rfl
  | .frz _, _, _ => rfl
  | .kt _, _, _ => rfl
  | .wd _, _, _ => rfl
  | .tup xs, _, g => by obtain ⟨a, vs, _, _, g⟩ := g; exact bels_of xs vs g
  | .ref i, _, g => by obtain ⟨a, e, _⟩ := g; exact nblt.mpr (List.getElem?_eq_some_iff.mp e).1
  | .vl xs, _, g => by obtain ⟨a, vs, _, _, _, g⟩ := g; exact bels_of xs vs g
  | .vk _ xs, _, g => by obtain ⟨a, vs, _, _, _, _, g⟩ := g; exact bels_of xs vs g
  | .vt _ xs, _, g => by obtain ⟨a, vs, _, _, _, _, g⟩ := g; exact bels_of xs vs g
  | .vi _ _ xs, _, g => by obtain ⟨a, dx, vs, _, _, _, _, g⟩ := g; exact bels_of xs vs g
theorem bels_of : ∀ (ds : List D) (vs : List V), RelDs K w m H ds vs → belDs m.l.length ds = true
  | [], _, _ => rfl
  | d :: ds, _, g => by
    obtain ⟨v, vs', _, g1, g2⟩ := g
    show (belD _ d && belDs _ ds) = true
    rw [bel_of d v g1, bels_of ds vs' g2]; rfl
end
mutual
theorem RelD.low (base : Nat) (hl : ∀ i, i < base → ∀ a, m.l[i]? = some a → m2.l[i]? = some a) (hw : ∀ b, m2.ww b → m.ww b) (hk : m2.kc = m.kc) : ∀ (d : D) (v : V), belD base d = true → RelD K w m H d v → RelD K w m2 H d v
  | .non, _, _, g => g
  | .bl _, _, _, g => g
  | .int _, _, _, g => g
  | .str _, _, _, g => g
  | .frz _, _, _, g => g
  | .kt _, _, _, g => g
  | .wd _, _, _, g => g
  | .tup xs, _, b, g => by obtain ⟨a, vs, e, h1, g⟩ := g; exact ⟨a, vs, e, h1, RelDs.low base hl hw hk xs vs b g⟩
  | .ref i, _, b, g => by obtain ⟨a, e, z⟩ := g; exact ⟨a, hl i (nblt.mp b) a e, z⟩
  | .vl xs, _, b, g => by obtain ⟨a, vs, e, h1, h2, g⟩ := g; exact ⟨a, vs, e, h1, fun z => h2 (hw _ z), RelDs.low base hl hw hk xs vs b g⟩
  | .vk _ xs, _, b, g => by obtain ⟨a, vs, e, h1, h2, h3, g⟩ := g; exact ⟨a, vs, e, h1, fun z => h2 (hw _ z), h3, RelDs.low base hl hw hk xs vs b g⟩
  | .vt _ xs, _, b, g => by obtain ⟨a, vs, e, h1, h2, h3, g⟩ := g; exact ⟨a, vs, e, h1, fun z => h2 (hw _ z), h3, RelDs.low base hl hw hk xs vs b g⟩
  | .vi _ _ xs, _, b, g => by obtain ⟨a, dx, vs, e, h1, h2, h3, g⟩ := g; exact ⟨a, dx, vs, e, by rw [hk]; exact h1, fun z => h2 (hw _ z), h3, RelDs.low base hl hw hk xs vs b g⟩
theorem RelDs.low (base : Nat) (hl : ∀ i, i < base → ∀ a, m.l[i]? = some a → m2.l[i]? = some a) (hw : ∀ b, m2.ww b → m.ww b) (hk : m2.kc = m.kc) : ∀ (ds : List D) (vs : List V), belDs base ds = true → RelDs K w m H ds vs → RelDs K w m2 H ds vs
  | [], _, _, g => g
  | d :: ds, _, b, g => by
    obtain ⟨v, vs', e, g1, g2⟩ := g
    have b : (belD base d && belDs base ds) = true := b
    rw [Bool.and_eq_true] at b
    exact ⟨v, vs', e, RelD.low base hl hw hk d v b.1 g1, RelDs.low base hl hw hk ds vs' b.2 g2⟩
end
mutual
theorem frF_rel {look : Nat → Option D} (hw : ∀ b, m2.ww b → m.ww b) (hk : m2.kc = m.kc) : ∀ (d d' : D) (v : V), frF look d = some d' → (∀ i d1, i ∈ refsD d → look i = some d1 → ∀ v, RelD K w m H (.ref i) v → RelD K w m2 H d1 v) → RelD K w m H d v → RelD K w m2 H d' v
  | .non, _, _, e, _, g => by cases e; exact g
  | .bl _, _, _, e, _, g => by cases e; exact g
  | .int _, _, _, e, _, g => by cases e; exact g
  | .str _, _, _, e, _, g => by cases e; exact g
  | .frz _, _, _, e, _, g => by cases e; exact g
  | .kt _, _, _, e, _, g => by cases e; exact g
  | .wd _, _, _, e, _, g => by cases e; exact g
  | .ref i, d', v, e, l, g => l i d' (List.mem_singleton.mpr rfl) e v g
  | .tup xs, _, _, e, l, g => by
    have e : (frFs look xs).map D.tup = some _ := e
    cases q : frFs look xs with
    | none => rw [q] at e; cases e
    | some ys =>
      rw [q] at e; cases e
      obtain ⟨a, vs, e1, h1, g⟩ := g
      exact ⟨a, vs, e1, h1, (frFs_rel hw hk xs ys vs q l g).1⟩
  | .vl xs, _, _, e, l, g => by
    have e : (frFs look xs).map D.vl = some _ := e
    cases q : frFs look xs with
    | none => rw [q] at e; cases e
    | some ys =>
      rw [q] at e; cases e
      obtain ⟨a, vs, e1, h1, h2, g⟩ := g
      exact ⟨a, vs, e1, h1, fun z => h2 (hw _ z), (frFs_rel hw hk xs ys vs q l g).1⟩
  | .vk ks xs, _, _, e, l, g => by
    have e : (frFs look xs).map (D.vk ks) = some _ := e
    cases q : frFs look xs with
    | none => rw [q] at e; cases e
    | some ys =>
      rw [q] at e; cases e
      obtain ⟨a, vs, e1, h1, h2, h3, g⟩ := g
      obtain ⟨g1, g2⟩ := frFs_rel hw hk xs ys vs q l g
      exact ⟨a, vs, e1, h1, fun z => h2 (hw _ z), by rw [h3, g2], g1⟩
  | .vt ks xs, _, _, e, l, g => by
    have e : (frFs look xs).map (D.vt ks) = some _ := e
    cases q : frFs look xs with
    | none => rw [q] at e; cases e
    | some ys =>
      rw [q] at e; cases e
      obtain ⟨a, vs, e1, h1, h2, h3, g⟩ := g
      obtain ⟨g1, g2⟩ := frFs_rel hw hk xs ys vs q l g
      exact ⟨a, vs, e1, h1, fun z => h2 (hw _ z), by rw [h3, g2], g1⟩
  | .vi c fs xs, _, _, e, l, g => by
    have e : (frFs look xs).map (D.vi c fs) = some _ := e
    cases q : frFs look xs with
    | none => rw [q] at e; cases e
    | some ys =>
      rw [q] at e; cases e
      obtain ⟨a, dx, vs, e1, h1, h2, h3, g⟩ := g
      obtain ⟨g1, g2⟩ := frFs_rel hw hk xs ys vs q l g
      exact ⟨a, dx, vs, e1, by rw [hk]; exact h1, fun z => h2 (hw _ z), by rw [h3, g2], g1⟩
theorem frFs_rel {look : Nat → Option D} (hw : ∀ b, m2.ww b → m.ww b) (hk : m2.kc = m.kc) : ∀ (ds ds' : List D) (vs : List V), frFs look ds = some ds' → (∀ i d1, i ∈ refsDs ds → look i = some d1 → ∀ v, RelD K w m H (.ref i) v → RelD K w m2 H d1 v) → RelDs K w m H ds vs → RelDs K w m2 H ds' vs ∧ ds.length = ds'.length
  | [], _, _, e, _, g => by cases e; exact ⟨g, rfl⟩
  | d :: ds, _, _, e, l, g => by
    obtain ⟨v, vs', e1, g1, g2⟩ := g
    unfold frFs at e
    split at e
    · rename_i d' q1
      split at e
      · rename_i r q2
        cases e
        obtain ⟨i1, i2⟩ := frFs_rel hw hk ds r vs' q2 (fun i d1 hi => l i d1 (List.mem_append_right _ hi)) g2
        exact ⟨⟨v, vs', e1, frF_rel hw hk d d' v q1 (fun i d1 hi => l i d1 (List.mem_append_left _ hi)) g1, i1⟩, by rw [List.length_cons, List.length_cons, i2]⟩
      · cases e
    · cases e
end
theorem mapM_consS {α β : Type} {f : α → Option β} {x : α} {xs : List α} {ps : List β} (q : (x :: xs).mapM f = some ps) : ∃ p r, f x = some p ∧ xs.mapM f = some r ∧ ps = p :: r := by
  rw [List.mapM_cons] at q
  cases hx : f x with
  | none => rw [hx] at q; cases q
  | some p =>
    rw [hx] at q
    cases hr : xs.mapM f with
    | none => rw [hr] at q; cases q
    | some r => rw [hr] at q; cases q; exact ⟨p, r, rfl, rfl, rfl⟩
theorem mapM_rel {f : D → Option D} : ∀ (xs ys : List D) (vs : List V), xs.mapM f = some ys → (∀ d ∈ xs, ∀ d' v, f d = some d' → RelD K w m H d v → RelD K w m2 H d' v) → RelDs K w m H xs vs → RelDs K w m2 H ys vs ∧ xs.length = ys.length
  | [], _, _, e, _, g => by
    rw [List.mapM_nil] at e
    cases e
    exact ⟨g, rfl⟩
  | x :: xs, _, _, e, l, g => by
    obtain ⟨p, r, e1, e2, rfl⟩ := mapM_consS e
    obtain ⟨v, vs', rfl, g1, g2⟩ := g
    obtain ⟨i1, i2⟩ := mapM_rel xs r vs' e2 (fun d hd => l d (List.mem_cons_of_mem _ hd)) g2
    exact ⟨⟨v, vs', rfl, l x List.mem_cons_self p v e1 g1, i1⟩, by rw [List.length_cons, List.length_cons, i2]⟩
theorem zip_keys {κ : Type} {kvs : List (κ × D)} {vs : List (κ × V)} (e : vs.map (·.1) = kvs.map (·.1)) : vs = (kvs.map (·.1)).zip (vs.map (·.2)) := by
  rw [← e, zip_maps]
theorem vw_rel {ob : Ob} {a : Addr} {o : HO} {xs : List D} (hk : m2.kc = m.kc) (e : H a = some o) (g : RelOb K w m H ob o) (nw : ¬ m2.ww a) (f : ∀ vs, RelDs K w m H ob.vals vs → RelDs K w m2 H xs vs ∧ ob.vals.length = xs.length) : RelD K w m2 H (ob.vw xs) (.ref a) := by
  cases ob with
  | lst ds => obtain ⟨vs, rfl, g⟩ := g; exact ⟨a, vs, rfl, e, nw, (f vs g).1⟩
  | fl ds => obtain ⟨vs, rfl, g⟩ := g; exact ⟨a, vs, rfl, e, nw, (f vs g).1⟩
  | dk kvs => obtain ⟨vs, rfl, g⟩ := g; obtain ⟨g1, g2⟩ := KV_unzip g; exact ⟨a, vs.map (·.2), rfl, by rw [← zip_keys g2]; exact e, nw, by rw [← (f _ g1).2]; simp [Ob.vals], (f _ g1).1⟩
  | fk kvs => obtain ⟨vs, rfl, g⟩ := g; obtain ⟨g1, g2⟩ := KV_unzip g; exact ⟨a, vs.map (·.2), rfl, by rw [← zip_keys g2]; exact e, nw, by rw [← (f _ g1).2]; simp [Ob.vals], (f _ g1).1⟩
  | dt kvs => obtain ⟨vs, rfl, g⟩ := g; obtain ⟨g1, g2⟩ := KV_unzip g; exact ⟨a, vs.map (·.2), rfl, by rw [← zip_keys g2]; exact e, nw, by rw [← (f _ g1).2]; simp [Ob.vals], (f _ g1).1⟩
  | ft kvs => obtain ⟨vs, rfl, g⟩ := g; obtain ⟨g1, g2⟩ := KV_unzip g; exact ⟨a, vs.map (·.2), rfl, by rw [← zip_keys g2]; exact e, nw, by rw [← (f _ g1).2]; simp [Ob.vals], (f _ g1).1⟩
  | ins c fs => obtain ⟨dx, vs, rfl, g⟩ := g; obtain ⟨g1, g2⟩ := KV_unzip g; exact ⟨a, dx, vs.map (·.2), rfl, by rw [← zip_keys g2, hk]; exact e, nw, by rw [← (f _ g1).2]; simp [Ob.vals], (f _ g1).1⟩
theorem deep_rel {base : Nat} (r : RH K w kc m h H) (hl : ∀ i, i < base → ∀ a, m.l[i]? = some a → m2.l[i]? = some a) (hw : ∀ b, m2.ww b → m.ww b) (hk : m2.kc = m.kc) :
    ∀ (n : Nat) (d d' : D) (v : V), deep base h n d = some d' → (∀ i ∈ reach h n d, base ≤ i → ∀ a, m.l[i]? = some a → ¬ m2.ww a) → RelD K w m H d v → RelD K w m2 H d' v
  | 0, d, d', v, e, l, g => by
    refine frF_rel hw hk d d' v e (fun i d1 hi e1 v g => ?_) g
    split at e1
    · rename_i hb
      cases e1
      obtain ⟨a, q1, q2⟩ := g
      exact ⟨a, hl i (nblt.mp hb) a q1, q2⟩
    · cases e1
  | n + 1, d, d', v, e, l, g => by
    refine frF_rel hw hk d d' v e (fun i d1 hi e1 v g => ?_) g
    obtain ⟨a, q1, rfl⟩ := g
    split at e1
    · rename_i hb
      cases e1
      exact ⟨a, hl i (nblt.mp hb) a q1, rfl⟩
    · rename_i hb
      have hb : base ≤ i := Nat.le_of_not_lt fun z => hb (nblt.mpr z)
      split at e1
      · rename_i ob eo
        cases qm : ob.vals.mapM (deep base h n) with
        | none => rw [qm] at e1; cases e1
        | some ys =>
          rw [qm] at e1; cases e1
          obtain ⟨o, e2, g2⟩ := r.get q1 eo
          refine vw_rel hk e2 g2 (l i (List.mem_append_left _ hi) hb a q1) fun vs gv => ?_
          refine mapM_rel _ _ vs qm (fun d hd d' v e g => deep_rel r hl hw hk n d d' v e (fun j hj => l j (List.mem_append_right _ (List.mem_flatMap.mpr ⟨i, hi, ?_⟩))) g) gv
          rw [eo]
          exact List.mem_flatMap.mpr ⟨d, hd, hj⟩
      · cases e1
theorem RelKV.low {κ : Type} (base : Nat) (hl : ∀ i, i < base → ∀ a, m.l[i]? = some a → m2.l[i]? = some a) (hw : ∀ b, m2.ww b → m.ww b) (hk : m2.kc = m.kc) : ∀ (ds : List (κ × D)) (vs : List (κ × V)), belDs base (ds.map (·.2)) = true → RelKV K w m H ds vs → RelKV K w m2 H ds vs
  | [], _, _, g => g
  | d :: ds, _, b, g => by
    obtain ⟨v, vs', e, g1, g2⟩ := g
    have b : (belD base d.2 && belDs base (ds.map (·.2))) = true := b
    rw [Bool.and_eq_true] at b
    exact ⟨v, vs', e, RelD.low base hl hw hk d.2 v b.1 g1, RelKV.low base hl hw hk ds vs' b.2 g2⟩
theorem RelOb.low (base : Nat) (hl : ∀ i, i < base → ∀ a, m.l[i]? = some a → m2.l[i]? = some a) (hw : ∀ b, m2.ww b → m.ww b) (hk : m2.kc = m.kc) {ob : Ob} {o : HO} (b : obBel base ob = true) (g : RelOb K w m H ob o) : RelOb K w m2 H ob o := by
  cases ob with
  | lst ds => obtain ⟨vs, rfl, g⟩ := g; exact ⟨vs, rfl, RelDs.low base hl hw hk _ _ b g⟩
  | fl ds => obtain ⟨vs, rfl, g⟩ := g; exact ⟨vs, rfl, RelDs.low base hl hw hk _ _ b g⟩
  | dk ds => obtain ⟨vs, rfl, g⟩ := g; exact ⟨vs, rfl, RelKV.low base hl hw hk _ _ b g⟩
  | fk ds => obtain ⟨vs, rfl, g⟩ := g; exact ⟨vs, rfl, RelKV.low base hl hw hk _ _ b g⟩
  | dt ds => obtain ⟨vs, rfl, g⟩ := g; exact ⟨vs, rfl, RelKV.low base hl hw hk _ _ b g⟩
  | ft ds => obtain ⟨vs, rfl, g⟩ := g; exact ⟨vs, rfl, RelKV.low base hl hw hk _ _ b g⟩
  | ins c ds => obtain ⟨dx, vs, rfl, g⟩ := g; exact ⟨dx, vs, by rw [hk], RelKV.low base hl hw hk _ _ b g⟩
theorem kvs_bel {κ : Type} : ∀ {ds : List (κ × D)} {vs : List (κ × V)}, RelKV K w m H ds vs → belDs m.l.length (ds.map (·.2)) = true := fun g => bels_of _ _ (KV_unzip g).1
theorem ob_bel {ob : Ob} {o : HO} (g : RelOb K w m H ob o) : obBel m.l.length ob = true := by
  cases ob with
  | lst ds => obtain ⟨vs, rfl, g⟩ := g; exact bels_of _ _ g
  | fl ds => obtain ⟨vs, rfl, g⟩ := g; exact bels_of _ _ g
  | dk ds => obtain ⟨vs, rfl, g⟩ := g; exact kvs_bel g
  | fk ds => obtain ⟨vs, rfl, g⟩ := g; exact kvs_bel g
  | dt ds => obtain ⟨vs, rfl, g⟩ := g; exact kvs_bel g
  | ft ds => obtain ⟨vs, rfl, g⟩ := g; exact kvs_bel g
  | ins c ds => obtain ⟨dx, vs, rfl, g⟩ := g; exact kvs_bel g
/-- what is new stands still -/
theorem frz_main (r : RH K w kc m h H) (x : Ext m H m1 H1) (r1 : RH K w kc m1 h1 H1) {d : D} {v : V} {p : D × DH} (hp : frzR h h1 d = some p) (g : RelD K w m1 H1 d v) :
    ∃ m2, Ext m H m2 H1 ∧ RH K w kc m2 p.2 H1 ∧ RelD K w m2 H1 p.1 v := by
  unfold frzR at hp
  split at hp
  · cases hp
    exact ⟨m1, x, r1, g⟩
  split at hp
  rotate_left
  · cases hp
  rename_i hne hc
  split at hp
  rotate_left
  · cases hp
  rename_i d' hd
  cases hp
  dsimp only
  obtain ⟨more, em⟩ := x.pre
  have lm : m.l.length = h.length := r.len
  have dr : m1.l.drop h.length = more := by rw [em, ← lm, List.drop_left]
  have hl : ∀ i, i < h.length → ∀ a, m1.l[i]? = some a → m.l[i]? = some a := fun i hi a e => by
    rw [em, List.getElem?_append_left (by rw [lm]; exact hi)] at e
    exact e
  obtain ⟨m2, e2⟩ : ∃ m2 : Mp, m2 = ⟨m.l, fun b => m1.ww b ∧ b ∉ more, m.kc⟩ := ⟨_, rfl⟩
  have hl2 : ∀ i, i < h.length → ∀ a, m1.l[i]? = some a → m2.l[i]? = some a := fun i hi a e => by rw [e2]; exact hl i hi a e
  have hw2 : ∀ b, m2.ww b → m1.ww b := fun b z => by rw [e2] at z; exact z.1
  have hk2 : m2.kc = m1.kc := by rw [e2]; exact x.kc.symm
  refine ⟨m2, ?_, ?_, ?_⟩
  · refine ⟨⟨[], by rw [e2]; exact (List.append_nil _).symm⟩, by rw [e2], x.imm, fun b z => x.ww b (hw2 b z), fun b z => .inl (by rw [e2] at z; exact z), fun b o z1 z2 z3 => ?_⟩
    rw [e2]
    refine ⟨x.keep b o z1 z2 z3, fun z => ?_⟩
    rcases x.new b (by rw [em]; exact List.mem_append_right _ z) with q | q
    · exact z3 q
    · rw [z2] at q; cases q
  · refine ⟨by rw [e2]; exact r.nd, by rw [e2]; exact r.kc, ?_, fun i ob hi => ?_, fun b z => r1.ex b (hw2 b z)⟩
    · rw [e2, List.length_take]
      show m.l.length = _
      rw [lm, Nat.min_eq_left hc.1]
    · have hlt : i < h.length := by
        have := (List.getElem?_eq_some_iff.mp hi).1
        rw [List.length_take] at this
        omega
      rw [List.getElem?_take_of_lt hlt] at hi
      obtain ⟨a, o, q1, q2, q3, q4⟩ := r1.at_ i ob hi
      refine ⟨a, o, hl2 i hlt a q1, q2, RelOb.low h.length hl2 hw2 hk2 ?_ q3, ?_⟩
      · rcases hc.2 i hlt with e | ⟨ob', e, b⟩
        · rw [hi] at e
          obtain ⟨a', o', _, _, g3, _⟩ := r.at_ i ob e.symm
          rw [← lm]
          exact ob_bel g3
        · rw [hi] at e; cases e
          exact b
      · rw [← q4]
        refine ⟨hw2 a, fun z => by
          rw [e2]
          refine ⟨z, fun zz => ?_⟩
          have nd := r1.nd
          rw [em] at nd
          have q1' := List.mem_of_getElem? (hl i hlt a q1)
          exact (List.nodup_append.mp nd).2.2 a q1' a zz rfl⟩
  · refine deep_rel r1 hl2 hw2 hk2 deepN d d' v hd (fun i _ hb a e z => ?_) g
    rw [e2] at z
    refine z.2 ?_
    rw [em, List.getElem?_append_right (by rw [lm]; exact hb)] at e
    exact List.mem_of_getElem? e
/-! ### calls that see values alone -/
def Mp.still (m : Mp) (is : List Nat) : Mp := ⟨m.l, fun b => m.ww b ∧ ∀ i ∈ is, m.l[i]? ≠ some b, m.kc⟩
theorem ext_still (is : List Nat) : Ext m H (m.still is) H :=
  ⟨⟨[], (List.append_nil _).symm⟩, rfl, fun _ _ e _ => e, fun _ z => .inl z.1, fun _ z => .inl z, fun b o z1 z2 z3 => ⟨z1, fun i _ e => z3 (List.mem_of_getElem? e)⟩⟩
theorem still_one {ob o : Ob} (e : ob.still = some o) : o.mut = false ∧ ∀ {hx : HO}, RelOb K w m H ob hx → RelOb K w m H o hx := by
  cases ob <;> cases e <;> exact ⟨rfl, fun g => g⟩
theorem still1_rh (r : RH K w kc m h H) {i : Nat} (e : still1 h i = some h1) : RH K w kc (m.still [i]) h1 H := by
  unfold still1 at e
  split at e
  · rename_i ob e0
    split at e
    · rename_i o e1
      cases e
      obtain ⟨z1, z2⟩ := still_one (K := K) (w := w) (m := m) (H := H) e1
      have x : Ext m H (m.still [i]) H := ext_still [i]
      have hi : i < h.length := (List.getElem?_eq_some_iff.mp e0).1
      refine ⟨r.nd, r.kc, by rw [List.length_set]; exact r.len, fun j ob' hj => ?_, fun b z => r.ex b z.1⟩
      by_cases q : j = i
      · subst q
        rw [List.getElem?_set_self hi] at hj
        cases hj
        obtain ⟨a, hx, q1, q2, q3, q4⟩ := r.at_ j ob e0
        refine ⟨a, hx, q1, q2, (z2 q3).ext x, ⟨fun z => ?_, fun z => ?_⟩⟩
        · exact absurd q1 (z.2 j (List.mem_singleton.mpr rfl))
        · rw [z1] at z; cases z
      · rw [List.getElem?_set_ne (fun z => q z.symm)] at hj
        obtain ⟨a, hx, q1, q2, q3, q4⟩ := r.at_ j ob' hj
        refine ⟨a, hx, q1, q2, q3.ext x, ?_⟩
        rw [← q4]
        refine ⟨fun z => z.1, fun z => ⟨z, fun k hk e => ?_⟩⟩
        rw [List.mem_singleton.mp hk] at e
        obtain ⟨j1, g1⟩ := List.getElem?_eq_some_iff.mp q1
        obtain ⟨i1, g2⟩ := List.getElem?_eq_some_iff.mp e
        exact q ((List.getElem_inj r.nd).mp (g1.trans g2.symm))
    · cases e
  · cases e
theorem still_still (is : List Nat) (i : Nat) : ((m.still [i]).still is) = m.still (i :: is) := by
  unfold Mp.still
  congr 1
  funext b
  apply propext
  constructor
  · rintro ⟨⟨z1, z2⟩, z3⟩
    refine ⟨z1, fun j hj => ?_⟩
    rcases List.mem_cons.mp hj with rfl | hj
    · exact z2 j (List.mem_singleton.mpr rfl)
    · exact z3 j hj
  · rintro ⟨z1, z2⟩
    exact ⟨⟨z1, fun j hj => z2 j (by rw [List.mem_singleton.mp hj]; exact List.mem_cons_self)⟩, fun j hj => z2 j (List.mem_cons_of_mem _ hj)⟩
theorem still_nil : m.still [] = m := by
  unfold Mp.still
  cases m with
  | mk l ww kc =>
    congr 1
    funext b
    exact propext ⟨fun z => z.1, fun z => ⟨z, fun i hi => nomatch hi⟩⟩
theorem stillAll_rh : ∀ {is : List Nat} {m : Mp} {h h1 : DH}, RH K w kc m h H → stillAll is h = some h1 → RH K w kc (m.still is) h1 H
  | [], m, h, h1, r, e => by cases e; rw [still_nil]; exact r
  | i :: is, m, h, h1, r, e => by
    unfold stillAll at e
    split at e
    · rename_i h2 e1
      rw [← still_still]
      exact stillAll_rh (still1_rh r e1) e
    · cases e
mutual
theorem scal_rel {ma mb : Mp} {Hb : Hp} (xi : ∀ a vs, H a = some (.tup vs) → Hb a = some (.tup vs)) : ∀ (d : D) (v : V), scalT d = true → RelD K w ma H d v → RelD K w mb Hb d v
  | .non, _, _, g => g
  | .bl _, _, _, g => g
  | .int _, _, _, g => g
  | .str _, _, _, g => g
  | .tup xs, _, s, g => by obtain ⟨a, vs, e, h1, g⟩ := g; exact ⟨a, vs, e, xi a vs h1, scals_rel xi xs vs s g⟩
  | .kt _, _, _, g => g
  | .ref _, _, s, _ => nomatch s
  | .frz _, _, s, _ => nomatch s
  | .wd _, _, s, _ => nomatch s
  | .vl _, _, s, _ => nomatch s
  | .vk _ _, _, s, _ => nomatch s
  | .vt _ _, _, s, _ => nomatch s
  | .vi _ _ _, _, s, _ => nomatch s
theorem scals_rel {ma mb : Mp} {Hb : Hp} (xi : ∀ a vs, H a = some (.tup vs) → Hb a = some (.tup vs)) : ∀ (ds : List D) (vs : List V), scalTs ds = true → RelDs K w ma H ds vs → RelDs K w mb Hb ds vs
  | [], _, _, g => g
  | d :: ds, _, s, g => by
    obtain ⟨v, vs', e, g1, g2⟩ := g
    have s : (scalT d && scalTs ds) = true := s
    rw [Bool.and_eq_true] at s
    exact ⟨v, vs', e, scal_rel xi d v s.1 g1, scals_rel xi ds vs' s.2 g2⟩
end
/-- what a callee that sees values alone begins with -/
def Mp.none (ww : Addr → Prop) (m : Mp) : Mp := ⟨[], ww, m.kc⟩
theorem RH.none (r : RH K w kc m h H) {ww : Addr → Prop} (hw : ∀ b, ww b → ∃ o, H b = some o) : RH K w kc (Mp.none ww m) [] H :=
  ⟨List.nodup_nil, r.kc, rfl, fun i ob e => (by simp at e), hw⟩
/-- .. and what it leaves as it was -/
theorem ext_back {ww : Addr → Prop} {m' : Mp} (x : Ext (Mp.none ww m) H m' H1) : Ext m H m H1 :=
  ⟨⟨[], (List.append_nil _).symm⟩, rfl, fun b o e _ => x.imm b o e (.inr (.inl (fun z => nomatch z))), fun _ z => .inl z, fun _ z => .inl z, fun _ _ z _ _ => z⟩
theorem RH.back (r : RH K w kc m h H) {ww : Addr → Prop} {m' : Mp} (x : Ext (Mp.none ww m) H m' H1) : RH K w kc m h H1 := by
  have y : Ext m H m H1 := ext_back x
  refine ⟨r.nd, r.kc, r.len, fun i ob e => ?_, fun b z => ?_⟩
  · obtain ⟨a, o, q1, q2, q3, q4⟩ := r.at_ i ob e
    exact ⟨a, o, q1, x.imm a o q2 (.inr (.inl (fun z => nomatch z))), q3.ext y, q4⟩
  · obtain ⟨o, e⟩ := r.ex b z
    exact ⟨o, x.imm b o e (.inr (.inl (fun z => nomatch z)))⟩
end
end Dd

set_option Elab.async false
set_option linter.all false
set_option maxRecDepth 100000
set_option maxHeartbeats 4000000
namespace Dd
open PySem L2

/-! # 4. From the text to what it does -/
structure CE where
  N : List Str
  sc : Scope
  own : Bool
  blk : List (Str × NameKind)
  calm : Bool
  hk : Option (Nat × Nat)
  /-- defs: arity; 0: it sees values alone, 1: it changes what it is given, 2: and gives what may be changed -/
  fns : List (Str × Nat × Nat)
  con : List (Str × D)
  exc : List (Str × Str)
  /-- the slots whose lists and dicts are changed later -/
  raw : List Nat
  /-- the rows whose dicts have tuples as keys -/
  tkr : List Nat
def ixOf (x : Str) : List Str → Option Nat
  | [] => none
  | y :: r => if x = y then some 0 else (ixOf x r).map (· + 1)
def fnIx (x : Str) : List (Str × Nat × Nat) → Nat → Option (Nat × Nat × Nat)
  | [], _ => none
  | (y, a) :: r, k => if x = y then some (k, a) else fnIx x r (k + 1)
def fnKind (C : CE) (x : Str) : Nat := match fnIx x C.fns 0 with | some (_, _, k) => k | none => 0
/-- what makes nothing new, or what is to be changed -/
def rawE (C : CE) : Expr → Bool
  | .Name _ _ => true
  | .Constant _ _ _ => true
  | .List [] _ => true
  | .Dict [] [] _ => true
  | .Call (.Name f _) _ _ _ => fnKind C f == 2
  | _ => false
def exIx (x : Str) : List (Str × Str) → Nat → Option Nat
  | [], _ => none
  | (y, _) :: r, k => if x = y then some k else exIx x r (k + 1)
def plainNm (x : Str) : Bool := !(x == ("__debug__" : Str)) && !(x == ("__classdict__" : Str)) && !(x == ("__name__" : Str))
def visIx (C : CE) (x : Str) : Option Nat :=
  if plainNm x then
    match C.sc.names.lookup x with
    | some .local => ixOf x C.N
    | some .cell => ixOf x C.N
    | some .free => ixOf x C.N
    | _ => none
  else none
def glb (C : CE) (x : Str) : Bool := plainNm x && decide (C.sc.names.lookup x = some .globalImplicit)
/-- a name that may be stored -/
def locIx (C : CE) (x : Str) : Option Nat :=
  match C.sc.names.lookup x with
  | some .local => ixOf x C.N
  | some .cell => if C.own || decide (C.blk.lookup x = some .cell) then ixOf x C.N else none
  | _ => none
def isHk (C : CE) (i : Nat) : Bool := match C.hk with | some (j, _) => decide (i = j) | none => false
def bltNms : List Str := (blts.map (·.1)) ++ typNames.map (·.1) ++ (["isinstance", "range", "enumerate", "zip", "reversed", "sorted", "ValueError"] : List Str)
def noStar : Expr → Bool
  | .Starred _ _ => false
  | _ => true
def isComp : Expr → Bool
  | .ListComp _ _ _ _ => true
  | .SetComp _ _ _ _ => true
  | .DictComp _ _ _ _ _ => true
  | _ => false
def isSetE : Expr → Bool
  | .Set _ _ _ => true
  | _ => false
def callOf : Expr → Option (Str × List Expr)
  | .Call (.Name f _) as [] _ => some (f, as)
  | _ => none
def isTupE : Expr → Bool
  | .Tuple _ _ _ => true
  | _ => false
def isSl : Expr → Bool
  | .Slice _ _ _ _ => true
  | _ => false
/-- a test that is no value's truth -/
def isTst : Expr → Bool
  | .UnaryOp .Not _ _ => true
  | .BoolOp _ _ _ => true
  | .IfExp _ _ _ _ => true
  | .Compare _ _ _ _ => true
  | _ => false
def baseOk : Expr → Bool
  | .Call (.Name _ _) [] [] _ => false
  | _ => true
/-- the block's own names with their slots -/
def ownOf (N : List Str) (sc : Scope) : List (Str × Nat) := sc.names.filterMap fun y => match y.2 with
  | .local => (ixOf y.1 N).map fun i => (y.1, i)
  | .cell => (ixOf y.1 N).map fun i => (y.1, i)
  | _ => none
def CE.inBlk (C : CE) (sc : Scope) : CE := { C with sc := relS sc C.sc, own := false, blk := sc.names }
def nmIx (C : CE) : Expr → Option Nat
  | .Name x _ => match locIx C x with
    | some i => if isHk C i then none else some i
    | none => none
  | _ => none
def nmsIx (C : CE) : List Expr → Option (List Nat)
  | [] => some []
  | e :: r => match nmIx C e, nmsIx C r with
    | some i, some is => some (i :: is)
    | _, _ => none
def tgOf (C : CE) : Expr → Option Tg
  | .Name x p => (nmIx C (.Name x p)).map .nm
  | .Tuple es _ _ => if C.calm then (nmsIx C es).map .tp else none
  | _ => none
def Tg.ixs : Tg → List Nat
  | .nm i => [i]
  | .tp is => is
def mthOk (m : Mth) (x : D) (h : DH) : Bool := match m, x with
  | .join, .str _ => true
  | .join, _ => false
  | .count, d => (seqD d h).isSome
  | .index, d => (seqD d h).isSome
  | _, .ref i => (lstW h i).isSome
  | _, _ => false
def mthG (m : Mth) (x : D) (xs : List D) (h : DH) : Option (D × DH) := if mthOk m x h then mthD m x xs h else none
def mthM (m : Mth) (o : M D) (as : List (M D)) : M D := bnd o fun x => bnd (lift fun h => if mthOk m x h then some ((), h) else none) fun _ => bnd (args as) fun xs => lift (mthG m x xs)
def sliceM (a : M D) (lo hi : M (Option Int)) : M D := bnd a fun x => bnd lo fun l => bnd hi fun u => lift (sliceD x l u)
def intOf (m : M D) : M (Option Int) := bnd m fun x => match x with | .int i => ret (some i) | _ => stuck
def tupM (xs : List D) (h : DH) : Option (D × DH) := if xs.length ≤ Z then some (.tup xs, h) else none
def lstM (xs : List D) (h : DH) : Option (D × DH) := if xs.length ≤ Z then newOb (.lst xs) h else none
def augI (g : Int → Int → Bool) (f : Int → Int → Int) : D → D → DH → Option (D × DH)
  | .int i, .int j, h => if g i j then some (.int (f i j), h) else none
  | _, _, _ => none
def augD : PySem.Operator → Option (D → D → DH → Option (D × DH))
  | .Add => some (augI (fun _ _ => true) fun i j => i + j)
  | .Sub => some (augI (fun _ _ => true) fun i j => i - j)
  | .BitOr => some (augI (fun _ _ => true) PySem.Builtin.bitOr)
  | .RShift => some (augI (fun _ j => leI 0 j) shrI)
  | _ => none
def whileFuel : Nat := 1000000

def compT (C : CE) (tg it : Expr) (sc : Scope) : Option Tg :=
  if C.calm && blkC C.N C.sc sc (ownOf C.N sc) && !isSetE it then
    match tgOf (C.inBlk sc) tg with
    | some t => if t.ixs.all fun i => decide (i ∈ (ownOf C.N sc).map (·.2)) then some t else none
    | none => none
  else none
structure Sm where
  E : CE → Expr → M D
  T : CE → Expr → M Bool
  O : CE → Option Expr → M (Option Int)
  I : CE → Expr → Expr → M Src
  S : CE → Stmt → MS
  B : CE → List Stmt → MS

section
variable (F : Call) (Q : Sm)
noncomputable def frzE (C : CE) (e : Expr) : M D := if rawE C e then Q.E C e else frzM (Q.E C e)
noncomputable def callE (C : CE) (f : Str) (as : List Expr) : M D :=
  if as.all noStar && decide (as.length < 30) && glb C f then
    match fnIx f C.fns 0 with
    | some (i, ar, k) => if C.calm && decide (as.length = ar) && decide (0 < ar) then
        match k with
        | 0 => callP F i (as.map (frzE Q C))
        | 1 => frzM (callM F i (as.map (frzE Q C)))
        | 2 => callM F i (as.map (frzE Q C))
        | _ => stuck
      else stuck
    | none => if f = "isinstance" then
        match as with
        | [a, .Name T _] => if glb C T then
            match typNames.lookup T with
            | some t => op1 (isinD t) (Q.E C a)
            | none => stuck
          else stuck
        | _ => stuck
      else match blts.lookup f with
        | some b => if (needsCalm b && !C.calm) || as.isEmpty then stuck else opN (bltD b) (as.map (Q.E C))
        | none => stuck
  else stuck
noncomputable def compE (C : CE) (elt tg it : Expr) (ifs : List Expr) (sc : Scope) : M D := match compT C tg it sc with
  | some t => match ifs with
    | [] => lcM ((ownOf C.N sc).map (·.2)) (Q.I C tg it) t (ret true) (frzE Q (C.inBlk sc) elt)
    | [c] => lcM ((ownOf C.N sc).map (·.2)) (Q.I C tg it) t (trimM (Q.T (C.inBlk sc) c)) (frzE Q (C.inBlk sc) elt)
    | _ => stuck
  | none => stuck
noncomputable def comp2E (C : CE) (elt tg it tg1 it1 : Expr) (sc : Scope) : M D := match compT C tg it sc with
  | some t => match tgOf (C.inBlk sc) tg1 with
    | some t1 => if (t1.ixs.all fun i => decide (i ∈ (ownOf C.N sc).map (·.2))) && !isSetE it1 then
        lc2M ((ownOf C.N sc).map (·.2)) (Q.I C tg it) t (Q.I (C.inBlk sc) tg1 it1) t1.ixs t1 (frzE Q (C.inBlk sc) elt)
      else stuck
    | none => stuck
  | none => stuck
noncomputable def dcompE (C : CE) (k v tg it : Expr) (sc : Scope) : M D := match compT C tg it sc with
  | some t => dcM ((ownOf C.N sc).map (·.2)) (Q.I C tg it) t (frzE Q (C.inBlk sc) k) (frzE Q (C.inBlk sc) v)
  | none => stuck
noncomputable def stepE (C : CE) : Expr → M D
  | .Constant (.int i) _ _ => ret (.int i)
  | .Constant (.bool b) _ _ => ret (.bl b)
  | .Constant .none _ _ => ret .non
  | .Constant (.str x) _ _ => ret (.str x)
  | .Name x _ => match visIx C x with
    | some i => if isHk C i then stuck else var i
    | none => if glb C x then
        match C.con.lookup x with
        | some d => ret d
        | none => stuck
      else stuck
  | .BinOp a op b _ => match binD op with
    | some f => op2 f (Q.E C a) (Q.E C b)
    | none => stuck
  | .UnaryOp .USub a _ => op1 negD (Q.E C a)
  | .UnaryOp .Not a _ => notV (Q.E C a)
  | .BoolOp _ [a] _ => Q.E C a
  | .BoolOp .And (a :: b :: r) p => andV (Q.E C a) (Q.E C (.BoolOp .And (b :: r) p))
  | .BoolOp .Or (a :: b :: r) p => orV (Q.E C a) (Q.E C (.BoolOp .Or (b :: r) p))
  | .IfExp t a b _ => iteM (Q.T C t) (Q.E C a) (Q.E C b)
  | .Compare a [op] [b] _ => if isSetE b then stuck else match cmpD op with
    | some f => op2 f (Q.E C a) (Q.E C b)
    | none => stuck
  | .Compare a [op, op'] [b, c] _ => match ordD op, ordD op' with
    | some f, some g => chn f g (Q.E C a) (Q.E C b) (Q.E C c)
    | _, _ => stuck
  | .Tuple es _ _ => if es.all noStar then opN tupM (es.map (Q.E C)) else stuck
  | .List es _ => if es.all noStar then opN lstM (es.map (Q.E C)) else stuck
  | .Dict [] [] p => if decide (p.line ∈ C.tkr) then lift (newOb (.dt [])) else lift (newOb (.dk []))
  | .Dict keys vals _ => if keys.all Option.isSome && decide (keys.length = vals.length) && !keys.isEmpty && decide (keys.length ≤ 15) then
      dispM ((keys.zip vals).map fun p => (match p.1 with | some k => Q.E C k | none => stuck, Q.E C p.2))
    else stuck
  | .Subscript a (.Slice lo hi none _) _ => sliceM (Q.E C a) (Q.O C lo) (Q.O C hi)
  | .Subscript a b _ => if isSl b then stuck else op2 ixD (Q.E C a) (Q.E C b)
  | .Attribute (.Name x _) f _ => match C.hk with
    | some (i, c) => if visIx C x = some i && decide ((C.exc[c]?).map (·.2) = some f) then var i else stuck
    | none => stuck
  | .Call (.Name f _) as [] _ => callE F Q C f as
  | .Call (.Attribute o m ap) as [] p => if (ap.endLine == p.line) && baseOk o && as.all noStar && decide (as.length < 30) then
      match mths.lookup m with
      | some k => if as.isEmpty && !decide (k = .pop) then stuck else mthM k (Q.E C o) (as.map (frzE Q C))
      | none => if decide (m = "bit_length") && as.isEmpty then op1 bitsD (Q.E C o) else stuck
    else stuck
  | .ListComp elt [⟨tg, it, ifs, 0⟩] sc _ => compE Q C elt tg it ifs sc
  | .ListComp elt [⟨tg, it, [], 0⟩, ⟨tg1, it1, [], 0⟩] sc _ => comp2E Q C elt tg it tg1 it1 sc
  | .DictComp k v [⟨tg, it, [], 0⟩] sc _ => dcompE Q C k v tg it sc
  | _ => stuck
noncomputable def stepT (C : CE) : Expr → M Bool
  | .UnaryOp .Not a _ => notT (Q.T C a)
  | .BoolOp _ [a] _ => Q.T C a
  | .BoolOp .And (a :: b :: r) p => andT (Q.T C a) (Q.T C (.BoolOp .And (b :: r) p))
  | .BoolOp .Or (a :: b :: r) p => orT (Q.T C a) (Q.T C (.BoolOp .Or (b :: r) p))
  | .Compare a ops bs p => tst (stepE F Q C (.Compare a ops bs p))
  | e => if isTst e then stuck else tru truD (Q.E C e)
def stepO (C : CE) : Option Expr → M (Option Int)
  | none => ret none
  | some e => intOf (Q.E C e)
noncomputable def anyI (C : CE) (e : Expr) : M Src := if isSetE e then stuck else bnd (frzE Q C e) fun x => lift (srcD x)
noncomputable def stepI (C : CE) (tg e : Expr) : M Src := match callOf e with
  | some (f, [a]) => if f = "range" then (if glb C f && noStar a then bnd (frzE Q C a) fun x => lift (rng1 x) else stuck) else anyI Q C e
  | some (f, [a, b]) => if f = "range" then (if glb C f && noStar a && noStar b then bnd (frzE Q C a) fun x => bnd (frzE Q C b) fun y => lift (rng2 x y) else stuck)
    else if f = "zip" then (if glb C f && noStar a && noStar b && isTupE tg then bnd (frzE Q C a) fun x => bnd (frzE Q C b) fun y => lift (zipD x y) else stuck)
    else anyI Q C e
  | some (f, [a, b, c]) => if f = "range" then (if glb C f && noStar a && noStar b && noStar c then bnd (frzE Q C a) fun x => bnd (frzE Q C b) fun y => bnd (frzE Q C c) fun z => lift (rng3 x y z) else stuck) else anyI Q C e
  | _ => anyI Q C e
def tryE (C : CE) (body : List Stmt) (x : Str) (n : Option Str) (su : List Stmt) : MS :=
  if C.calm && C.own && glb C x && !su.isEmpty then
    match exIx x C.exc 0 with
    | some c => match n with
      | some n => match C.sc.names.lookup n, ixOf n C.N with
        | some .local, some i => tryS (Q.B C body) c (some i) (Q.B { C with calm := false, hk := some (i, c) } su)
        | _, _ => stuckS
      | none => tryS (Q.B C body) c none (Q.B { C with calm := false, hk := none } su)
    | none => stuckS
  else stuckS
/-- what is given to a name that nobody changes stands still -/
noncomputable def asgF (C : CE) (t : Tg) (e : Expr) (m : M D) : MS := if rawE C e || t.ixs.any (fun i => decide (i ∈ C.raw)) then asg t m else asg t (frzM m)
noncomputable def stepS (C : CE) : Stmt → MS
  | .Return (some e) _ => retS (Q.E C e)
  | .Return none _ => retS (ret .non)
  | .Pass _ => skip
  | .Break _ => fun e h => some (.brk, e, h)
  | .Continue _ => fun e h => some (.cont, e, h)
  | .Expr (.Constant (.str _) _ _) _ => skip
  | .Expr e _ => if isComp e then stuckS else drop (frzM (Q.E C e))
  | .Assign [.Subscript o k _] e _ => if isSl k || isComp e then stuckS else setS (Q.E C o) (Q.E C k) (frzE Q C e)
  | .Assign [tg] e _ => match tgOf C tg with
    | some t => if isTupE tg && isTupE e || isComp e && isTupE tg then stuckS else asgF C t e (if isComp e then stepE F Q C e else Q.E C e)
    | none => stuckS
  | .AugAssign (.Name x _) op e _ => match locIx C x, augD op with
    | some i, some f => if isHk C i then stuckS else augS f i (Q.E C e)
    | _, _ => stuckS
  | .If t a b _ => ifS (trimM (Q.T C t)) (Q.B C a) (Q.B C b)
  | .For tg it b [] _ => if C.calm && !isSetE it then
      match tgOf C tg with
      | some t => forS (Q.I C tg it) t (Q.B C b)
      | none => stuckS
    else stuckS
  | .While t b [] _ => whileL (trimM (Q.T C t)) (Q.B C b) whileFuel
  | .Raise (some (.Call (.Name x _) [a] [] _)) none _ => if C.calm && C.own && glb C x && noStar a then
      match exIx x C.exc 0 with
      | some c => raiS c (Q.E C a)
      | none => stuckS
    else stuckS
  | .Try b [.ExceptHandler (some (.Name x _)) n su _] [] [] _ => tryE Q C b x n su
  | _ => stuckS
def stepB (C : CE) : List Stmt → MS
  | [] => skip
  | s :: r => seq (Q.S C s) (stepB C r)
noncomputable def stepQ : Sm := ⟨stepE F Q, stepT F Q, stepO Q, stepI Q, stepS F Q, stepB Q⟩
end
def sem0 : Sm := ⟨fun _ _ => stuck, fun _ _ => stuck, fun _ _ => stuck, fun _ _ _ => stuck, fun _ _ => stuckS, fun _ _ => stuckS⟩
noncomputable def sem (F : Call) : Nat → Sm
  | 0 => sem0
  | n + 1 => stepQ F (sem F n)

/-! # 5. The program: its defs by number -/
structure Fn where
  name : Str
  ps : List Str
  N : List Str
  sc : Scope
  body : List Stmt
  kind : Nat
  raw : List Nat
structure Pg where
  fns : List Fn
  con : List (Str × D)
  exc : List (Str × Str)
  tkr : List Nat
def Pg.ce (P : Pg) (f : Fn) : CE := ⟨f.N, f.sc, true, [], true, none, P.fns.map fun g => (g.name, g.ps.length, g.kind), P.con, P.exc, f.raw, P.tkr⟩
def fuel : Nat := 60
def startD (N : List Str) (ds : List D) : DE := ds.map some ++ List.replicate (N.length - ds.length) none
noncomputable def Fn.run (f : Fn) (P : Pg) (F : Call) (ds : List D) (h : DH) : Option (Rs D × DH) :=
  if ds.length = f.ps.length then
    match (sem F fuel).B (P.ce f) f.body (startD f.N ds) h with
    | some (.ret d, _, h1) => some (.ok d, h1)
    | some (.next, _, h1) => some (.ok .non, h1)
    | some (.ex c p, _, h1) => some (.ex c p, h1)
    | _ => none
  else none
/-- n calls deep -/
noncomputable def Pg.run (P : Pg) : Nat → Call
  | 0 => fun _ _ _ => none
  | n + 1 => fun i ds h => match P.fns[i]? with
    | some f => f.run P (P.run n) ds h
    | none => none
end Dd

set_option Elab.async false
set_option linter.all false
set_option maxRecDepth 100000
set_option maxHeartbeats 4000000
namespace Dd
open PySem PySem.Spec PyProof.Rows L2

/-! # 6. The readings -/
structure Pc where
  K : PySem.W.Frag
  w : World
  cls : Nat → Addr
  fld : Nat → Str
  W : WX
  hk : Option (Nat × Addr × Addr × Str)
  kc : Nat → Addr
abbrev Pc.R (G : Pc) (m : Mp) (H : Hp) : D → V → Prop := RelD G.K G.w m H
abbrev Pc.Rs (G : Pc) (m : Mp) (H : Hp) : List D → List V → Prop := RelDs G.K G.w m H
abbrev Pc.H (G : Pc) : Mp → DH → Hp → Prop := RH G.K G.w G.kc
def SlotR (G : Pc) (m : Mp) (H : Hp) (i : Nat) (d : D) (o : Option (Option V)) : Prop :=
  match G.hk with
  | some (j, a, dd, f) => if i = j then o = some (some (.ref a)) ∧ ∃ u, H dd = some (.xd [(f, u)]) ∧ G.R m H d u else ∃ v, o = some (some v) ∧ G.R m H d v
  | none => ∃ v, o = some (some v) ∧ G.R m H d v
structure EnvR (G : Pc) (m : Mp) (H : Hp) (e : DE) (σ : L2.St) : Prop where
  len : e.length = σ.length
  slot : ∀ (i : Nat) (d : D), e[i]? = some (some d) → SlotR G m H i d σ[i]?
theorem SlotR.ext {G : Pc} {m m' : Mp} {H H' : Hp} (x : Ext m H m' H') {i : Nat} {d : D} {o : Option (Option V)} (h : SlotR G m H i d o) : SlotR G m' H' i d o := by
  unfold SlotR at h ⊢
  cases hh : G.hk with
  | none =>
    rw [hh] at h
    obtain ⟨v, e1, e2⟩ := h
    exact ⟨v, e1, e2.ext x⟩
  | some q =>
    obtain ⟨j, a, dd, f⟩ := q
    rw [hh] at h
    dsimp only at h ⊢
    by_cases hi : i = j
    · rw [if_pos hi] at h ⊢
      obtain ⟨e1, u, e2, e3⟩ := h
      exact ⟨e1, u, x.imm1 e2 rfl, e3.ext x⟩
    · rw [if_neg hi] at h ⊢
      obtain ⟨v, e1, e2⟩ := h
      exact ⟨v, e1, e2.ext x⟩
theorem EnvR.ext {G : Pc} {m m' : Mp} {H H' : Hp} {e : DE} {σ : L2.St} (h : EnvR G m H e σ) (x : Ext m H m' H') : EnvR G m' H' e σ :=
  ⟨h.len, fun i d q => (h.slot i d q).ext x⟩
def notHk (G : Pc) (i : Nat) : Prop := ∀ q, G.hk = some q → i ≠ q.1
theorem EnvR.get {G : Pc} {m : Mp} {H : Hp} {e : DE} {σ : L2.St} (h : EnvR G m H e σ) {i : Nat} {d : D} (hn : notHk G i) (q : e[i]? = some (some d)) : ∃ v, σ[i]? = some (some v) ∧ G.R m H d v := by
  have z := h.slot i d q
  unfold SlotR at z
  cases hh : G.hk with
  | none => rw [hh] at z; exact z
  | some p =>
    obtain ⟨j, a, dd, f⟩ := p
    rw [hh] at z
    dsimp only at z
    rw [if_neg (hn _ hh)] at z
    exact z
theorem EnvR.set {G : Pc} {m : Mp} {H : Hp} {e : DE} {σ : L2.St} (h : EnvR G m H e σ) {i : Nat} {d : D} {v : V} (hn : notHk G i) (r : G.R m H d v) : EnvR G m H (e.set i (some d)) (σ.set i (some v)) := by
  refine ⟨by rw [List.length_set, List.length_set]; exact h.len, fun j x q => ?_⟩
  by_cases hj : j = i
  · subst hj
    have hl : j < e.length := by
      have := (List.getElem?_eq_some_iff.mp q).1
      rwa [List.length_set] at this
    rw [List.getElem?_set_self hl] at q
    cases q
    rw [List.getElem?_set_self (by rw [← h.len]; exact hl)]
    unfold SlotR
    cases hh : G.hk with
    | none => exact ⟨v, rfl, r⟩
    | some p =>
      obtain ⟨k, a, dd, f⟩ := p
      dsimp only
      rw [if_neg (hn _ hh)]
      exact ⟨v, rfl, r⟩
  · rw [List.getElem?_set_ne (fun z => hj z.symm)] at q ⊢
    exact h.slot j x q
theorem EnvR.clear {G : Pc} {m : Mp} {H : Hp} {e : DE} {σ : L2.St} (h : EnvR G m H e σ) (i : Nat) : EnvR G m H (e.set i none) (σ.set i none) := by
  refine ⟨by rw [List.length_set, List.length_set]; exact h.len, fun j x q => ?_⟩
  by_cases hj : j = i
  · subst hj
    have hl : j < e.length := by
      have := (List.getElem?_eq_some_iff.mp q).1
      rwa [List.length_set] at this
    rw [List.getElem?_set_self hl] at q
    cases q
  · rw [List.getElem?_set_ne (fun z => hj z.symm)] at q ⊢
    exact h.slot j x q
theorem EnvR.wipe {G : Pc} {m : Mp} {H : Hp} {e : DE} {σ : L2.St} (h : EnvR G m H e σ) : ∀ vs : List Nat, EnvR G m H (wipeE e vs) (wipe σ vs)
  | [] => h
  | v :: vs => (EnvR.wipe h vs).clear v

def ExcAt (G : Pc) (m : Mp) (H : Hp) (c : Nat) (p : D) (cv : Value) (d : Option Addr) : Prop :=
  cv = .ref (G.cls c) ∧ ∃ dd u, d = some dd ∧ H dd = some (.xd [(G.fld c, u)]) ∧ G.R m H p u
section
variable {α β γ : Type}
def Post (G : Pc) (rel : Mp → Hp → α → β → Prop) (σ : L2.St) (r : Rs α) (m : Mp) (H : Hp) (Q : β → Hp → Prop) : Prop :=
  match r with
  | .ok a => ∀ b, rel m H a b → Q b H
  | .ex c p => ∀ cv d, ExcAt G m H c p cv d → G.W cv d σ H
def tG (G : Pc) (rel : Mp → Hp → α → β → Prop) (M : M α) : L2.St → Hp → (β → Hp → Prop) → Prop := fun σ H Q =>
  ∃ m e h r h', G.H m h H ∧ EnvR G m H e σ ∧ M e h = some (r, h') ∧ ∀ m' H', Ext m H m' H' → G.H m' h' H' → Post G rel σ r m' H' Q
/-- values on the way: one, two, three, a list -/
def tA (G : Pc) (cs : List V) (rel : Mp → Hp → α → β → Prop) (k : List D → M α) : L2.St → Hp → (β → Hp → Prop) → Prop := fun σ H Q =>
  ∃ m e h ds r h', G.H m h H ∧ EnvR G m H e σ ∧ G.Rs m H ds cs ∧ k ds e h = some (r, h') ∧ ∀ m' H', Ext m H m' H' → G.H m' h' H' → Post G rel σ r m' H' Q
def tA1 (G : Pc) (x : V) (rel : Mp → Hp → α → β → Prop) (k : D → M α) : L2.St → Hp → (β → Hp → Prop) → Prop := fun σ H Q =>
  ∃ m e h a r h', G.H m h H ∧ EnvR G m H e σ ∧ G.R m H a x ∧ k a e h = some (r, h') ∧ ∀ m' H', Ext m H m' H' → G.H m' h' H' → Post G rel σ r m' H' Q
def tA2 (G : Pc) (x y : V) (rel : Mp → Hp → α → β → Prop) (k : D → D → M α) : L2.St → Hp → (β → Hp → Prop) → Prop := fun σ H Q =>
  ∃ m e h a b r h', G.H m h H ∧ EnvR G m H e σ ∧ G.R m H a x ∧ G.R m H b y ∧ k a b e h = some (r, h') ∧ ∀ m' H', Ext m H m' H' → G.H m' h' H' → Post G rel σ r m' H' Q
def tA3 (G : Pc) (x y z : V) (rel : Mp → Hp → α → β → Prop) (k : D → D → D → M α) : L2.St → Hp → (β → Hp → Prop) → Prop := fun σ H Q =>
  ∃ m e h a b c r h', G.H m h H ∧ EnvR G m H e σ ∧ G.R m H a x ∧ G.R m H b y ∧ G.R m H c z ∧ k a b c e h = some (r, h') ∧ ∀ m' H', Ext m H m' H' → G.H m' h' H' → Post G rel σ r m' H' Q
variable {G : Pc} {rel : Mp → Hp → α → β → Prop} {σ : L2.St} {H : Hp} {Q Q' : β → Hp → Prop}
theorem Post.mono {r : Rs α} {m : Mp} (h : Post G rel σ r m H Q) (q : ∀ b H, Q b H → Q' b H) : Post G rel σ r m H Q' := by
  cases r with
  | ok a => exact fun b hb => q b H (h b hb)
  | ex c p => exact h
theorem tG.mono {M : M α} (h : tG G rel M σ H Q) (q : ∀ b H, Q b H → Q' b H) : tG G rel M σ H Q' := by
  obtain ⟨m, e, hh, r, h', a1, a2, a3, a4⟩ := h
  exact ⟨m, e, hh, r, h', a1, a2, a3, fun m' H' x y => (a4 m' H' x y).mono q⟩
theorem tG_bnd {M : M D} {k : D → Dd.M α} (hyp : tG G rel (bnd M k) σ H Q) : tG G G.R M σ H (fun x H1 => tA1 G x rel k σ H1 Q) := by
  obtain ⟨m, e, h, r, h', a1, a2, a3, a4⟩ := hyp
  dsimp only [bnd] at a3
  cases hm : M e h with
  | none => rw [hm] at a3; cases a3
  | some q =>
    obtain ⟨r1, h1⟩ := q
    rw [hm] at a3
    refine ⟨m, e, h, r1, h1, a1, a2, hm, fun m1 H1 x1 y1 => ?_⟩
    cases r1 with
    | ex c p =>
      cases a3
      exact a4 m1 H1 x1 y1
    | ok a => exact fun b hb => ⟨m1, e, h1, a, r, h', y1, a2.ext x1, hb, a3, fun m2 H2 x2 y2 => a4 m2 H2 (x1.trans x2) y2⟩
theorem tA1_bnd {x : V} {M : M D} {k : D → D → Dd.M α} (hyp : tA1 G x rel (fun a => bnd M (k a)) σ H Q) : tG G G.R M σ H (fun y H1 => tA2 G x y rel k σ H1 Q) := by
  obtain ⟨m, e, h, a, r, h', a1, a2, ra, a3, a4⟩ := hyp
  dsimp only [bnd] at a3
  cases hm : M e h with
  | none => rw [hm] at a3; cases a3
  | some q =>
    obtain ⟨r1, h1⟩ := q
    rw [hm] at a3
    refine ⟨m, e, h, r1, h1, a1, a2, hm, fun m1 H1 x1 y1 => ?_⟩
    cases r1 with
    | ex c p =>
      cases a3
      exact a4 m1 H1 x1 y1
    | ok b => exact fun y hb => ⟨m1, e, h1, a, b, r, h', y1, a2.ext x1, ra.ext x1, hb, a3, fun m2 H2 x2 y2 => a4 m2 H2 (x1.trans x2) y2⟩
theorem tA2_bnd {x y : V} {M : M D} {k : D → D → D → Dd.M α} (hyp : tA2 G x y rel (fun a b => bnd M (k a b)) σ H Q) : tG G G.R M σ H (fun z H1 => tA3 G x y z rel k σ H1 Q) := by
  obtain ⟨m, e, h, a, b, r, h', a1, a2, ra, rb, a3, a4⟩ := hyp
  dsimp only [bnd] at a3
  cases hm : M e h with
  | none => rw [hm] at a3; cases a3
  | some q =>
    obtain ⟨r1, h1⟩ := q
    rw [hm] at a3
    refine ⟨m, e, h, r1, h1, a1, a2, hm, fun m1 H1 x1 y1 => ?_⟩
    cases r1 with
    | ex c p =>
      cases a3
      exact a4 m1 H1 x1 y1
    | ok b' => exact fun y hb => ⟨m1, e, h1, a, b, b', r, h', y1, a2.ext x1, ra.ext x1, rb.ext x1, hb, a3, fun m2 H2 x2 y2 => a4 m2 H2 (x1.trans x2) y2⟩
/-- a test's answer, then -/
def relB : Mp → Hp → Bool → Bool → Prop := fun _ _ a b => a = b
theorem tG_bndB {M : M Bool} {k : Bool → Dd.M α} (hyp : tG G rel (bnd M k) σ H Q) : tG G relB M σ H (fun b H1 => tG G rel (k b) σ H1 Q) := by
  obtain ⟨m, e, h, r, h', a1, a2, a3, a4⟩ := hyp
  dsimp only [bnd] at a3
  cases hm : M e h with
  | none => rw [hm] at a3; cases a3
  | some q =>
    obtain ⟨r1, h1⟩ := q
    rw [hm] at a3
    refine ⟨m, e, h, r1, h1, a1, a2, hm, fun m1 H1 x1 y1 => ?_⟩
    cases r1 with
    | ex c p =>
      cases a3
      exact a4 m1 H1 x1 y1
    | ok a =>
      intro b hb
      have hb' : a = b := hb
      subst hb'
      exact ⟨m1, e, h1, r, h', y1, a2.ext x1, a3, fun m2 H2 x2 y2 => a4 m2 H2 (x1.trans x2) y2⟩
theorem tG_ret {a : α} (hyp : tG G rel (ret a) σ H Q) : ∃ m e h, G.H m h H ∧ EnvR G m H e σ ∧ ∀ b, rel m H a b → Q b H := by
  obtain ⟨m, e, h, r, h', a1, a2, a3, a4⟩ := hyp
  cases a3
  exact ⟨m, e, h, a1, a2, a4 m H (Ext.refl _ _) a1⟩
theorem tG_stuck (hyp : tG G rel (stuck : M α) σ H Q) : False := by
  obtain ⟨m, e, h, r, h', a1, a2, a3, a4⟩ := hyp
  cases a3
end
theorem PE.of {X : Cx} {e : Expr} {t t' : TE} (h : PE X e t) (w : ∀ σ H Q, t' σ H Q → t σ H Q) : PE X e t' := ⟨fun pins s σ H Q I q => h.run pins s σ H Q I (w σ H Q q)⟩
theorem PT.of {X : Cx} {e : Expr} {t t' : TT} (h : PT X e t) (w : ∀ σ H Q, t' σ H Q → t σ H Q) : PT X e t' := ⟨fun pins s σ H Q I q => h.run pins s σ H Q I (w σ H Q q)⟩
theorem PA.of {X : Cx} {e : List Expr} {t t' : TA} (h : PA X e t) (w : ∀ σ H Q, t' σ H Q → t σ H Q) : PA X e t' := ⟨fun pos pins s σ H Q I q => h.run pos pins s σ H Q I (w σ H Q q)⟩
theorem PS.of {X : Cx} {e : Stmt} {t t' : TS} (h : PS X e t) (w : ∀ D σ H, t' D σ H → t D σ H) : PS X e t' := ⟨fun pins s σ H D I q => h.run pins s σ H D I (w D σ H q)⟩
theorem PSs.of {X : Cx} {e : List Stmt} {t t' : TS} (h : PSs X e t) (w : ∀ D σ H, t' D σ H → t D σ H) : PSs X e t' := ⟨fun pins s σ H D I q => h.run pins s σ H D I (w D σ H q)⟩
theorem PE.never {X : Cx} {e : Expr} {t : TE} (w : ∀ σ H Q, t σ H Q → False) : PE X e t := ⟨fun pins s σ H Q I q => (w σ H Q q).elim⟩
theorem PT.never {X : Cx} {e : Expr} {t : TT} (w : ∀ σ H Q, t σ H Q → False) : PT X e t := ⟨fun pins s σ H Q I q => (w σ H Q q).elim⟩
theorem PS.never {X : Cx} {e : Stmt} {t : TS} (w : ∀ D σ H, t D σ H → False) : PS X e t := ⟨fun pins s σ H D I q => (w D σ H q).elim⟩

/-- operations by values -/
def rD1 (G : Pc) (f : D → DH → Option (D × DH)) : V → Hp → VK → Prop := fun x H Q =>
  ∃ m h a d h', G.H m h H ∧ G.R m H a x ∧ f a h = some (d, h') ∧ ∀ m' H' v, Ext m H m' H' → G.H m' h' H' → G.R m' H' d v → Q v H'
def rD2 (G : Pc) (f : D → D → DH → Option (D × DH)) : R2 := fun x y H Q =>
  ∃ m h a b d h', G.H m h H ∧ G.R m H a x ∧ G.R m H b y ∧ f a b h = some (d, h') ∧ ∀ m' H' v, Ext m H m' H' → G.H m' h' H' → G.R m' H' d v → Q v H'
def rDN (G : Pc) (f : List D → DH → Option (D × DH)) : List V → Hp → VK → Prop := fun xs H Q =>
  ∃ m h as d h', G.H m h H ∧ G.Rs m H as xs ∧ f as h = some (d, h') ∧ ∀ m' H' v, Ext m H m' H' → G.H m' h' H' → G.R m' H' d v → Q v H'
section
variable {G : Pc} {σ : L2.St} {H : Hp} {Q : VK}
theorem lift_some {α : Type} {f : DH → Option (α × DH)} {e : DE} {h h' : DH} {r : Rs α} (q : lift f e h = some (r, h')) : ∃ d, r = .ok d ∧ f h = some (d, h') := by
  unfold lift at q
  cases hf : f h with
  | none => rw [hf] at q; cases q
  | some p => rw [hf] at q; cases q; exact ⟨p.1, rfl, rfl⟩
theorem tA1_op {x : V} {f : D → DH → Option (D × DH)} (hyp : tA1 G x G.R (fun a => lift (f a)) σ H Q) : rD1 G f x H Q := by
  obtain ⟨m, e, h, a, r, h', a1, a2, ra, a3, a4⟩ := hyp
  obtain ⟨d, rfl, e3⟩ := lift_some a3
  exact ⟨m, h, a, d, h', a1, ra, e3, fun m' H' v x y z => a4 m' H' x y v z⟩
theorem tA2_op {x y : V} {f : D → D → DH → Option (D × DH)} (hyp : tA2 G x y G.R (fun a b => lift (f a b)) σ H Q) : rD2 G f x y H Q := by
  obtain ⟨m, e, h, a, b, r, h', a1, a2, ra, rb, a3, a4⟩ := hyp
  obtain ⟨d, rfl, e3⟩ := lift_some a3
  exact ⟨m, h, a, b, d, h', a1, ra, rb, e3, fun m' H' v x y z => a4 m' H' x y v z⟩
/-- an operation's end: the value is told -/
theorem op2_tG {ma mb : M D} {f : D → D → DH → Option (D × DH)} (hyp : tG G G.R (op2 f ma mb) σ H Q) : tOp (rD2 G f) (tG G G.R ma) (tG G G.R mb) σ H Q :=
  (tG_bnd hyp).mono fun x H1 h1 => (tA1_bnd h1).mono fun y H2 h2 => tA2_op h2
theorem op1_tG {ma : M D} {f : D → DH → Option (D × DH)} (hyp : tG G G.R (op1 f ma) σ H Q) : tUn (rD1 G f) (tG G G.R ma) σ H Q :=
  (tG_bnd hyp).mono fun x H1 h1 => tA1_op h1
end
/-! what is made in an expression stands still -/
section
variable {G : Pc} {σ : L2.St} {H : Hp}
theorem frz_tG {M : M D} {Q : VK} (hyp : tG G G.R (frzM M) σ H Q) : tG G G.R M σ H Q := by
  obtain ⟨m, e, h, r, h', a1, a2, a3, a4⟩ := hyp
  unfold frzM at a3
  split at a3
  · rename_i d h1 hm
    split at a3
    · rename_i p hp
      cases a3
      refine ⟨m, e, h, _, h1, a1, a2, hm, fun m1 H1 x1 y1 v gv => ?_⟩
      obtain ⟨m2, x2, r2, g2⟩ := frz_main a1 x1 y1 hp gv
      exact a4 m2 H1 x2 r2 v g2
    · cases a3
  · exact ⟨m, e, h, r, h', a1, a2, a3, a4⟩
theorem trim_tG {α β : Type} {rel : Mp → Hp → α → β → Prop} (hrel : ∀ m m' H a b, rel m H a b → rel m' H a b) {M : M α} {Q : β → Hp → Prop} (hyp : tG G rel (trimM M) σ H Q) : tG G rel M σ H Q := by
  obtain ⟨m, e, h, r, h', a1, a2, a3, a4⟩ := hyp
  unfold trimM at a3
  split at a3
  · rename_i d h1 hm
    split at a3
    · rename_i p hp
      cases a3
      refine ⟨m, e, h, _, h1, a1, a2, hm, fun m1 H1 x1 y1 b hb => ?_⟩
      obtain ⟨m2, x2, r2, g2⟩ := frz_main (d := .non) (v := .non) a1 x1 y1 hp rfl
      exact a4 m2 H1 x2 r2 b (hrel _ _ _ _ _ hb)
    · cases a3
  · exact ⟨m, e, h, r, h', a1, a2, a3, a4⟩
theorem trimB_tG {M : M Bool} {Q : Bool → Hp → Prop} (hyp : tG G relB (trimM M) σ H Q) : tG G relB M σ H Q := trim_tG (fun _ _ _ _ _ z => z) hyp
end
end Dd

set_option Elab.async false
set_option linter.all false
set_option maxRecDepth 100000
set_option maxHeartbeats 4000000
namespace Dd
open PySem PySem.Spec PyProof.Rows L2

/-! # 7. Operators by values -/
theorem leI_iff {i j : Int} : leI i j = true ↔ i ≤ j := by rw [leI_eq, decide_eq_true_eq]
theorem Z_eq : Z = sizeLine := by rw [sizeLine_eq]
section
variable {K : PySem.W.Frag} {w : World} {kc : Nat → Addr} {m : Mp} {h : DH} {H : Hp}
theorem lstAt_some {h : DH} {i : Nat} {xs : List D} (q : lstAt h i = some xs) : h[i]? = some (.lst xs) ∨ h[i]? = some (.fl xs) := by
  unfold lstAt at q
  split at q
  · rename_i ys e
    cases q
    exact .inl e
  · rename_i ys e
    cases q
    exact .inr e
  · cases q
theorem lstW_some {h : DH} {i : Nat} {xs : List D} (q : lstW h i = some xs) : h[i]? = some (.lst xs) := by
  unfold lstW at q
  split at q
  · rename_i ys e
    cases q
    exact e
  · cases q
theorem ref_lst (r : RH K w kc m h H) {i : Nat} {x : V} {xs : List D} (rx : RelD K w m H (.ref i) x) (q : lstAt h i = some xs) : ∃ a vs, x = .ref a ∧ m.l[i]? = some a ∧ H a = some (.lst vs) ∧ RelDs K w m H xs vs := by
  obtain ⟨a, e1, e2⟩ := rx
  rcases lstAt_some q with z | z
  · obtain ⟨o, e3, vs, e4, e5⟩ := r.get e1 z
    subst e4
    exact ⟨a, vs, e2, e1, e3, e5⟩
  · obtain ⟨o, e3, vs, e4, e5⟩ := r.get e1 z
    subst e4
    exact ⟨a, vs, e2, e1, e3, e5⟩
theorem ref_lstW (r : RH K w kc m h H) {i : Nat} {x : V} {xs : List D} (rx : RelD K w m H (.ref i) x) (q : lstW h i = some xs) : ∃ a vs, x = .ref a ∧ m.l[i]? = some a ∧ H a = some (.lst vs) ∧ RelDs K w m H xs vs := by
  obtain ⟨a, e1, e2⟩ := rx
  obtain ⟨o, e3, vs, e4, e5⟩ := r.get e1 (lstW_some q)
  subst e4
  exact ⟨a, vs, e2, e1, e3, e5⟩
/-- any list -/
theorem seq_lst (r : RH K w kc m h H) {d : D} {x : V} {xs : List D} (rx : RelD K w m H d x) (q : seqD d h = some xs) : ∃ a vs, x = .ref a ∧ H a = some (.lst vs) ∧ RelDs K w m H xs vs := by
  unfold seqD at q
  split at q
  · cases q
    obtain ⟨a, vs, e, h1, _, g⟩ := rx
    exact ⟨a, vs, e, h1, g⟩
  · obtain ⟨a, vs, e, _, h1, g⟩ := ref_lst r rx q
    exact ⟨a, vs, e, h1, g⟩
  · cases q
/-- any dict -/
theorem dk_any (r : RH K w kc m h H) {d : D} {x : V} {kvs : List (Key × D)} (rx : RelD K w m H d x) (q : dkD d h = some kvs) : ∃ a vs, x = .ref a ∧ H a = some (.dK vs) ∧ RelKV K w m H kvs vs := by
  unfold dkD at q
  split at q
  · cases q
    obtain ⟨a, vs, e, h1, _, h2, g⟩ := rx
    exact ⟨a, _, e, h1, KV_zip h2 g⟩
  · obtain ⟨a, e1, e2⟩ := rx
    split at q
    · rename_i z
      cases q
      obtain ⟨o, e3, vs, e4, e5⟩ := r.get e1 z
      exact ⟨a, vs, e2, by rw [e3, e4], e5⟩
    · rename_i z
      cases q
      obtain ⟨o, e3, vs, e4, e5⟩ := r.get e1 z
      exact ⟨a, vs, e2, by rw [e3, e4], e5⟩
    · cases q
  · cases q
theorem dt_any (r : RH K w kc m h H) {d : D} {x : V} {kvs : List (List Key × D)} (rx : RelD K w m H d x) (q : dtD d h = some kvs) : ∃ a vs, x = .ref a ∧ H a = some (.dT vs) ∧ RelKV K w m H kvs vs := by
  unfold dtD at q
  split at q
  · cases q
    obtain ⟨a, vs, e, h1, _, h2, g⟩ := rx
    exact ⟨a, _, e, h1, KV_zip h2 g⟩
  · obtain ⟨a, e1, e2⟩ := rx
    split at q
    · rename_i z
      cases q
      obtain ⟨o, e3, vs, e4, e5⟩ := r.get e1 z
      exact ⟨a, vs, e2, by rw [e3, e4], e5⟩
    · rename_i z
      cases q
      obtain ⟨o, e3, vs, e4, e5⟩ := r.get e1 z
      exact ⟨a, vs, e2, by rw [e3, e4], e5⟩
    · cases q
  · cases q
theorem ix_last {p : Addr} (r : RH K w kc m h H) : (m.add p).l[h.length]? = some p := by
  show (m.l ++ [p])[h.length]? = some p
  rw [List.getElem?_append_right (by rw [r.len]; exact Nat.le_refl _), r.len, Nat.sub_self]; rfl
/-- a new list, tuple, dict -/
theorem new_lst (r : RH K w kc m h H) {p : Addr} {ds : List D} {vs : List V} (hp : H p = none) (g : RelDs K w m H ds vs) :
    RH K w kc (m.add p) (h ++ [.lst ds]) (upd H p (.lst vs)) ∧ Ext m H (m.add p) (upd H p (.lst vs)) ∧ RelD K w (m.add p) (upd H p (.lst vs)) (.ref h.length) (.ref p) := by
  obtain ⟨a, b⟩ := r.alloc (ob := .lst ds) hp ⟨vs, rfl, g⟩ rfl
  exact ⟨a, b, p, ix_last r, rfl⟩
theorem new_tup (r : RH K w kc m h H) {p : Addr} {ds : List D} {vs : List V} (hp : H p = none) (g : RelDs K w m H ds vs) :
    RH K w kc m h (upd H p (.tup vs)) ∧ Ext m H m (upd H p (.tup vs)) ∧ RelD K w m (upd H p (.tup vs)) (.tup ds) (.ref p) := by
  obtain ⟨a, b⟩ := r.imm (o := .tup vs) hp
  exact ⟨a, b, p, vs, rfl, upd_same, g.ext b⟩
end
theorem pow64 : (2 : Int) ^ 64 = 18446744073709551616 := by decide
theorem smallI_iff {i : Int} (h : smallI i = true) : -(2 ^ 64) < i ∧ i < 2 ^ 64 := by
  have z := below_iff.mp h
  rw [pow64]
  omega
theorem RelDs.flat {K : PySem.W.Frag} {w : World} {m : Mp} {H : Hp} {ds : List D} {vs : List V} (g : RelDs K w m H ds vs) : ∀ k : Nat, RelDs K w m H (List.replicate k ds).flatten (List.replicate k vs).flatten
  | 0 => rfl
  | k + 1 => by
    rw [List.replicate_succ, List.replicate_succ, List.flatten_cons, List.flatten_cons]
    exact g.append (RelDs.flat g k)
section
variable {X : Cx} {G : Pc} (hK : X.K = G.K) (hw : X.w = G.w)
include hK hw
theorem o_add : OpR X (binaryOp .Add) (rD2 G addD) := by
  obtain ⟨K, W, cls, fld, Wx, hk, kc⟩ := G
  cases hK
  cases hw
  intro pins s σ H x y v u Q I rx ry ⟨m, h, a, b, d, h', a1, ra, rb, e, q⟩
  unfold addD at e
  split at e
  · cases e
    rw [show x = _ from ra] at rx
    rw [show y = _ from rb] at ry
    exact op_add pins s σ H _ _ v u Q I rx ry ⟨_, _, rfl, rfl, q m H _ (Ext.refl _ _) a1 rfl⟩
  · rename_i i j
    split at e
    · rename_i hz
      cases e
      rw [show x = _ from ra] at rx
      rw [show y = _ from rb] at ry
      exact op_add_str pins s σ H _ _ v u Q I rx ry ⟨_, _, rfl, rfl, by rw [← Z_eq]; exact hz, q m H _ (Ext.refl _ _) a1 rfl⟩
    · cases e
  · rename_i xs ys
    split at e
    · rename_i hz
      cases e
      obtain ⟨a, vs, rfl, ha, ga⟩ := ra
      obtain ⟨b, us, rfl, hb, gb⟩ := rb
      refine op_catA pins s σ H _ _ v u Q I rx ry ⟨a, b, vs, us, rfl, rfl, SqT.of ha, SqT.of hb, by rw [ga.length, gb.length, ← Z_eq]; exact hz, fun hx => ?_, fun _ hy => ?_, fun _ _ p hp => ?_⟩
      · have : xs = [] := ga.nil_iff.mp hx
        subst this
        exact q m H _ (Ext.refl _ _) a1 ⟨b, us, rfl, hb, gb⟩
      · have : ys = [] := gb.nil_iff.mp hy
        subst this
        rw [List.append_nil] at q
        exact q m H _ (Ext.refl _ _) a1 ⟨a, vs, rfl, ha, ga⟩
      · obtain ⟨b1, b2, b3⟩ := new_tup a1 hp (ga.append gb)
        exact q m _ _ b2 b1 b3
    · cases e
  · split at e
    · rename_i xs ys hx hy
      split at e
      · rename_i hz
        cases e
        obtain ⟨a, vs, rfl, ha, ga⟩ := seq_lst a1 ra hx
        obtain ⟨b, us, rfl, hb, gb⟩ := seq_lst a1 rb hy
        refine op_cat pins s σ H _ _ v u Q I rx ry ⟨a, b, vs, us, rfl, rfl, ha, hb, by rw [ga.length, gb.length, ← Z_eq]; exact hz, fun p hp => ?_⟩
        obtain ⟨b1, b2, b3⟩ := new_lst a1 hp (ga.append gb)
        exact q _ _ _ b2 b1 b3
      · cases e
    · cases e
theorem o_sub : OpR X (binaryOp .Sub) (rD2 G subD) := by
  obtain ⟨K, W, cls, fld, Wx, hk, kc⟩ := G
  cases hK
  cases hw
  intro pins s σ H x y v u Q I rx ry ⟨m, h, a, b, d, h', a1, ra, rb, e, q⟩
  unfold subD at e
  split at e
  · cases e
    rw [show x = _ from ra] at rx
    rw [show y = _ from rb] at ry
    exact op_sub pins s σ H _ _ v u Q I rx ry ⟨_, _, rfl, rfl, q m H _ (Ext.refl _ _) a1 rfl⟩
  · cases e
theorem o_mul : OpR X (binaryOp .Mult) (rD2 G mulD) := by
  obtain ⟨K, W, cls, fld, Wx, hk, kc⟩ := G
  cases hK
  cases hw
  intro pins s σ H x y v u Q I rx ry ⟨m, h, a, b, d, h', a1, ra, rb, e, q⟩
  unfold mulD at e
  split at e
  · split at e
    · rename_i hz
      cases e
      rw [show x = _ from ra] at rx
      rw [show y = _ from rb] at ry
      refine op_mul pins s σ H _ _ v u Q I rx ry ⟨_, _, rfl, rfl, ?_, q m H _ (Ext.refl _ _) a1 rfl⟩
      rcases Bool.or_eq_true_iff.mp hz with z | z
      · exact .inl (smallI_iff z)
      · exact .inr (smallI_iff z)
    · cases e
  · rename_i z k
    split at e
    · rename_i hz
      cases e
      rw [show x = _ from ra] at rx
      rw [show y = _ from rb] at ry
      obtain ⟨t, rfl⟩ := rx
      obtain ⟨t', rfl⟩ := ry
      obtain ⟨z0, z3, z4⟩ := hz
      have z12 := below_iff.mp z0
      have z1 : -1000000 ≤ k := by omega
      have z2 : k ≤ 1000000 := by omega
      refine PySem.SB.mul ⟨?_, fun h1 _ => ?_, fun h1 _ => ?_⟩ fun t' tk => ⟨.str _, H, I.tok _, ⟨_, rfl⟩, q m H _ (Ext.refl _ _) a1 rfl⟩
      · rw [decide_eq_false (show ¬ k < -(2 ^ 63 : Int) by omega), decide_eq_false (show ¬ k ≥ (2 ^ 63 : Int) by omega)]; rfl
      · have e3 : (9223372036854 : Int) ≤ (2 ^ 63 - 1) / k := by
          refine (Int.le_ediv_iff_mul_le (by omega)).mpr ?_
          have : (9223372036854 : Int) * k ≤ 9223372036854 * 1000000 := by omega
          omega
        omega
      · unfold PySem.Builtin.Str.tooLong
        have := sizeLine_eq
        simp only [decide_eq_false_iff_not]
        omega
    · cases e
  · rename_i k _ _
    split at e
    · rename_i xs hx
      split at e
      · rename_i hz
        cases e
        obtain ⟨a, vs, rfl, ha, ga⟩ := seq_lst a1 ra hx
        rw [show y = _ from rb] at ry
        refine op_rep pins s σ H _ _ v u Q I rx ry ⟨a, _, vs, rfl, rfl, ha, (by have z := below_iff.mp hz.1; omega), (by have z := below_iff.mp hz.1; omega), by rw [ga.length, ← Z_eq]; exact hz.2, fun p hp => ?_⟩
        obtain ⟨b1, b2, b3⟩ := new_lst a1 hp (RelDs.flat ga k.toNat)
        exact q _ _ _ b2 b1 b3
      · cases e
    · cases e
  · cases e
theorem o_fdiv : OpR X (binaryOp .FloorDiv) (rD2 G fdivD) := by
  obtain ⟨K, W, cls, fld, Wx, hk, kc⟩ := G
  cases hK
  cases hw
  intro pins s σ H x y v u Q I rx ry ⟨m, h, a, b, d, h', a1, ra, rb, e, q⟩
  unfold fdivD at e
  split at e
  · split at e
    · rename_i hz
      cases e
      rw [show x = _ from ra] at rx
      rw [show y = _ from rb] at ry
      exact op_fdiv pins s σ H _ _ v u Q I rx ry ⟨_, _, rfl, rfl, ⟨hz.1, (below_iff.mp hz.2).2⟩, q m H _ (Ext.refl _ _) a1 rfl⟩
    · cases e
  · cases e
theorem o_mod : OpR X (binaryOp .Mod) (rD2 G modD) := by
  obtain ⟨K, W, cls, fld, Wx, hk, kc⟩ := G
  cases hK
  cases hw
  intro pins s σ H x y v u Q I rx ry ⟨m, h, a, b, d, h', a1, ra, rb, e, q⟩
  unfold modD at e
  split at e
  · split at e
    · rename_i hz
      cases e
      rw [show x = _ from ra] at rx
      rw [show y = _ from rb] at ry
      exact op_mod pins s σ H _ _ v u Q I rx ry ⟨_, _, rfl, rfl, hz, q m H _ (Ext.refl _ _) a1 rfl⟩
    · cases e
  · cases e
theorem o_and : OpR X (binaryOp .BitAnd) (rD2 G andD) := by
  obtain ⟨K, W, cls, fld, Wx, hk, kc⟩ := G
  cases hK
  cases hw
  intro pins s σ H x y v u Q I rx ry ⟨m, h, a, b, d, h', a1, ra, rb, e, q⟩
  unfold andD at e
  split at e
  · cases e
    rw [show x = _ from ra] at rx
    rw [show y = _ from rb] at ry
    exact op_and pins s σ H _ _ v u Q I rx ry ⟨_, _, rfl, rfl, q m H _ (Ext.refl _ _) a1 rfl⟩
  · cases e
theorem o_or : OpR X (binaryOp .BitOr) (rD2 G orD) := by
  obtain ⟨K, W, cls, fld, Wx, hk, kc⟩ := G
  cases hK
  cases hw
  intro pins s σ H x y v u Q I rx ry ⟨m, h, a, b, d, h', a1, ra, rb, e, q⟩
  unfold orD at e
  split at e
  · cases e
    rw [show x = _ from ra] at rx
    rw [show y = _ from rb] at ry
    exact op_or pins s σ H _ _ v u Q I rx ry ⟨_, _, rfl, rfl, q m H _ (Ext.refl _ _) a1 rfl⟩
  · cases e
theorem o_shl : OpR X (binaryOp .LShift) (rD2 G shlD) := by
  obtain ⟨K, W, cls, fld, Wx, hk, kc⟩ := G
  cases hK
  cases hw
  intro pins s σ H x y v u Q I rx ry ⟨m, h, a, b, d, h', a1, ra, rb, e, q⟩
  unfold shlD at e
  split at e
  · split at e
    · rename_i i j hz
      cases e
      rw [Bool.and_eq_true, Bool.and_eq_true] at hz
      obtain ⟨⟨z1, z2⟩, z3⟩ := hz
      have z1 := leI_iff.mp z1
      have z2 := below_iff.mp z2
      have z3 := smallI_iff z3
      rw [show x = _ from ra] at rx
      rw [show y = _ from rb] at ry
      exact op_shl pins s σ H _ _ v u Q I rx ry ⟨_, _, rfl, rfl, ⟨z1, by omega, by rw [pow64] at z3; omega⟩, q m H _ (Ext.refl _ _) a1 rfl⟩
    · cases e
  · cases e
theorem o_shr : OpR X (binaryOp .RShift) (rD2 G shrD) := by
  obtain ⟨K, W, cls, fld, Wx, hk, kc⟩ := G
  cases hK
  cases hw
  intro pins s σ H x y v u Q I rx ry ⟨m, h, a, b, d, h', a1, ra, rb, e, q⟩
  unfold shrD at e
  split at e
  · split at e
    · rename_i i j hz
      cases e
      rw [show x = _ from ra] at rx
      rw [show y = _ from rb] at ry
      exact op_shr pins s σ H _ _ v u Q I rx ry ⟨_, _, rfl, rfl, leI_iff.mp hz, q m H _ (Ext.refl _ _) a1 rfl⟩
    · cases e
  · cases e
theorem o_neg : UnR X (unaryOp .USub) (rD1 G negD) := by
  obtain ⟨K, W, cls, fld, Wx, hk, kc⟩ := G
  cases hK
  cases hw
  intro pins s σ H x v Q I rx ⟨m, h, a, d, h', a1, ra, e, q⟩
  unfold negD at e
  split at e
  · cases e
    rw [show x = _ from ra] at rx
    exact un_neg pins s σ H _ v Q I rx ⟨_, rfl, q m H _ (Ext.refl _ _) a1 rfl⟩
  · cases e
theorem o_bin {op : PySem.Operator} {f : D → D → DH → Option (D × DH)} (hf : binD op = some f) : OpR X (binaryOp op) (rD2 G f) := by
  cases op <;> simp only [binD] at hf <;> cases hf
  · exact o_add hK hw
  · exact o_sub hK hw
  · exact o_mul hK hw
  · exact o_mod hK hw
  · exact o_shl hK hw
  · exact o_shr hK hw
  · exact o_or hK hw
  · exact o_and hK hw
  · exact o_fdiv hK hw
end
end Dd

set_option Elab.async false
set_option linter.all false
set_option maxRecDepth 100000
set_option maxHeartbeats 4000000
namespace Dd
open PySem PySem.Spec PyProof.Rows L2

/-! # 8. Comparisons by values -/
theorem b2_b2 (b : Bool) : PyProof.Rows.b2i b = (b2n b : Nat) := by cases b <;> rfl
theorem mapM_cons_some {α β : Type} {f : α → Option β} {x : α} {xs : List α} {ps : List β} (q : (x :: xs).mapM f = some ps) : ∃ p r, f x = some p ∧ xs.mapM f = some r ∧ ps = p :: r := by
  rw [List.mapM_cons] at q
  cases hx : f x with
  | none => rw [hx] at q; cases q
  | some p =>
    rw [hx] at q
    cases hr : xs.mapM f with
    | none => rw [hr] at q; cases q
    | some r => rw [hr] at q; cases q; exact ⟨p, r, rfl, rfl, rfl⟩
theorem map_some {α β : Type} {f : α → β} {o : Option α} {b : β} (q : o.map f = some b) : ∃ a, o = some a ∧ b = f a := by
  cases o with
  | none => cases q
  | some a => cases q; exact ⟨a, rfl, rfl⟩
section
variable {K : PySem.W.Frag} {w : World} {kc : Nat → Addr} {m : Mp} {h : DH} {H : Hp}
theorem ints_dp : ∀ ns : List Int, DpAll K H (ns.map V.int) (ns.map PyData.int)
  | [] => .nil
  | n :: r => .cons (.int n) (ints_dp r)
theorem all_dp {n : Nat} (ih : ∀ (d : D) (v : V) (p : PyData), toPy h n d = some p → RelD K w m H d v → Dp K H v p) : ∀ (xs : List D) (vs : List V) (ps : List PyData), xs.mapM (toPy h n) = some ps → RelDs K w m H xs vs → DpAll K H vs ps
  | [], vs, ps, q, g => by
    rw [show vs = [] from g]
    cases q
    exact .nil
  | x :: xs, vs, ps, q, g => by
    obtain ⟨p, r, e1, e2, e3⟩ := mapM_cons_some q
    obtain ⟨v, vs', e4, g1, g2⟩ := g
    subst e3 e4
    exact .cons (ih x v p e1 g1) (all_dp ih xs vs' r e2 g2)
theorem toPy_dp (r : RH K w kc m h H) : ∀ (n : Nat) (d : D) (v : V) (p : PyData), toPy h n d = some p → RelD K w m H d v → Dp K H v p
  | 0, _, _, _, q, _ => by cases q
  | n + 1, d, v, p, q, g => by
    unfold toPy at q
    cases d with
    | non => cases q; rw [show v = _ from g]; exact .non
    | bl b => cases q; rw [show v = _ from g]; exact .bl b
    | int b => cases q; rw [show v = _ from g]; exact .int b
    | str b => cases q; rw [show v = _ from g]; exact .str b
    | tup xs =>
      obtain ⟨ps, e1, e2⟩ := map_some q
      obtain ⟨a, vs, rfl, ha, ga⟩ := g
      subst e2
      exact .tup (SqT.of ha) (all_dp (toPy_dp r n) xs vs ps e1 ga)
    | kt xs =>
      obtain ⟨ps, e1, e2⟩ := map_some q
      obtain ⟨a, vs, rfl, ha, ga⟩ := g
      subst e2
      exact .tup ha.sq (all_dp (toPy_dp r n) xs vs ps e1 (RelKs.relDs xs vs ga))
    | vl xs =>
      obtain ⟨ps, e1, e2⟩ := map_some q
      obtain ⟨a, vs, rfl, ha, _, ga⟩ := g
      subst e2
      exact .lst (SqL.of ha) (all_dp (toPy_dp r n) xs vs ps e1 ga)
    | ref i =>
      dsimp only at q
      split at q
      · rename_i xs e0
        obtain ⟨ps, e1, e2⟩ := map_some q
        obtain ⟨a, vs, rfl, ma, ha, ga⟩ := ref_lst (xs := xs) r g e0
        subst e2
        exact .lst (SqL.of ha) (all_dp (toPy_dp r n) xs vs ps e1 ga)
      · cases q
    | frz ns =>
      cases q
      obtain ⟨a, rfl, ha⟩ := g
      exact .lst ha.sq (ints_dp ns)
    | wd kvs => cases q
    | vk _ _ => cases q
    | vt _ _ => cases q
    | vi _ _ _ => cases q
theorem scalD_rel {a b : D} {x y : V} {r : Bool} (q : scalD a b = some r) (ra : RelD K w m H a x) (rb : RelD K w m H b y) : scal x y = true ∧ decide (x = y) = r := by
  unfold scalD at q
  split at q <;> first | cases q | skip
  all_goals
    rw [show x = _ from ra, show y = _ from rb]
    first
      | exact ⟨rfl, rfl⟩
      | exact ⟨rfl, decide_eq_decide.mpr ⟨fun e => (by injection e), fun e => (by rw [e])⟩⟩
      | exact ⟨rfl, decide_eq_false (fun e => nomatch e)⟩
theorem eqB_cases {a b : D} {r : Bool} (q : eqB a b h = some r) : scalD a b = some r ∨ ∃ x y, toPy h 20 a = some x ∧ toPy h 20 b = some y ∧ SeqAt.shaped x = true ∧ SeqAt.shaped y = true ∧ r = PyData.eqv x y := by
  unfold eqB at q
  split at q
  · rename_i r' e
    cases q
    exact .inl e
  · split at q
    · rename_i x y e1 e2
      split at q
      · rename_i hz
        rw [Bool.and_eq_true] at hz
        cases q
        exact .inr ⟨x, y, e1, e2, hz.1, hz.2, rfl⟩
      · cases q
    · cases q
end
theorem flat_rel {K : PySem.W.Frag} {w : World} {m : Mp} {H : Hp} {d : D} {v : V} (q : flatD d = true) (g : RelD K w m H d v) : flatV v = true := by
  cases d <;> first | (rw [show v = _ from g]; rfl) | cases q
theorem flats_rel {K : PySem.W.Frag} {w : World} {m : Mp} {H : Hp} : ∀ {ds : List D} {vs : List V}, ds.all flatD = true → RelDs K w m H ds vs → vs.all flatV = true
  | [], _, _, g => by rw [show _ = [] from g]; rfl
  | d :: ds, _, q, g => by
    obtain ⟨v, vs', e, g1, g2⟩ := g
    subst e
    rw [List.all_cons, Bool.and_eq_true] at q ⊢
    exact ⟨flat_rel q.1 g1, flats_rel q.2 g2⟩
theorem eqV_scal {K : PySem.W.Frag} {w : World} {m : Mp} {H : Hp} {a b : D} {x y : V} {r : Bool} (q : scalD a b = some r) (ra : RelD K w m H a x) (rb : RelD K w m H b y) : eqV x y = r := by
  unfold scalD at q
  split at q <;> first | cases q | skip
  all_goals
    rw [show x = _ from ra, show y = _ from rb]
    first
      | rfl
      | (simp only [eqV]; rw [Bool.beq_eq_decide_eq])
theorem anyEq_rel {K : PySem.W.Frag} {w : World} {m : Mp} {H : Hp} {x : D} {v : V} {h : DH} (rx : RelD K w m H x v) : ∀ {ds : List D} {vs : List V} {r : Bool}, anyEq x h ds = some r → RelDs K w m H ds vs → inV v vs = r
  | [], _, r, q, g => by
    rw [show _ = [] from g]
    cases q
    rfl
  | d :: ds, _, r, q, g => by
    obtain ⟨u, vs', e, g1, g2⟩ := g
    subst e
    unfold anyEq at q
    split at q
    · rename_i a ea
      obtain ⟨b, eb, er⟩ := map_some q
      subst er
      have e1 := eqV_scal ea g1 rx
      have e2 := anyEq_rel rx eb g2
      show (eqV u v || inV v vs') = _
      rw [e1, e2]
    · cases q
theorem lookD_rel {K : PySem.W.Frag} {w : World} {m : Mp} {H : Hp} {κ : Type} [DecidableEq κ] (k : κ) : ∀ {ds : List (κ × D)} {vs : List (κ × V)}, RelKV K w m H ds vs →
    (∀ d, lookD ds k = some d → ∃ v, valV vs k = some v ∧ RelD K w m H d v) ∧ (lookD ds k = none → valV vs k = none)
  | [], _, g => by
    rw [show _ = [] from g]
    exact ⟨fun d q => (by cases q), fun _ => rfl⟩
  | p :: ds, _, g => by
    obtain ⟨v, vs', e, g1, g2⟩ := g
    subst e
    obtain ⟨i1, i2⟩ := lookD_rel k g2
    by_cases hk : p.1 = k
    · have e1 : lookD (p :: ds) k = some p.2 := by simp [lookD, List.find?_cons, hk]
      have e2 : valV ((p.1, v) :: vs') k = some v := valV_pos hk
      rw [e1, e2]
      exact ⟨fun d q => (by cases q; exact ⟨v, rfl, g1⟩), fun q => (by cases q)⟩
    · have e1 : lookD (p :: ds) k = lookD ds k := by simp [lookD, List.find?_cons, hk]
      have e2 : valV ((p.1, v) :: vs') k = valV vs' k := valV_neg hk
      rw [e1, e2]
      exact ⟨i1, i2⟩
theorem keyD_rel {K : PySem.W.Frag} {w : World} {m : Mp} {H : Hp} {d : D} {v : V} {k : Key} (q : keyD d = some k) (g : RelD K w m H d v) : v = kV k := by
  cases d <;> simp only [keyD] at q <;> cases q
  · exact g
  · exact g
theorem keysD_rel {K : PySem.W.Frag} {w : World} {m : Mp} {H : Hp} : ∀ {ds : List D} {vs : List V} {k : List Key}, keysD ds = some k → RelDs K w m H ds vs → vs = k.map kV
  | [], _, k, q, g => by
    rw [show _ = [] from g]
    cases q
    rfl
  | d :: ds, _, k, q, g => by
    obtain ⟨v, vs', e, g1, g2⟩ := g
    subst e
    obtain ⟨p, r, e1, e2, e3⟩ := mapM_cons_some q
    subst e3
    rw [keyD_rel e1 g1, keysD_rel e2 g2]
    rfl
section
variable {X : Cx} {G : Pc} (hK : X.K = G.K) (hw : X.w = G.w)
include hK hw
theorem o_eq (hu : X.A.units + 100 < cLine) : OpR X (compareOp .Eq) (rD2 G eqD) := by
  obtain ⟨K, W, cls, fld, Wx, hk, kc⟩ := G
  cases hK
  cases hw
  intro pins s σ H x y v u Q I rx ry ⟨m, h, a, b, d, h', a1, ra, rb, e, q⟩
  obtain ⟨r, e1, e2⟩ := map_some e
  cases e2
  rcases eqB_cases e1 with z | ⟨p, p', z1, z2, z3, z4, z5⟩
  · obtain ⟨c1, c2⟩ := scalD_rel z ra rb
    exact op_eq pins s σ H x y v u Q I rx ry ⟨c1, q m H _ (Ext.refl _ _) a1 (by rw [c2]; rfl)⟩
  · exact op_eqD (by omega) pins s σ H x y v u Q I rx ry ⟨p, p', toPy_dp a1 20 a x p z1 ra, toPy_dp a1 20 b y p' z2 rb, z3, z4, q m H _ (Ext.refl _ _) a1 (by rw [← z5]; rfl)⟩
theorem o_ne (hu : X.A.units + 100 < cLine) : OpR X (compareOp .NotEq) (rD2 G neD) := by
  obtain ⟨K, W, cls, fld, Wx, hk, kc⟩ := G
  cases hK
  cases hw
  intro pins s σ H x y v u Q I rx ry ⟨m, h, a, b, d, h', a1, ra, rb, e, q⟩
  obtain ⟨r, e1, e2⟩ := map_some e
  cases e2
  rcases eqB_cases e1 with z | ⟨p, p', z1, z2, z3, z4, z5⟩
  · obtain ⟨c1, c2⟩ := scalD_rel z ra rb
    exact op_ne pins s σ H x y v u Q I rx ry ⟨c1, q m H _ (Ext.refl _ _) a1 (by rw [c2]; rfl)⟩
  · exact op_neD (by omega) pins s σ H x y v u Q I rx ry ⟨p, p', toPy_dp a1 20 a x p z1 ra, toPy_dp a1 20 b y p' z2 rb, z3, z4, q m H _ (Ext.refl _ _) a1 (by rw [← z5]; rfl)⟩
theorem o_ord {op : PySem.CmpOp} {f : D → D → DH → Option (D × DH)} (hf : ordD op = some f) : OpR X (compareOp op) (rD2 G f) := by
  obtain ⟨K, W, cls, fld, Wx, hk, kc⟩ := G
  cases hK
  cases hw
  intro pins s σ H x y v u Q I rx ry ⟨m, h, a, b, d, h', a1, ra, rb, e, q⟩
  cases op <;> simp only [ordD] at hf <;> cases hf
  · unfold ltD at e
    split at e <;> cases e <;> rw [show x = _ from ra] at rx <;> rw [show y = _ from rb] at ry
    · exact op_lt pins s σ H _ _ v u Q I rx ry ⟨_, _, rfl, rfl, q m H _ (Ext.refl _ _) a1 (by show V.bl _ = V.bl _; rw [ltI_eq])⟩
    · rw [show v = Value.bool _ from rx, show u = Value.bool _ from ry]
      refine PyProof.Rows.lt_bool (fin_bl I (q m H _ (Ext.refl _ _) a1 rfl) ?_)
      rw [b2_b2, b2_b2]
      exact decide_eq_decide.mpr (by omega)
    · exact op_lt_str pins s σ H _ _ v u Q I rx ry ⟨_, _, rfl, rfl, q m H _ (Ext.refl _ _) a1 rfl⟩
  · unfold leD at e
    split at e <;> cases e <;> rw [show x = _ from ra] at rx <;> rw [show y = _ from rb] at ry
    · exact op_le pins s σ H _ _ v u Q I rx ry ⟨_, _, rfl, rfl, q m H _ (Ext.refl _ _) a1 (by show V.bl _ = V.bl _; rw [leI_eq])⟩
    · rw [show v = Value.bool _ from rx, show u = Value.bool _ from ry]
      refine PyProof.Rows.le_bool (fin_bl I (q m H _ (Ext.refl _ _) a1 rfl) ?_)
      rw [b2_b2, b2_b2]
      exact decide_eq_decide.mpr (by omega)
    · exact op_le_str pins s σ H _ _ v u Q I rx ry ⟨_, _, rfl, rfl, q m H _ (Ext.refl _ _) a1 rfl⟩
  · unfold gtD at e
    split at e <;> cases e <;> rw [show x = _ from ra] at rx <;> rw [show y = _ from rb] at ry
    · exact op_gt pins s σ H _ _ v u Q I rx ry ⟨_, _, rfl, rfl, q m H _ (Ext.refl _ _) a1 (by show V.bl _ = V.bl _; rw [ltI_eq])⟩
    · rw [show v = Value.bool _ from rx, show u = Value.bool _ from ry]
      refine PyProof.Rows.gt_bool (fin_bl I (q m H _ (Ext.refl _ _) a1 rfl) ?_)
      rw [b2_b2, b2_b2]
      exact decide_eq_decide.mpr (by omega)
    · exact op_gt_str pins s σ H _ _ v u Q I rx ry ⟨_, _, rfl, rfl, q m H _ (Ext.refl _ _) a1 rfl⟩
  · unfold geD at e
    split at e <;> cases e <;> rw [show x = _ from ra] at rx <;> rw [show y = _ from rb] at ry
    · exact op_ge pins s σ H _ _ v u Q I rx ry ⟨_, _, rfl, rfl, q m H _ (Ext.refl _ _) a1 (by show V.bl _ = V.bl _; rw [leI_eq])⟩
    · rw [show v = Value.bool _ from rx, show u = Value.bool _ from ry]
      refine PyProof.Rows.ge_bool (fin_bl I (q m H _ (Ext.refl _ _) a1 rfl) ?_)
      rw [b2_b2, b2_b2]
      exact decide_eq_decide.mpr (by omega)
    · exact op_ge_str pins s σ H _ _ v u Q I rx ry ⟨_, _, rfl, rfl, q m H _ (Ext.refl _ _) a1 rfl⟩
theorem is_non {m : Mp} {H : Hp} {a : D} {x : V} (ra : RelD X.K X.w m H a x) : decide (x = V.non) = isNonD a := by
  cases a with
  | non => rw [show x = _ from ra]; rfl
  | bl b => rw [show x = _ from ra]; rfl
  | int b => rw [show x = _ from ra]; rfl
  | str b => rw [show x = _ from ra]; rfl
  | tup b => obtain ⟨_, _, e, _⟩ := ra; rw [e]; rfl
  | kt b => obtain ⟨_, _, e, _⟩ := ra; rw [e]; rfl
  | ref b => obtain ⟨_, _, e⟩ := ra; rw [e]; rfl
  | frz b => obtain ⟨_, e, _⟩ := ra; rw [e]; rfl
  | wd b => obtain ⟨_, _, _, e, _⟩ := ra; rw [e]; rfl
  | vl b => obtain ⟨_, _, e, _⟩ := ra; rw [e]; rfl
  | vk b c => obtain ⟨_, _, e, _⟩ := ra; rw [e]; rfl
  | vt b c => obtain ⟨_, _, e, _⟩ := ra; rw [e]; rfl
  | vi b c d => obtain ⟨_, _, _, e, _⟩ := ra; rw [e]; rfl
theorem o_is : OpR X (compareOp .Is) (rD2 G isD) := by
  have hn := @is_non X G hK hw
  obtain ⟨K, W, cls, fld, Wx, hk, kc⟩ := G
  cases hK
  cases hw
  intro pins s σ H x y v u Q I rx ry ⟨m, h, a, b, d, h', a1, ra, rb, e, q⟩
  unfold isD at e
  split at e
  · cases e
    rw [show y = _ from rb] at ry
    exact op_isN pins s σ H x _ v u Q I rx ry ⟨rfl, q m H _ (Ext.refl _ _) a1 (by rw [hn ra]; rfl)⟩
  · cases e
    rw [show x = _ from ra] at rx
    rw [show y = _ from rb] at ry
    exact op_is_bl pins s σ H _ _ v u Q I rx ry ⟨_, _, rfl, rfl, q m H _ (Ext.refl _ _) a1 rfl⟩
  · cases e
theorem o_isNot : OpR X (compareOp .IsNot) (rD2 G isNotD) := by
  have hn := @is_non X G hK hw
  obtain ⟨K, W, cls, fld, Wx, hk, kc⟩ := G
  cases hK
  cases hw
  intro pins s σ H x y v u Q I rx ry ⟨m, h, a, b, d, h', a1, ra, rb, e, q⟩
  unfold isNotD at e
  split at e
  · rename_i r h1 e1
    cases e
    unfold isD at e1
    split at e1
    · cases e1
      rw [show y = _ from rb] at ry
      exact op_notN pins s σ H x _ v u Q I rx ry ⟨rfl, q m H _ (Ext.refl _ _) a1 (by rw [hn ra]; rfl)⟩
    · cases e1
      rw [show x = _ from ra] at rx
      rw [show y = _ from rb] at ry
      exact op_isnot_bl pins s σ H _ _ v u Q I rx ry ⟨_, _, rfl, rfl, q m H _ (Ext.refl _ _) a1 rfl⟩
    · cases e1
  · cases e
end
end Dd

set_option Elab.async false
set_option linter.all false
set_option maxRecDepth 100000
set_option maxHeartbeats 4000000
namespace Dd
open PySem PySem.Spec PyProof.Rows L2

/-! # 9. Membership, items, slices, truth -/
theorem KV_any {K : PySem.W.Frag} {w : World} {m : Mp} {H : Hp} {κ : Type} : ∀ {ds : List (κ × D)} {vs : List (κ × V)}, RelKV K w m H ds vs → vs.isEmpty = ds.isEmpty ∧ vs.length = ds.length
  | [], _, g => by rw [show _ = [] from g]; exact ⟨rfl, rfl⟩
  | d :: ds, _, g => by
    obtain ⟨v, vs', e, g1, g2⟩ := g
    subst e
    exact ⟨rfl, by rw [List.length_cons, List.length_cons, (KV_any g2).2]⟩
section
variable {K : PySem.W.Frag} {w : World} {kc : Nat → Addr} {m : Mp} {h : DH} {H : Hp}
/-- a dict of ours at a key -/
theorem dGet_rel (r : RH K w kc m h H) {d k : D} {x y : V} {o : Option D} (q : dGet d k h = some o) (rd : RelD K w m H d x) (rk : RelD K w m H k y) :
    ∃ a o', x = .ref a ∧ DGet H a y o' ∧ o'.isSome = o.isSome ∧ ∀ z, o = some z → ∃ v, o' = some v ∧ RelD K w m H z v := by
  unfold dGet at q
  split at q
  · rename_i kvs e
    obtain ⟨kk, e1, e2⟩ := map_some q
    obtain ⟨a, vs, rfl, e3, g⟩ := dk_any r rd e
    have ey := keyD_rel e1 rk
    subst ey
    obtain ⟨l1, l2⟩ := lookD_rel kk g
    refine ⟨a, _, rfl, DGet.k (k := kk) e3, ?_, fun z hz => l1 z (by rw [← e2]; exact hz)⟩
    cases hl : lookD kvs kk with
    | none => (rw [e2, hl, l2 hl]; try rfl)
    | some z =>
      obtain ⟨v, h1, _⟩ := l1 z hl
      rw [e2, hl, h1]
      rfl
  · split at q
    · rename_i kvs ks e
      obtain ⟨kk, e1, e2⟩ := map_some q
      obtain ⟨a, vs, rfl, e3, g⟩ := dt_any r rd e
      obtain ⟨b, us, rfl, hb, gb⟩ := rk
      have ey := keysD_rel e1 gb
      subst ey
      obtain ⟨l1, l2⟩ := lookD_rel kk g
      refine ⟨a, _, rfl, DGet.t (k := kk) e3 hb, ?_, fun z hz => l1 z (by rw [← e2]; exact hz)⟩
      cases hl : lookD kvs kk with
      | none => (rw [e2, hl, l2 hl]; try rfl)
      | some z =>
        obtain ⟨v, h1, _⟩ := l1 z hl
        rw [e2, hl, h1]
        rfl
    · cases q
theorem wdGet_rel {kvs : List (Str × D)} {k : D} {x y : V} {o : Option D} (q : wdGet kvs k = some o) (rd : RelD K w m H (.wd kvs) x) (rk : RelD K w m H k y) :
    ∃ a es n z, x = .ref a ∧ KDict K w a es n ∧ y = .str z ∧ WdAt K a z o := by
  unfold wdGet at q
  split at q
  · rename_i z
    cases q
    obtain ⟨a, es, n, rfl, kd, g⟩ := rd
    exact ⟨a, es, n, z, rfl, kd, rk, g z⟩
  · cases q
theorem atI_rel {ds : List D} {vs : List V} {i : Int} {d : D} (g : RelDs K w m H ds vs) (q : L2.atI ds i = some d) : ∃ v, L2.atI vs i = some v ∧ RelD K w m H d v := by
  unfold L2.atI at q ⊢
  rw [g.length]
  cases hj : L2.ixN ds.length i with
  | none => rw [hj] at q; cases q
  | some j =>
    rw [hj] at q
    exact RelDs.get g q
theorem atI_map {ns : List Int} {i j : Int} (q : L2.atI ns i = some j) : L2.atI (ns.map V.int) i = some (.int j) := by
  unfold L2.atI at q ⊢
  rw [List.length_map]
  cases hj : L2.ixN ns.length i with
  | none => rw [hj] at q; cases q
  | some k =>
    rw [hj] at q
    have q' : ns[k]? = some j := q
    show (ns.map V.int)[k]? = _
    rw [List.getElem?_map, q']
    rfl
theorem cut_rel {ds : List D} {vs : List V} (g : RelDs K w m H ds vs) (lo hi : Option Int) : RelDs K w m H (cutD ds lo hi) (cutV vs lo hi) := by
  unfold cutD cutV
  rw [g.length]
  exact (g.drop _).take _
theorem tru_rel (r : RH K w kc m h H) {d : D} {x : V} {b : Bool} (q : truD d h = some b) (g : RelD K w m H d x) : TruV K x H b := by
  unfold truD at q
  have emp : ∀ {ds : List D} {vs : List V}, RelDs K w m H ds vs → vs.isEmpty = ds.isEmpty := fun {ds vs} g => by
    cases ds with
    | nil => (rw [show vs = [] from g]; try rfl)
    | cons d ds => obtain ⟨v, vs', e, _, _⟩ := g; rw [e]; rfl
  cases d with
  | non => cases q; rw [show x = _ from g]; rfl
  | bl b => cases q; rw [show x = _ from g]; rfl
  | int b => cases q; rw [show x = _ from g]; rfl
  | str b => cases q
  | tup xs => cases q; obtain ⟨a, vs, rfl, ha, ga⟩ := g; exact .inr (.inl ⟨vs, SqT.of ha, by rw [emp ga]⟩)
  | kt xs => cases q; obtain ⟨a, vs, rfl, ha, ga⟩ := g; exact .inr (.inl ⟨vs, ha.sq, by rw [emp (RelKs.relDs xs vs ga)]⟩)
  | frz ns => cases q
  | wd kvs => cases q
  | _ =>
    dsimp only at q
    split at q
    · rename_i xs e
      cases q
      obtain ⟨a, vs, rfl, e3, ga⟩ := seq_lst r g e
      exact .inl ⟨vs, SqL.of e3, by rw [emp ga]⟩
    · cases q
end
theorem str_one {c : Str} (h : c.length = 1) : c = ⟨#[c.cps.getD 0 0]⟩ := by
  obtain ⟨cps⟩ := c
  have h : cps.size = 1 := h
  obtain ⟨l⟩ := cps
  match l, h with
  | [x], _ => rfl
section
variable {X : Cx} {G : Pc} (hK : X.K = G.K) (hw : X.w = G.w)
include hK hw
theorem o_in (hu : X.A.units + 100 < cLine) : OpR X (compareOp .In) (rD2 G inD) := by
  obtain ⟨K, W, cls, fld, Wx, hk, kc⟩ := G
  cases hK
  cases hw
  intro pins s σ H x y v u Q I rx ry ⟨m, h, a, b, d, h', a1, ra, rb, e, q⟩
  obtain ⟨r, e1, e2⟩ := map_some e
  cases e2
  have fin : Q (.bl r) H := q m H _ (Ext.refl _ _) a1 rfl
  have other : ∀ (b : D), RelD X.K X.w m H b y → (match seqD b h with
    | some xs => if flatD a && xs.all flatD then anyEq a h xs else none
    | none => (dGet b a h).map Option.isSome) = some r → wpAny (model X.prog X.w) X.A (compareOp .In v u) (EP X pins σ Q) X.xe s := by
    intro b rb e1
    split at e1
    · rename_i xs ex
      split at e1
      · rename_i hz
        rw [Bool.and_eq_true] at hz
        obtain ⟨p, vs, rfl, hp, gp⟩ := seq_lst a1 rb ex
        have z := anyEq_rel ra e1 gp
        exact op_in_seq pins s σ H _ _ v u Q I rx ry ⟨p, vs, rfl, .inl (SqL.of hp), flat_rel hz.1 ra, flats_rel hz.2 gp, by rw [z]; exact fin⟩
      · cases e1
    · obtain ⟨o, e3, e4⟩ := map_some e1
      obtain ⟨p, o', rfl, g1, g2, _⟩ := dGet_rel a1 e3 rb ra
      cases (show u = Value.ref p from ry)
      exact d_in (by omega) I g1 rx fun s' I' => ⟨.bl o'.isSome, H, I', rfl, by rw [g2, ← e4]; exact fin⟩
  unfold inB at e1
  cases b with
  | str z =>
    dsimp only at e1
    split at e1
    · rename_i c
      split at e1
      · rename_i hc
        cases e1
        rw [show x = _ from ra] at rx
        rw [show y = _ from rb] at ry
        exact op_in_sign pins s σ H _ _ v u Q I rx ry ⟨c.cps.getD 0 0, z, by rw [← str_one hc], rfl, fin⟩
      · cases e1
    · cases e1
  | tup xs =>
    dsimp only at e1
    split at e1
    · rename_i hz
      rw [Bool.and_eq_true] at hz
      obtain ⟨p, vs, rfl, hp, gp⟩ := rb
      have z := anyEq_rel ra e1 gp
      exact op_in_seq pins s σ H _ _ v u Q I rx ry ⟨p, vs, rfl, .inr (SqT.of hp), flat_rel hz.1 ra, flats_rel hz.2 gp, by rw [z]; exact fin⟩
    · cases e1
  | kt xs =>
    dsimp only at e1
    split at e1
    · rename_i hz
      rw [Bool.and_eq_true] at hz
      obtain ⟨p, vs, rfl, hp, gp⟩ := rb
      have gp : RelDs X.K X.w m H xs vs := RelKs.relDs xs vs gp
      have z := anyEq_rel ra e1 gp
      exact op_in_seq pins s σ H _ _ v u Q I rx ry ⟨p, vs, rfl, .inr hp.sq, flat_rel hz.1 ra, flats_rel hz.2 gp, by rw [z]; exact fin⟩
    · cases e1
  | wd kvs =>
    obtain ⟨o, e3, e4⟩ := map_some e1
    obtain ⟨p, es, n, z, rfl, kd, rfl, wa⟩ := wdGet_rel e3 rb ra
    cases o with
    | none => exact op_in_kd kd pins s σ H _ _ v u Q I rx ry ⟨z, none, rfl, rfl, wa, by rw [e4] at fin; exact fin⟩
    | some dd =>
      obtain ⟨u0, v0, h1, h2, h3⟩ := wa
      exact op_in_kd kd pins s σ H _ _ v u Q I rx ry ⟨z, some u0, rfl, rfl, h1, by rw [e4] at fin; exact fin⟩
  | non => exact other _ rb e1
  | bl _ => exact other _ rb e1
  | int _ => exact other _ rb e1
  | ref _ => exact other _ rb e1
  | frz _ => exact other _ rb e1
  | vl _ => exact other _ rb e1
  | vk _ _ => exact other _ rb e1
  | vt _ _ => exact other _ rb e1
  | vi _ _ _ => exact other _ rb e1
theorem o_notIn (hu : X.A.units + 100 < cLine) : OpR X (compareOp .NotIn) (rD2 G notInD) := by
  obtain ⟨K, W, cls, fld, Wx, hk, kc⟩ := G
  cases hK
  cases hw
  intro pins s σ H x y v u Q I rx ry ⟨m, h, a, b, d, h', a1, ra, rb, e, q⟩
  obtain ⟨r, e1, e2⟩ := map_some e
  cases e2
  have fin : Q (.bl (!r)) H := q m H _ (Ext.refl _ _) a1 rfl
  have other : ∀ (b : D), RelD X.K X.w m H b y → (match seqD b h with
    | some xs => if flatD a && xs.all flatD then anyEq a h xs else none
    | none => (dGet b a h).map Option.isSome) = some r → wpAny (model X.prog X.w) X.A (compareOp .NotIn v u) (EP X pins σ Q) X.xe s := by
    intro b rb e1
    split at e1
    · rename_i xs ex
      split at e1
      · rename_i hz
        rw [Bool.and_eq_true] at hz
        obtain ⟨p, vs, rfl, hp, gp⟩ := seq_lst a1 rb ex
        have z := anyEq_rel ra e1 gp
        exact op_notIn_seq pins s σ H _ _ v u Q I rx ry ⟨p, vs, rfl, .inl (SqL.of hp), flat_rel hz.1 ra, flats_rel hz.2 gp, by rw [z]; exact fin⟩
      · cases e1
    · obtain ⟨o, e3, e4⟩ := map_some e1
      obtain ⟨p, o', rfl, g1, g2, _⟩ := dGet_rel a1 e3 rb ra
      cases (show u = Value.ref p from ry)
      exact d_notIn (by omega) I g1 rx fun s' I' => ⟨.bl (!o'.isSome), H, I', rfl, by rw [g2, ← e4]; exact fin⟩
  unfold inB at e1
  cases b with
  | str z =>
    dsimp only at e1
    split at e1
    · rename_i c
      split at e1
      · rename_i hc
        cases e1
        rw [show x = _ from ra] at rx
        rw [show y = _ from rb] at ry
        exact op_notIn_sign pins s σ H _ _ v u Q I rx ry ⟨c.cps.getD 0 0, z, by rw [← str_one hc], rfl, fin⟩
      · cases e1
    · cases e1
  | tup xs =>
    dsimp only at e1
    split at e1
    · rename_i hz
      rw [Bool.and_eq_true] at hz
      obtain ⟨p, vs, rfl, hp, gp⟩ := rb
      have z := anyEq_rel ra e1 gp
      exact op_notIn_seq pins s σ H _ _ v u Q I rx ry ⟨p, vs, rfl, .inr (SqT.of hp), flat_rel hz.1 ra, flats_rel hz.2 gp, by rw [z]; exact fin⟩
    · cases e1
  | kt xs =>
    dsimp only at e1
    split at e1
    · rename_i hz
      rw [Bool.and_eq_true] at hz
      obtain ⟨p, vs, rfl, hp, gp⟩ := rb
      have gp : RelDs X.K X.w m H xs vs := RelKs.relDs xs vs gp
      have z := anyEq_rel ra e1 gp
      exact op_notIn_seq pins s σ H _ _ v u Q I rx ry ⟨p, vs, rfl, .inr hp.sq, flat_rel hz.1 ra, flats_rel hz.2 gp, by rw [z]; exact fin⟩
    · cases e1
  | wd kvs =>
    obtain ⟨o, e3, e4⟩ := map_some e1
    obtain ⟨p, es, n, z, rfl, kd, rfl, wa⟩ := wdGet_rel e3 rb ra
    cases o with
    | none => exact op_notIn_kd kd pins s σ H _ _ v u Q I rx ry ⟨z, none, rfl, rfl, wa, by rw [e4] at fin; exact fin⟩
    | some dd =>
      obtain ⟨u0, v0, h1, h2, h3⟩ := wa
      exact op_notIn_kd kd pins s σ H _ _ v u Q I rx ry ⟨z, some u0, rfl, rfl, h1, by rw [e4] at fin; exact fin⟩
  | non => exact other _ rb e1
  | bl _ => exact other _ rb e1
  | int _ => exact other _ rb e1
  | ref _ => exact other _ rb e1
  | frz _ => exact other _ rb e1
  | vl _ => exact other _ rb e1
  | vk _ _ => exact other _ rb e1
  | vt _ _ => exact other _ rb e1
  | vi _ _ _ => exact other _ rb e1
theorem o_cmp {op : PySem.CmpOp} {f : D → D → DH → Option (D × DH)} (hf : cmpD op = some f) (hu : X.A.units + 100 < cLine) : OpR X (compareOp op) (rD2 G f) := by
  cases op <;> simp only [cmpD] at hf <;> cases hf
  · exact o_eq hK hw hu
  · exact o_ne hK hw hu
  · exact o_ord hK hw rfl
  · exact o_ord hK hw rfl
  · exact o_ord hK hw rfl
  · exact o_ord hK hw rfl
  · exact o_is hK hw
  · exact o_isNot hK hw
  · exact o_in hK hw hu
  · exact o_notIn hK hw hu
theorem x_ix (hu : X.A.units + 100 < cLine) : IxR X (rD2 G ixD) := by
  obtain ⟨K, W, cls, fld, Wx, hk, kc⟩ := G
  cases hK
  cases hw
  intro value slice pins s σ H x y v u Q I rx ry ⟨m, h, a, b, d, h', a1, ra, rb, e, q⟩ hs
  unfold ixD at e
  split at e
  · obtain ⟨z, e1, e2⟩ := map_some e
    cases e2
    obtain ⟨p, vs, rfl, hp, gp⟩ := ra
    rw [show y = _ from rb] at ry
    obtain ⟨v', g1, g2⟩ := atI_rel gp e1
    exact ix_tup value slice pins s σ H _ _ v u Q I rx ry ⟨p, vs, _, v', rfl, rfl, SqT.of hp, g1, q m H _ (Ext.refl _ _) a1 g2⟩ hs
  · obtain ⟨z, e1, e2⟩ := map_some e
    cases e2
    rename_i xs i
    obtain ⟨p, vs, rfl, hp, gp⟩ := ra
    have gp : RelDs X.K X.w m H xs vs := RelKs.relDs xs vs gp
    rw [show y = _ from rb] at ry
    obtain ⟨v', g1, g2⟩ := atI_rel gp e1
    exact ix_tup value slice pins s σ H _ _ v u Q I rx ry ⟨p, vs, _, v', rfl, rfl, hp.sq, g1, q m H _ (Ext.refl _ _) a1 g2⟩ hs
  · obtain ⟨z, e1, e2⟩ := map_some e
    cases e2
    obtain ⟨j, e3, e4⟩ := map_some e1
    subst e4
    obtain ⟨p, rfl, hp⟩ := ra
    rw [show y = _ from rb] at ry
    exact ix_list value slice pins s σ H _ _ v u Q I rx ry ⟨p, _, _, _, rfl, rfl, hp.sq, atI_map e3, q m H _ (Ext.refl _ _) a1 rfl⟩ hs
  · obtain ⟨z, e1, e2⟩ := map_some e
    cases e2
    obtain ⟨j, e3, e4⟩ := map_some e1
    subst e4
    unfold strAt at e3
    split at e3
    · rename_i hz
      rw [show x = _ from ra] at rx
      rw [show y = _ from rb] at ry
      exact ix_str value slice pins s σ H _ _ v u Q I rx ry ⟨_, _, j, rfl, rfl, by rw [← Z_eq]; exact hz, e3, q m H _ (Ext.refl _ _) a1 rfl⟩ hs
    · cases e3
  · split at e
    · rename_i z e1
      cases e
      obtain ⟨p, es, n, zz, rfl, kd, rfl, wa⟩ := wdGet_rel e1 ra rb
      obtain ⟨u0, v0, h1, h2, h3⟩ := wa
      refine tail_any (T := "dict") ?_ PySem.F.slot_dict_getitem.lookup (op_item_kd kd pins s σ H _ _ v u Q I rx ry ⟨zz, u0, v0, rfl, rfl, h1, h2, q m H _ (Ext.refl _ _) a1 (RelK.relD _ _ h3)⟩) hs
      cases (show v = Value.ref p from rx)
      exact kd_type kd I
    · cases e
  · split at e
    · rename_i xs ex
      split at e
      · obtain ⟨z, e1, e2⟩ := map_some e
        cases e2
        obtain ⟨p, vs, rfl, hp, gp⟩ := seq_lst a1 ra ex
        rw [show y = _ from rb] at ry
        obtain ⟨v', g1, g2⟩ := atI_rel gp e1
        exact ix_list value slice pins s σ H _ _ v u Q I rx ry ⟨p, vs, _, v', rfl, rfl, SqL.of hp, g1, q m H _ (Ext.refl _ _) a1 g2⟩ hs
      · cases e
    · split at e
      · rename_i z e1
        cases e
        obtain ⟨p, o', rfl, g1, g2, g3⟩ := dGet_rel a1 e1 ra rb
        obtain ⟨v', rfl, g4⟩ := g3 _ rfl
        cases (show v = Value.ref p from rx)
        exact tail_any (dict_typeIs I g1) PySem.F.slot_dict_getitem.lookup (d_getItem (by omega) I g1 ry fun w' s' I' rw' => ⟨v', H, I', rw', q m H _ (Ext.refl _ _) a1 g4⟩) hs
      · cases e
def rDSl (G : Pc) : V → Option Int → Option Int → Hp → VK → Prop := fun x lo hi H Q =>
  ∃ m h a d h', G.H m h H ∧ G.R m H a x ∧ sliceD a lo hi h = some (d, h') ∧ ∀ m' H' v, Ext m H m' H' → G.H m' h' H' → G.R m' H' d v → Q v H'
theorem s_slice : SlR X (rDSl G) := by
  obtain ⟨K, W, cls, fld, Wx, hk, kc⟩ := G
  cases hK
  cases hw
  intro pins s σ H x v vl vu lo hi sl Q I rx hs pl pu ⟨m, h, a, d, h', a1, ra, e, q⟩
  unfold sliceD at e
  split at e
  · rename_i xs
    cases e
    obtain ⟨p, vs, rfl, hp, gp⟩ := ra
    refine sl_tupA pins s σ H _ v vl vu lo hi sl Q I rx hs pl pu ⟨p, vs, rfl, SqT.of hp, fun hwh => ?_, fun _ t ht => ?_⟩
    · have e0 : cutD xs lo hi = xs := by
        unfold cutD
        rw [← gp.length, hwh.1, hwh.2, List.drop_zero, Nat.sub_zero, gp.length, List.take_length]
      rw [e0] at q
      exact q m H _ (Ext.refl _ _) a1 ⟨p, vs, rfl, hp, gp⟩
    · obtain ⟨b1, b2, b3⟩ := new_tup a1 ht (cut_rel gp lo hi)
      exact q m _ _ b2 b1 b3
  · split at e
    · rename_i hz
      cases e
      rw [show x = _ from ra] at rx
      exact sl_str pins s σ H _ v vl vu lo hi sl Q I rx hs pl pu ⟨_, rfl, by rw [← Z_eq]; exact hz, q m H _ (Ext.refl _ _) a1 rfl⟩
    · cases e
  · split at e
    · rename_i xs ex
      cases e
      obtain ⟨p, vs, rfl, hp, gp⟩ := seq_lst a1 ra ex
      refine sl_list pins s σ H _ v vl vu lo hi sl Q I rx hs pl pu ⟨p, vs, rfl, SqL.of hp, fun t ht => ?_⟩
      obtain ⟨b1, b2, b3⟩ := new_lst a1 ht (cut_rel gp lo hi)
      exact q _ _ _ b2 b1 b3
    · cases e
end
end Dd

set_option Elab.async false
set_option linter.all false
set_option maxRecDepth 100000
set_option maxHeartbeats 4000000
namespace Dd
open PySem PySem.Spec PyProof.Rows L2

/-! # 10. Built-ins and methods by values -/
theorem ints_rel2 {K : PySem.W.Frag} {w : World} {m : Mp} {H : Hp} : ∀ {ds : List D} {ns : List Int} {vs : List V}, intsD ds = some ns → RelDs K w m H ds vs → vs = ns.map V.int
  | [], ns, vs, e, g => by cases e; exact g
  | d :: r, ns, vs, e, g => by
    cases d with
    | int i =>
      obtain ⟨ms, e1, rfl⟩ := map_some (show (intsD r).map (i :: ·) = some ns from e)
      obtain ⟨v, vs', rfl, g1, g2⟩ := g
      rw [show v = _ from g1, ints_rel2 e1 g2]
      rfl
    | _ => cases e
/-! the greatest and the least of a list, by the walks of the library -/
section
variable {prog : Program} {w : World} {A : Around} {E : Value → Shared → Prop} {s : Shared} {l : Addr} {xs : Array Value} {bt : Nat → Nat → Bool} {Q : Value → Shared → Prop}
theorem iter_any (hl : s.heap.IsList l xs)
    (h : ∀ s₂ : Shared, s₂ = { s with heap := s.heap.push { cls := .type "list_iterator", data := .fields #[.ref l, .int 0 0] } } →
      (s₂.heap.IsListIter s.heap.objs.size l 0 ∧ s₂.heap.IsList l xs) → (∀ b ∈ [s.heap.objs.size, l], b < s₂.heap.objs.size) → l ≠ s.heap.objs.size → Q (.ref s.heap.objs.size) s₂) :
    wpAny (model prog w) A (pyIter (.ref l)) Q E s := by
  have hlt : l < s.heap.objs.size := by obtain ⟨_, e, _⟩ := hl; exact Heap.lt_size e
  refine wpAny_pyIter_list hl (h _ rfl ⟨⟨_, Heap.get?_push_size _ rfl, rfl, rfl⟩, hl.push _⟩ (fun b hb => ?_) (Nat.ne_of_lt hlt))
  show b < (s.heap.push _).objs.size
  rw [Heap.size_push]
  rcases List.mem_cons.mp hb with rfl | hb
  · exact Nat.lt_succ_self _
  · rcases List.mem_cons.mp hb with rfl | hb
    · exact Nat.lt_succ_of_lt hlt
    · cases hb
theorem max_any (hh : A.handled = none) (hl : s.heap.IsList l xs) (hne : 0 < xs.size) (hc : CmpOf prog w A.in1 .Gt (fun i v => xs[i]? = some v) bt)
    (h : ∀ v h' tk, xs[argBest bt (xs.size - 1)]? = some v → (∀ b o, s.heap.get? b = some o → h'.get? b = some o) → Q v { s with heap := h', toks := tk }) :
    wpAny (model prog w) A (call (.builtin "max") [.ref l]) Q E s := by
  refine call_max_walk (iter_any hl fun s₂ e st hfp hlI => ?_)
  subst e
  refine ⟨_, _, _, _, _, _, _, rfl, Walks.list (A := A.in1) hh _ l hlI xs, st, hfp, hne, hc, fun v h' tk hP hk => ?_⟩
  exact h v h' tk hP (old_kept hk)
theorem min_any (hh : A.handled = none) (hl : s.heap.IsList l xs) (hne : 0 < xs.size) (hc : CmpOf prog w A.in1 .Lt (fun i v => xs[i]? = some v) bt)
    (h : ∀ v h' tk, xs[argBest bt (xs.size - 1)]? = some v → (∀ b o, s.heap.get? b = some o → h'.get? b = some o) → Q v { s with heap := h', toks := tk }) :
    wpAny (model prog w) A (call (.builtin "min") [.ref l]) Q E s := by
  refine call_min_walk (iter_any hl fun s₂ e st hfp hlI => ?_)
  subst e
  refine ⟨_, _, _, _, _, _, _, rfl, Walks.list (A := A.in1) hh _ l hlI xs, st, hfp, hne, hc, fun v h' tk hP hk => ?_⟩
  exact h v h' tk hP (old_kept hk)
end
theorem best_fold (f : D → D → Bool) (ds : List D) (x : D) (r : List D) (hd : ds = x :: r) : ∀ k, k ≤ r.length → ds[argBest (fun i j => f (ds.getD i .non) (ds.getD j .non)) k]? = some ((r.take k).foldl (fun a b => if f b a then b else a) x)
  | 0, _ => by rw [hd]; rfl
  | k + 1, hk => by
    have ih := best_fold f ds x r hd k (by omega)
    have hk1 : ds[k + 1]? = some r[k] := by rw [hd, List.getElem?_cons_succ]; exact List.getElem?_eq_getElem hk
    have e : r.take (k + 1) = r.take k ++ [r[k]] := (List.take_append_getElem hk).symm
    rw [e, List.foldl_append]
    show ds[argBest _ (k + 1)]? = some (if f r[k] ((r.take k).foldl _ x) then r[k] else (r.take k).foldl _ x)
    have g1 : ds.getD (k + 1) .non = r[k] := by rw [List.getD_eq_getElem?_getD, hk1]; rfl
    have g2 : ds.getD (argBest (fun i j => f (ds.getD i .non) (ds.getD j .non)) k) .non = (r.take k).foldl (fun a b => if f b a then b else a) x := by rw [List.getD_eq_getElem?_getD, ih]; rfl
    have st : argBest (fun i j => f (ds.getD i .non) (ds.getD j .non)) (k + 1) = if f r[k] ((r.take k).foldl (fun a b => if f b a then b else a) x) = true then k + 1 else argBest (fun i j => f (ds.getD i .non) (ds.getD j .non)) k := by
      rw [← g1, ← g2]; rfl
    rw [st]
    split
    · exact hk1
    · exact ih
theorem hom_kind {x y : D} (e : (kindN y == kindN x) = true) (hx : Nat.blt 0 (kindN x) = true) : (∃ i j, x = .int i ∧ y = .int j) ∨ (∃ i j, x = .str i ∧ y = .str j) ∨ ∃ i j, x = .bl i ∧ y = .bl j := by
  have hx := nblt.mp hx
  have e := eq_of_beq e
  cases x with
  | int i => cases y with
    | int j => exact .inl ⟨_, _, rfl, rfl⟩
    | _ => exact absurd e (by simp [kindN])
  | str i => cases y with
    | str j => exact .inr (.inl ⟨_, _, rfl, rfl⟩)
    | _ => exact absurd e (by simp [kindN])
  | bl i => cases y with
    | bl j => exact .inr (.inr ⟨_, _, rfl, rfl⟩)
    | _ => exact absurd e (by simp [kindN])
  | _ => exact absurd hx (Nat.lt_irrefl _)
theorem hom_any {x : D} {r : List D} (h : homD (x :: r) = true) {a b : D} (ha : a ∈ x :: r) (hb : b ∈ x :: r) : (∃ i j, a = .int i ∧ b = .int j) ∨ (∃ i j, a = .str i ∧ b = .str j) ∨ ∃ i j, a = .bl i ∧ b = .bl j := by
  have h : (Nat.blt 0 (kindN x) && r.all fun y => kindN y == kindN x) = true := h
  rw [Bool.and_eq_true] at h
  have k : ∀ c ∈ x :: r, kindN c = kindN x := fun c hc => by
    rcases List.mem_cons.mp hc with rfl | hc
    · rfl
    · exact eq_of_beq (List.all_eq_true.mp h.2 c hc)
  exact hom_kind (beq_iff_eq.mpr ((k b hb).trans (k a ha).symm)) (by rw [k a ha]; exact h.1)
section
variable {K : PySem.W.Frag} {w : World} {m : Mp} {H : Hp} {prog : Program} {A : Around}
theorem rel_cmp {a b : D} {x y : V} {v u : Value} (hab : (∃ i j, a = .int i ∧ b = .int j) ∨ (∃ i j, a = .str i ∧ b = .str j) ∨ ∃ i j, a = .bl i ∧ b = .bl j) (ra : RelD K w m H a x) (rb : RelD K w m H b y) (rx : RelV x v) (ry : RelV y u) (s : Shared) (Q : Value → Shared → Prop) (E : Value → Shared → Prop) :
    (Q (.bool (ltB a b)) s → wpAny (model prog w) A (richCompare .Lt v u) Q E s) ∧ (Q (.bool (ltB b a)) s → wpAny (model prog w) A (richCompare .Gt v u) Q E s) := by
  rcases hab with ⟨i, j, rfl, rfl⟩ | ⟨i, j, rfl, rfl⟩ | ⟨i, j, rfl, rfl⟩
  · rw [show x = _ from ra] at rx
    rw [show y = _ from rb] at ry
    obtain ⟨t, rfl⟩ := rx
    obtain ⟨t', rfl⟩ := ry
    refine ⟨fun q => ?_, fun q => ?_⟩
    · exact (PyProof.Rows.lt_int (show Q (.bool (decide (i < j))) s from by rw [← ltI_eq]; exact q) : wpAny (model prog w) A (compareOp .Lt (.int i t) (.int j t')) Q E s)
    · exact (PyProof.Rows.gt_int (show Q (.bool (decide (i > j))) s from by rw [show decide (i > j) = decide (j < i) from rfl, ← ltI_eq]; exact q) : wpAny (model prog w) A (compareOp .Gt (.int i t) (.int j t')) Q E s)
  · rw [show x = _ from ra] at rx
    rw [show y = _ from rb] at ry
    obtain ⟨t, rfl⟩ := rx
    obtain ⟨t', rfl⟩ := ry
    refine ⟨fun q => ?_, fun q => ?_⟩
    · exact (PyProof.Rows.lt_str q : wpAny (model prog w) A (compareOp .Lt (.str i t) (.str j t')) Q E s)
    · exact (PySem.P.gt_str q : wpAny (model prog w) A (compareOp .Gt (.str i t) (.str j t')) Q E s)
  · rw [show x = _ from ra] at rx
    rw [show y = _ from rb] at ry
    cases rx
    cases ry
    have e1 : decide (PyProof.Rows.b2i i < PyProof.Rows.b2i j) = decide (b2n i < b2n j) := by rw [b2_b2, b2_b2]; exact decide_eq_decide.mpr (by omega)
    have e2 : decide (PyProof.Rows.b2i i > PyProof.Rows.b2i j) = decide (b2n j < b2n i) := by rw [b2_b2, b2_b2]; exact decide_eq_decide.mpr (by omega)
    refine ⟨fun q => ?_, fun q => ?_⟩
    · exact (PyProof.Rows.lt_bool (show Q (.bool (decide (PyProof.Rows.b2i i < PyProof.Rows.b2i j))) s from by rw [e1]; exact q) : wpAny (model prog w) A (compareOp .Lt (.bool i) (.bool j)) Q E s)
    · exact (PyProof.Rows.gt_bool (show Q (.bool (decide (PyProof.Rows.b2i i > PyProof.Rows.b2i j))) s from by rw [e2]; exact q) : wpAny (model prog w) A (compareOp .Gt (.bool i) (.bool j)) Q E s)
/-- an item by its value -/
theorem item_of {ds : List D} {vs : List V} {us : List Value} (g : RelDs K w m H ds vs) (r : Vals vs us) {i : Nat} {u : Value} (hu : us.toArray[i]? = some u) : ∃ v, RelD K w m H (ds.getD i .non) v ∧ RelV v u ∧ ds.getD i .non ∈ ds := by
  have hu : us[i]? = some u := by simpa using hu
  have hi : i < us.length := (List.getElem?_eq_some_iff.mp hu).1
  have hv : i < vs.length := by rw [r.length]; exact hi
  have hd : i < ds.length := by rw [← g.length]; exact hv
  obtain ⟨v, e1, e2⟩ := g.get (List.getElem?_eq_getElem hd)
  obtain ⟨u', e3, e4⟩ := r.get e1
  rw [hu] at e3; cases e3
  have : ds.getD i .non = ds[i] := by rw [List.getD_eq_getElem?_getD, List.getElem?_eq_getElem hd]; rfl
  rw [this]
  exact ⟨v, e2, e4, List.getElem_mem hd⟩
end
section
variable {K : PySem.W.Frag} {w : World} {kc : Nat → Addr} {m : Mp} {h : DH} {H : Hp}
theorem Rs1 {d : D} {xs : List V} (g : RelDs K w m H [d] xs) : ∃ x, xs = [x] ∧ RelD K w m H d x := by
  obtain ⟨v, vs, e, g1, g2⟩ := g
  rw [show vs = [] from g2] at e
  exact ⟨v, e, g1⟩
theorem Rs2 {d d' : D} {xs : List V} (g : RelDs K w m H [d, d'] xs) : ∃ x y, xs = [x, y] ∧ RelD K w m H d x ∧ RelD K w m H d' y := by
  obtain ⟨v, vs, e, g1, g2⟩ := g
  obtain ⟨y, e2, g3⟩ := Rs1 g2
  subst e2
  exact ⟨v, y, e, g1, g3⟩
theorem ints_rel : ∀ ns : List Int, RelDs K w m H (ns.map D.int) (ns.map V.int)
  | [] => rfl
  | n :: r => ⟨_, _, rfl, rfl, ints_rel r⟩
theorem bools_rel : ∀ {ds : List D} {bs : List Bool} {vs : List V}, bools ds = some bs → RelDs K w m H ds vs → vs = bs.map V.bl
  | [], bs, vs, q, g => by cases q; rw [show vs = [] from g]; rfl
  | d :: ds, bs, vs, q, g => by
    obtain ⟨v, vs', e, g1, g2⟩ := g
    cases d with
    | bl b =>
      obtain ⟨r, e1, e2⟩ := map_some q
      subst e2 e
      rw [show v = _ from g1, bools_rel e1 g2]
      rfl
    | _ => cases q
theorem txts_rel : ∀ {ds : List D} {bs : List Str} {vs : List V}, txts ds = some bs → RelDs K w m H ds vs → vs = bs.map V.str
  | [], bs, vs, q, g => by cases q; rw [show vs = [] from g]; rfl
  | d :: ds, bs, vs, q, g => by
    obtain ⟨v, vs', e, g1, g2⟩ := g
    cases d with
    | str b =>
      obtain ⟨r, e1, e2⟩ := map_some q
      subst e2 e
      rw [show v = _ from g1, txts_rel e1 g2]
      rfl
    | _ => cases q
end
theorem keys_rel {K : PySem.W.Frag} {w : World} {m : Mp} {H : Hp} : ∀ (ks : List Key), RelDs K w m H (ks.map keyV) (ks.map kV)
  | [] => rfl
  | .inl i :: r => ⟨_, _, rfl, rfl, keys_rel r⟩
  | .inr i :: r => ⟨_, _, rfl, rfl, keys_rel r⟩
theorem kvk_rel {K : PySem.W.Frag} {w : World} {m : Mp} {H : Hp} {kvs : List (Key × D)} {vs : List (Key × V)} (g : RelKV K w m H kvs vs) : RelDs K w m H (kvs.map fun p => keyV p.1) (vs.map fun kv => kV kv.1) := by
  have e := (KV_unzip g).2
  have t := keys_rel (K := K) (w := w) (m := m) (H := H) (kvs.map (·.1))
  have e2 : (kvs.map (·.1)).map kV = vs.map fun kv => kV kv.1 := by rw [← e, List.map_map]; rfl
  have e3 : (kvs.map (·.1)).map keyV = kvs.map fun p => keyV p.1 := by rw [List.map_map]; rfl
  rw [e2, e3] at t
  exact t
theorem tks_rel {K : PySem.W.Frag} {w : World} {m : Mp} {H : Hp} : ∀ {kvs : List (List Key × D)} {vs : List (List Key × V)} {bs : List Addr}, RelKV K w m H kvs vs → IsKeys H vs bs → RelDs K w m H (kvs.map fun p => .tup (p.1.map keyV)) (bs.map V.ref)
  | [], vs, bs, g, k => by
    cases (show vs = [] from g)
    cases k
    rfl
  | p :: ps, vs, bs, g, k => by
    obtain ⟨v, vs', rfl, g1, g2⟩ := g
    cases k with
    | cons e r => exact ⟨_, _, rfl, ⟨_, _, rfl, e, keys_rel _⟩, tks_rel g2 r⟩
theorem isKeys_upd {H : Hp} {p : Addr} {o : HO} (hp : H p = none) : ∀ {vs : List (List Key × V)} {bs : List Addr}, IsKeys H vs bs → IsKeys (upd H p o) vs bs
  | _, _, .nil => .nil
  | _, _, .cons e r => .cons (by rw [upd_ne (ne_of_none e hp)]; exact e) (isKeys_upd hp r)
section
variable {X : Cx} {G : Pc} (hK : X.K = G.K) (hw : X.w = G.w)
include hK hw
theorem c_len : CallR X (.builtin "len") (rDN G (bltD .len)) := by
  obtain ⟨K, W, cls, fld, Wx, hk, kc⟩ := G
  cases hK
  cases hw
  intro pins s σ H xs us Q I r ⟨m, h, as, d, h', a1, ra, e, q⟩
  unfold bltD at e
  split at e
  case h_1 =>
    rename_i z _ _
    split at e
    · rename_i hz
      cases e
      obtain ⟨x, rfl, g⟩ := Rs1 ra
      rw [show x = _ from g] at r
      exact call_len pins s σ H _ us Q I r ⟨_, _, rfl, ⟨by rw [← Z_eq]; exact hz, rfl⟩, q m H _ (Ext.refl _ _) a1 rfl⟩
    · cases e
  case h_2 =>
    cases e
    obtain ⟨x, rfl, p, vs, rfl, hp, gp⟩ := Rs1 ra
    exact call_len pins s σ H _ us Q I r ⟨_, _, rfl, .inr ⟨vs, SqT.of hp, rfl⟩, q m H _ (Ext.refl _ _) a1 (by rw [gp.length]; rfl)⟩
  case h_3 =>
    cases e
    obtain ⟨x, rfl, p, vs, rfl, hp, gp⟩ := Rs1 ra
    have gp : RelDs X.K X.w m H _ vs := RelKs.relDs _ vs gp
    exact call_len pins s σ H _ us Q I r ⟨_, _, rfl, .inr ⟨vs, hp.sq, rfl⟩, q m H _ (Ext.refl _ _) a1 (by rw [gp.length]; rfl)⟩
  case h_4 =>
    cases e
    obtain ⟨x, rfl, p, rfl, hp⟩ := Rs1 ra
    exact call_len pins s σ H _ us Q I r ⟨_, _, rfl, .inl ⟨_, hp.sq, rfl⟩, q m H _ (Ext.refl _ _) a1 (by rw [List.length_map]; rfl)⟩
  case h_5 =>
    split at e
    · rename_i ds ex
      cases e
      obtain ⟨x, rfl, g⟩ := Rs1 ra
      obtain ⟨p, vs, rfl, hp, gp⟩ := seq_lst a1 g ex
      exact call_len pins s σ H _ us Q I r ⟨_, _, rfl, .inl ⟨vs, SqL.of hp, rfl⟩, q m H _ (Ext.refl _ _) a1 (by rw [gp.length]; rfl)⟩
    · split at e
      · rename_i ds ex
        cases e
        obtain ⟨x, rfl, g⟩ := Rs1 ra
        obtain ⟨p, vs, rfl, e3, gp⟩ := dk_any a1 g ex
        exact call_lenD pins s σ H _ us Q I r ⟨p, vs, rfl, e3, q m H _ (Ext.refl _ _) a1 (by rw [(KV_any gp).2]; rfl)⟩
      · cases e
  all_goals first | contradiction | cases e
theorem c_abs : CallR X (.builtin "abs") (rDN G (bltD .abs)) := by
  obtain ⟨K, W, cls, fld, Wx, hk, kc⟩ := G
  cases hK
  cases hw
  intro pins s σ H xs us Q I r ⟨m, h, as, d, h', a1, ra, e, q⟩
  match as, e with
  | [.int i], e =>
    cases e
    obtain ⟨x, rfl, g⟩ := Rs1 ra
    rw [show x = _ from g] at r
    exact call_abs pins s σ H _ us Q I r ⟨i, rfl, q m H _ (Ext.refl _ _) a1 rfl⟩
theorem c_int : CallR X (.type "int") (rDN G (bltD .int)) := by
  obtain ⟨K, W, cls, fld, Wx, hk, kc⟩ := G
  cases hK
  cases hw
  intro pins s σ H xs us Q I r ⟨m, h, as, d, h', a1, ra, e, q⟩
  match as, e with
  | [.int i], e =>
    cases e
    obtain ⟨x, rfl, g⟩ := Rs1 ra
    rw [show x = _ from g] at r
    exact call_int1 pins s σ H _ us Q I r (.inl ⟨i, rfl, q m H _ (Ext.refl _ _) a1 rfl⟩)
  | [.bl i], e =>
    cases e
    obtain ⟨x, rfl, g⟩ := Rs1 ra
    rw [show x = _ from g] at r
    exact call_int1 pins s σ H _ us Q I r (.inr ⟨i, rfl, q m H _ (Ext.refl _ _) a1 rfl⟩)
theorem c_str : CallR X (.type "str") (rDN G (bltD .str)) := by
  obtain ⟨K, W, cls, fld, Wx, hk, kc⟩ := G
  cases hK
  cases hw
  intro pins s σ H xs us Q I r ⟨m, h, as, d, h', a1, ra, e, q⟩
  match as, e with
  | [.int i], e =>
    simp only [bltD] at e
    split at e
    · rename_i hz
      cases e
      obtain ⟨x, rfl, g⟩ := Rs1 ra
      rw [show x = _ from g] at r
      exact call_str_int pins s σ H _ us Q I r ⟨i, rfl, hz, q m H _ (Ext.refl _ _) a1 rfl⟩
    · cases e
theorem c_tuple : CallR X (.type "tuple") (rDN G (bltD .tuple)) := by
  obtain ⟨K, W, cls, fld, Wx, hk, kc⟩ := G
  cases hK
  cases hw
  intro pins s σ H xs us Q I r ⟨m, h, as, d, h', a1, ra, e, q⟩
  unfold bltD at e
  split at e <;> first | contradiction | skip
  · cases e
    obtain ⟨x, rfl, p, vs, rfl, hp, gp⟩ := Rs1 ra
    exact call_tuple_of pins s σ H _ us Q I r ⟨p, vs, rfl, .inr ⟨SqT.of hp, q m H _ (Ext.refl _ _) a1 ⟨p, vs, rfl, hp, gp⟩⟩⟩
  · split at e
    · rename_i ds ex
      cases e
      obtain ⟨x, rfl, g⟩ := Rs1 ra
      obtain ⟨p, vs, rfl, hp, gp⟩ := seq_lst a1 g ex
      refine call_tuple_of pins s σ H _ us Q I r ⟨p, vs, rfl, .inl ⟨SqL.of hp, fun t ht => ?_⟩⟩
      obtain ⟨b1, b2, b3⟩ := new_tup a1 ht gp
      exact q m _ _ b2 b1 b3
    · cases e
theorem c_list (hc : X.calm = true) : CallR X (.type "list") (rDN G (bltD .list)) := by
  obtain ⟨K, W, cls, fld, Wx, hk, kc⟩ := G
  cases hK
  cases hw
  intro pins s σ H xs us Q I r ⟨m, h, as, d, h', a1, ra, e, q⟩
  unfold bltD at e
  split at e <;> first | contradiction | skip
  · cases e
    obtain ⟨x, rfl, p, vs, rfl, hp, gp⟩ := Rs1 ra
    refine call_list_of pins s σ H _ us Q I r ⟨p, vs, rfl, .inr (SqT.of hp), fun t ht => ?_⟩
    obtain ⟨b1, b2, b3⟩ := new_lst a1 ht gp
    exact q _ _ _ b2 b1 b3
  · cases e
    obtain ⟨x, rfl, p, vs, rfl, hp, gp⟩ := Rs1 ra
    refine call_list_of pins s σ H _ us Q I r ⟨p, vs, rfl, .inr hp.sq, fun t ht => ?_⟩
    obtain ⟨b1, b2, b3⟩ := new_lst a1 ht (RelKs.relDs _ vs gp)
    exact q _ _ _ b2 b1 b3
  · cases e
    obtain ⟨x, rfl, p, rfl, hp⟩ := Rs1 ra
    refine call_list_of pins s σ H _ us Q I r ⟨p, _, rfl, .inl hp.sq, fun t ht => ?_⟩
    obtain ⟨b1, b2, b3⟩ := new_lst a1 ht (ints_rel _)
    exact q _ _ _ b2 b1 b3
  · split at e
    · rename_i ds ex
      cases e
      obtain ⟨x, rfl, g⟩ := Rs1 ra
      obtain ⟨p, vs, rfl, hp, gp⟩ := seq_lst a1 g ex
      refine call_list_of pins s σ H _ us Q I r ⟨p, vs, rfl, .inl (SqL.of hp), fun t ht => ?_⟩
      obtain ⟨b1, b2, b3⟩ := new_lst a1 ht gp
      exact q _ _ _ b2 b1 b3
    · split at e
      · rename_i kvs ex
        cases e
        obtain ⟨x, rfl, g⟩ := Rs1 ra
        obtain ⟨p, vs, rfl, hp, gp⟩ := dk_any a1 g ex
        refine call_list_dK hc pins s σ H _ us Q I r ⟨p, vs, rfl, hp, fun t ht => ?_⟩
        obtain ⟨b1, b2, b3⟩ := new_lst a1 ht (kvk_rel gp)
        exact q _ _ _ b2 b1 b3
      · split at e
        · rename_i kvs ex
          cases e
          obtain ⟨x, rfl, g⟩ := Rs1 ra
          obtain ⟨p, vs, rfl, hp, gp⟩ := dt_any a1 g ex
          refine call_list_dT hc pins s σ H _ us Q I r ⟨p, vs, rfl, .inl hp, fun t bs ht hb => ?_⟩
          obtain ⟨b1, b2, b3⟩ := new_lst a1 ht (tks_rel gp hb)
          exact q _ _ _ b2 b1 b3
        · cases e
theorem c_all (hc : X.calm = true) : CallR X (.builtin "all") (rDN G (bltD .all)) := by
  obtain ⟨K, W, cls, fld, Wx, hk, kc⟩ := G
  cases hK
  cases hw
  intro pins s σ H xs us Q I r ⟨m, h, as, d, h', a1, ra, e, q⟩
  unfold bltD at e
  split at e <;> first | contradiction | skip
  · split at e
    · rename_i ds ex
      obtain ⟨bs, e1, e2⟩ := map_some e
      cases e2
      obtain ⟨x, rfl, g⟩ := Rs1 ra
      obtain ⟨p, vs, rfl, hp, gp⟩ := seq_lst a1 g ex
      have ev := bools_rel e1 gp
      subst ev
      exact cr_all hc pins s σ H _ us Q I r ⟨p, bs, rfl, SqL.of hp, q m H _ (Ext.refl _ _) a1 rfl⟩
    · cases e
theorem c_any (hc : X.calm = true) : CallR X (.builtin "any") (rDN G (bltD .any)) := by
  obtain ⟨K, W, cls, fld, Wx, hk, kc⟩ := G
  cases hK
  cases hw
  intro pins s σ H xs us Q I r ⟨m, h, as, d, h', a1, ra, e, q⟩
  unfold bltD at e
  split at e <;> first | contradiction | skip
  · split at e
    · rename_i ds ex
      obtain ⟨bs, e1, e2⟩ := map_some e
      cases e2
      obtain ⟨x, rfl, g⟩ := Rs1 ra
      obtain ⟨p, vs, rfl, hp, gp⟩ := seq_lst a1 g ex
      have ev := bools_rel e1 gp
      subst ev
      exact cr_any hc pins s σ H _ us Q I r ⟨p, bs, rfl, SqL.of hp, q m H _ (Ext.refl _ _) a1 rfl⟩
    · cases e
theorem c_ord : CallR X (.builtin "ord") (rDN G (bltD .ord)) := by
  obtain ⟨K, W, cls, fld, Wx, hk, kc⟩ := G
  cases hK
  cases hw
  intro pins s σ H xs us Q I r ⟨m, h, as, d, h', a1, ra, e, q⟩
  unfold bltD at e
  split at e <;> first | contradiction | skip
  · split at e
    · rename_i hz
      cases e
      obtain ⟨x, rfl, g⟩ := Rs1 ra
      rw [show x = _ from g] at r
      exact call_ord pins s σ H _ us Q I r ⟨_, rfl, hz, q m H _ (Ext.refl _ _) a1 rfl⟩
    · cases e
/-- of a list -/
theorem extreme_run (hc : X.calm = true) {m : Mp} {h : DH} {H : Hp} {pins : List (Addr × Obj)} {s : Shared} {σ : L2.St} {us : List Value} {Q : VK} {ds : List D} {d0 y : D} {x : V} (I : Inv X pins σ H s) (r : Vals [x] us) (a1 : RH X.K X.w G.kc m h H) (g : RelD X.K X.w m H d0 x) (es : seqD d0 h = some ds)
    (q : ∀ v, RelD X.K X.w m H y v → Q v H) :
    (extremeD false ds = some y → wpAny (model X.prog X.w) X.A (call (.builtin "min") us) (EP X pins σ Q) X.xe s) ∧ (extremeD true ds = some y → wpAny (model X.prog X.w) X.A (call (.builtin "max") us) (EP X pins σ Q) X.xe s) := by
  obtain ⟨p, vs, rfl, hp, gp⟩ := seq_lst a1 g es
  obtain ⟨its, rv, hl, _⟩ := I.list (SqL.of hp)
  rw [Vals.ref1 r]
  have hle : its.length = ds.length := by rw [← rv.length, gp.length]
  have it : ∀ {i : Nat} {u : Value}, its.toArray[i]? = some u → ∃ v, RelD X.K X.w m H (ds.getD i .non) v ∧ RelV v u ∧ ds.getD i .non ∈ ds := fun hu => item_of gp rv hu
  constructor
  · intro e
    unfold extremeD at e
    split at e
    · cases e
    · rename_i x0 r0
      split at e
      · rename_i hh
        cases e
        have hs : 0 < its.toArray.size := by rw [List.size_toArray, hle]; exact Nat.succ_pos _
        refine min_any (bt := fun i j => ltB ((x0 :: r0).getD i .non) ((x0 :: r0).getD j .non)) (I.ok.hd hc) hl.isList hs (fun i j vi vj s' Q' E' hi hj hq => ?_) fun v h' tk hv hk => ?_
        · obtain ⟨v1, g1, g2, g3⟩ := it hi
          obtain ⟨v2, g4, g5, g6⟩ := it hj
          exact (rel_cmp (hom_any hh g3 g6) g1 g4 g2 g5 s' Q' E').1 hq
        · obtain ⟨v1, g1, g2, g3⟩ := it hv
          have bf := best_fold ltB (x0 :: r0) x0 r0 rfl (its.toArray.size - 1) (by rw [List.size_toArray, hle]; exact Nat.le_refl _)
          have e1 : r0.take (its.toArray.size - 1) = r0 := List.take_of_length_le (by rw [List.size_toArray, hle]; exact Nat.le_refl _)
          rw [e1] at bf
          rw [List.getD_eq_getElem?_getD, bf] at g1
          exact ⟨v1, H, I.kept hk, g2, q v1 g1⟩
      · cases e
  · intro e
    unfold extremeD at e
    split at e
    · cases e
    · rename_i x0 r0
      split at e
      · rename_i hh
        cases e
        have hs : 0 < its.toArray.size := by rw [List.size_toArray, hle]; exact Nat.succ_pos _
        refine max_any (bt := fun i j => (fun a b => ltB b a) ((x0 :: r0).getD i .non) ((x0 :: r0).getD j .non)) (I.ok.hd hc) hl.isList hs (fun i j vi vj s' Q' E' hi hj hq => ?_) fun v h' tk hv hk => ?_
        · obtain ⟨v1, g1, g2, g3⟩ := it hi
          obtain ⟨v2, g4, g5, g6⟩ := it hj
          exact (rel_cmp (hom_any hh g3 g6) g1 g4 g2 g5 s' Q' E').2 hq
        · obtain ⟨v1, g1, g2, g3⟩ := it hv
          have bf := best_fold (fun a b => ltB b a) (x0 :: r0) x0 r0 rfl (its.toArray.size - 1) (by rw [List.size_toArray, hle]; exact Nat.le_refl _)
          have e1 : r0.take (its.toArray.size - 1) = r0 := List.take_of_length_le (by rw [List.size_toArray, hle]; exact Nat.le_refl _)
          rw [e1] at bf
          rw [List.getD_eq_getElem?_getD, bf] at g1
          exact ⟨v1, H, I.kept hk, g2, q v1 g1⟩
      · cases e
theorem c_min (hc : X.calm = true) : CallR X (.builtin "min") (rDN G (bltD .min)) := by
  have ex := @extreme_run X G hK hw hc
  obtain ⟨K, W, cls, fld, Wx, hk, kc⟩ := G
  cases hK
  cases hw
  intro pins s σ H xs us Q I r ⟨m, h, as, d, h', a1, ra, e, q⟩
  unfold bltD at e
  split at e <;> first | contradiction | skip
  · cases e
    obtain ⟨x, y, rfl, g, g2⟩ := Rs2 ra
    rw [show x = _ from g, show y = _ from g2] at r
    exact call_min2 hc pins s σ H _ us Q I r ⟨_, _, rfl, q m H _ (Ext.refl _ _) a1 rfl⟩
  · split at e
    · rename_i ds es
      obtain ⟨y, e1, e2⟩ := map_some e
      cases e2
      obtain ⟨x, rfl, g⟩ := Rs1 ra
      exact (ex I r a1 g es fun v gv => q m H v (Ext.refl _ _) a1 gv).1 e1
    · cases e
theorem c_max (hc : X.calm = true) : CallR X (.builtin "max") (rDN G (bltD .max)) := by
  have ex := @extreme_run X G hK hw hc
  obtain ⟨K, W, cls, fld, Wx, hk, kc⟩ := G
  cases hK
  cases hw
  intro pins s σ H xs us Q I r ⟨m, h, as, d, h', a1, ra, e, q⟩
  unfold bltD at e
  split at e <;> first | contradiction | skip
  · cases e
    obtain ⟨x, y, rfl, g, g2⟩ := Rs2 ra
    rw [show x = _ from g, show y = _ from g2] at r
    exact call_max2 hc pins s σ H _ us Q I r ⟨_, _, rfl, q m H _ (Ext.refl _ _) a1 rfl⟩
  · split at e
    · rename_i ds es
      obtain ⟨y, e1, e2⟩ := map_some e
      cases e2
      obtain ⟨x, rfl, g⟩ := Rs1 ra
      exact (ex I r a1 g es fun v gv => q m H v (Ext.refl _ _) a1 gv).2 e1
    · cases e
theorem c_repr (hu : X.A.units + 100 < cLine) (hg : X.A.guards = some []) : CallR X (.builtin "repr") (rDN G (bltD .repr)) := by
  obtain ⟨K, W, cls, fld, Wx, hk, kc⟩ := G
  cases hK
  cases hw
  intro pins s σ H xs us Q I r ⟨m, h, as, d, h', a1, ra, e, q⟩
  unfold bltD at e
  split at e <;> first | contradiction | skip
  · rename_i a _
    split at e
    · rename_i t et
      split at e
      · rename_i hz
        cases e
        rw [Bool.and_eq_true] at hz
        obtain ⟨hz, hrf⟩ := hz
        obtain ⟨x, rfl, ga⟩ := Rs1 ra
        have hx : ∃ p, x = .ref p := by
          cases a <;> first | cases hrf | skip
          · obtain ⟨p, _, e, _⟩ := ga; exact ⟨p, e⟩
          · obtain ⟨p, _, e, _⟩ := ga; exact ⟨p, e⟩
          · obtain ⟨p, _, e⟩ := ga; exact ⟨p, e⟩
          · obtain ⟨p, _, e, _⟩ := ga; exact ⟨p, e⟩
        obtain ⟨p, rfl⟩ := hx
        unfold reprOk at hz
        simp only [Bool.and_eq_true, Bool.not_eq_true', decide_eq_true_eq] at hz
        obtain ⟨⟨⟨z1, z2⟩, z3⟩, z4⟩ := hz
        obtain ⟨u, rfl, ru⟩ := vals1 r
        obtain ⟨rs, rr⟩ := Dp.reads I t _ u (toPy_dp a1 20 a _ t et ga) ru
        cases ru
        refine repr_of_reads' rr z1 (fun z => by rw [z2] at z; cases z) hg (by omega) (fun b o e => e) (fun hh uu tk k => ⟨.str t.shown, H, I.kept k, ⟨_, rfl⟩, q m H _ (Ext.refl _ _) a1 rfl⟩) ?_
        have := Z_eq
        omega
      · cases e
    · cases e
end
end Dd

set_option Elab.async false
set_option linter.all false
set_option maxRecDepth 100000
set_option maxHeartbeats 4000000
namespace Dd
open PySem PySem.Spec PyProof.Rows L2

/-- a method by values -/
def rDM (G : Pc) (f : D → List D → DH → Option (D × DH)) : V → List V → Hp → VK → Prop := fun x xs H Q =>
  ∃ m h a as d h', G.H m h H ∧ G.R m H a x ∧ G.Rs m H as xs ∧ f a as h = some (d, h') ∧ ∀ m' H' v, Ext m H m' H' → G.H m' h' H' → G.R m' H' d v → Q v H'
section
variable {X : Cx} {G : Pc} (hK : X.K = G.K) (hw : X.w = G.w)
include hK hw
theorem m_append : MtR X "list.append" (rDM G (mthD .append)) := by
  obtain ⟨K, W, cls, fld, Wx, hk, kc⟩ := G
  cases hK
  cases hw
  intro pins s σ H x xs v us Q I rx rs ⟨m, h, a, as, d, h', a1, ra, ras, e, q⟩
  match a, as, e with
  | .ref i, [y], e =>
    simp only [mthD] at e
    split at e
    · rename_i ds ex
      split at e
      · rename_i hz
        cases e
        obtain ⟨p, vs, rfl, mp, hp, gp⟩ := ref_lstW a1 ra ex
        obtain ⟨u, rfl, gu⟩ := Rs1 ras
        refine mt_append pins s σ H _ _ v us Q I rx rs ⟨p, vs, u, rfl, rfl, hp, by rw [gp.length, ← Z_eq]; exact hz, ?_⟩
        obtain ⟨b1, b2⟩ := a1.write (ob := .lst (ds ++ [y])) (o := .lst (vs ++ [u])) mp (lstW_some ex) rfl rfl ⟨_, rfl, gp.append (RelDs.one gu)⟩
        exact q _ _ _ b2 b1 rfl
      · cases e
    · cases e
theorem m_extend : MtR X "list.extend" (rDM G (mthD .extend)) := by
  obtain ⟨K, W, cls, fld, Wx, hk, kc⟩ := G
  cases hK
  cases hw
  intro pins s σ H x xs v us Q I rx rs ⟨m, h, a, as, d, h', a1, ra, ras, e, q⟩
  match a, as, e with
  | .ref i, [dd], e =>
    simp only [mthD] at e
    split at e
    · rename_i ds es ex ey
      split at e
      · rename_i hz
        cases e
        obtain ⟨p, vs, rfl, mp, hp, gp⟩ := ref_lstW a1 ra ex
        obtain ⟨u, rfl, gu⟩ := Rs1 ras
        obtain ⟨p', vs', rfl, hp', gp'⟩ := seq_lst a1 gu ey
        refine mt_extend pins s σ H _ _ v us Q I rx rs ⟨p, p', vs, vs', rfl, rfl, hp, hp', by rw [gp.length, gp'.length, ← Z_eq]; exact hz, ?_⟩
        obtain ⟨b1, b2⟩ := a1.write (ob := .lst (ds ++ es)) (o := .lst (vs ++ vs')) mp (lstW_some ex) rfl rfl ⟨_, rfl, gp.append gp'⟩
        exact q _ _ _ b2 b1 rfl
      · cases e
    · cases e
theorem m_pop : MtR X "list.pop" (rDM G (mthD .pop)) := by
  obtain ⟨K, W, cls, fld, Wx, hk, kc⟩ := G
  cases hK
  cases hw
  intro pins s σ H x xs v us Q I rx rs ⟨m, h, a, as, d, h', a1, ra, ras, e, q⟩
  match a, as, e with
  | .ref i, [], e =>
    simp only [mthD] at e
    split at e
    · rename_i ds ex
      split at e
      · rename_i z hz
        cases e
        obtain ⟨p, vs, rfl, mp, hp, gp⟩ := ref_lstW a1 ra ex
        rw [List.getLast?_eq_getElem?] at hz
        obtain ⟨y, g1, g2⟩ := gp.get hz
        refine mt_pop pins s σ H _ _ v us Q I rx rs ⟨p, vs, y, rfl, ras, hp, by rw [gp.length]; exact g1, ?_⟩
        have gd : RelDs X.K X.w m H ds.dropLast vs.dropLast := by
          rw [List.dropLast_eq_take, List.dropLast_eq_take, gp.length]
          exact gp.take _
        obtain ⟨b1, b2⟩ := a1.write (ob := .lst ds.dropLast) (o := .lst vs.dropLast) mp (lstW_some ex) rfl rfl ⟨_, rfl, gd⟩
        exact q _ _ _ b2 b1 (g2.ext b2)
      · cases e
    · cases e
theorem m_join : MtR X "str.join" (rDM G (mthD .join)) := by
  obtain ⟨K, W, cls, fld, Wx, hk, kc⟩ := G
  cases hK
  cases hw
  intro pins s σ H x xs v us Q I rx rs ⟨m, h, a, as, d, h', a1, ra, ras, e, q⟩
  match a, as, e with
  | .str z, [dd], e =>
    simp only [mthD] at e
    split at e
    · rename_i ds ex
      split at e
      · rename_i ys ey
        split at e
        · rename_i hz
          cases e
          rw [show x = _ from ra] at rx
          obtain ⟨u, rfl, gu⟩ := Rs1 ras
          obtain ⟨p, vs, rfl, hp, gp⟩ := seq_lst a1 gu ex
          have ev := txts_rel ey gp
          subst ev
          exact mt_join pins s σ H _ _ v us Q I rx rs ⟨z, p, ys, rfl, rfl, .inl (SqL.of hp), hz, q m H _ (Ext.refl _ _) a1 (by rw [TL.join_eq]; rfl)⟩
        · cases e
      · cases e
    · cases e
theorem m_count : MtR X "list.count" (rDM G (mthD .count)) := by
  obtain ⟨K, W, cls, fld, Wx, hk, kc⟩ := G
  cases hK
  cases hw
  intro pins s σ H x xs v us Q I rx rs ⟨m, h, a, as, d, h', a1, ra, ras, e, q⟩
  unfold mthD at e
  split at e <;> first | contradiction | skip
  split at e
  · rename_i k _ _ ds ex
    split at e
    · rename_i ns ei
      cases e
      obtain ⟨u, rfl, gu⟩ := Rs1 ras
      obtain ⟨p, vs, rfl, hp, gp⟩ := seq_lst a1 ra ex
      have ev := ints_rel2 ei gp
      subst ev
      exact mt_lcount pins s σ H _ _ v us Q I rx rs ⟨p, ns, k, rfl, by rw [show u = _ from gu], SqL.of hp, q m H _ (Ext.refl _ _) a1 rfl⟩
    · cases e
  · cases e
end
theorem place_spec {K : PySem.W.Frag} {w : World} {m : Mp} {H : Hp} {x : D} {y : V} (rx : RelD K w m H x y) : ∀ {ds : List D} {vs : List V} {k j : Nat}, placeD x ds k = some j → RelDs K w m H ds vs →
    ∃ i z, j = k + i ∧ vs[i]? = some z ∧ eqV z y = true ∧ ∀ (n : Nat) (z' : V), n < i → vs[n]? = some z' → eqV z' y = false
  | [], _, _, _, e, _ => by cases e
  | d :: ds, _, k, j, e, g => by
    obtain ⟨v, vs', rfl, g1, g2⟩ := g
    unfold placeD at e
    split at e
    · rename_i es
      cases e
      exact ⟨0, v, rfl, rfl, eqV_scal es g1 rx, fun n _ hn _ => absurd hn (Nat.not_lt_zero n)⟩
    · rename_i es
      obtain ⟨i, z, e1, e2, e3, e4⟩ := place_spec rx e g2
      refine ⟨i + 1, z, by omega, by simpa using e2, e3, fun n z' hn hz => ?_⟩
      cases n with
      | zero =>
        cases (show some v = some z' from by simpa using hz)
        exact eqV_scal es g1 rx
      | succ n => exact e4 n z' (by omega) (by simpa using hz)
    · cases e
section
variable {X : Cx} {G : Pc} (hK : X.K = G.K) (hw : X.w = G.w)
include hK hw
theorem m_index : MtR X "list.index" (fun x xs H Q => ∃ m h a as d h' ds, G.H m h H ∧ G.R m H a x ∧ G.Rs m H as xs ∧ mthD .index a as h = some (d, h') ∧ seqD a h = some ds ∧ ∀ m' H' v, Ext m H m' H' → G.H m' h' H' → G.R m' H' d v → Q v H') := by
  obtain ⟨K, W, cls, fld, Wx, hk, kc⟩ := G
  cases hK
  cases hw
  intro pins s σ H x xs v us Q I rx rs ⟨m, h, a, as, d, h', ds, a1, ra, ras, e, ex, q⟩
  have e : ∃ y j, as = [y] ∧ (flatD y && ds.all flatD) = true ∧ placeD y ds 0 = some j ∧ d = .int (j : Nat) ∧ h' = h := by
    unfold mthD at e
    split at e <;> first | contradiction | (cases ex; done) | skip
    rw [ex] at e
    dsimp only at e
    split at e
    · rename_i hf
      obtain ⟨j, e1, e2⟩ := map_some e
      cases e2
      exact ⟨_, j, rfl, hf, e1, rfl, rfl⟩
    · cases e
  obtain ⟨y, j, rfl, hf, e1, rfl, rfl⟩ := e
  rw [Bool.and_eq_true] at hf
  obtain ⟨u, rfl, gu⟩ := Rs1 ras
  obtain ⟨p, vs, rfl, hp, gp⟩ := seq_lst a1 ra ex
  obtain ⟨i, z, z1, z2, z3, z4⟩ := place_spec gu e1 gp
  rw [Nat.zero_add] at z1
  subst z1
  exact mt_index pins s σ H _ _ v us Q I rx rs ⟨p, vs, u, j, z, rfl, rfl, SqL.of hp, flat_rel hf.1 gu, flats_rel hf.2 gp, z2, z3, z4, q m H _ (Ext.refl _ _) a1 rfl⟩
end
end Dd

set_option Elab.async false
set_option linter.all false
set_option maxRecDepth 100000
set_option maxHeartbeats 4000000
namespace Dd
open PySem PySem.Spec PyProof.Rows L2

/-! # 11. Calls: a def's word, with the guards told -/
def FnG (P : Program) (w : World) (K : PySem.W.Frag) (mg : Str → Option Value) (base : Heap) (n : Nat) (f : Addr) (sp : Sp) : Prop :=
  ∀ (A : Around) (outer : List Env) (s : Shared) (H : Hp) (us : List Value) (vs : List V) (Q : VK) (E : XK), Room n A → A.guards = some [] → Env0 P w K mg base A outer s H → Vals vs us → sp vs H Q E →
    codeAny (model P w) A (.call (.ref f) ⟨us, []⟩) (CR (L2.CX P w) outer P w H s Q E) s
theorem pe_callG {X : Cx} {W : WX} {n : Nat} {f : Addr} {sp : Sp} {x : Str} {p pos : Pos} {e : Expr} {es : List Expr} {t : TA} (F : FnG X.prog X.w X.K X.mg X.base n f sp) (hr : Room n X.A) (hgd : X.A.guards = some [])
    (hg : Gl X x) (hm : X.mg x = some (.ref f)) (hk : PySem.W.keepIn X.K (.ref f) = true) (tk : Takes X W) (ha : PA X (e :: es) t) (hdb : (x == ("__debug__" : Str)) = false)
    (he : starEach (e :: es) X.env = (false, eval e X.env) :: starEach es X.env) (hpl : (backTo pos (starEach es X.env)).any (·.1) = false) : PE X (.Call (.Name x p) (e :: es) [] pos) (tCallS sp (WE W) t) := by
  refine ⟨fun pins s σ H Q I h => wpAny_Call_Name_kw (ld_glob I hg hm ?_ hdb)⟩
  refine PySem.W.callWith_K (h₀ := X.base) I.ok.mod.kin hk (thn (ha.run pos pins s σ H _ I h) fun us s1 hh => ?_) he hpl
  obtain ⟨vs, H1, I1, r, q⟩ := hh
  refine ⟨I1.kIn, wpAny_call (codeAny_mono (F X.A X.stack s1 H1 us vs Q (WE W σ) hr hgd I1.env0 r q) fun res s' hq => ?_)⟩
  cases res with
  | error u => exact passAt tk σ pins H1 s1 u s' I1 hq
  | ok fl =>
    cases fl with
    | ret u => exact I1.after hq
    | next => exact (show False from hq).elim
    | brk => exact (show False from hq).elim
    | cont => exact (show False from hq).elim
/-- a def of the text by its body -/
theorem fnG_of {P : Program} {w : World} {K : PySem.W.Frag} {mg : Str → Option Value} {base : Heap} {n : Nat} {f : Addr} {fd : FuncData} {x : Str} {st : Stmt} {N ps : List Str} {sp : Sp}
    (F : Fun K x x st f fd) (S : FnScope N ps (defScope st)) (hb : Binds K fd ps []) (len : ∀ vs H Q E, sp vs H Q E → vs.length = ps.length)
    (body : ∀ (cdv : Value) (A : Around) (outer : List Env) (s : Shared) (H : Hp) (vs : List V) (Q : VK) (E : XK), Room n (A.deeper (envOfC x (defScope st) s.heap.objs.size f cdv)) → A.guards = some [] → sp vs H Q E →
      ∃ t, PSs (cxOf (L2.CX P w) P w K mg base N x (defScope st) f cdv A outer s H E) (defBody st) t ∧ t { nx := fun _ H' => Q .non H', rt := Q } (start N vs) H) :
    FnG P w K mg base (n + 1) f sp := by
  obtain ⟨oc, od, kV, doc, pm, an, cdv, ct, osl, rfl, lk, hcd⟩ := F.ex
  intro A outer s H us vs Q E hr hg e0 r hsp
  have hl := len _ _ _ _ hsp
  have kin : K.In s.heap := e0.mod.kin.keeps fun b o e => (e0.bs b o e).1
  have hlim : s.heap.NoLimit := e0.mod.nolimit.keeps fun b o e => (e0.bs b o e).1
  have hbind := hb s us kin (by rw [List.append_nil, ← r.length]; exact hl)
  rw [List.append_nil] at hbind
  have kinds : ∀ y ∈ ps.zip us, (defScope st).names.lookup y.1 = some .local ∨ ((defScope st).names.lookup y.1 = some .cell ∧ ((cellsFrom (s.heap.objs.size + 1) (defScope st).names []).lookup y.1).isSome = true) := by
    rintro ⟨z, v⟩ hy
    rcases S.par z (List.of_mem_zip hy).1 with q | q
    · exact .inl q
    · exact .inr ⟨q, PySem.W.cellsFrom_some _ _ _ (.inl q)⟩
  refine codeAny_call_function hr.depth (kin _ _ lk) rfl S.co S.gen rfl (PySem.W.codeRec_of kin hcd) (hbind _ _ _ _ ?_)
  refine wpAny_newFunctionEnv_cells S.kind kinds fun env he s1 z => ?_
  cases he
  refine ⟨hlim.keeps z.toInCall.keep, codeAny_func ?_⟩
  obtain ⟨t, ht, hq⟩ := body cdv A outer s H vs Q E (hr.deeper _) hg hsp
  have J : L2.Inv (cxOf (L2.CX P w) P w K mg base N x (defScope st) f cdv A outer s H E) [] (start N vs) H s1 := inv_start S hr.hd e0 hl r z
  refine wpAny_mono (ht.run [] s1 (start N vs) H _ J hq) (fun fl s' hs => ?_) fun _ _ he => he
  cases fl with
  | ret u =>
    obtain ⟨v, σ2, H2, J2, rv, q2⟩ := hs
    exact ⟨v, H2, J2.os, J2.bare, J2.base, J2.hok, rv, q2⟩
  | next =>
    obtain ⟨σ2, H2, J2, q2⟩ := hs
    exact ⟨V.non, H2, J2.os, J2.bare, J2.base, J2.hok, rfl, q2⟩
  | brk => exact (show False from hs.choose_spec.choose_spec.2).elim
  | cont => exact (show False from hs.choose_spec.choose_spec.2).elim
/-- the head: the script's list, frozen; then the law's own word -/
theorem law_callG {P : Program} {w : World} {K : PySem.W.Frag} {mg mb : Str → Option Value} {n : Nat} {fa a : Addr} {sp : Sp} {s1 : Shared} {vs : List Value} {ns : List Int}
    (KX : K.In s1.heap) (hns : s1.heap.Ns mainGlobals mg) (hb : s1.heap.Ns builtinsNs mb) (hbb : ∀ x : Str, x ≠ "__name__" → mb x = bootBuiltins x) (lim : s1.heap.NoLimit) (hg : s1.gens = #[])
    (ha : s1.heap.get? a = some { cls := .type "list", data := .seq vs.toArray }) (hi : IntsAre vs ns) (hl : ns.length ≤ sizeLine) (hr : Room n callerA)
    (F : ∀ base : Heap, K.In base → base.Ns mainGlobals mg → FnG P w K mg base n fa sp)
    (hsp : ∀ H : Hp, Only H → FrzL K H a (ns.map V.int) → sp [.ref a] H (fun v _ => v = .bl true) fun _ _ _ => False) :
    codeAny (model P w) callerA (.call (.ref fa) ⟨[.ref a], []⟩) (fun r s' => r = .ok (.ret (.bool true)) ∧ OldK s1.heap s'.heap ∧ s'.os = s1.os ∧ AllBare s'.gens) s1 := by
  have rv := vals_ints hi
  have hlen := hi.length
  have core : ∀ H : Hp, Only H → FrzL K H a (ns.map V.int) → HOk P w H s1.heap → (∀ b, H b ≠ none → b = a) → (H a ≠ none → K.lookup a = none) →
      codeAny (model P w) callerA (.call (.ref fa) ⟨[.ref a], []⟩) (fun r s' => r = .ok (.ret (.bool true)) ∧ OldK s1.heap s'.heap ∧ s'.os = s1.os ∧ AllBare s'.gens) s1 := by
    intro H hO hS hok only kno
    have isA : ∀ {b : Addr} {u : HO}, H b = some u → b = a := fun {b u} e => only b (by rw [e]; exact fun z => nomatch z)
    have noDict : ∀ {b : Addr} {o : Obj} {es : Array DictEntry} {ep : Nat}, s1.heap.get? b = some o → o.data = .dict es ep → H b = none := by
      intro b o es ep e d
      cases q : H b with
      | none => rfl
      | some u =>
        cases isA q
        rw [ha] at e; cases e
        exact nomatch (show Data.seq vs.toArray _ = Data.dict es ep from d)
    have keepNs : ∀ {b : Addr} {m : Str → Option Value}, s1.heap.Ns b m → (hidT s1.heap H).Ns b m := by
      rintro b m ⟨o, es, ep, e, d, r⟩
      exact ⟨o, es, ep, hidT_get e (noDict e d), d, r⟩
    have kin : K.In (hidT s1.heap H) := by
      intro b o e
      refine hidT_get (KX b o e) ?_
      cases q : H b with
      | none => rfl
      | some u =>
        cases isA q
        rw [kno (by rw [q]; exact fun z => nomatch z)] at e
        cases e
    have hM : Mod K mg (hidT s1.heap H) := by
      obtain ⟨mc, l1, l2⟩ := lim
      exact ⟨kin, keepNs hns, ⟨mb, keepNs hb, hbb⟩, mc, keepNs l1, l2⟩
    have e0 : Env0 P w K mg (hidT s1.heap H) callerA [] s1 H :=
      ⟨rfl, hM, fun b o e => of_hidT e, Nat.le_of_eq (hidT_size _ _), trivial, fun b hb => (nomatch (show b ∈ ([] : List Addr) from hb)), hok, .of_eq hg⟩
    refine codeAny_mono (F _ kin (keepNs hns) callerA [] s1 H [.ref a] [.ref a] _ _ hr rfl e0 (.cons rfl .nil) (hsp H hO hS)) fun r s' h => ?_
    match r, h with
    | .error e, h =>
      obtain ⟨_, _, _, _, _, _, _, _, _, _, _, _, z⟩ := h
      exact z.elim
    | .ok .next, h => exact (show False from h).elim
    | .ok .brk, h => exact (show False from h).elim
    | .ok .cont, h => exact (show False from h).elim
    | .ok (.ret u), h =>
      obtain ⟨v, H', os, bare, un, hok', r', q⟩ := h
      cases (show v = .bl true from q)
      cases (show u = Value.bool true from r')
      refine ⟨rfl, OldK.of_keep fun b o e => ?_, os, bare⟩
      cases q : H b with
      | none => exact un.keep b o e q (fun z => nomatch (show b ∈ ([] : List Addr) from z)) (fun z => nomatch z)
      | some u =>
        rcases hO b with z | ⟨ob, xs, z⟩
        · rw [q] at z; cases z
        · have e1 := (hok b _ z).1
          have e2 := (hok' b _ (un.frzs b ob _ z)).1
          rw [e] at e1; cases e1
          exact e2
  cases hk : K.lookup a with
  | some o =>
    have e := KX a o hk
    rw [ha] at e
    cases e
    exact core (fun _ => none) (fun _ => .inl rfl) (.inr ⟨_, vs.toArray, _, hk, rfl, rfl, rfl, by rw [List.size_toArray, hlen]; exact hl, by simpa using rv⟩) (fun b u z => nomatch z) (fun b z => absurd rfl z) (fun z => absurd rfl z)
  | none =>
    have one : ∀ b, (if b = a then some (HO.frz { cls := .type "list", data := .seq vs.toArray } (.lst (ns.map V.int))) else none) = none ∨ b = a := fun b => by
      by_cases hb : b = a
      · exact .inr hb
      · exact .inl (if_neg hb)
    refine core (fun b => if b = a then some (.frz { cls := .type "list", data := .seq vs.toArray } (.lst (ns.map V.int))) else none) (fun b => ?_) (.inl ⟨_, if_pos rfl⟩) (fun b u z => ?_) (fun b z => (one b).resolve_left z) (fun _ => hk)
    · rcases one b with h | h
      · exact .inl h
      · exact .inr ⟨_, _, if_pos h⟩
    · rcases one b with h | h
      · exact nomatch (h.symm.trans z)
      · subst h
        have z' := (if_pos rfl).symm.trans z
        cases z'
        exact ⟨ha, by rw [List.length_map]; exact hl, vs, _, rv, ha⟩
/-- the goal that the head leaves -/
theorem walkG {l : PySem.W.OpenLaw} {n k : Nat} {q : Program} {loose : List Str} {XP : (Str → Option Value) → Heap → Prop} {YP : World → Heap → Prop} {d : DefRec} {K : Params → PySem.W.Frag} {sp : World → Sp}
    (hn : l.most = some n) (hn2 : n ≤ sizeLine) (hdf : d.params.defaults = []) (hr : Room k callerA) (hY : ∀ (w : World) (h : Heap), YP w h → (K w.params).In h)
    (F : ∀ (w : World) (mg : Str → Option Value) (fa : Addr) (h : Heap), (K w.params).In h → h.Ns mainGlobals mg → mg d.name = some (.ref fa) →
      ∀ base : Heap, (K w.params).In base → base.Ns mainGlobals mg → FnG l.prog w (K w.params) mg base k fa (sp w))
    (hsp : ∀ (w : World) (H : Hp) (a : Addr) (ns : List Int), ns.length ≤ n → Only H → FrzL (K w.params) H a (ns.map V.int) → sp w [.ref a] H (fun v _ => v = .bl true) fun _ _ _ => False) :
    PySem.W.WalkO q loose XP YP l.row.toRowW d [] (fun f vs => PySem.call f vs) := by
  refine Att.attach_call hn hdf fun w s₀ s₁ mg mb fa o pm cd doc a vs ns G Y ho hd hcd hmg hobj hints hlen hg => ?_
  have KX := hY w _ Y
  exact law_callG KX G.T.g G.T.b G.T.builtins G.T.nolimit hg hobj hints (Nat.le_trans hlen hn2) hr (F w mg fa _ KX G.T.g hmg) (fun H hO hS => hsp w H a ns hlen hO hS)
end Dd

set_option Elab.async false
set_option linter.all false
set_option maxRecDepth 100000
set_option maxHeartbeats 4000000
/-! # 12. Own errors with one field -/
namespace PySem
namespace OWhy
open PySem.W PySem.Calls PyProof.Rows PySem.HandSPX
/-! ### the text of __init__ -/
def iA (p1 p2 : Pos) : Arguments := { posonlyargs := [], args := [{ arg := "self", annotation := none, pos := p1 }, { arg := "why", annotation := none, pos := p2 }], vararg := none, kwonlyargs := [], kw_defaults := [], kwarg := none, defaults := [] }
def iB (q1 q2 q3 q4 : Pos) : List Stmt := [.Assign [.Attribute (.Name "self" q1) "why" q2] (.Name "why" q3) q4]
def iS : Scope := { kind := .function, names := [(PySem.Str.ofString "self", .local), (PySem.Str.ofString "why", .local)], isGenerator := false, isCoroutine := false, more := [] }
/-- what the written part says of Low, at C, and of its __init__, at fI -/
structure OTxt (K : Frag) (mg : Str → Option Value) (x : Str) (C fI : Addr) : Prop where
  gC : mg x = some (.ref C)
  cls : ∃ nm q N bs bm sn sub ab col dd k0 k1 k2 k3 k5, K.lookup C = some (excClassObj nm q C N bs bm true sn sub ab col dd k0 k1 k2 k3 k5 "ValueError.__new__") ∧ refsVE bm = true
  sa : findIn K (.ref C) "__setattr__" = some (some (.builtin "object.__setattr__"))
  ga : findIn K (.ref C) "__getattribute__" = some (some (.builtin "BaseException.__getattribute__"))
  gg : findIn K (.ref C) "__getattr__" = some none
  noN : findIn K (.ref C) "why" = some none
  iC : findIn K (.ref C) "__init__" = some (some (.ref fI))
  tC : typeIn K (.ref fI) = some (.type "function")
  kC : keepIn K (.ref C) = true
  exC : subIn K (.ref C) (.type "BaseException") = some true
  tyC : typeIn K (.ref C) = some (.type "type")
  hdC : hasDictIn K C = true
  te : exmOne K (.ref C) (.ref C) = some true
  fn : ∃ (qn : Str) (oc : Value) (od : Option Addr) (doc pm : Value) (an : Option Addr) (cdv ct : Value) (osl : Array (Option Value)) (p1 p2 q1 q2 q3 q4 : Pos),
    K.lookup fI = some ⟨oc, od, .func (fnOf "__init__" qn (iA p1 p2) (iB q1 q2 q3 q4) iS .none .none doc pm an cdv ct), osl⟩ ∧ codeIn K cdv qn = true
theorem one_size (v : Value) : [v].length ≤ sizeLine := by
  rw [sizeLine_eq]
  exact (by decide : 1 ≤ 16777216)
theorem kept_but {K : Frag} {h h' : Heap} {x : Addr} (X : K.In h) (hx : K.lookup x = none) (k : ∀ b o, b ≠ x → h.get? b = some o → h'.get? b = some o) : K.In h' := fun a o e =>
  k a o (fun z => by rw [z, hx] at e; cases e) (X a o e)
theorem ldC {M : Model} {s : Shared} {name : Str} {scope : Scope} {L a : Addr} {cd : Value} {m : Str → Option Value} {x : Str} {pos : Pos} {v : Value} {Q : Value → Shared → Prop} {A : Around} {E : Value → Shared → Prop} (hn : s.heap.Ns L m) (hv : m x = some v) (h : Q v s)
    (hk : scope.kind = .function := by rfl) (hl : (envOfC name scope L a cd).kindOf x = some .local := by rfl) (hd : (x == ("__debug__" : Str)) = false := by decide) :
    wpAny M A (eval (.Name x pos) (envOfC name scope L a cd)) Q E s := wpAny_Name (wpAny_loadName_local hk hl hn hv h) hd
/-- what __init__ leaves of a fresh exception at x -/
structure InitEnd (h h' : Heap) (x C dx t1 : Addr) (v : Value) : Prop where
  keep : ∀ b o, b ≠ x → h.get? b = some o → h'.get? b = some o
  obj : h'.get? x = some { cls := .ref C, dict := some dx, data := .fields #[.ref t1, .none, .none, .none, .bool false, .none] }
  dbig : h.objs.size ≤ dx
  dne : dx ≠ x
  ns : h'.Ns1 dx (fun y => if y = "why" then some v else none)
/-- a made Low -/
structure OwnMade (h h' : Heap) (e C d : Addr) (v : Value) : Prop where
  keep : ∀ b o, h.get? b = some o → h'.get? b = some o
  new : h.objs.size ≤ e
  obj : ∃ oe vs, h'.get? e = some oe ∧ oe.cls = .ref C ∧ oe.dict = some d ∧ oe.data = .fields vs ∧ vs[1]? = some .none
  dbig : h.objs.size ≤ d
  dne : d ≠ e
  ns : h'.Ns1 d (fun y => if y = "why" then some v else none)
section
variable {prog : Program} {w : World} {A : Around} {E : Value → Shared → Prop} {R : Result → Shared → Prop} {s : Shared} {K : Frag} {mg : Str → Option Value} {x0 : Str} {C fI : Addr}
theorem low_init (T : OTxt K mg x0 C fI) {x t0 : Addr} {v : Value} (X : K.In s.heap) (hlim : s.heap.NoLimit) (hx : s.heap.get? x = some (excO C t0)) (hnx : K.lookup x = none) (hroom : A.depth < recursionLimit)
    (hq : ∀ h' tk dx, InitEnd s.heap h' x C dx t0 v → R (.ok (.ret .none)) { s with heap := h', toks := tk }) :
    codeAny (model prog w) A (.call (.ref fI) ⟨[.ref x, v], []⟩) R s := by
  obtain ⟨qn, oc, od, doc, pm, an, cdv, ct, osl, p1, p2, q1, q2, q3, q4, ho, hcd⟩ := T.fn
  obtain ⟨nm, q, N, bs, bm, sn, sub, ab, col, dd, k0, k1, k2, k3, k5, hC, hbm⟩ := T.cls
  have hcl : clsIn K C = some { name := nm, bases := bs, mro := .ref C :: bm, ns := N, qualname := q, hasDict := true, slotNames := sn, subclasses := sub, abstract := ab, collection := col, hasDel := false } := by unfold clsIn; rw [hC] <;> rfl
  refine Att.call_fn (binds := [("self", .ref x), ("why", v)]) X hlim ho hcd hroom (BindsTo.of_eq (by first | rfl | with_unfolding_all rfl)) (by first | rfl | decide | with_unfolding_all rfl) (fun s₁ IC => ?_) rfl rfl rfl
  obtain ⟨h₁, tk₁, rfl⟩ := IC.toInCall.same
  have k : ∀ b o, s.heap.get? b = some o → h₁.get? b = some o := IC.toInCall.keep
  have hn := IC.toInCall.ns
  have hxL : s.heap.objs.size ≠ x := Nat.ne_of_gt (Heap.lt_size hx)
  have X₁ : K.In h₁ := X.keeps k
  have hx₁ := k _ _ hx
  -- self.by = by
  show wpAny _ _ (execs _ _) _ _ _
  refine wpAny_execs_cons (plainObj_wpAny_Assign_Attribute ?_)
  refine ldC (v := v) hn (by first | rfl | with_unfolding_all rfl | kernel_rfl) (ldC (v := .ref x) hn (by first | rfl | with_unfolding_all rfl | kernel_rfl) ?_)
  refine set_plain X₁ (ox := excO C t0) (od := none) ⟨hx₁, rfl, rfl, trivial⟩ T.sa ?_
  refine exc_osa X₁ hx₁ hcl (show refsVE (.ref C :: bm) = true from hbm) rfl T.noN (fun h₃ tk₃ dx k₃ dn dne hx₃ hn₃ => ?_)
  show wpAny _ _ (execs _ _) _ _ _
  have z : s.heap.objs.size < h₁.objs.size := hn.lt
  exact wpAny_execs_nil (hq h₃ tk₃ dx ⟨fun b o hb e => k₃ b o hb (k b o e), hx₃, Nat.le_of_lt (Nat.lt_of_lt_of_le z dn), dne, hn₃⟩)
theorem low_made (T : OTxt K mg x0 C fI) {v : Value} (X : K.In s.heap) (hlim : s.heap.NoLimit) (hroom : A.depth + 1 < recursionLimit)
    (hq : ∀ h' tk e d, OwnMade s.heap h' e C d v → R (.ok (.ret (.ref e))) { s with heap := h', toks := tk }) :
    codeAny (model prog w) A (.call (.ref C) ⟨[v], []⟩) R s := by
  obtain ⟨nm, q, N, bs, bm, sn, sub, ab, col, dd, k0, k1, k2, k3, k5, hC, hbm⟩ := T.cls
  obtain ⟨hp, g, dr, tk, os⟩ := s
  have k : ∀ b o, hp.get? b = some o → ((hp.push (kdv_tup [v])).push (excO C hp.objs.size)).get? b = some o := fun b o e => Heap.get?_push_of_some _ (Heap.get?_push_of_some _ e)
  have hget : ((hp.push (kdv_tup [v])).push (excO C hp.objs.size)).get? (hp.objs.size + 1) = some (excO C hp.objs.size) := by heap_get
  have hnx : K.lookup (hp.objs.size + 1) = none := by
    cases e : K.lookup (hp.objs.size + 1) with
    | none => rfl
    | some o =>
      have z : hp.get? (hp.objs.size + 1) = some o := X _ _ e
      exact absurd (Nat.lt_of_succ_lt (Heap.lt_size z)) (Nat.lt_irrefl _)
  refine call_own F.excBase_ValueError (fun X => refsVE_contains X bm hbm) (X _ _ hC) (looks_findIn X T.iC) (fun self => bind_fn X self T.tC) (one_size v) ?_
  refine low_init (s := ⟨(hp.push (kdv_tup [v])).push (excO C hp.objs.size), g, dr, tk, os⟩) T (X.keeps k) (hlim.keeps k) hget hnx ?_ fun h' tk' dx ⟨k', hx, dn, dne, hns⟩ => ?_
  · show A.depth + 1 < recursionLimit
    exact hroom
  · have old : ∀ b o, hp.get? b = some o → h'.get? b = some o := fun b o e => k' b o (Nat.ne_of_lt (Nat.lt_succ_of_lt (Heap.lt_size e))) (k b o e)
    have z : hp.objs.size + 1 + 1 ≤ dx := by
      first
        | (simpa only [Heap.size_push] using dn)
        | exact dn
        | (have q := dn; rw [Heap.size_push, Heap.size_push] at q; exact q)
    exact ⟨rfl, hq h' tk' (hp.objs.size + 1) dx ⟨old, Nat.le_succ _, ⟨_, _, hx, rfl, rfl, rfl, rfl⟩, Nat.le_trans (Nat.le_trans (Nat.le_succ _) (Nat.le_succ _)) z, dne, hns⟩⟩
end
end OWhy
end PySem
namespace L2
namespace OWhy
open PySem PySem.Spec PyProof.Rows
theorem relO_low {v : V} {v' : Value} (r : RelV v v') (f : Str) : RelO (List.lookup f [(("why" : Str), v)]) (if f = "why" then some v' else none) := by
  by_cases hw : f = "why"
  · subst hw
    rw [if_pos rfl]
    have q : List.lookup ("why" : Str) [(("why" : Str), v)] = some v := by simp [List.lookup]
    rw [q]
    exact r
  · rw [if_neg hw]
    have qw : (f == ("why" : Str)) = false := by simpa using hw
    have q2 : List.lookup f [(("why" : Str), v)] = none := by simp [List.lookup, qw]
    rw [q2]
    trivial
section
variable {X : Cx} {x0 : Str} {C fI : Addr}
/-- Low(e) -/
def tMkLow (C : Addr) (ta : TA) : St → Hp → XK → Prop := fun σ H Q => ta σ H fun vs H1 => ∃ v, vs = [v] ∧ ∀ d, H1 d = none → Q (.ref C) (some d) (upd H1 d (.xd [(("why" : Str), v)]))
theorem pmk_low {a : Expr} {ta : TA} {p pos : Pos} {k : Nat} (T : PySem.OWhy.OTxt X.K X.mg x0 C fI) (hr : Room k X.A) (ha : PA X [a] ta) (hg : Gl X x0) (hdb : (x0 == ("__debug__" : Str)) = false)
    (he : starEach (a :: []) X.env = (false, eval a X.env) :: starEach [] X.env := by rfl) (hpl : (backTo pos (starEach [] X.env)).any (·.1) = false := by rfl) :
    PMk X (.Call (.Name x0 p) [a] [] pos) (tMkLow C ta) := by
  intro pins s σ H Q I h
  refine wpAny_Call_Name_kw (ld_glob I hg T.gC ?_ hdb)
  refine PySem.W.callWith_K (h₀ := X.base) I.ok.mod.kin T.kC (thn (ha.run pos pins s σ H _ I h) fun us s1 hh => ?_) he hpl
  obtain ⟨vs, H1, I1, r1, v, ev, q1⟩ := hh
  subst ev
  refine ⟨I1.kIn, ?_⟩
  cases r1 with
  | cons rv rn =>
    rename_i v' us'
    cases rn
    show wpAny _ _ (call (.ref C) [v']) _ _ _
    have hlim := I1.nolimit
    obtain ⟨hp, g, dr, tk, os⟩ := s1
    refine wpAny_call (PySem.OWhy.low_made T I1.kIn hlim (by have := hr.dp; omega) fun h' tk' e d M => ?_)
    show MkP X pins σ Q (.ref e) ⟨h', g, dr, tk', os⟩
    obtain ⟨oe, fv, hoe, hc, hd, hdat, h1⟩ := M.obj
    have hns := M.ns
    obtain ⟨G', g1, g2⟩ := restrict h' fun b => decide (b ≠ e)
    have gk : ∀ b, b ≠ e → G'.get? b = h'.get? b := fun b hb => g1 b (decide_eq_true hb)
    have ge : G'.get? e = none := g2 e (by simp)
    have old : ∀ b o, hp.get? b = some o → G'.get? b = some o := fun b o q => (gk b (Nat.ne_of_lt (Nat.lt_of_lt_of_le (Heap.lt_size q) M.new))).trans (M.keep b o q)
    have ob : ObjOk X.prog X.w (upd H1 d (.xd [(("why" : Str), v)])) G' d (.xd [(("why" : Str), v)]) :=
      ⟨_, hns.at (fun o q => (gk d M.dne).trans q), fun f => relO_low rv f⟩
    have J : Inv X pins σ (upd H1 d (.xd [(("why" : Str), v)])) ⟨G', g, dr, tk', os⟩ := I1.laid (t' := tk') old M.dbig ob
    refine ⟨e, oe, fv, ⟨G', g, dr, tk', os⟩, _, .ref C, some d, rfl, J, fun b o q => ?_, ge, hoe, ⟨hc, hd⟩, hdat, h1, ?_, rfl, I1.bare, raises_own T.exC T.tyC, q1 d (I1.hok.fresh M.dbig)⟩
    · by_cases hb : b = e
      · have q' : G'.get? b = some o := q
        rw [hb, ge] at q'; cases q'
      · exact (gk b hb).symm.trans q
    · rw [upd_ne (Ne.symm M.dne)]
      exact I1.hok.fresh M.new
/-- raise Low(e) -/
def tRaiseLow (C : Addr) (W : WX) (ta : TA) : TS := fun _ σ H => tMkLow C ta σ H fun cls d H' => W cls d σ H'
theorem ps_raiseLow {a : Expr} {ta : TA} {W : WX} {p pos pos2 : Pos} {k : Nat} (hc : X.calm = true) (T : PySem.OWhy.OTxt X.K X.mg x0 C fI) (hr : Room k X.A) (tk : Takes X W) (ha : PA X [a] ta) (hg : Gl X x0) (hdb : (x0 == ("__debug__" : Str)) = false)
    (he : starEach (a :: []) X.env = (false, eval a X.env) :: starEach [] X.env := by rfl) (hpl : (backTo pos (starEach [] X.env)).any (·.1) = false := by rfl) :
    PS X (.Raise (some (.Call (.Name x0 p) [a] [] pos)) none pos2) (tRaiseLow C W ta) := ps_raise hc tk (pmk_low T hr ha hg hdb he hpl)
/-- low.by, low the exception that the suite holds (at a; its class cls, its dict d) -/
def tByLow (C : Addr) (a : Addr) (cls : Value) (d : Option Addr) (te : TE) : TE := fun σ H Q => te σ H fun x H1 => x = .ref a ∧ cls = .ref C ∧ ∃ (dd : Addr) (v : V), d = some dd ∧ H1 dd = some (.xd [(("why" : Str), v)]) ∧ Q v H1
theorem pe_byLow {a : Addr} {oe : Obj} {cls : Value} {d : Option Addr} {pn : List (Addr × Obj)} {e : Expr} {te : TE} {pos : Pos} (T : PySem.OWhy.OTxt X.K X.mg x0 C fI) (hz : Zc cls d oe) (hf : ∃ vs, oe.data = .fields vs) (he : PE (X.suite a ((a, oe) :: pn)) e te)
    (hb : attributeBase e "why" X.env (eval e X.env) = eval e X.env := by rfl) :
    PE (X.suite a ((a, oe) :: pn)) (.Attribute e "why" pos) (tByLow C a cls d te) := by
  refine ⟨fun pins s σ H Q I h => ?_⟩
  refine attr_of hb (thn (he.run pins s σ H _ I h) fun u s1 hh => ?_)
  obtain ⟨x, H1, I1, rx, ex, ec, dd, v, ed, ea, q⟩ := hh
  subst ex
  obtain rfl : u = Value.ref a := rx
  subst ec
  subst ed
  obtain ⟨ha, _⟩ := I1.pin (a, oe) (List.mem_append_left _ List.mem_cons_self)
  obtain ⟨vs, hd⟩ := hf
  have hx : ObjOk X.prog X.w H1 s1.heap dd (.xd [(("why" : Str), v)]) := I1.hok dd _ ea
  obtain ⟨mA, hns, hr⟩ := hx
  obtain ⟨od, ho, hl⟩ := lookIn_ns hns
  have l : List.lookup ("why" : Str) [(("why" : Str), v)] = some v := by simp [List.lookup]
  obtain ⟨u, hu, ru⟩ := RelO.some_of (v := v) (o := mA "why") (by rw [← l]; exact hr "why")
  have J : PySem.W.InstAt s1.heap a oe C (some od) := ⟨ha, hz.1, by unfold PySem.W.notCls; rw [hd] <;> rfl, by rw [hz.2]; exact ho⟩
  exact HandSPX.exc_get I1.kIn J T.ga T.gg T.exC (PySem.W.findObj_own T.hdC T.noN rfl (by rw [hl, hu])) (handed_of ru) ⟨v, H1, I1.tok _, ru, q⟩
end
end OWhy
end L2
namespace PySem
namespace OPath
open PySem.W PySem.Calls PyProof.Rows PySem.HandSPX
/-! ### the text of __init__ -/
def iA (p1 p2 : Pos) : Arguments := { posonlyargs := [], args := [{ arg := "self", annotation := none, pos := p1 }, { arg := "path", annotation := none, pos := p2 }], vararg := none, kwonlyargs := [], kw_defaults := [], kwarg := none, defaults := [] }
def iB (q1 q2 q3 q4 : Pos) : List Stmt := [.Assign [.Attribute (.Name "self" q1) "path" q2] (.Name "path" q3) q4]
def iS : Scope := { kind := .function, names := [(PySem.Str.ofString "self", .local), (PySem.Str.ofString "path", .local)], isGenerator := false, isCoroutine := false, more := [] }
/-- what the written part says of Low, at C, and of its __init__, at fI -/
structure OTxt (K : Frag) (mg : Str → Option Value) (x : Str) (C fI : Addr) : Prop where
  gC : mg x = some (.ref C)
  cls : ∃ nm q N bs bm sn sub ab col dd k0 k1 k2 k3 k5, K.lookup C = some (excClassObj nm q C N bs bm true sn sub ab col dd k0 k1 k2 k3 k5 "ValueError.__new__") ∧ refsVE bm = true
  sa : findIn K (.ref C) "__setattr__" = some (some (.builtin "object.__setattr__"))
  ga : findIn K (.ref C) "__getattribute__" = some (some (.builtin "BaseException.__getattribute__"))
  gg : findIn K (.ref C) "__getattr__" = some none
  noN : findIn K (.ref C) "path" = some none
  iC : findIn K (.ref C) "__init__" = some (some (.ref fI))
  tC : typeIn K (.ref fI) = some (.type "function")
  kC : keepIn K (.ref C) = true
  exC : subIn K (.ref C) (.type "BaseException") = some true
  tyC : typeIn K (.ref C) = some (.type "type")
  hdC : hasDictIn K C = true
  te : exmOne K (.ref C) (.ref C) = some true
  fn : ∃ (qn : Str) (oc : Value) (od : Option Addr) (doc pm : Value) (an : Option Addr) (cdv ct : Value) (osl : Array (Option Value)) (p1 p2 q1 q2 q3 q4 : Pos),
    K.lookup fI = some ⟨oc, od, .func (fnOf "__init__" qn (iA p1 p2) (iB q1 q2 q3 q4) iS .none .none doc pm an cdv ct), osl⟩ ∧ codeIn K cdv qn = true
theorem one_size (v : Value) : [v].length ≤ sizeLine := by
  rw [sizeLine_eq]
  exact (by decide : 1 ≤ 16777216)
theorem kept_but {K : Frag} {h h' : Heap} {x : Addr} (X : K.In h) (hx : K.lookup x = none) (k : ∀ b o, b ≠ x → h.get? b = some o → h'.get? b = some o) : K.In h' := fun a o e =>
  k a o (fun z => by rw [z, hx] at e; cases e) (X a o e)
theorem ldC {M : Model} {s : Shared} {name : Str} {scope : Scope} {L a : Addr} {cd : Value} {m : Str → Option Value} {x : Str} {pos : Pos} {v : Value} {Q : Value → Shared → Prop} {A : Around} {E : Value → Shared → Prop} (hn : s.heap.Ns L m) (hv : m x = some v) (h : Q v s)
    (hk : scope.kind = .function := by rfl) (hl : (envOfC name scope L a cd).kindOf x = some .local := by rfl) (hd : (x == ("__debug__" : Str)) = false := by decide) :
    wpAny M A (eval (.Name x pos) (envOfC name scope L a cd)) Q E s := wpAny_Name (wpAny_loadName_local hk hl hn hv h) hd
/-- what __init__ leaves of a fresh exception at x -/
structure InitEnd (h h' : Heap) (x C dx t1 : Addr) (v : Value) : Prop where
  keep : ∀ b o, b ≠ x → h.get? b = some o → h'.get? b = some o
  obj : h'.get? x = some { cls := .ref C, dict := some dx, data := .fields #[.ref t1, .none, .none, .none, .bool false, .none] }
  dbig : h.objs.size ≤ dx
  dne : dx ≠ x
  ns : h'.Ns1 dx (fun y => if y = "path" then some v else none)
/-- a made Low -/
structure OwnMade (h h' : Heap) (e C d : Addr) (v : Value) : Prop where
  keep : ∀ b o, h.get? b = some o → h'.get? b = some o
  new : h.objs.size ≤ e
  obj : ∃ oe vs, h'.get? e = some oe ∧ oe.cls = .ref C ∧ oe.dict = some d ∧ oe.data = .fields vs ∧ vs[1]? = some .none
  dbig : h.objs.size ≤ d
  dne : d ≠ e
  ns : h'.Ns1 d (fun y => if y = "path" then some v else none)
section
variable {prog : Program} {w : World} {A : Around} {E : Value → Shared → Prop} {R : Result → Shared → Prop} {s : Shared} {K : Frag} {mg : Str → Option Value} {x0 : Str} {C fI : Addr}
theorem low_init (T : OTxt K mg x0 C fI) {x t0 : Addr} {v : Value} (X : K.In s.heap) (hlim : s.heap.NoLimit) (hx : s.heap.get? x = some (excO C t0)) (hnx : K.lookup x = none) (hroom : A.depth < recursionLimit)
    (hq : ∀ h' tk dx, InitEnd s.heap h' x C dx t0 v → R (.ok (.ret .none)) { s with heap := h', toks := tk }) :
    codeAny (model prog w) A (.call (.ref fI) ⟨[.ref x, v], []⟩) R s := by
  obtain ⟨qn, oc, od, doc, pm, an, cdv, ct, osl, p1, p2, q1, q2, q3, q4, ho, hcd⟩ := T.fn
  obtain ⟨nm, q, N, bs, bm, sn, sub, ab, col, dd, k0, k1, k2, k3, k5, hC, hbm⟩ := T.cls
  have hcl : clsIn K C = some { name := nm, bases := bs, mro := .ref C :: bm, ns := N, qualname := q, hasDict := true, slotNames := sn, subclasses := sub, abstract := ab, collection := col, hasDel := false } := by unfold clsIn; rw [hC] <;> rfl
  refine Att.call_fn (binds := [("self", .ref x), ("path", v)]) X hlim ho hcd hroom (BindsTo.of_eq (by first | rfl | with_unfolding_all rfl)) (by first | rfl | decide | with_unfolding_all rfl) (fun s₁ IC => ?_) rfl rfl rfl
  obtain ⟨h₁, tk₁, rfl⟩ := IC.toInCall.same
  have k : ∀ b o, s.heap.get? b = some o → h₁.get? b = some o := IC.toInCall.keep
  have hn := IC.toInCall.ns
  have hxL : s.heap.objs.size ≠ x := Nat.ne_of_gt (Heap.lt_size hx)
  have X₁ : K.In h₁ := X.keeps k
  have hx₁ := k _ _ hx
  -- self.by = by
  show wpAny _ _ (execs _ _) _ _ _
  refine wpAny_execs_cons (plainObj_wpAny_Assign_Attribute ?_)
  refine ldC (v := v) hn (by first | rfl | with_unfolding_all rfl | kernel_rfl) (ldC (v := .ref x) hn (by first | rfl | with_unfolding_all rfl | kernel_rfl) ?_)
  refine set_plain X₁ (ox := excO C t0) (od := none) ⟨hx₁, rfl, rfl, trivial⟩ T.sa ?_
  refine exc_osa X₁ hx₁ hcl (show refsVE (.ref C :: bm) = true from hbm) rfl T.noN (fun h₃ tk₃ dx k₃ dn dne hx₃ hn₃ => ?_)
  show wpAny _ _ (execs _ _) _ _ _
  have z : s.heap.objs.size < h₁.objs.size := hn.lt
  exact wpAny_execs_nil (hq h₃ tk₃ dx ⟨fun b o hb e => k₃ b o hb (k b o e), hx₃, Nat.le_of_lt (Nat.lt_of_lt_of_le z dn), dne, hn₃⟩)
theorem low_made (T : OTxt K mg x0 C fI) {v : Value} (X : K.In s.heap) (hlim : s.heap.NoLimit) (hroom : A.depth + 1 < recursionLimit)
    (hq : ∀ h' tk e d, OwnMade s.heap h' e C d v → R (.ok (.ret (.ref e))) { s with heap := h', toks := tk }) :
    codeAny (model prog w) A (.call (.ref C) ⟨[v], []⟩) R s := by
  obtain ⟨nm, q, N, bs, bm, sn, sub, ab, col, dd, k0, k1, k2, k3, k5, hC, hbm⟩ := T.cls
  obtain ⟨hp, g, dr, tk, os⟩ := s
  have k : ∀ b o, hp.get? b = some o → ((hp.push (kdv_tup [v])).push (excO C hp.objs.size)).get? b = some o := fun b o e => Heap.get?_push_of_some _ (Heap.get?_push_of_some _ e)
  have hget : ((hp.push (kdv_tup [v])).push (excO C hp.objs.size)).get? (hp.objs.size + 1) = some (excO C hp.objs.size) := by heap_get
  have hnx : K.lookup (hp.objs.size + 1) = none := by
    cases e : K.lookup (hp.objs.size + 1) with
    | none => rfl
    | some o =>
      have z : hp.get? (hp.objs.size + 1) = some o := X _ _ e
      exact absurd (Nat.lt_of_succ_lt (Heap.lt_size z)) (Nat.lt_irrefl _)
  refine call_own F.excBase_ValueError (fun X => refsVE_contains X bm hbm) (X _ _ hC) (looks_findIn X T.iC) (fun self => bind_fn X self T.tC) (one_size v) ?_
  refine low_init (s := ⟨(hp.push (kdv_tup [v])).push (excO C hp.objs.size), g, dr, tk, os⟩) T (X.keeps k) (hlim.keeps k) hget hnx ?_ fun h' tk' dx ⟨k', hx, dn, dne, hns⟩ => ?_
  · show A.depth + 1 < recursionLimit
    exact hroom
  · have old : ∀ b o, hp.get? b = some o → h'.get? b = some o := fun b o e => k' b o (Nat.ne_of_lt (Nat.lt_succ_of_lt (Heap.lt_size e))) (k b o e)
    have z : hp.objs.size + 1 + 1 ≤ dx := by
      first
        | (simpa only [Heap.size_push] using dn)
        | exact dn
        | (have q := dn; rw [Heap.size_push, Heap.size_push] at q; exact q)
    exact ⟨rfl, hq h' tk' (hp.objs.size + 1) dx ⟨old, Nat.le_succ _, ⟨_, _, hx, rfl, rfl, rfl, rfl⟩, Nat.le_trans (Nat.le_trans (Nat.le_succ _) (Nat.le_succ _)) z, dne, hns⟩⟩
end
end OPath
end PySem
namespace L2
namespace OPath
open PySem PySem.Spec PyProof.Rows
theorem relO_low {v : V} {v' : Value} (r : RelV v v') (f : Str) : RelO (List.lookup f [(("path" : Str), v)]) (if f = "path" then some v' else none) := by
  by_cases hw : f = "path"
  · subst hw
    rw [if_pos rfl]
    have q : List.lookup ("path" : Str) [(("path" : Str), v)] = some v := by simp [List.lookup]
    rw [q]
    exact r
  · rw [if_neg hw]
    have qw : (f == ("path" : Str)) = false := by simpa using hw
    have q2 : List.lookup f [(("path" : Str), v)] = none := by simp [List.lookup, qw]
    rw [q2]
    trivial
section
variable {X : Cx} {x0 : Str} {C fI : Addr}
/-- Low(e) -/
def tMkLow (C : Addr) (ta : TA) : St → Hp → XK → Prop := fun σ H Q => ta σ H fun vs H1 => ∃ v, vs = [v] ∧ ∀ d, H1 d = none → Q (.ref C) (some d) (upd H1 d (.xd [(("path" : Str), v)]))
theorem pmk_low {a : Expr} {ta : TA} {p pos : Pos} {k : Nat} (T : PySem.OPath.OTxt X.K X.mg x0 C fI) (hr : Room k X.A) (ha : PA X [a] ta) (hg : Gl X x0) (hdb : (x0 == ("__debug__" : Str)) = false)
    (he : starEach (a :: []) X.env = (false, eval a X.env) :: starEach [] X.env := by rfl) (hpl : (backTo pos (starEach [] X.env)).any (·.1) = false := by rfl) :
    PMk X (.Call (.Name x0 p) [a] [] pos) (tMkLow C ta) := by
  intro pins s σ H Q I h
  refine wpAny_Call_Name_kw (ld_glob I hg T.gC ?_ hdb)
  refine PySem.W.callWith_K (h₀ := X.base) I.ok.mod.kin T.kC (thn (ha.run pos pins s σ H _ I h) fun us s1 hh => ?_) he hpl
  obtain ⟨vs, H1, I1, r1, v, ev, q1⟩ := hh
  subst ev
  refine ⟨I1.kIn, ?_⟩
  cases r1 with
  | cons rv rn =>
    rename_i v' us'
    cases rn
    show wpAny _ _ (call (.ref C) [v']) _ _ _
    have hlim := I1.nolimit
    obtain ⟨hp, g, dr, tk, os⟩ := s1
    refine wpAny_call (PySem.OPath.low_made T I1.kIn hlim (by have := hr.dp; omega) fun h' tk' e d M => ?_)
    show MkP X pins σ Q (.ref e) ⟨h', g, dr, tk', os⟩
    obtain ⟨oe, fv, hoe, hc, hd, hdat, h1⟩ := M.obj
    have hns := M.ns
    obtain ⟨G', g1, g2⟩ := restrict h' fun b => decide (b ≠ e)
    have gk : ∀ b, b ≠ e → G'.get? b = h'.get? b := fun b hb => g1 b (decide_eq_true hb)
    have ge : G'.get? e = none := g2 e (by simp)
    have old : ∀ b o, hp.get? b = some o → G'.get? b = some o := fun b o q => (gk b (Nat.ne_of_lt (Nat.lt_of_lt_of_le (Heap.lt_size q) M.new))).trans (M.keep b o q)
    have ob : ObjOk X.prog X.w (upd H1 d (.xd [(("path" : Str), v)])) G' d (.xd [(("path" : Str), v)]) :=
      ⟨_, hns.at (fun o q => (gk d M.dne).trans q), fun f => relO_low rv f⟩
    have J : Inv X pins σ (upd H1 d (.xd [(("path" : Str), v)])) ⟨G', g, dr, tk', os⟩ := I1.laid (t' := tk') old M.dbig ob
    refine ⟨e, oe, fv, ⟨G', g, dr, tk', os⟩, _, .ref C, some d, rfl, J, fun b o q => ?_, ge, hoe, ⟨hc, hd⟩, hdat, h1, ?_, rfl, I1.bare, raises_own T.exC T.tyC, q1 d (I1.hok.fresh M.dbig)⟩
    · by_cases hb : b = e
      · have q' : G'.get? b = some o := q
        rw [hb, ge] at q'; cases q'
      · exact (gk b hb).symm.trans q
    · rw [upd_ne (Ne.symm M.dne)]
      exact I1.hok.fresh M.new
/-- raise Low(e) -/
def tRaiseLow (C : Addr) (W : WX) (ta : TA) : TS := fun _ σ H => tMkLow C ta σ H fun cls d H' => W cls d σ H'
theorem ps_raiseLow {a : Expr} {ta : TA} {W : WX} {p pos pos2 : Pos} {k : Nat} (hc : X.calm = true) (T : PySem.OPath.OTxt X.K X.mg x0 C fI) (hr : Room k X.A) (tk : Takes X W) (ha : PA X [a] ta) (hg : Gl X x0) (hdb : (x0 == ("__debug__" : Str)) = false)
    (he : starEach (a :: []) X.env = (false, eval a X.env) :: starEach [] X.env := by rfl) (hpl : (backTo pos (starEach [] X.env)).any (·.1) = false := by rfl) :
    PS X (.Raise (some (.Call (.Name x0 p) [a] [] pos)) none pos2) (tRaiseLow C W ta) := ps_raise hc tk (pmk_low T hr ha hg hdb he hpl)
/-- low.by, low the exception that the suite holds (at a; its class cls, its dict d) -/
def tByLow (C : Addr) (a : Addr) (cls : Value) (d : Option Addr) (te : TE) : TE := fun σ H Q => te σ H fun x H1 => x = .ref a ∧ cls = .ref C ∧ ∃ (dd : Addr) (v : V), d = some dd ∧ H1 dd = some (.xd [(("path" : Str), v)]) ∧ Q v H1
theorem pe_byLow {a : Addr} {oe : Obj} {cls : Value} {d : Option Addr} {pn : List (Addr × Obj)} {e : Expr} {te : TE} {pos : Pos} (T : PySem.OPath.OTxt X.K X.mg x0 C fI) (hz : Zc cls d oe) (hf : ∃ vs, oe.data = .fields vs) (he : PE (X.suite a ((a, oe) :: pn)) e te)
    (hb : attributeBase e "path" X.env (eval e X.env) = eval e X.env := by rfl) :
    PE (X.suite a ((a, oe) :: pn)) (.Attribute e "path" pos) (tByLow C a cls d te) := by
  refine ⟨fun pins s σ H Q I h => ?_⟩
  refine attr_of hb (thn (he.run pins s σ H _ I h) fun u s1 hh => ?_)
  obtain ⟨x, H1, I1, rx, ex, ec, dd, v, ed, ea, q⟩ := hh
  subst ex
  obtain rfl : u = Value.ref a := rx
  subst ec
  subst ed
  obtain ⟨ha, _⟩ := I1.pin (a, oe) (List.mem_append_left _ List.mem_cons_self)
  obtain ⟨vs, hd⟩ := hf
  have hx : ObjOk X.prog X.w H1 s1.heap dd (.xd [(("path" : Str), v)]) := I1.hok dd _ ea
  obtain ⟨mA, hns, hr⟩ := hx
  obtain ⟨od, ho, hl⟩ := lookIn_ns hns
  have l : List.lookup ("path" : Str) [(("path" : Str), v)] = some v := by simp [List.lookup]
  obtain ⟨u, hu, ru⟩ := RelO.some_of (v := v) (o := mA "path") (by rw [← l]; exact hr "path")
  have J : PySem.W.InstAt s1.heap a oe C (some od) := ⟨ha, hz.1, by unfold PySem.W.notCls; rw [hd] <;> rfl, by rw [hz.2]; exact ho⟩
  exact HandSPX.exc_get I1.kIn J T.ga T.gg T.exC (PySem.W.findObj_own T.hdC T.noN rfl (by rw [hl, hu])) (handed_of ru) ⟨v, H1, I1.tok _, ru, q⟩
end
end OPath
end L2
namespace PySem
namespace OPart
open PySem.W PySem.Calls PyProof.Rows PySem.HandSPX
/-! ### the text of __init__ -/
def iA (p1 p2 : Pos) : Arguments := { posonlyargs := [], args := [{ arg := "self", annotation := none, pos := p1 }, { arg := "part", annotation := none, pos := p2 }], vararg := none, kwonlyargs := [], kw_defaults := [], kwarg := none, defaults := [] }
def iB (q1 q2 q3 q4 : Pos) : List Stmt := [.Assign [.Attribute (.Name "self" q1) "part" q2] (.Name "part" q3) q4]
def iS : Scope := { kind := .function, names := [(PySem.Str.ofString "self", .local), (PySem.Str.ofString "part", .local)], isGenerator := false, isCoroutine := false, more := [] }
/-- what the written part says of Low, at C, and of its __init__, at fI -/
structure OTxt (K : Frag) (mg : Str → Option Value) (x : Str) (C fI : Addr) : Prop where
  gC : mg x = some (.ref C)
  cls : ∃ nm q N bs bm sn sub ab col dd k0 k1 k2 k3 k5, K.lookup C = some (excClassObj nm q C N bs bm true sn sub ab col dd k0 k1 k2 k3 k5 "ValueError.__new__") ∧ refsVE bm = true
  sa : findIn K (.ref C) "__setattr__" = some (some (.builtin "object.__setattr__"))
  ga : findIn K (.ref C) "__getattribute__" = some (some (.builtin "BaseException.__getattribute__"))
  gg : findIn K (.ref C) "__getattr__" = some none
  noN : findIn K (.ref C) "part" = some none
  iC : findIn K (.ref C) "__init__" = some (some (.ref fI))
  tC : typeIn K (.ref fI) = some (.type "function")
  kC : keepIn K (.ref C) = true
  exC : subIn K (.ref C) (.type "BaseException") = some true
  tyC : typeIn K (.ref C) = some (.type "type")
  hdC : hasDictIn K C = true
  te : exmOne K (.ref C) (.ref C) = some true
  fn : ∃ (qn : Str) (oc : Value) (od : Option Addr) (doc pm : Value) (an : Option Addr) (cdv ct : Value) (osl : Array (Option Value)) (p1 p2 q1 q2 q3 q4 : Pos),
    K.lookup fI = some ⟨oc, od, .func (fnOf "__init__" qn (iA p1 p2) (iB q1 q2 q3 q4) iS .none .none doc pm an cdv ct), osl⟩ ∧ codeIn K cdv qn = true
theorem one_size (v : Value) : [v].length ≤ sizeLine := by
  rw [sizeLine_eq]
  exact (by decide : 1 ≤ 16777216)
theorem kept_but {K : Frag} {h h' : Heap} {x : Addr} (X : K.In h) (hx : K.lookup x = none) (k : ∀ b o, b ≠ x → h.get? b = some o → h'.get? b = some o) : K.In h' := fun a o e =>
  k a o (fun z => by rw [z, hx] at e; cases e) (X a o e)
theorem ldC {M : Model} {s : Shared} {name : Str} {scope : Scope} {L a : Addr} {cd : Value} {m : Str → Option Value} {x : Str} {pos : Pos} {v : Value} {Q : Value → Shared → Prop} {A : Around} {E : Value → Shared → Prop} (hn : s.heap.Ns L m) (hv : m x = some v) (h : Q v s)
    (hk : scope.kind = .function := by rfl) (hl : (envOfC name scope L a cd).kindOf x = some .local := by rfl) (hd : (x == ("__debug__" : Str)) = false := by decide) :
    wpAny M A (eval (.Name x pos) (envOfC name scope L a cd)) Q E s := wpAny_Name (wpAny_loadName_local hk hl hn hv h) hd
/-- what __init__ leaves of a fresh exception at x -/
structure InitEnd (h h' : Heap) (x C dx t1 : Addr) (v : Value) : Prop where
  keep : ∀ b o, b ≠ x → h.get? b = some o → h'.get? b = some o
  obj : h'.get? x = some { cls := .ref C, dict := some dx, data := .fields #[.ref t1, .none, .none, .none, .bool false, .none] }
  dbig : h.objs.size ≤ dx
  dne : dx ≠ x
  ns : h'.Ns1 dx (fun y => if y = "part" then some v else none)
/-- a made Low -/
structure OwnMade (h h' : Heap) (e C d : Addr) (v : Value) : Prop where
  keep : ∀ b o, h.get? b = some o → h'.get? b = some o
  new : h.objs.size ≤ e
  obj : ∃ oe vs, h'.get? e = some oe ∧ oe.cls = .ref C ∧ oe.dict = some d ∧ oe.data = .fields vs ∧ vs[1]? = some .none
  dbig : h.objs.size ≤ d
  dne : d ≠ e
  ns : h'.Ns1 d (fun y => if y = "part" then some v else none)
section
variable {prog : Program} {w : World} {A : Around} {E : Value → Shared → Prop} {R : Result → Shared → Prop} {s : Shared} {K : Frag} {mg : Str → Option Value} {x0 : Str} {C fI : Addr}
theorem low_init (T : OTxt K mg x0 C fI) {x t0 : Addr} {v : Value} (X : K.In s.heap) (hlim : s.heap.NoLimit) (hx : s.heap.get? x = some (excO C t0)) (hnx : K.lookup x = none) (hroom : A.depth < recursionLimit)
    (hq : ∀ h' tk dx, InitEnd s.heap h' x C dx t0 v → R (.ok (.ret .none)) { s with heap := h', toks := tk }) :
    codeAny (model prog w) A (.call (.ref fI) ⟨[.ref x, v], []⟩) R s := by
  obtain ⟨qn, oc, od, doc, pm, an, cdv, ct, osl, p1, p2, q1, q2, q3, q4, ho, hcd⟩ := T.fn
  obtain ⟨nm, q, N, bs, bm, sn, sub, ab, col, dd, k0, k1, k2, k3, k5, hC, hbm⟩ := T.cls
  have hcl : clsIn K C = some { name := nm, bases := bs, mro := .ref C :: bm, ns := N, qualname := q, hasDict := true, slotNames := sn, subclasses := sub, abstract := ab, collection := col, hasDel := false } := by unfold clsIn; rw [hC] <;> rfl
  refine Att.call_fn (binds := [("self", .ref x), ("part", v)]) X hlim ho hcd hroom (BindsTo.of_eq (by first | rfl | with_unfolding_all rfl)) (by first | rfl | decide | with_unfolding_all rfl) (fun s₁ IC => ?_) rfl rfl rfl
  obtain ⟨h₁, tk₁, rfl⟩ := IC.toInCall.same
  have k : ∀ b o, s.heap.get? b = some o → h₁.get? b = some o := IC.toInCall.keep
  have hn := IC.toInCall.ns
  have hxL : s.heap.objs.size ≠ x := Nat.ne_of_gt (Heap.lt_size hx)
  have X₁ : K.In h₁ := X.keeps k
  have hx₁ := k _ _ hx
  -- self.by = by
  show wpAny _ _ (execs _ _) _ _ _
  refine wpAny_execs_cons (plainObj_wpAny_Assign_Attribute ?_)
  refine ldC (v := v) hn (by first | rfl | with_unfolding_all rfl | kernel_rfl) (ldC (v := .ref x) hn (by first | rfl | with_unfolding_all rfl | kernel_rfl) ?_)
  refine set_plain X₁ (ox := excO C t0) (od := none) ⟨hx₁, rfl, rfl, trivial⟩ T.sa ?_
  refine exc_osa X₁ hx₁ hcl (show refsVE (.ref C :: bm) = true from hbm) rfl T.noN (fun h₃ tk₃ dx k₃ dn dne hx₃ hn₃ => ?_)
  show wpAny _ _ (execs _ _) _ _ _
  have z : s.heap.objs.size < h₁.objs.size := hn.lt
  exact wpAny_execs_nil (hq h₃ tk₃ dx ⟨fun b o hb e => k₃ b o hb (k b o e), hx₃, Nat.le_of_lt (Nat.lt_of_lt_of_le z dn), dne, hn₃⟩)
theorem low_made (T : OTxt K mg x0 C fI) {v : Value} (X : K.In s.heap) (hlim : s.heap.NoLimit) (hroom : A.depth + 1 < recursionLimit)
    (hq : ∀ h' tk e d, OwnMade s.heap h' e C d v → R (.ok (.ret (.ref e))) { s with heap := h', toks := tk }) :
    codeAny (model prog w) A (.call (.ref C) ⟨[v], []⟩) R s := by
  obtain ⟨nm, q, N, bs, bm, sn, sub, ab, col, dd, k0, k1, k2, k3, k5, hC, hbm⟩ := T.cls
  obtain ⟨hp, g, dr, tk, os⟩ := s
  have k : ∀ b o, hp.get? b = some o → ((hp.push (kdv_tup [v])).push (excO C hp.objs.size)).get? b = some o := fun b o e => Heap.get?_push_of_some _ (Heap.get?_push_of_some _ e)
  have hget : ((hp.push (kdv_tup [v])).push (excO C hp.objs.size)).get? (hp.objs.size + 1) = some (excO C hp.objs.size) := by heap_get
  have hnx : K.lookup (hp.objs.size + 1) = none := by
    cases e : K.lookup (hp.objs.size + 1) with
    | none => rfl
    | some o =>
      have z : hp.get? (hp.objs.size + 1) = some o := X _ _ e
      exact absurd (Nat.lt_of_succ_lt (Heap.lt_size z)) (Nat.lt_irrefl _)
  refine call_own F.excBase_ValueError (fun X => refsVE_contains X bm hbm) (X _ _ hC) (looks_findIn X T.iC) (fun self => bind_fn X self T.tC) (one_size v) ?_
  refine low_init (s := ⟨(hp.push (kdv_tup [v])).push (excO C hp.objs.size), g, dr, tk, os⟩) T (X.keeps k) (hlim.keeps k) hget hnx ?_ fun h' tk' dx ⟨k', hx, dn, dne, hns⟩ => ?_
  · show A.depth + 1 < recursionLimit
    exact hroom
  · have old : ∀ b o, hp.get? b = some o → h'.get? b = some o := fun b o e => k' b o (Nat.ne_of_lt (Nat.lt_succ_of_lt (Heap.lt_size e))) (k b o e)
    have z : hp.objs.size + 1 + 1 ≤ dx := by
      first
        | (simpa only [Heap.size_push] using dn)
        | exact dn
        | (have q := dn; rw [Heap.size_push, Heap.size_push] at q; exact q)
    exact ⟨rfl, hq h' tk' (hp.objs.size + 1) dx ⟨old, Nat.le_succ _, ⟨_, _, hx, rfl, rfl, rfl, rfl⟩, Nat.le_trans (Nat.le_trans (Nat.le_succ _) (Nat.le_succ _)) z, dne, hns⟩⟩
end
end OPart
end PySem
namespace L2
namespace OPart
open PySem PySem.Spec PyProof.Rows
theorem relO_low {v : V} {v' : Value} (r : RelV v v') (f : Str) : RelO (List.lookup f [(("part" : Str), v)]) (if f = "part" then some v' else none) := by
  by_cases hw : f = "part"
  · subst hw
    rw [if_pos rfl]
    have q : List.lookup ("part" : Str) [(("part" : Str), v)] = some v := by simp [List.lookup]
    rw [q]
    exact r
  · rw [if_neg hw]
    have qw : (f == ("part" : Str)) = false := by simpa using hw
    have q2 : List.lookup f [(("part" : Str), v)] = none := by simp [List.lookup, qw]
    rw [q2]
    trivial
section
variable {X : Cx} {x0 : Str} {C fI : Addr}
/-- Low(e) -/
def tMkLow (C : Addr) (ta : TA) : St → Hp → XK → Prop := fun σ H Q => ta σ H fun vs H1 => ∃ v, vs = [v] ∧ ∀ d, H1 d = none → Q (.ref C) (some d) (upd H1 d (.xd [(("part" : Str), v)]))
theorem pmk_low {a : Expr} {ta : TA} {p pos : Pos} {k : Nat} (T : PySem.OPart.OTxt X.K X.mg x0 C fI) (hr : Room k X.A) (ha : PA X [a] ta) (hg : Gl X x0) (hdb : (x0 == ("__debug__" : Str)) = false)
    (he : starEach (a :: []) X.env = (false, eval a X.env) :: starEach [] X.env := by rfl) (hpl : (backTo pos (starEach [] X.env)).any (·.1) = false := by rfl) :
    PMk X (.Call (.Name x0 p) [a] [] pos) (tMkLow C ta) := by
  intro pins s σ H Q I h
  refine wpAny_Call_Name_kw (ld_glob I hg T.gC ?_ hdb)
  refine PySem.W.callWith_K (h₀ := X.base) I.ok.mod.kin T.kC (thn (ha.run pos pins s σ H _ I h) fun us s1 hh => ?_) he hpl
  obtain ⟨vs, H1, I1, r1, v, ev, q1⟩ := hh
  subst ev
  refine ⟨I1.kIn, ?_⟩
  cases r1 with
  | cons rv rn =>
    rename_i v' us'
    cases rn
    show wpAny _ _ (call (.ref C) [v']) _ _ _
    have hlim := I1.nolimit
    obtain ⟨hp, g, dr, tk, os⟩ := s1
    refine wpAny_call (PySem.OPart.low_made T I1.kIn hlim (by have := hr.dp; omega) fun h' tk' e d M => ?_)
    show MkP X pins σ Q (.ref e) ⟨h', g, dr, tk', os⟩
    obtain ⟨oe, fv, hoe, hc, hd, hdat, h1⟩ := M.obj
    have hns := M.ns
    obtain ⟨G', g1, g2⟩ := restrict h' fun b => decide (b ≠ e)
    have gk : ∀ b, b ≠ e → G'.get? b = h'.get? b := fun b hb => g1 b (decide_eq_true hb)
    have ge : G'.get? e = none := g2 e (by simp)
    have old : ∀ b o, hp.get? b = some o → G'.get? b = some o := fun b o q => (gk b (Nat.ne_of_lt (Nat.lt_of_lt_of_le (Heap.lt_size q) M.new))).trans (M.keep b o q)
    have ob : ObjOk X.prog X.w (upd H1 d (.xd [(("part" : Str), v)])) G' d (.xd [(("part" : Str), v)]) :=
      ⟨_, hns.at (fun o q => (gk d M.dne).trans q), fun f => relO_low rv f⟩
    have J : Inv X pins σ (upd H1 d (.xd [(("part" : Str), v)])) ⟨G', g, dr, tk', os⟩ := I1.laid (t' := tk') old M.dbig ob
    refine ⟨e, oe, fv, ⟨G', g, dr, tk', os⟩, _, .ref C, some d, rfl, J, fun b o q => ?_, ge, hoe, ⟨hc, hd⟩, hdat, h1, ?_, rfl, I1.bare, raises_own T.exC T.tyC, q1 d (I1.hok.fresh M.dbig)⟩
    · by_cases hb : b = e
      · have q' : G'.get? b = some o := q
        rw [hb, ge] at q'; cases q'
      · exact (gk b hb).symm.trans q
    · rw [upd_ne (Ne.symm M.dne)]
      exact I1.hok.fresh M.new
/-- raise Low(e) -/
def tRaiseLow (C : Addr) (W : WX) (ta : TA) : TS := fun _ σ H => tMkLow C ta σ H fun cls d H' => W cls d σ H'
theorem ps_raiseLow {a : Expr} {ta : TA} {W : WX} {p pos pos2 : Pos} {k : Nat} (hc : X.calm = true) (T : PySem.OPart.OTxt X.K X.mg x0 C fI) (hr : Room k X.A) (tk : Takes X W) (ha : PA X [a] ta) (hg : Gl X x0) (hdb : (x0 == ("__debug__" : Str)) = false)
    (he : starEach (a :: []) X.env = (false, eval a X.env) :: starEach [] X.env := by rfl) (hpl : (backTo pos (starEach [] X.env)).any (·.1) = false := by rfl) :
    PS X (.Raise (some (.Call (.Name x0 p) [a] [] pos)) none pos2) (tRaiseLow C W ta) := ps_raise hc tk (pmk_low T hr ha hg hdb he hpl)
/-- low.by, low the exception that the suite holds (at a; its class cls, its dict d) -/
def tByLow (C : Addr) (a : Addr) (cls : Value) (d : Option Addr) (te : TE) : TE := fun σ H Q => te σ H fun x H1 => x = .ref a ∧ cls = .ref C ∧ ∃ (dd : Addr) (v : V), d = some dd ∧ H1 dd = some (.xd [(("part" : Str), v)]) ∧ Q v H1
theorem pe_byLow {a : Addr} {oe : Obj} {cls : Value} {d : Option Addr} {pn : List (Addr × Obj)} {e : Expr} {te : TE} {pos : Pos} (T : PySem.OPart.OTxt X.K X.mg x0 C fI) (hz : Zc cls d oe) (hf : ∃ vs, oe.data = .fields vs) (he : PE (X.suite a ((a, oe) :: pn)) e te)
    (hb : attributeBase e "part" X.env (eval e X.env) = eval e X.env := by rfl) :
    PE (X.suite a ((a, oe) :: pn)) (.Attribute e "part" pos) (tByLow C a cls d te) := by
  refine ⟨fun pins s σ H Q I h => ?_⟩
  refine attr_of hb (thn (he.run pins s σ H _ I h) fun u s1 hh => ?_)
  obtain ⟨x, H1, I1, rx, ex, ec, dd, v, ed, ea, q⟩ := hh
  subst ex
  obtain rfl : u = Value.ref a := rx
  subst ec
  subst ed
  obtain ⟨ha, _⟩ := I1.pin (a, oe) (List.mem_append_left _ List.mem_cons_self)
  obtain ⟨vs, hd⟩ := hf
  have hx : ObjOk X.prog X.w H1 s1.heap dd (.xd [(("part" : Str), v)]) := I1.hok dd _ ea
  obtain ⟨mA, hns, hr⟩ := hx
  obtain ⟨od, ho, hl⟩ := lookIn_ns hns
  have l : List.lookup ("part" : Str) [(("part" : Str), v)] = some v := by simp [List.lookup]
  obtain ⟨u, hu, ru⟩ := RelO.some_of (v := v) (o := mA "part") (by rw [← l]; exact hr "part")
  have J : PySem.W.InstAt s1.heap a oe C (some od) := ⟨ha, hz.1, by unfold PySem.W.notCls; rw [hd] <;> rfl, by rw [hz.2]; exact ho⟩
  exact HandSPX.exc_get I1.kIn J T.ga T.gg T.exC (PySem.W.findObj_own T.hdC T.noN rfl (by rw [hl, hu])) (handed_of ru) ⟨v, H1, I1.tok _, ru, q⟩
end
end OPart
end L2

set_option Elab.async false
set_option linter.all false
set_option maxRecDepth 100000
set_option maxHeartbeats 4000000
namespace Dd
open PySem PySem.Spec PyProof.Rows L2

/-! # 13. Where a text stands -/
/-- what is raised with one argument, kept in one field -/
def tMkX (C : Addr) (f : Str) (ta : TA) : L2.St → Hp → XK → Prop := fun σ H Q => ta σ H fun vs H1 => ∃ v, vs = [v] ∧ ∀ d, H1 d = none → Q (.ref C) (some d) (upd H1 d (.xd [(f, v)]))
structure ExcT (K : PySem.W.Frag) (mg : Str → Option Value) (x f : Str) (C : Addr) : Prop where
  gC : mg x = some (.ref C)
  mkx : ∀ (X : Cx), X.K = K → X.mg = mg → ∀ (a : Expr) (ta : TA) (p pos : Pos) (k : Nat), Room k X.A → PA X [a] ta → Gl X x → (x == ("__debug__" : Str)) = false → noStar a = true → PMk X (.Call (.Name x p) [a] [] pos) (tMkX C f ta)
  rd : ∀ (X : Cx), X.K = K → X.mg = mg → ∀ (a : Addr) (oe : Obj) (cls : Value) (d : Option Addr) (pn : List (Addr × Obj)) (e : Expr) (te : TE) (pos : Pos), Zc cls d oe → (∃ vs, oe.data = .fields vs) → PE (X.suite a ((a, oe) :: pn)) e te →
    attributeBase e f X.env (eval e X.env) = eval e X.env →
    PE (X.suite a ((a, oe) :: pn)) (.Attribute e f pos) (fun σ H Q => te σ H fun y H1 => y = .ref a ∧ cls = .ref C ∧ ∃ (dd : Addr) (v : V), d = some dd ∧ H1 dd = some (.xd [(f, v)]) ∧ Q v H1)
  te : PySem.W.exmOne K (.ref C) (.ref C) = some true
theorem star1 {a : Expr} {env : Env} (h : noStar a = true) (es : List Expr) : starEach (a :: es) env = (false, eval a env) :: starEach es env := by
  cases a <;> first | rfl | cases h
theorem star_any {env : Env} {pos : Pos} : ∀ {es : List Expr}, es.all noStar = true → (backTo pos (starEach es env)).any (·.1) = false
  | [], _ => rfl
  | e :: es, h => by
    rw [List.all_cons, Bool.and_eq_true] at h
    rw [star1 h.1]
    show (false || (backTo pos (starEach es env)).any (·.1)) = false
    rw [star_any h.2]
    rfl
theorem ExcT.of_why {K : PySem.W.Frag} {mg : Str → Option Value} {x : Str} {C fI : Addr} (T : PySem.OWhy.OTxt K mg x C fI) : ExcT K mg x "why" C where
  gC := T.gC
  mkx := by
    intro X eK eM a ta p pos k hr ha hg hd hs
    subst eK eM
    exact L2.OWhy.pmk_low T hr ha hg hd (star1 hs []) rfl
  rd := by
    intro X eK eM a oe cls d pn e te pos hz hf he hb
    subst eK eM
    exact L2.OWhy.pe_byLow T hz hf he hb
  te := T.te
theorem ExcT.of_path {K : PySem.W.Frag} {mg : Str → Option Value} {x : Str} {C fI : Addr} (T : PySem.OPath.OTxt K mg x C fI) : ExcT K mg x "path" C where
  gC := T.gC
  mkx := by
    intro X eK eM a ta p pos k hr ha hg hd hs
    subst eK eM
    exact L2.OPath.pmk_low T hr ha hg hd (star1 hs []) rfl
  rd := by
    intro X eK eM a oe cls d pn e te pos hz hf he hb
    subst eK eM
    exact L2.OPath.pe_byLow T hz hf he hb
  te := T.te
theorem ExcT.of_part {K : PySem.W.Frag} {mg : Str → Option Value} {x : Str} {C fI : Addr} (T : PySem.OPart.OTxt K mg x C fI) : ExcT K mg x "part" C where
  gC := T.gC
  mkx := by
    intro X eK eM a ta p pos k hr ha hg hd hs
    subst eK eM
    exact L2.OPart.pmk_low T hr ha hg hd (star1 hs []) rfl
  rd := by
    intro X eK eM a oe cls d pn e te pos hz hf he hb
    subst eK eM
    exact L2.OPart.pe_byLow T hz hf he hb
  te := T.te
def spF (G : Pc) (F : Call) (i : Nat) : Sp := fun vs H Q E =>
  ∃ m h ds r h', G.H m h H ∧ G.Rs m H ds vs ∧ F i ds h = some (r, h') ∧ ∀ m' H', Ext m H m' H' → G.H m' h' H' → match r with
    | .ok d => ∀ v, G.R m' H' d v → Q v H'
    | .ex c p => ∀ cv d, ExcAt G m' H' c p cv d → E cv d H'
structure Fit (X : Cx) (C : CE) (G : Pc) (F : Call) : Prop where
  N : X.N = C.N
  nd : C.N.Nodup
  sc : X.env.scope = C.sc
  calm : X.calm = C.calm
  fn : ∀ x, (C.own || decide (C.blk.lookup x = some .cell)) = true → X.fn x = true
  K : X.K = G.K
  w : X.w = G.w
  tk : Takes X G.W
  pass : PassesOwn (model X.prog X.w) X.A X.env X.xe
  un : X.A.units + 100 < cLine
  gd : X.A.guards = some []
  blt : ∀ x ∈ bltNms, X.mg x = none
  con : ∀ x d, C.con.lookup x = some d → ∃ u v, X.mg x = some u ∧ RelV v u ∧ ∀ m H, G.R m H d v
  fns : C.calm = true → ∀ x i ar, fnIx x C.fns 0 = some (i, ar) → ∃ f n, X.mg x = some (.ref f) ∧ PySem.W.keepIn X.K (.ref f) = true ∧ Room n X.A ∧ FnG X.prog X.w X.K X.mg X.base n f (spF G F i)
  own : C.own = true → X.stack = X.env :: X.outer ∧ X.env.frame = some X.env.locals
  exc : ∀ x c, exIx x C.exc 0 = some c → ExcT X.K X.mg x (G.fld c) (G.cls c)
  excF : ∀ c x f, C.exc[c]? = some (x, f) → f = G.fld c
  room : C.calm = true → ∃ k, Room k X.A
  hkc : C.calm = true → C.hk = none
  hk0 : C.hk = none → G.hk = none
  hk1 : ∀ i c, C.hk = some (i, c) → ∃ a dd, G.hk = some (i, a, dd, G.fld c) ∧ ∀ (e : Expr) (j : Nat) (pos : Pos), PE X e (tVar j) → attributeBase e (G.fld c) X.env (eval e X.env) = eval e X.env →
    PE X (.Attribute e (G.fld c) pos) (fun σ H Q => tVar j σ H fun y H1 => y = .ref a ∧ ∃ v, H1 dd = some (.xd [(G.fld c, v)]) ∧ Q v H1)
theorem ixOf_get {x : Str} : ∀ {l : List Str} {i : Nat}, ixOf x l = some i → l[i]? = some x
  | [], i, h => by cases h
  | y :: r, i, h => by
    unfold ixOf at h
    split at h
    · rename_i e
      cases h
      rw [e]; rfl
    · obtain ⟨j, e1, e2⟩ := map_some h
      subst e2
      simpa using ixOf_get e1
theorem plain_ne {x : Str} (h : plainNm x = true) : (x == ("__debug__" : Str)) = false ∧ (x == ("__classdict__" : Str)) = false ∧ x ≠ "__name__" := by
  unfold plainNm at h
  simp only [Bool.and_eq_true, Bool.not_eq_true'] at h
  exact ⟨h.1.1, h.1.2, fun e => by rw [e] at h; simp at h⟩
section
variable {X : Cx} {C : CE} {G : Pc} {F : Call} (f : Fit X C G F)
include f
theorem Fit.vis {x : Str} {i : Nat} (h : visIx C x = some i) : X.N[i]? = some x ∧ Vis X.env.scope x ∧ plainNm x = true := by
  unfold visIx at h
  split at h
  · rename_i hp
    rw [f.N, f.sc]
    split at h
    · rename_i e; exact ⟨ixOf_get h, .inl e, hp⟩
    · rename_i e; exact ⟨ixOf_get h, .inr (.inl e), hp⟩
    · rename_i e; exact ⟨ixOf_get h, .inr (.inr e), hp⟩
    · cases h
  · cases h
theorem Fit.glb {x : Str} (h : glb C x = true) : Gl X x ∧ plainNm x = true := by
  unfold Dd.glb at h
  rw [Bool.and_eq_true] at h
  exact ⟨by show X.env.scope.names.lookup x = _; rw [f.sc]; exact of_decide_eq_true h.2, h.1⟩
theorem Fit.noHk {i : Nat} (h : isHk C i = false) : notHk G i := by
  intro q hq e
  unfold isHk at h
  cases hc : C.hk with
  | none => rw [f.hk0 hc] at hq; cases hq
  | some p =>
    obtain ⟨j, c⟩ := p
    obtain ⟨a, dd, e1, _⟩ := f.hk1 j c hc
    rw [e1] at hq
    cases hq
    rw [hc] at h
    exact absurd e (of_decide_eq_false h)
theorem Fit.loc {x : Str} {i : Nat} (h : locIx C x = some i) : X.N[i]? = some x ∧ Loc X.env.scope x ∧ (X.fn x = true ∨ X.env.scope.names.lookup x = some .local) := by
  unfold locIx at h
  rw [f.N, f.sc]
  split at h
  · rename_i e; exact ⟨ixOf_get h, .inl e, .inr e⟩
  · rename_i e
    split at h
    · rename_i hb; exact ⟨ixOf_get h, .inr e, .inl (f.fn x hb)⟩
    · cases h
  · cases h
end

/-! # 14. Expressions -/
def OkE (S : Sm) (F : Call) : Prop := ∀ (X : Cx) (C : CE) (G : Pc), Fit X C G F → ∀ e, PE X e (tG G G.R (S.E C e))
def OkT (S : Sm) (F : Call) : Prop := ∀ (X : Cx) (C : CE) (G : Pc), Fit X C G F → ∀ e, PT X e (tG G relB (S.T C e))
def OkW (S : Sm) (F : Call) : Prop := ∀ (X : Cx) (C : CE) (G : Pc), Fit X C G F → ∀ op es p, PW X (.BoolOp op es p) (tG G relB (S.T C (.BoolOp op es p)))
def relQ {α : Type} : Mp → Hp → α → α → Prop := fun _ _ a b => a = b
def OkO (S : Sm) (F : Call) : Prop := ∀ (X : Cx) (C : CE) (G : Pc), Fit X C G F → ∀ o, PO X o (tG G relQ (S.O C o))
section
variable {G : Pc} {σ : L2.St} {H : Hp}
theorem args_tG {α : Type} {rel : Mp → Hp → α → V → Prop} : True := trivial
/-- a list of values -/
theorem tG_bndL {α β : Type} {rel : Mp → Hp → α → β → Prop} {Q : β → Hp → Prop} {M : M (List D)} {k : List D → Dd.M α} (hyp : tG G rel (bnd M k) σ H Q) : tG G G.Rs M σ H (fun xs H1 => tA G xs rel k σ H1 Q) := by
  obtain ⟨m, e, h, r, h', a1, a2, a3, a4⟩ := hyp
  dsimp only [bnd] at a3
  cases hm : M e h with
  | none => rw [hm] at a3; cases a3
  | some q =>
    obtain ⟨r1, h1⟩ := q
    rw [hm] at a3
    refine ⟨m, e, h, r1, h1, a1, a2, hm, fun m1 H1 x1 y1 => ?_⟩
    cases r1 with
    | ex c p =>
      cases a3
      exact a4 m1 H1 x1 y1
    | ok a => exact fun b hb => ⟨m1, e, h1, a, r, h', y1, a2.ext x1, hb, a3, fun m2 H2 x2 y2 => a4 m2 H2 (x1.trans x2) y2⟩
theorem tA1_bndL {α β : Type} {rel : Mp → Hp → α → β → Prop} {Q : β → Hp → Prop} {x : V} {M : M (List D)} {k : D → List D → Dd.M α} (hyp : tA1 G x rel (fun a => bnd M (k a)) σ H Q) :
    tG G G.Rs M σ H (fun xs H1 => ∃ m e h a ds r h', G.H m h H1 ∧ EnvR G m H1 e σ ∧ G.R m H1 a x ∧ G.Rs m H1 ds xs ∧ k a ds e h = some (r, h') ∧ ∀ m' H', Ext m H1 m' H' → G.H m' h' H' → Post G rel σ r m' H' Q) := by
  obtain ⟨m, e, h, a, r, h', a1, a2, ra, a3, a4⟩ := hyp
  dsimp only [bnd] at a3
  cases hm : M e h with
  | none => rw [hm] at a3; cases a3
  | some q =>
    obtain ⟨r1, h1⟩ := q
    rw [hm] at a3
    refine ⟨m, e, h, r1, h1, a1, a2, hm, fun m1 H1 x1 y1 => ?_⟩
    cases r1 with
    | ex c p =>
      cases a3
      exact a4 m1 H1 x1 y1
    | ok b => exact fun y hb => ⟨m1, e, h1, a, b, r, h', y1, a2.ext x1, ra.ext x1, hb, a3, fun m2 H2 x2 y2 => a4 m2 H2 (x1.trans x2) y2⟩
theorem pa_all {X : Cx} {g : Expr → M D} (hE : ∀ e, PE X e (tG G G.R (g e))) : ∀ {es : List Expr}, es.all noStar = true → PA X es (tG G G.Rs (args (es.map g)))
  | [], _ => PA.of pa_nil fun σ H Q h => by
    obtain ⟨m, e, hh, a1, a2, a3⟩ := tG_ret h
    exact a3 [] rfl
  | e :: es, hs => by
    rw [List.all_cons, Bool.and_eq_true] at hs
    refine PA.of (pa_cons (hE e) (pa_all hE hs.2) (star1 hs.1 es)) fun σ H Q h => ?_
    refine (tG_bnd h).mono fun x H1 h1 => (tA1_bndL h1).mono fun xs H2 h2 => ?_
    obtain ⟨m, e', hh, a, ds, r, h', a1, a2, ra, rds, a3, a4⟩ := h2
    cases a3
    exact a4 m H2 (Ext.refl _ _) a1 (x :: xs) ⟨x, xs, rfl, ra, rds⟩
theorem tA_op {xs : List V} {f : List D → DH → Option (D × DH)} {Q : VK} (hyp : tA G xs G.R (fun ds => lift (f ds)) σ H Q) : rDN G f xs H Q := by
  obtain ⟨m, e, h, as, r, h', a1, a2, ra, a3, a4⟩ := hyp
  obtain ⟨d, rfl, e3⟩ := lift_some a3
  exact ⟨m, h, as, d, h', a1, ra, e3, fun m' H' v x y z => a4 m' H' x y v z⟩
theorem opN_tG {as : List (M D)} {f : List D → DH → Option (D × DH)} {Q : VK} (hyp : tG G G.R (opN f as) σ H Q) : tCB (rDN G f) (tG G G.Rs (args as)) σ H Q :=
  (tG_bndL hyp).mono fun xs H1 h1 => tA_op h1
end
section
variable {X : Cx} {C : CE} {G : Pc} {F : Call} {S : Sm}
theorem setMark {op : CmpOp} {b : Expr} (h : isSetE b = false) : behindInMarks op b = false := by
  cases b <;> first | rfl | cases h
theorem e_name (f : Fit X C G F) (x : Str) (pos : Pos) : PE X (.Name x pos) (tG G G.R (stepE F S C (.Name x pos))) := by
  dsimp only [stepE]
  cases hv : visIx C x with
  | some i =>
    dsimp only
    obtain ⟨h1, h2, h3⟩ := f.vis hv
    obtain ⟨p1, p2, _⟩ := plain_ne h3
    cases hk : isHk C i with
    | true => exact PE.never fun σ H Q h => tG_stuck h
    | false =>
      refine PE.of (pe_var h1 h2 p1 p2) fun σ H Q h => ?_
      obtain ⟨m, e, hh, r, h', a1, a2, a3, a4⟩ := h
      have a3 : var i e hh = some (r, h') := a3
      dsimp only [var] at a3
      split at a3
      · rename_i d ed
        cases a3
        obtain ⟨v, e1, e2⟩ := a2.get (f.noHk hk) ed
        exact ⟨v, e1, a4 m H (Ext.refl _ _) a1 v e2⟩
      · cases a3
  | none =>
    dsimp only
    cases hg : glb C x with
    | false => exact PE.never fun σ H Q h => tG_stuck h
    | true =>
      simp only [if_true]
      cases hc : C.con.lookup x with
      | none => exact PE.never fun σ H Q h => tG_stuck h
      | some d =>
        dsimp only
        obtain ⟨g1, g2⟩ := f.glb hg
        obtain ⟨u, v, c1, c2, c3⟩ := f.con x d hc
        refine PE.of (pe_glob g1 c1 c2 (plain_ne g2).1) fun σ H Q h => ?_
        obtain ⟨m, e, hh, a1, a2, a3⟩ := tG_ret h
        exact a3 v (c3 m H)
theorem tA1_not {x : V} {σ : L2.St} {H : Hp} {Q : VK} (h : tA1 G x G.R (fun x => match x with | .bl b => (ret (.bl (!b)) : M D) | _ => stuck) σ H Q) : ∃ c, x = .bl c ∧ Q (.bl (!c)) H := by
  obtain ⟨m, e, hh, a, r, h', a1, a2, ra, a3, a4⟩ := h
  cases a with
  | bl b =>
    cases a3
    exact ⟨b, ra, a4 m H (Ext.refl _ _) a1 _ rfl⟩
  | _ => cases a3
theorem tA1_if {x : V} {σ : L2.St} {H : Hp} {Q : VK} {n1 n2 : M D} (h : tA1 G x G.R (fun x => match x with | .bl b => if b then n1 else n2 | _ => stuck) σ H Q) : ∃ c, x = .bl c ∧ (if c = true then tG G G.R n1 σ H Q else tG G G.R n2 σ H Q) := by
  obtain ⟨m, e, hh, a, r, h', a1, a2, ra, a3, a4⟩ := h
  cases a with
  | bl b =>
    refine ⟨b, ra, ?_⟩
    cases b with
    | true => exact ⟨m, e, hh, r, h', a1, a2, a3, a4⟩
    | false => exact ⟨m, e, hh, r, h', a1, a2, a3, a4⟩
  | _ => cases a3
theorem ret_bl {σ : L2.St} {H : Hp} {Q : VK} {b : Bool} (h : tG G G.R (ret (.bl b)) σ H Q) : Q (.bl b) H := by
  obtain ⟨m, e, hh, a1, a2, a3⟩ := tG_ret h
  exact a3 _ rfl
theorem andV_tG {ma mb : M D} {σ : L2.St} {H : Hp} {Q : VK} (h : tG G G.R (andV ma mb) σ H Q) : tAndV (tG G G.R ma) (tG G G.R mb) σ H Q :=
  (tG_bnd h).mono fun x H1 h1 => by
    obtain ⟨c, e, q⟩ := tA1_if h1
    refine ⟨c, e, ?_⟩
    cases c with
    | true => exact q
    | false => exact ret_bl q
theorem orV_tG {ma mb : M D} {σ : L2.St} {H : Hp} {Q : VK} (h : tG G G.R (orV ma mb) σ H Q) : tOrV (tG G G.R ma) (tG G G.R mb) σ H Q :=
  (tG_bnd h).mono fun x H1 h1 => by
    obtain ⟨c, e, q⟩ := tA1_if h1
    refine ⟨c, e, ?_⟩
    cases c with
    | true => exact ret_bl q
    | false => exact q
theorem ite_tG {α β : Type} {rel : Mp → Hp → α → β → Prop} {t : M Bool} {ma mb : M α} {σ : L2.St} {H : Hp} {Q : β → Hp → Prop} (h : tG G rel (bnd t fun c => if c then ma else mb) σ H Q) :
    tG G relB t σ H fun c H1 => if c = true then tG G rel ma σ H1 Q else tG G rel mb σ H1 Q :=
  (tG_bndB h).mono fun c H1 h1 => by
    cases c with
    | true => exact h1
    | false => exact h1
theorem chn_tG {g1 g2 : D → D → DH → Option (D × DH)} {ma mb mc : M D} {σ : L2.St} {H : Hp} {Q : VK} (h : tG G G.R (chn g1 g2 ma mb mc) σ H Q) : tChain (rD2 G g1) (rD2 G g2) (tG G G.R ma) (tG G G.R mb) (tG G G.R mc) σ H Q := by
  refine (tG_bnd h).mono fun x H1 h1 => (tA1_bnd h1).mono fun y H2 h2 => ?_
  obtain ⟨m, e, hh, a, b, r, h', a1, a2, ra, rb, a3, a4⟩ := h2
  dsimp only [bnd, lift] at a3
  cases hg : g1 a b hh with
  | none => rw [hg] at a3; cases a3
  | some q =>
    obtain ⟨z, h1'⟩ := q
    rw [hg] at a3
    refine ⟨m, hh, a, b, z, h1', a1, ra, rb, hg, fun m' H' v xe rh rv => ?_⟩
    cases z with
    | bl k =>
      refine ⟨k, rv, ?_⟩
      cases k with
      | true =>
        have t : tA1 G y G.R (fun b => bnd mc fun u => lift (g2 b u)) σ H' Q := ⟨m', e, h1', b, r, h', rh, a2.ext xe, rb.ext xe, a3, fun m2 H2 x2 y2 => a4 m2 H2 (xe.trans x2) y2⟩
        exact (tA1_bnd t).mono fun u H3 h3 => tA2_op h3
      | false =>
        cases a3
        exact a4 m' H' xe rh _ rfl
    | _ => cases a3
end
end Dd

set_option Elab.async false
set_option linter.all false
set_option maxRecDepth 100000
set_option maxHeartbeats 4000000
namespace Dd
open PySem PySem.Spec PyProof.Rows L2

/-! # 15. Calls of built-ins, methods, displays -/
theorem lookup_mem {β : Type} : ∀ {l : List (Str × β)} {x : Str} {b : β}, l.lookup x = some b → (x, b) ∈ l
  | [], _, _, h => by cases h
  | (y, c) :: r, x, b, h => by
    rw [List.lookup_cons] at h
    cases hb : x == y with
    | true =>
      rw [hb] at h
      cases h
      rw [eq_of_beq hb]
      exact List.mem_cons_self
    | false =>
      rw [hb] at h
      exact List.mem_cons_of_mem _ (lookup_mem h)
theorem blt_nm {x : Str} {b : Blt} (h : (x, b) ∈ blts) : x ∈ bltNms :=
  List.mem_append_left _ (List.mem_append_left _ (List.mem_map.mpr ⟨(x, b), h, rfl⟩))
theorem typ_nm {x : Str} {b : String} (h : (x, b) ∈ typNames) : x ∈ bltNms :=
  List.mem_append_left _ (List.mem_append_right _ (List.mem_map.mpr ⟨(x, b), h, rfl⟩))
theorem kits : ∀ n ∈ ["NoneType", "bool", "int", "str", "tuple", "list", "dict"], ∀ T ∈ ["tuple", "str", "int", "bool", "list", "dict"], kitB n T = some (isTy T n) := by decide +kernel
theorem ty_rel {K : PySem.W.Frag} {w : World} {kc : Nat → Addr} {m : Mp} {h : DH} {H : Hp} (r : RH K w kc m h H) {d : D} {x : V} {n : String} (q : tyName d h = some n) (g : RelD K w m H d x) : TyX K H x (.type n) ∧ n ∈ ["NoneType", "bool", "int", "str", "tuple", "list", "dict"] := by
  cases d with
  | non => cases q; rw [show x = _ from g]; exact ⟨.base .non, by decide⟩
  | bl b => cases q; rw [show x = _ from g]; exact ⟨.base (.bl b), by decide⟩
  | int b => cases q; rw [show x = _ from g]; exact ⟨.base (.int b), by decide⟩
  | str b => cases q; rw [show x = _ from g]; exact ⟨.base (.str b), by decide⟩
  | tup xs => cases q; obtain ⟨a, vs, rfl, ha, _⟩ := g; exact ⟨.base (.tup ha), by decide⟩
  | vl xs => cases q; obtain ⟨a, vs, rfl, ha, _⟩ := g; exact ⟨.base (.lst ha), by decide⟩
  | vk ks xs => cases q; obtain ⟨a, vs, rfl, ha, _⟩ := g; exact ⟨.base (.dK ha), by decide⟩
  | vt ks xs => cases q; obtain ⟨a, vs, rfl, ha, _⟩ := g; exact ⟨.base (.dT ha), by decide⟩
  | vi c fs xs => cases q
  | kt xs => cases q; obtain ⟨a, vs, rfl, ⟨o, _, _, e, c, _⟩, _⟩ := g; exact ⟨.kTuple e c, by decide⟩
  | frz xs =>
    cases q
    obtain ⟨a, rfl, hf⟩ := g
    rcases hf with ⟨o, hf⟩ | ⟨o, _, _, e, c, _⟩
    · exact ⟨.base (.frz hf), by decide⟩
    · exact ⟨.kList e c, by decide⟩
  | wd kvs => cases q; obtain ⟨a, es, k, rfl, kd, _⟩ := g; exact ⟨.kDict kd.at_ rfl, by decide⟩
  | ref i =>
    obtain ⟨a, ma, rfl⟩ := g
    unfold tyName at q
    dsimp only at q
    split at q
    · rename_i xs e
      cases q
      obtain ⟨ob, e3, vs, e4, _⟩ := r.get ma e
      subst e4
      exact ⟨.base (.lst e3), by decide⟩
    · rename_i xs e
      cases q
      obtain ⟨ob, e3, vs, e4, _⟩ := r.get ma e
      subst e4
      exact ⟨.base (.lst e3), by decide⟩
    · rename_i xs e
      cases q
      obtain ⟨ob, e3, vs, e4, _⟩ := r.get ma e
      subst e4
      exact ⟨.base (.dK e3), by decide⟩
    · rename_i xs e
      cases q
      obtain ⟨ob, e3, vs, e4, _⟩ := r.get ma e
      subst e4
      exact ⟨.base (.dK e3), by decide⟩
    · rename_i xs e
      cases q
      obtain ⟨ob, e3, vs, e4, _⟩ := r.get ma e
      subst e4
      exact ⟨.base (.dT e3), by decide⟩
    · rename_i xs e
      cases q
      obtain ⟨ob, e3, vs, e4, _⟩ := r.get ma e
      subst e4
      exact ⟨.base (.dT e3), by decide⟩
    · cases q
theorem base_eq {o : Expr} {name : Str} {env : Env} (h : baseOk o = true) : attributeBase o name env (eval o env) = eval o env := by
  unfold attributeBase
  split
  · cases h
  · rfl
theorem nameBase (x : Str) (p : Pos) (name : Str) (env : Env) : attributeBase (.Name x p) name env (eval (.Name x p) env) = eval (.Name x p) env := rfl
section
variable {X : Cx} {C : CE} {G : Pc} {F : Call} {S : Sm}
theorem e_isin (f : Fit X C G F) {a : Expr} {T : Str} {t : String} {ma : M D} {p pT pos : Pos} (ha : PE X a (tG G G.R ma)) (hs : noStar a = true) (hg : glb C "isinstance" = true) (hT : glb C T = true) (ht : typNames.lookup T = some t) :
    PE X (.Call (.Name "isinstance" p) [a, .Name T pT] [] pos) (tG G G.R (op1 (isinD t) ma)) := by
  obtain ⟨K, W, cls, fld, Wx, hk, kc⟩ := G
  have hK : X.K = K := f.K
  have hw : X.w = W := f.w
  subst hK hw
  have hm := lookup_mem ht
  have hTn := f.blt T (typ_nm hm)
  obtain ⟨g1, g2⟩ := f.glb hg
  obtain ⟨t1, t2⟩ := f.glb hT
  have hb : bootBuiltins T = some (.type t) ∧ t ∈ ["tuple", "str", "int", "bool", "list", "dict"] := by
    simp only [typNames, List.mem_cons, Prod.mk.injEq, List.not_mem_nil, or_false] at hm
    rcases hm with ⟨rfl, rfl⟩ | ⟨rfl, rfl⟩ | ⟨rfl, rfl⟩ | ⟨rfl, rfl⟩ | ⟨rfl, rfl⟩ | ⟨rfl, rfl⟩ <;> exact ⟨by decide +kernel, by decide⟩
  have hi : X.mg "isinstance" = none := f.blt _ (List.mem_append_right _ List.mem_cons_self)
  refine PE.of (pe_callB call_isi g1 hi (by decide +kernel) (pa_cons ha (pa_cons (pe_bltn (v := .ty t) t1 hTn hb.1 rfl (plain_ne t2).2.2 (plain_ne t2).1) pa_nil (star1 rfl [])) (star1 hs _)) (by decide) (by decide) (star1 hs _) rfl) fun σ H Q h => ?_
  refine (tG_bnd h).mono fun x H1 h1 => ?_
  obtain ⟨m, h, d, z, h', a1, ra, e, q⟩ := tA1_op h1
  obtain ⟨n, e1, e2⟩ := map_some e
  cases e2
  obtain ⟨y1, y2⟩ := ty_rel a1 e1 ra
  exact ⟨x, .ty t, _, _, _, rfl, .ty t, y1, kit_ty (kits n y2 t hb.2), q m H1 _ (Ext.refl _ _) a1 rfl⟩
theorem e_blt (f : Fit X C G F) {x : Str} {b : Blt} {e : Expr} {es : List Expr} {as : List (M D)} {p pos : Pos} (hb : blts.lookup x = some b) (hg : glb C x = true) (hc : (needsCalm b && !C.calm) = false)
    (hs : (e :: es).all noStar = true) (ha : PA X (e :: es) (tG G G.Rs (args as))) : PE X (.Call (.Name x p) (e :: es) [] pos) (tG G G.R (opN (bltD b) as)) := by
  have hm := lookup_mem hb
  have hx := f.blt x (blt_nm hm)
  obtain ⟨g1, g2⟩ := f.glb hg
  have hs' := hs
  rw [List.all_cons, Bool.and_eq_true] at hs'
  have he : starEach (e :: es) X.env = (false, eval e X.env) :: starEach es X.env := star1 hs'.1 es
  have hp : (backTo pos (starEach es X.env)).any (·.1) = false := star_any hs'.2
  have cal : needsCalm b = true → X.calm = true := fun z => by
    rw [z, Bool.true_and] at hc
    rw [f.calm]
    cases hcc : C.calm with
    | true => rfl
    | false => rw [hcc] at hc; cases hc
  simp only [blts, List.mem_cons, Prod.mk.injEq, List.not_mem_nil, or_false] at hm
  rcases hm with ⟨rfl, rfl⟩ | ⟨rfl, rfl⟩ | ⟨rfl, rfl⟩ | ⟨rfl, rfl⟩ | ⟨rfl, rfl⟩ | ⟨rfl, rfl⟩ | ⟨rfl, rfl⟩ | ⟨rfl, rfl⟩ | ⟨rfl, rfl⟩ | ⟨rfl, rfl⟩ | ⟨rfl, rfl⟩ | ⟨rfl, rfl⟩
  · exact PE.of (pe_callB (c_len f.K f.w) g1 hx (by decide +kernel) ha (by decide) (by decide) he hp) fun σ H Q h => opN_tG h
  · exact PE.of (pe_callB (c_abs f.K f.w) g1 hx (by decide +kernel) ha (by decide) (by decide) he hp) fun σ H Q h => opN_tG h
  · exact PE.of (pe_callTy (c_int f.K f.w) g1 hx (by decide +kernel) ha (by decide) (by decide) he hp) fun σ H Q h => opN_tG h
  · exact PE.of (pe_callTy (c_str f.K f.w) g1 hx (by decide +kernel) ha (by decide) (by decide) he hp) fun σ H Q h => opN_tG h
  · exact PE.of (pe_callTy (c_tuple f.K f.w) g1 hx (by decide +kernel) ha (by decide) (by decide) he hp) fun σ H Q h => opN_tG h
  · exact PE.of (pe_callTy (c_list f.K f.w (cal rfl)) g1 hx (by decide +kernel) ha (by decide) (by decide) he hp) fun σ H Q h => opN_tG h
  · exact PE.of (pe_callB (c_all f.K f.w (cal rfl)) g1 hx (by decide +kernel) ha (by decide) (by decide) he hp) fun σ H Q h => opN_tG h
  · exact PE.of (pe_callB (c_any f.K f.w (cal rfl)) g1 hx (by decide +kernel) ha (by decide) (by decide) he hp) fun σ H Q h => opN_tG h
  · exact PE.of (pe_callB (c_ord f.K f.w) g1 hx (by decide +kernel) ha (by decide) (by decide) he hp) fun σ H Q h => opN_tG h
  · exact PE.of (pe_callB (c_repr f.K f.w f.un f.gd) g1 hx (by decide +kernel) ha (by decide) (by decide) he hp) fun σ H Q h => opN_tG h
  · exact PE.of (pe_callB (c_min f.K f.w (cal rfl)) g1 hx (by decide +kernel) ha (by decide) (by decide) he hp) fun σ H Q h => opN_tG h
  · exact PE.of (pe_callB (c_max f.K f.w (cal rfl)) g1 hx (by decide +kernel) ha (by decide) (by decide) he hp) fun σ H Q h => opN_tG h
/-- a def of the program -/
theorem e_fn (f : Fit X C G F) {x : Str} {i ar k : Nat} {e : Expr} {es : List Expr} {as : List (M D)} {p pos : Pos} (hx : fnIx x C.fns 0 = some (i, ar, k)) (hg : glb C x = true) (hc : C.calm = true) (hs : (e :: es).all noStar = true)
    (ha : PA X (e :: es) (tG G G.Rs (args as))) : PE X (.Call (.Name x p) (e :: es) [] pos) (tG G G.R (callM F i as)) := by
  obtain ⟨fa, n, h1, h2, h3, h4⟩ := f.fns hc x i _ hx
  obtain ⟨g1, g2⟩ := f.glb hg
  have hs' := hs
  rw [List.all_cons, Bool.and_eq_true] at hs'
  refine PE.of (pe_callG h4 h3 f.gd g1 h1 h2 f.tk ha (plain_ne g2).1 (star1 hs'.1 es) (star_any hs'.2)) fun σ H Q h => ?_
  refine (tG_bndL h).mono fun xs H1 h1 => ?_
  obtain ⟨m, e', hh, ds, r, h', a1, a2, ra, a3, a4⟩ := h1
  refine ⟨m, hh, ds, r, h', a1, ra, a3, fun m' H' x' y' => ?_⟩
  have z := a4 m' H' x' y'
  cases r with
  | ok d => exact z
  | ex c p => exact z
/-- a def that sees values alone -/
theorem e_fnP (f : Fit X C G F) {x : Str} {i ar k : Nat} {e : Expr} {es : List Expr} {as : List (M D)} {p pos : Pos} (hx : fnIx x C.fns 0 = some (i, ar, k)) (hg : glb C x = true) (hc : C.calm = true) (hs : (e :: es).all noStar = true)
    (ha : PA X (e :: es) (tG G G.Rs (args as))) : PE X (.Call (.Name x p) (e :: es) [] pos) (tG G G.R (callP F i as)) := by
  obtain ⟨fa, n, h1, h2, h3, h4⟩ := f.fns hc x i _ hx
  obtain ⟨g1, g2⟩ := f.glb hg
  have hs' := hs
  rw [List.all_cons, Bool.and_eq_true] at hs'
  refine PE.of (pe_callG h4 h3 f.gd g1 h1 h2 f.tk ha (plain_ne g2).1 (star1 hs'.1 es) (star_any hs'.2)) fun σ H Q h => ?_
  refine (tG_bndL h).mono fun xs H1 h1 => ?_
  obtain ⟨m, e', hh, ds, r, h', a1, a2, ra, a3, a4⟩ := h1
  have a3 : pcallH F i ds hh = some (r, h') := a3
  unfold pcallH at a3
  split at a3
  · cases a3
  rename_i ys hys
  -- what is given, seen with other writers
  have giv : ∀ ww : Addr → Prop, (∀ b, ww b → m.ww b) → (∀ j ∈ ds.flatMap (reach hh deepN), ∀ a, m.l[j]? = some a → ¬ ww a) → G.Rs (Mp.none ww m) H1 ys xs := fun ww hw hv =>
    (mapM_rel (m := m) (m2 := Mp.none ww m) _ _ _ hys (fun d hd d' v e g => deep_rel (m2 := Mp.none ww m) a1 (fun i hi => absurd hi (Nat.not_lt_zero i)) hw rfl deepN d d' v e (fun j hj _ a ea => hv j (List.mem_flatMap.mpr ⟨d, hd, hj⟩) a ea) g) ra).1
  have frame : ∀ (ww : Addr → Prop) {m' : Mp} {H' : Hp}, Ext (Mp.none ww m) H1 m' H' → G.H m hh H' ∧ Ext m H1 m H' := fun ww m' H' x => ⟨a1.back x, ext_back x⟩
  have scq : ∀ {ww : Addr → Prop} {m' : Mp} {H' : Hp} {d : D} {v : V}, Ext (Mp.none ww m) H1 m' H' → scalT d = true → G.R m' H' d v → G.R m H' d v := fun {ww m' H' d v} _ hsc g => scal_rel (fun _ _ z => z) d v hsc g
  unfold pcall at a3
  split at a3
  · cases a3
  · -- an error
    rename_i c q eq
    cases a3
    split at eq
    · rename_i d h2 er
      obtain ⟨_, _, z⟩ := map_some eq
      cases z
    · rename_i c' p' h2 er
      split at eq
      · rename_i hsc
        cases eq
        refine ⟨Mp.none (fun _ => False) m, [], ys, _, h2, a1.none (fun _ z => z.elim), giv _ (fun _ z => z.elim) (fun _ _ _ _ z => z), er, fun m' H' x' y' => ?_⟩
        obtain ⟨r1, x1⟩ := frame _ x'
        intro cv d hx2
        obtain ⟨e1, dd, u, e2, e3, e4⟩ := hx2
        exact a4 m H' x1 r1 cv d ⟨e1, dd, u, e2, e3, scq x' hsc e4⟩
      · cases eq
    · cases eq
  · rename_i d eq
    split at eq
    · rename_i d0 h2 er
      obtain ⟨d', e1, e2⟩ := map_some eq
      cases e2
      split at a3
      · rename_i hsc
        cases a3
        refine ⟨Mp.none (fun _ => False) m, [], ys, _, h2, a1.none (fun _ z => z.elim), giv _ (fun _ z => z.elim) (fun _ _ _ _ z => z), er, fun m' H' x' y' v gv => ?_⟩
        obtain ⟨r1, x1⟩ := frame _ x'
        have g2 : G.R ⟨m'.l, fun _ => False, m'.kc⟩ H' d v := deep_rel (m2 := ⟨m'.l, fun _ => False, m'.kc⟩) y' (fun i hi => absurd hi (Nat.not_lt_zero i)) (fun _ z => z.elim) rfl deepN d0 d v e1 (fun _ _ _ _ _ z => z) gv
        exact a4 m H' x1 r1 v (scal_rel (fun _ _ z => z) d v hsc g2)
      · obtain ⟨h3, e3, e4⟩ := map_some a3
        cases e4
        obtain ⟨is, his⟩ : ∃ is, is = ds.flatMap (reach hh deepN) := ⟨_, rfl⟩
        rw [← his] at e3
        have hw : ∀ b, (m.still is).ww b → m.ww b := fun b z => z.1
        refine ⟨Mp.none (m.still is).ww m, [], ys, _, h2, a1.none (fun b z => a1.ex b z.1), giv _ hw (fun j hj a ea z => z.2 j (by rw [his]; exact hj) ea), er, fun m' H' x' y' v gv => ?_⟩
        obtain ⟨r1, x1⟩ := frame _ x'
        have r2 : G.H (m.still is) h' H' := stillAll_rh r1 e3
        refine a4 (m.still is) H' (x1.trans (ext_still is)) r2 v ?_
        refine deep_rel (m2 := m.still is) y' (fun i hi => absurd hi (Nat.not_lt_zero i)) (fun b z => ?_) (x'.kc).symm deepN d0 d v e1 (fun j _ _ a ea z => ?_) gv
        · obtain ⟨o, eo⟩ := a1.ex b z.1
          exact x'.keep b o z eo (fun z => nomatch z)
        · obtain ⟨o, eo⟩ := a1.ex a z.1
          rcases x'.new a (List.mem_of_getElem? ea) with q | q
          · exact nomatch q
          · rw [eo] at q; cases q
    · split at eq <;> cases eq
    · cases eq
theorem mths_nm {x : Str} {b : Mth} (h : mths.lookup x = some b) : (x = "append" ∧ b = .append) ∨ (x = "extend" ∧ b = .extend) ∨ (x = "pop" ∧ b = .pop) ∨ (x = "join" ∧ b = .join) ∨ (x = "count" ∧ b = .count) ∨ (x = "index" ∧ b = .index) := by
  have hm := lookup_mem h
  simp only [mths, List.mem_cons, Prod.mk.injEq, List.not_mem_nil, or_false] at hm
  exact hm
def mthTy : Mth → String
  | .join => "str"
  | _ => "list"
/-- the type of a receiver of ours -/
theorem mth_ty (hK : X.K = G.K) (hw : X.w = G.w) {m : Mp} {h : DH} {H : Hp} (r : G.H m h H) {k : Mth} {d : D} {x : V} (q : mthOk k d h = true) (g : G.R m H d x) : tyV X.K (mthTy k) x H := by
  obtain ⟨K, W, cls, fld, Wx, hk, kc⟩ := G
  cases hK
  cases hw
  have seq : ∀ {d : D}, (seqD d h).isSome = true → RelD X.K X.w m H d x → tyV X.K "list" x H := fun {d} e g => by
    obtain ⟨xs, ex⟩ := Option.isSome_iff_exists.mp e
    obtain ⟨p, vs, rfl, hp, gp⟩ := seq_lst r g ex
    exact .inl ⟨rfl, vs, SqL.of hp⟩
  have lst : ∀ {i : Nat}, (lstW h i).isSome = true → RelD X.K X.w m H (.ref i) x → tyV X.K "list" x H := fun {i} e g => by
    obtain ⟨xs, ex⟩ := Option.isSome_iff_exists.mp e
    obtain ⟨p, vs, rfl, mp, hp, gp⟩ := ref_lstW r g ex
    exact .inl ⟨rfl, vs, SqL.of hp⟩
  cases k with
  | join => cases d <;> first | (cases q; done) | (rw [show x = _ from g]; exact rfl)
  | append => cases d <;> first | (cases q; done) | exact lst q g
  | extend => cases d <;> first | (cases q; done) | exact lst q g
  | pop => cases d <;> first | (cases q; done) | exact lst q g
  | count => exact seq q g
  | index => exact seq q g
theorem e_mth (f : Fit X C G F) {x : Str} {k : Mth} {o : Expr} {es : List Expr} {mo : M D} {as : List (M D)} {ap pos : Pos} (hx : mths.lookup x = some k) (hl : (ap.endLine == pos.line) = true) (hb : baseOk o = true)
    (hs : es.all noStar = true) (hn : es.length < 30) (ho : PE X o (tG G G.R mo)) (ha : PA X es (tG G G.Rs (args as))) (hz : es = [] → k = .pop ∧ as = []) : PE X (.Call (.Attribute o x ap) es [] pos) (tG G G.R (mthM k mo as)) := by
  have main : ∀ {σ H Q}, tG G G.R (mthM k mo as) σ H Q → tBM X.K (mthTy k) (fun x xs H Q => ∃ m h a as d h', G.H m h H ∧ G.R m H a x ∧ G.Rs m H as xs ∧ mthD k a as h = some (d, h') ∧ mthOk k a h = true ∧ ∀ m' H' v, Ext m H m' H' → G.H m' h' H' → G.R m' H' d v → Q v H') (tG G G.R mo) (tG G G.Rs (args as)) σ H Q := by
    intro σ H Q h
    refine (tG_bnd h).mono fun x H1 h1 => ?_
    obtain ⟨m, e, hh, a, r, h', a1, a2, ra, a3, a4⟩ := h1
    dsimp only [bnd, lift] at a3
    cases hk : mthOk k a hh with
    | false => rw [hk] at a3; cases a3
    | true =>
      rw [hk] at a3
      refine ⟨mth_ty f.K f.w a1 hk ra, ?_⟩
      have t : tA1 G x G.R (fun a => bnd (args as) fun xs => lift (mthG k a xs)) σ H1 Q := ⟨m, e, hh, a, r, h', a1, a2, ra, a3, a4⟩
      refine (tA1_bndL t).mono fun xs H2 h2 => ?_
      obtain ⟨m2, e2, h2', b, ds, r2, h3, b1, b2, rb, rds, b3, b4⟩ := h2
      obtain ⟨d, rfl, e3⟩ := lift_some b3
      unfold mthG at e3
      split at e3
      · rename_i hok
        exact ⟨m2, h2', b, ds, d, h3, b1, rb, rds, e3, hok, fun m' H' v x y z => b4 m' H' x y v z⟩
      · cases e3
  have main2 : ∀ {σ H Q}, tG G G.R (mthM k mo as) σ H Q → tBM X.K (mthTy k) (rDM G (mthD k)) (tG G G.R mo) (tG G G.Rs (args as)) σ H Q := fun h =>
    tG.mono (main h) fun x H1 h1 => ⟨h1.1, tG.mono h1.2 fun xs H2 h2 => by
      obtain ⟨m, h, a, as, d, h', b1, b2, b3, b4, b5, b6⟩ := h2
      exact ⟨m, h, a, as, d, h', b1, b2, b3, b4, b6⟩⟩
  cases es with
  | nil =>
    obtain ⟨rfl, rfl⟩ := hz rfl
    have ex : x = "pop" := by
      rcases mths_nm hx with ⟨_, z⟩ | ⟨_, z⟩ | ⟨z, _⟩ | ⟨_, z⟩ | ⟨_, z⟩ | ⟨_, z⟩ <;> first | exact z | cases z
    subst ex
    refine PE.of (pe_bm0 PySem.F.plainAttrs_list PySem.F.slot_list_pop PySem.F.type_list_pop (m_pop f.K f.w) ho (base_eq hb) hl) fun σ H Q h => (main2 h).mono fun x H1 h1 => ⟨h1.1, ?_⟩
    obtain ⟨m, e, hh, r, h', a1, a2, a3, a4⟩ := h1.2
    cases a3
    exact a4 m H1 (Ext.refl _ _) a1 [] rfl
  | cons e es =>
    have hs' := hs
    rw [List.all_cons, Bool.and_eq_true] at hs'
    have he : starEach (e :: es) X.env = (false, eval e X.env) :: starEach es X.env := star1 hs'.1 es
    have hp : (backTo pos (starEach es X.env)).any (·.1) = false := star_any hs'.2
    have hf : ((backTo pos (starEach (e :: es) X.env)).all (fun x => !x.1) && (backToKw pos (keywordEach [] X.env)).all (fun x => x.1.isSome) && decide ((e :: es).length + ([] : List Keyword).length + (if ([] : List Keyword).isEmpty then 0 else 1) < 30)) = true := by
      have z := star_any (env := X.env) (pos := pos) hs
      have z1 : (backTo pos (starEach (e :: es) X.env)).all (fun x => !x.1) = true := by
        rw [List.all_eq_true]
        intro y hy
        cases hyy : y.1 with
        | false => rfl
        | true =>
          have : (backTo pos (starEach (e :: es) X.env)).any (·.1) = true := List.any_eq_true.mpr ⟨y, hy, hyy⟩
          rw [z] at this; cases this
      rw [z1]
      exact decide_eq_true hn
    rcases mths_nm hx with ⟨rfl, rfl⟩ | ⟨rfl, rfl⟩ | ⟨rfl, rfl⟩ | ⟨rfl, rfl⟩ | ⟨rfl, rfl⟩ | ⟨rfl, rfl⟩
    · exact PE.of (pe_bm PySem.F.plainAttrs_list PySem.F.slot_list_append PySem.F.type_list_append (m_append f.K f.w) ho ha (base_eq hb) hf hl he hp) fun σ H Q h => main2 h
    · exact PE.of (pe_bm PySem.F.plainAttrs_list PySem.F.slot_list_extend PySem.F.type_list_extend (m_extend f.K f.w) ho ha (base_eq hb) hf hl he hp) fun σ H Q h => main2 h
    · exact PE.of (pe_bm PySem.F.plainAttrs_list PySem.F.slot_list_pop PySem.F.type_list_pop (m_pop f.K f.w) ho ha (base_eq hb) hf hl he hp) fun σ H Q h => main2 h
    · exact PE.of (pe_bm PySem.F.plainAttrs_str PySem.F.slot_str_join PySem.F.type_str_join (m_join f.K f.w) ho ha (base_eq hb) hf hl he hp) fun σ H Q h => main2 h
    · exact PE.of (pe_bm PySem.F.plainAttrs_list PySem.F.slot_list_count PySem.F.type_list_count (m_count f.K f.w) ho ha (base_eq hb) hf hl he hp) fun σ H Q h => main2 h
    · refine PE.of (pe_bm PySem.F.plainAttrs_list PySem.F.slot_list_index PySem.F.type_list_index (m_index f.K f.w) ho ha (base_eq hb) hf hl he hp) fun σ H Q h => tG.mono (main h) fun x H1 h1 => ⟨h1.1, tG.mono h1.2 fun xs H2 h2 => ?_⟩
      obtain ⟨m, h, a, as, d, h', b1, b2, b3, b4, b5, b6⟩ := h2
      obtain ⟨ds, eds⟩ := Option.isSome_iff_exists.mp (show (seqD a h).isSome = true from b5)
      exact ⟨m, h, a, as, d, h', ds, b1, b2, b3, b4, eds, b6⟩
end
end Dd

set_option Elab.async false
set_option linter.all false
set_option maxRecDepth 100000
set_option maxHeartbeats 4000000
namespace Dd
open PySem PySem.Spec PyProof.Rows L2

/-! # 16. What is walked -/
def Drv (G : Pc) (s : Src) (m0 : Mp) (H0 : Hp) (J : It) : Prop := ∀ m h H, Ext m0 H0 m H → G.H m h H →
  (∀ k d, s.at_ k h = some d → J.go k H ∧ ∀ x H', J.yld k H x H' → Ext m H m H' ∧ G.H m h H' ∧ G.R m H' d x) ∧ (s.done h = true → J.stop s.len H)
def iG (G : Pc) (M : M Src) : TI := fun σ H R => ∃ m e h r h', G.H m h H ∧ EnvR G m H e σ ∧ M e h = some (r, h') ∧ ∀ m' H', Ext m H m' H' → G.H m' h' H' → match r with
  | .ok s => ∀ J, Drv G s m' H' J → R J H'
  | .ex c p => ∀ cv d, ExcAt G m' H' c p cv d → G.W cv d σ H'
def OkI (S : Sm) (F : Call) : Prop := ∀ (X : Cx) (C : CE) (G : Pc), Fit X C G F → ∀ tg e, PI X tg e (iG G (S.I C tg e))
theorem PI.of {X : Cx} {tg e : Expr} {t t' : TI} (h : PI X tg e t) (w : ∀ σ H Q, t' σ H Q → t σ H Q) : PI X tg e t' := ⟨fun pins s σ H Q I q => h.run pins s σ H Q I (w σ H Q q)⟩
section
variable {K : PySem.W.Frag} {w : World} {cls : Nat → Addr} {fld : Nat → Str} {Wx : WX} {hk : Option (Nat × Addr × Addr × Str)} {kc : Nat → Addr} {m0 : Mp} {H0 : Hp}
theorem drv_tup {a : Addr} {xs : List D} {vs : List V} (ha : SqT K H0 a vs) (st : ∀ m H, Ext m0 H0 m H → SqT K H a vs) (g : RelDs K w m0 H0 xs vs) : Drv ⟨K, w, cls, fld, Wx, hk, kc⟩ (.items xs) m0 H0 (Itt K a) := by
  intro m h H x r
  refine ⟨fun k d e => ?_, fun _ => ⟨vs, st m H x, by rw [g.length]; exact Nat.le_refl _⟩⟩
  have e : xs[k]? = some d := e
  obtain ⟨v, e1, e2⟩ := g.get e
  refine ⟨⟨vs, v, st m H x, e1⟩, fun y H' hy => ?_⟩
  obtain ⟨rfl, hy⟩ := hy
  have := hy vs (st m _ x)
  rw [e1] at this; cases this
  exact ⟨Ext.refl _ _, r, e2.ext x⟩
theorem drv_frz {a : Addr} {ns : List Int} (ha : FrzL K H0 a (ns.map V.int)) : Drv ⟨K, w, cls, fld, Wx, hk, kc⟩ (.items (ns.map D.int)) m0 H0 (Itl K a) := by
  intro m h H x r
  have st : SqL K H a (ns.map V.int) := (ha.ext x).sq
  refine ⟨fun k d e => ?_, fun _ => ⟨_, st, by rw [List.length_map]; exact Nat.le_of_eq (List.length_map _).symm⟩⟩
  have e : (ns.map D.int)[k]? = some d := e
  obtain ⟨v, e1, e2⟩ := RelDs.get (K := K) (w := w) (m := m) (H := H) (ints_rel ns) e
  refine ⟨⟨_, v, st, e1⟩, fun y H' hy => ?_⟩
  obtain ⟨rfl, hy⟩ := hy
  have := hy _ st
  rw [e1] at this; cases this
  exact ⟨Ext.refl _ _, r, e2⟩
theorem drv_vl {a : Addr} {xs : List D} {vs : List V} (ha : H0 a = some (.lst vs)) (nw : ¬ m0.ww a) (g : RelDs K w m0 H0 xs vs) : Drv ⟨K, w, cls, fld, Wx, hk, kc⟩ (.items xs) m0 H0 (Itl K a) := by
  intro m h H x r
  have st : SqL K H a vs := SqL.of (x.fix ha nw).1
  refine ⟨fun k d e => ?_, fun _ => ⟨vs, st, by rw [g.length]; exact Nat.le_refl _⟩⟩
  have e : xs[k]? = some d := e
  obtain ⟨v, e1, e2⟩ := g.get e
  refine ⟨⟨vs, v, st, e1⟩, fun y H' hy => ?_⟩
  obtain ⟨rfl, hy⟩ := hy
  have := hy vs st
  rw [e1] at this; cases this
  exact ⟨Ext.refl _ _, r, e2.ext x⟩
theorem drv_live {i : Nat} {a : Addr} {n : Nat} (ha : m0.l[i]? = some a) : Drv ⟨K, w, cls, fld, Wx, hk, kc⟩ (.live i n) m0 H0 (Itl K a) := by
  intro m h H x r
  have ma := x.ix ha
  refine ⟨fun k d e => ?_, fun e => ?_⟩
  · dsimp only [Src.at_] at e
    split at e
    · rename_i xs ex
      split at e
      · obtain ⟨p, vs, e1, mp, hp, gp⟩ := ref_lst (K := K) (w := w) r (x := .ref a) ⟨a, ma, rfl⟩ ex
        cases e1
        obtain ⟨v, e2, e3⟩ := gp.get e
        refine ⟨⟨vs, v, SqL.of hp, e2⟩, fun y H' hy => ?_⟩
        obtain ⟨rfl, hy⟩ := hy
        have := hy vs (SqL.of hp)
        rw [e2] at this; cases this
        exact ⟨Ext.refl _ _, r, e3⟩
      · cases e
    · cases e
  · dsimp only [Src.done] at e
    split at e
    · rename_i xs ex
      obtain ⟨p, vs, e1, mp, hp, gp⟩ := ref_lst (K := K) (w := w) r (x := .ref a) ⟨a, ma, rfl⟩ ex
      cases e1
      exact ⟨vs, SqL.of hp, by rw [gp.length, of_decide_eq_true e]; exact Nat.le_refl _⟩
    · cases e
theorem drv_str (x : Str) : Drv ⟨K, w, cls, fld, Wx, hk, kc⟩ (.items (signs x)) m0 H0 (Its x) := by
  intro m h H _ r
  refine ⟨fun k d e => ?_, fun _ => ?_⟩
  · have e : (signs x)[k]? = some d := e
    unfold signs at e
    rw [List.getElem?_map] at e
    obtain ⟨c, e1, e2⟩ := map_some e
    subst e2
    have e1 : x.cps[k]? = some c := by rw [← Array.getElem?_toList]; exact e1
    refine ⟨(Array.getElem?_eq_some_iff.mp e1).1, fun y H' hy => ?_⟩
    obtain ⟨rfl, c', e3, rfl⟩ := hy
    rw [e1] at e3; cases e3
    exact ⟨Ext.refl _ _, r, rfl⟩
  · show x.cps.size ≤ (signs x).length
    unfold signs
    rw [List.length_map, Array.length_toList]
    exact Nat.le_refl _
theorem drv_rng (lo : Int) (n : Nat) : Drv ⟨K, w, cls, fld, Wx, hk, kc⟩ (rngs lo n) m0 H0 (Itr lo n) := by
  intro m h H _ r
  refine ⟨fun k d e => ?_, fun _ => ?_⟩
  · have e : ((List.range n).map fun k => D.int (lo + (k : Nat)))[k]? = some d := e
    rw [List.getElem?_map] at e
    obtain ⟨c, e1, e2⟩ := map_some e
    subst e2
    obtain ⟨hk, e1⟩ := List.getElem?_eq_some_iff.mp e1
    rw [List.length_range] at hk
    rw [List.getElem_range] at e1
    subst e1
    refine ⟨hk, fun y H' hy => ?_⟩
    obtain ⟨rfl, rfl⟩ := hy
    exact ⟨Ext.refl _ _, r, rfl⟩
  · show n ≤ ((List.range n).map _).length
    rw [List.length_map, List.length_range]
    exact Nat.le_refl _
theorem drv_rngC (c : Int) (n : Nat) : Drv ⟨K, w, cls, fld, Wx, hk, kc⟩ (rngsC c n) m0 H0 (Itc 0 c n) := by
  intro m h H _ r
  refine ⟨fun k d e => ?_, fun _ => ?_⟩
  · have e : ((List.range n).map fun k => D.int ((k : Nat) * c))[k]? = some d := e
    rw [List.getElem?_map] at e
    obtain ⟨c', e1, e2⟩ := map_some e
    subst e2
    obtain ⟨hk, e1⟩ := List.getElem?_eq_some_iff.mp e1
    rw [List.length_range] at hk
    rw [List.getElem_range] at e1
    subst e1
    refine ⟨hk, fun y H' hy => ?_⟩
    obtain ⟨rfl, rfl⟩ := hy
    refine ⟨Ext.refl _ _, r, ?_⟩
    show V.int _ = V.int _
    rw [Int.zero_add]
  · show n ≤ ((List.range n).map _).length
    rw [List.length_map, List.length_range]
    exact Nat.le_refl _
theorem drv_zip {a b : Addr} {xs ys : List D} {vs us : List V} (ha : H0 a = some (.tup vs)) (hb : H0 b = some (.tup us)) (ga : RelDs K w m0 H0 xs vs) (gb : RelDs K w m0 H0 ys us) :
    Drv ⟨K, w, cls, fld, Wx, hk, kc⟩ (.items ((xs.zip ys).map fun p => .tup [p.1, p.2])) m0 H0 (RZ.ItzT K a b) := by
  intro m h H x r
  have sa : SqT K H a vs := SqT.of (x.imm1 ha rfl)
  have sb : SqT K H b us := SqT.of (x.imm1 hb rfl)
  refine ⟨fun k d e => ?_, fun _ => ?_⟩
  · have e : ((xs.zip ys).map fun p => D.tup [p.1, p.2])[k]? = some d := e
    rw [List.getElem?_map] at e
    obtain ⟨p, e1, e2⟩ := map_some e
    subst e2
    obtain ⟨e3, e4⟩ := List.getElem?_zip_eq_some.mp e1
    obtain ⟨v, v1, v2⟩ := ga.get e3
    obtain ⟨u, u1, u2⟩ := gb.get e4
    refine ⟨⟨vs, us, v, u, sa, sb, v1, u1⟩, fun y H' hy => ?_⟩
    obtain ⟨T, y1, y2, rfl, hT, rfl, f1, f2⟩ := hy
    have q1 := f1 vs sa
    have q2 := f2 us sb
    rw [v1] at q1; cases q1
    rw [u1] at q2; cases q2
    have gd : RelDs K w m H [p.1, p.2] [v, u] := .cons (v2.ext x) (.cons (u2.ext x) .nil)
    obtain ⟨b1, b2, b3⟩ := new_tup r hT gd
    exact ⟨b2, b1, b3⟩
  · refine ⟨vs, us, sa, sb, ?_⟩
    show vs.length ≤ ((xs.zip ys).map _).length ∨ us.length ≤ ((xs.zip ys).map _).length
    rw [List.length_map, List.length_zip, ga.length, gb.length]
    omega
theorem drv_zipL {a b : Addr} {xs ys : List D} {vs us : List V} (ha : H0 a = some (.lst vs)) (hb : H0 b = some (.lst us)) (na : ¬ m0.ww a) (nb : ¬ m0.ww b) (ga : RelDs K w m0 H0 xs vs) (gb : RelDs K w m0 H0 ys us) :
    Drv ⟨K, w, cls, fld, Wx, hk, kc⟩ (.items ((xs.zip ys).map fun p => .tup [p.1, p.2])) m0 H0 (Itz K a b) := by
  intro m h H x r
  have sa : SqL K H a vs := SqL.of (x.fix ha na).1
  have sb : SqL K H b us := SqL.of (x.fix hb nb).1
  refine ⟨fun k d e => ?_, fun _ => ?_⟩
  · have e : ((xs.zip ys).map fun p => D.tup [p.1, p.2])[k]? = some d := e
    rw [List.getElem?_map] at e
    obtain ⟨p, e1, e2⟩ := map_some e
    subst e2
    obtain ⟨e3, e4⟩ := List.getElem?_zip_eq_some.mp e1
    obtain ⟨v, v1, v2⟩ := ga.get e3
    obtain ⟨u, u1, u2⟩ := gb.get e4
    refine ⟨⟨vs, us, v, u, sa, sb, v1, u1⟩, fun y H' hy => ?_⟩
    obtain ⟨T, y1, y2, rfl, hT, rfl, f1, f2⟩ := hy
    have q1 := f1 vs sa
    have q2 := f2 us sb
    rw [v1] at q1; cases q1
    rw [u1] at q2; cases q2
    have gd : RelDs K w m H [p.1, p.2] [v, u] := .cons (v2.ext x) (.cons (u2.ext x) .nil)
    obtain ⟨b1, b2, b3⟩ := new_tup r hT gd
    exact ⟨b2, b1, b3⟩
  · refine ⟨vs, us, sa, sb, ?_⟩
    show vs.length ≤ ((xs.zip ys).map _).length ∨ us.length ≤ ((xs.zip ys).map _).length
    rw [List.length_map, List.length_zip, ga.length, gb.length]
    omega
end
section
variable {X : Cx} {C : CE} {G : Pc} {F : Call} {S : Sm}
theorem bnd_some {α β : Type} {M : Dd.M α} {k : α → Dd.M β} {e : DE} {h h' : DH} {r : Rs β} (q : bnd M k e h = some (r, h')) : (∃ c p, M e h = some (.ex c p, h') ∧ r = .ex c p) ∨ ∃ a h1, M e h = some (.ok a, h1) ∧ k a e h1 = some (r, h') := by
  dsimp only [bnd] at q
  cases hm : M e h with
  | none => rw [hm] at q; cases q
  | some p =>
    obtain ⟨r1, h1⟩ := p
    rw [hm] at q
    cases r1 with
    | ex c p => cases q; exact .inl ⟨c, p, rfl, rfl⟩
    | ok a => exact .inr ⟨a, h1, rfl, q⟩
theorem rng3_ok {j c : Int} (h1 : 0 ≤ j) (h2 : j < 4611686018427387904) (h3 : 1 ≤ c) (h4 : c < 1073741824) : RgC 0 j c ((j + c - 1) / c).toNat := by
  have sz := PyProof.Rows.rangeSize_pos (len := j) (c := c) h3 h1
  have nn : 0 ≤ (j + c - 1) / c := Int.ediv_nonneg (by omega) (by omega)
  refine ⟨by omega, by omega, ?_, by rw [sz, Int.toNat_of_nonneg nn]⟩
  have mul : (j + c - 1) / c * c ≤ j + c - 1 := Int.ediv_mul_le _ (by omega)
  have le : (j + c - 1) / c ≤ j + c - 1 := by
    have := Int.ediv_le_self (c) (show 0 ≤ j + c - 1 by omega)
    exact this
  unfold Builtin.Range.small
  rw [sz]
  simp only [Builtin.Range.rangeFitsLong, Bool.and_eq_true, Bool.or_eq_true, decide_eq_true_eq, beq_iff_eq]
  generalize (j + c - 1) / c = q at *
  have b1 : (2 : Int) ^ 63 = 9223372036854775808 := by decide
  refine ⟨by omega, .inr ?_⟩
  rw [if_pos (by omega), decide_eq_true (by omega : -2 ^ 63 ≤ j + (c - 1)), decide_eq_true (by omega : j + (c - 1) < 2 ^ 63)]
  rfl
theorem frzE_ok {S : Sm} {e : Expr} (hE : PE X e (tG G G.R (S.E C e))) : PE X e (tG G G.R (frzE S C e)) := by
  unfold frzE
  split
  · exact hE
  · exact PE.of hE fun σ H Q h => frz_tG h
/-- anything that may be walked by its value -/
theorem i_any (f : Fit X C G F) {tg e : Expr} (hE : PE X e (tG G G.R (frzE S C e))) : PI X tg e (iG G (anyI S C e)) := by
  obtain ⟨K, W, cls, fld, Wx, hk, kc⟩ := G
  have hK : X.K = K := f.K
  have hw : X.w = W := f.w
  subst hK hw
  refine ⟨fun pins s σ H R I hyp => ?_⟩
  obtain ⟨m, e0, h, r, h', a1, a2, a3, a4⟩ := hyp
  unfold anyI at a3
  split at a3
  · cases a3
  rcases bnd_some a3 with ⟨c, p, e1, rfl⟩ | ⟨d, h1, e1, e2⟩
  · exact (pi_list (tg := tg) hE).run pins s σ H R I ⟨m, e0, h, _, h', a1, a2, e1, fun m' H' x y => a4 m' H' x y⟩
  · obtain ⟨sr, rfl, e3⟩ := lift_some e2
    unfold srcD at e3
    cases d with
    | tup xs =>
      cases e3
      refine (pi_tup (tg := tg) hE).run pins s σ H R I ⟨m, e0, h, _, h', a1, a2, e1, fun m' H' x y v g => ?_⟩
      obtain ⟨a, vs, rfl, ha, ga⟩ := g
      exact ⟨a, rfl, ⟨vs, SqT.of ha⟩, a4 m' H' x y _ (drv_tup (SqT.of ha) (fun m2 H2 x2 => SqT.of (x2.imm1 ha rfl)) ga)⟩
    | kt xs =>
      cases e3
      refine (pi_tup (tg := tg) hE).run pins s σ H R I ⟨m, e0, h, _, h', a1, a2, e1, fun m' H' x y v g => ?_⟩
      obtain ⟨a, vs, rfl, ha, ga⟩ := g
      exact ⟨a, rfl, ⟨vs, ha.sq⟩, a4 m' H' x y _ (drv_tup ha.sq (fun m2 H2 x2 => ha.sq) (RelKs.relDs xs vs ga))⟩
    | str z =>
      cases e3
      refine (pi_str (tg := tg) hE).run pins s σ H R I ⟨m, e0, h, _, h', a1, a2, e1, fun m' H' x y v g => ?_⟩
      exact ⟨z, g, a4 m' H' x y _ (drv_str z)⟩
    | frz ns =>
      cases e3
      refine (pi_list (tg := tg) hE).run pins s σ H R I ⟨m, e0, h, _, h', a1, a2, e1, fun m' H' x y v g => ?_⟩
      obtain ⟨a, rfl, ha⟩ := g
      exact ⟨a, rfl, ⟨_, ha.sq⟩, a4 m' H' x y _ (drv_frz ha)⟩
    | vl xs =>
      cases e3
      refine (pi_list (tg := tg) hE).run pins s σ H R I ⟨m, e0, h, _, h', a1, a2, e1, fun m' H' x y v g => ?_⟩
      obtain ⟨a, vs, rfl, ha, nw, ga⟩ := g
      exact ⟨a, rfl, ⟨vs, SqL.of ha⟩, a4 m' H' x y _ (drv_vl ha nw ga)⟩
    | ref i =>
      obtain ⟨xs, ex, e4⟩ := map_some e3
      cases e4
      refine (pi_list (tg := tg) hE).run pins s σ H R I ⟨m, e0, h, _, h', a1, a2, e1, fun m' H' x y v g => ?_⟩
      obtain ⟨p, vs, rfl, mp, hp, gp⟩ := ref_lst y g ex
      exact ⟨p, rfl, ⟨vs, SqL.of hp⟩, a4 m' H' x y _ (drv_live mp)⟩
    | _ => cases e3
theorem in62_iff {i : Int} (h : in62 i = true) : -(2 ^ 62) ≤ i ∧ i < 2 ^ 62 := by
  have z := below_iff.mp h
  omega
theorem ok_I (hE : OkE S F) : OkI (stepQ F S) F := by
  intro X C G f tg e
  have iE := fun e => frzE_ok (C := C) (S := S) (hE X C G f e)
  have iA := i_any f (tg := tg) (iE e)
  show PI X tg e (iG G (stepI S C tg e))
  unfold stepI
  split
  · rename_i fn a hc
    split
    · rename_i hf
      subst hf
      split
      · rename_i hg
        rw [Bool.and_eq_true] at hg
        obtain ⟨g1, g2⟩ := f.glb hg.1
        have he : ∃ p pos, e = .Call (.Name "range" p) [a] [] pos := by
          unfold callOf at hc
          split at hc
          · cases hc; exact ⟨_, _, rfl⟩
          · cases hc
        obtain ⟨p, pos, rfl⟩ := he
        have hm : X.mg "range" = none := f.blt _ (List.mem_append_right _ (List.mem_cons_of_mem _ List.mem_cons_self))
        refine PI.of (pi_range1 g1 hm (pa_cons (iE a) pa_nil (star1 hg.2 [])) (star1 hg.2 [])) fun σ H R h => ?_
        obtain ⟨m, e0, hh, r, h', a1, a2, a3, a4⟩ := h
        rcases bnd_some a3 with ⟨c, p, e1, rfl⟩ | ⟨d, h1, e1, e2⟩
        · exact ⟨m, e0, hh, _, h', a1, a2, e1, fun m' H' x y => a4 m' H' x y⟩
        · obtain ⟨sr, rfl, e3⟩ := lift_some e2
          refine ⟨m, e0, hh, _, h1, a1, a2, e1, fun m' H' x y v g => ?_⟩
          unfold rng1 at e3
          split at e3
          · split at e3
            · rename_i j hz
              cases e3
              obtain ⟨z1, z2⟩ := in62_iff hz
              obtain ⟨K, W, cls, fld, Wx, hk, kc⟩ := G
              exact ⟨j, by rw [show v = _ from g], z1, z2, a4 m' H' x y _ (drv_rng 0 _)⟩
            · cases e3
          · cases e3
      · exact PI.of iA (fun σ H R h => by
          obtain ⟨m, e0, hh, r, h', a1, a2, a3, a4⟩ := h
          cases a3)
    · exact iA
  · rename_i fn a b hc
    split
    · rename_i hf
      subst hf
      split
      · rename_i hg
        rw [Bool.and_eq_true, Bool.and_eq_true] at hg
        obtain ⟨g1, g2⟩ := f.glb hg.1.1
        have he : ∃ p pos, e = .Call (.Name "range" p) [a, b] [] pos := by
          unfold callOf at hc
          split at hc
          · cases hc; exact ⟨_, _, rfl⟩
          · cases hc
        obtain ⟨p, pos, rfl⟩ := he
        have hm : X.mg "range" = none := f.blt _ (List.mem_append_right _ (List.mem_cons_of_mem _ List.mem_cons_self))
        refine PI.of (pi_range2 g1 hm (pa_cons (iE a) (pa_cons (iE b) pa_nil (star1 hg.2 [])) (star1 hg.1.2 _)) (by rw [star1 hg.1.2, star1 hg.2]; rfl) (star1 hg.2 [])) fun σ H R h => ?_
        have t1 : tG G G.R (frzE S C a) σ H (fun x H1 => ∃ m e h d r h', G.H m h H1 ∧ EnvR G m H1 e σ ∧ G.R m H1 d x ∧ bnd (frzE S C b) (fun y => lift (rng2 d y)) e h = some (r, h') ∧ ∀ m' H', Ext m H1 m' H' → G.H m' h' H' → match r with
            | .ok s => ∀ J, Drv G s m' H' J → R J H'
            | .ex c p => ∀ cv d, ExcAt G m' H' c p cv d → G.W cv d σ H') := by
          obtain ⟨m, e0, hh, r, h', a1, a2, a3, a4⟩ := h
          rcases bnd_some a3 with ⟨c, p, e1, rfl⟩ | ⟨d, h1, e1, e2⟩
          · exact ⟨m, e0, hh, _, h', a1, a2, e1, fun m' H' x y => a4 m' H' x y⟩
          · exact ⟨m, e0, hh, _, h1, a1, a2, e1, fun m' H' x y v g => ⟨m', e0, h1, d, r, h', y, a2.ext x, g, e2, fun m2 H2 x2 y2 => a4 m2 H2 (x.trans x2) y2⟩⟩
        refine t1.mono fun x H1 h1 => ?_
        obtain ⟨m, e0, hh, d, r, h', a1, a2, rd, a3, a4⟩ := h1
        rcases bnd_some a3 with ⟨c, p, e1, rfl⟩ | ⟨d2, h2, e1, e2⟩
        · exact ⟨m, e0, hh, _, h', a1, a2, e1, fun m' H' x y => a4 m' H' x y⟩
        · obtain ⟨sr, rfl, e3⟩ := lift_some e2
          refine ⟨m, e0, hh, _, h2, a1, a2, e1, fun m' H' x' y' v g => ?_⟩
          unfold rng2 at e3
          split at e3
          · split at e3
            · rename_i i j hz
              cases e3
              rw [Bool.and_eq_true] at hz
              obtain ⟨z1, z2⟩ := in62_iff hz.1
              obtain ⟨z3, z4⟩ := in62_iff hz.2
              obtain ⟨K, W, cls, fld, Wx, hk, kc⟩ := G
              exact ⟨i, j, by rw [show v = _ from g, show x = _ from rd], ⟨z1, z2, z3, z4⟩, a4 m' H' x' y' _ (drv_rng i _)⟩
            · cases e3
          · cases e3
      · exact PI.of iA (fun σ H R h => by
          obtain ⟨m, e0, hh, r, h', a1, a2, a3, a4⟩ := h
          cases a3)
    · split
      · rename_i hf
        subst hf
        split
        · rename_i hg
          rw [Bool.and_eq_true, Bool.and_eq_true, Bool.and_eq_true] at hg
          obtain ⟨⟨⟨hg0, hg1⟩, hg2⟩, hg3⟩ := hg
          obtain ⟨g1, g2⟩ := f.glb hg0
          have he : ∃ p pos, e = .Call (.Name "zip" p) [a, b] [] pos := by
            unfold callOf at hc
            split at hc
            · cases hc; exact ⟨_, _, rfl⟩
            · cases hc
          obtain ⟨p, pos, rfl⟩ := he
          have ht : ∃ es k tp, tg = .Tuple es k tp := by
            cases tg <;> first | exact ⟨_, _, _, rfl⟩ | cases hg3
          obtain ⟨es, kk, tp, rfl⟩ := ht
          have hm : X.mg "zip" = none := f.blt _ (List.mem_append_right _ (List.mem_cons_of_mem _ (List.mem_cons_of_mem _ (List.mem_cons_of_mem _ List.mem_cons_self))))
          refine PI.of (RZ.pi_zipA g1 hm (pa_cons (iE a) (pa_cons (iE b) pa_nil (star1 hg2 [])) (star1 hg1 _)) (star1 hg1 _) (by rw [star1 hg2]; rfl)) fun σ H R h => ?_
          have t1 : tG G G.R (frzE S C a) σ H (fun x H1 => ∃ m e h d r h', G.H m h H1 ∧ EnvR G m H1 e σ ∧ G.R m H1 d x ∧ bnd (frzE S C b) (fun y => lift (zipD d y)) e h = some (r, h') ∧ ∀ m' H', Ext m H1 m' H' → G.H m' h' H' → match r with
              | .ok s => ∀ J, Drv G s m' H' J → R J H'
              | .ex c p => ∀ cv d, ExcAt G m' H' c p cv d → G.W cv d σ H') := by
            obtain ⟨m, e0, hh, r, h', a1, a2, a3, a4⟩ := h
            rcases bnd_some a3 with ⟨c, p, e1, rfl⟩ | ⟨d, h1, e1, e2⟩
            · exact ⟨m, e0, hh, _, h', a1, a2, e1, fun m' H' x y => a4 m' H' x y⟩
            · exact ⟨m, e0, hh, _, h1, a1, a2, e1, fun m' H' x y v g => ⟨m', e0, h1, d, r, h', y, a2.ext x, g, e2, fun m2 H2 x2 y2 => a4 m2 H2 (x.trans x2) y2⟩⟩
          refine t1.mono fun x H1 h1 => ?_
          obtain ⟨m, e0, hh, d, r, h', a1, a2, rd, a3, a4⟩ := h1
          rcases bnd_some a3 with ⟨c, p, e1, rfl⟩ | ⟨d2, h2, e1, e2⟩
          · exact ⟨m, e0, hh, _, h', a1, a2, e1, fun m' H' x y => a4 m' H' x y⟩
          · obtain ⟨sr, rfl, e3⟩ := lift_some e2
            refine ⟨m, e0, hh, _, h2, a1, a2, e1, fun m' H' x' y' v g => ?_⟩
            unfold zipD at e3
            split at e3
            · cases e3
              have hK := f.K
              have rd2 := rd.ext x'
              obtain ⟨K, W, cls, fld, Wx, hk, kc⟩ := G
              have hK : X.K = K := hK
              subst hK
              obtain ⟨a, vs, rfl, ha, ga⟩ := rd2
              obtain ⟨b, us, rfl, hb, gb⟩ := g
              exact ⟨a, b, vs, us, rfl, .inr ⟨SqT.of ha, SqT.of hb, a4 m' H' x' y' _ (drv_zip ha hb ga gb)⟩⟩
            · cases e3
              have hK := f.K
              have rd2 := rd.ext x'
              obtain ⟨K, W, cls, fld, Wx, hk, kc⟩ := G
              have hK : X.K = K := hK
              subst hK
              obtain ⟨a, vs, rfl, ha, na, ga⟩ := rd2
              obtain ⟨b, us, rfl, hb, nb, gb⟩ := g
              exact ⟨a, b, vs, us, rfl, .inl ⟨SqL.of ha, SqL.of hb, a4 m' H' x' y' _ (drv_zipL ha hb na nb ga gb)⟩⟩
            · cases e3
        · exact PI.of iA (fun σ H R h => by
            obtain ⟨m, e0, hh, r, h', a1, a2, a3, a4⟩ := h
            cases a3)
      · exact iA
  · rename_i fn a b c hc
    split
    · rename_i hf
      subst hf
      split
      · rename_i hg
        rw [Bool.and_eq_true, Bool.and_eq_true, Bool.and_eq_true] at hg
        obtain ⟨⟨⟨hg0, hg1⟩, hg2⟩, hg3⟩ := hg
        obtain ⟨g1, g2⟩ := f.glb hg0
        have he : ∃ p pos, e = .Call (.Name "range" p) [a, b, c] [] pos := by
          unfold callOf at hc
          split at hc
          · cases hc; exact ⟨_, _, rfl⟩
          · cases hc
        obtain ⟨p, pos, rfl⟩ := he
        have hm : X.mg "range" = none := f.blt _ (List.mem_append_right _ (List.mem_cons_of_mem _ List.mem_cons_self))
        refine PI.of (pi_range3 g1 hm (pa_cons (iE a) (pa_cons (iE b) (pa_cons (iE c) pa_nil (star1 hg3 [])) (star1 hg2 _)) (star1 hg1 _)) (star1 hg1 _) (by rw [star1 hg2, star1 hg3]; rfl)) fun σ H R h => ?_
        have t1 : tG G G.R (frzE S C a) σ H (fun x H1 => ∃ m e h d r h', G.H m h H1 ∧ EnvR G m H1 e σ ∧ G.R m H1 d x ∧ bnd (frzE S C b) (fun y => bnd (frzE S C c) fun z => lift (rng3 d y z)) e h = some (r, h') ∧ ∀ m' H', Ext m H1 m' H' → G.H m' h' H' → match r with
            | .ok s => ∀ J, Drv G s m' H' J → R J H'
            | .ex c p => ∀ cv d, ExcAt G m' H' c p cv d → G.W cv d σ H') := by
          obtain ⟨m, e0, hh, r, h', a1, a2, a3, a4⟩ := h
          rcases bnd_some a3 with ⟨c, p, e1, rfl⟩ | ⟨d, h1, e1, e2⟩
          · exact ⟨m, e0, hh, _, h', a1, a2, e1, fun m' H' x y => a4 m' H' x y⟩
          · exact ⟨m, e0, hh, _, h1, a1, a2, e1, fun m' H' x y v g => ⟨m', e0, h1, d, r, h', y, a2.ext x, g, e2, fun m2 H2 x2 y2 => a4 m2 H2 (x.trans x2) y2⟩⟩
        refine t1.mono fun x H1 h1 => ?_
        have t2 : tG G G.R (frzE S C b) σ H1 (fun y H2 => ∃ m e h d d2 r h', G.H m h H2 ∧ EnvR G m H2 e σ ∧ G.R m H2 d x ∧ G.R m H2 d2 y ∧ bnd (frzE S C c) (fun z => lift (rng3 d d2 z)) e h = some (r, h') ∧ ∀ m' H', Ext m H2 m' H' → G.H m' h' H' → match r with
            | .ok s => ∀ J, Drv G s m' H' J → R J H'
            | .ex c p => ∀ cv d, ExcAt G m' H' c p cv d → G.W cv d σ H') := by
          obtain ⟨m, e0, hh, d, r, h', a1, a2, rd, a3, a4⟩ := h1
          rcases bnd_some a3 with ⟨c, p, e1, rfl⟩ | ⟨d2, h2, e1, e2⟩
          · exact ⟨m, e0, hh, _, h', a1, a2, e1, fun m' H' x y => a4 m' H' x y⟩
          · exact ⟨m, e0, hh, _, h2, a1, a2, e1, fun m' H' x' y' v g => ⟨m', e0, h2, d, d2, r, h', y', a2.ext x', rd.ext x', g, e2, fun m2 H2 x2 y2 => a4 m2 H2 (x'.trans x2) y2⟩⟩
        refine t2.mono fun y H2 h2 => ?_
        obtain ⟨m, e0, hh, d, d2, r, h', a1, a2, rd, rd2, a3, a4⟩ := h2
        rcases bnd_some a3 with ⟨c, p, e1, rfl⟩ | ⟨d3, h3, e1, e2⟩
        · exact ⟨m, e0, hh, _, h', a1, a2, e1, fun m' H' x y => a4 m' H' x y⟩
        · obtain ⟨sr, rfl, e3⟩ := lift_some e2
          refine ⟨m, e0, hh, _, h3, a1, a2, e1, fun m' H' x' y' v g => ?_⟩
          unfold rng3 at e3
          split at e3
          · split at e3
            · rename_i i j k hz
              cases e3
              simp only [Bool.and_eq_true] at hz
              obtain ⟨⟨⟨⟨⟨z1, z2⟩, z3⟩, z4⟩, z5⟩, z6⟩ := hz
              have z1 := leI_iff.mp z1
              have z2 := leI_iff.mp z2
              have z3 := leI_iff.mp z3
              have z4 := below_iff.mp z4
              have z5 := leI_iff.mp z5
              have z6 := below_iff.mp z6
              have ei : i = 0 := by omega
              subst ei
              have rg := rng3_ok z3 z4.2 z5 z6.2
              obtain ⟨K, W, cls, fld, Wx, hk, kc⟩ := G
              exact ⟨0, j, k, _, by rw [show v = _ from g, show x = _ from rd, show y = _ from rd2], rg, a4 m' H' x' y' _ (drv_rngC k _)⟩
            · cases e3
          · cases e3
      · exact PI.of iA (fun σ H R h => by
          obtain ⟨m, e0, hh, r, h', a1, a2, a3, a4⟩ := h
          cases a3)
    · exact iA
  · exact iA
end
end Dd

set_option Elab.async false
set_option linter.all false
set_option maxRecDepth 100000
set_option maxHeartbeats 4000000
namespace Dd
open PySem PySem.Spec PyProof.Rows L2

/-! # 17. Targets -/
theorem wipe_get : ∀ (vs : List Nat) (σ : L2.St) (j : Nat), (wipe σ vs)[j]? = if j ∈ vs then (σ[j]?).map (fun _ => none) else σ[j]? := by
  intro vs
  induction vs with
  | nil => intro σ j; rfl
  | cons v vs ih =>
    intro σ j
    unfold wipe
    rw [List.getElem?_set]
    by_cases e : v = j
    · subst e
      rw [if_pos rfl, if_pos List.mem_cons_self, wipe_length]
      by_cases hl : v < σ.length
      · rw [if_pos hl, List.getElem?_eq_getElem hl]; rfl
      · rw [if_neg hl, List.getElem?_eq_none (Nat.le_of_not_lt hl)]; rfl
    · rw [if_neg e, ih]
      by_cases h2 : j ∈ vs
      · rw [if_pos h2, if_pos (List.mem_cons_of_mem _ h2)]
      · rw [if_neg h2, if_neg (fun z => (List.mem_cons.mp z).elim (fun z => e z.symm) h2)]
theorem wipe_set {σ : L2.St} {i : Nat} {y : Option V} {vs : List Nat} (hv : i ∈ vs) : wipe (σ.set i y) vs = wipe σ vs := by
  apply List.ext_getElem?
  intro j
  rw [wipe_get, wipe_get, List.getElem?_set]
  by_cases e : i = j
  · subst e
    rw [if_pos hv, if_pos hv, if_pos rfl]
    by_cases hl : i < σ.length
    · rw [if_pos hl, List.getElem?_eq_getElem hl]; rfl
    · rw [if_neg hl, List.getElem?_eq_none (Nat.le_of_not_lt hl)]
  · rw [if_neg e]
theorem wipe_wipe {σ : L2.St} {vs : List Nat} : wipe (wipe σ vs) vs = wipe σ vs := by
  apply List.ext_getElem?
  intro j
  rw [wipe_get, wipe_get]
  split
  · cases σ[j]? <;> rfl
  · rfl
/-- what a target does -/
def gG (G : Pc) (t : Tg) : TG := fun x σ H Q => ∃ m e h d e1, G.H m h H ∧ EnvR G m H e σ ∧ G.R m H d x ∧ t.put d h e = some e1 ∧
  ∀ σ', EnvR G m H e1 σ' → (∀ vs, (∀ i ∈ t.ixs, i ∈ vs) → wipe σ' vs = wipe σ vs) → Q σ' H
def gsG (G : Pc) (is : List Nat) : TGs := fun xs σ H Q => ∃ m e ds e1, EnvR G m H e σ ∧ G.Rs m H ds xs ∧ setAll is ds e = some e1 ∧
  ∀ σ', EnvR G m H e1 σ' → (∀ vs, (∀ i ∈ is, i ∈ vs) → wipe σ' vs = wipe σ vs) → Q σ' H
theorem PG.of {X : Cx} {e : Expr} {t t' : TG} (h : PG X e t) (w : ∀ v σ H Q, t' v σ H Q → t v σ H Q) : PG X e t' := ⟨fun pins s σ H v u Q I r q => h.run pins s σ H v u Q I r (w v σ H Q q)⟩
theorem PG.or {X : Cx} {e : Expr} {t t' u : TG} (h : PG X e t) (h' : PG X e t') (w : ∀ v σ H Q, u v σ H Q → t v σ H Q ∨ t' v σ H Q) : PG X e u :=
  ⟨fun pins s σ H v u Q I r q => (w v σ H Q q).elim (h.run pins s σ H v u Q I r) (h'.run pins s σ H v u Q I r)⟩
section
variable {X : Cx} {C : CE} {G : Pc} {F : Call} {S : Sm}
theorem nmIx_some {e : Expr} {i : Nat} (h : nmIx C e = some i) : ∃ x p, e = .Name x p ∧ locIx C x = some i ∧ isHk C i = false := by
  unfold nmIx at h
  split at h
  · split at h
    · split at h
      · cases h
      · rename_i hn
        cases h
        exact ⟨_, _, rfl, by assumption, by simpa using hn⟩
    · cases h
  · cases h
theorem pg_nm (f : Fit X C G F) {e : Expr} {i : Nat} (h : nmIx C e = some i) : PG X e (gName i) := by
  obtain ⟨x, p, rfl, hl, _⟩ := nmIx_some h
  obtain ⟨a1, a2, a3⟩ := f.loc hl
  exact pg_name (by rw [f.N]; exact f.nd) a1 a2 a3
theorem nmsIx_len : ∀ {es : List Expr} {is : List Nat}, nmsIx C es = some is → es.length = is.length
  | [], _, h => by cases h; rfl
  | e :: es, _, h => by
    unfold nmsIx at h
    split at h
    · rename_i i is h1 h2
      cases h
      rw [List.length_cons, List.length_cons, nmsIx_len h2]
    · cases h
theorem pgs_nm (f : Fit X C G F) : ∀ {es : List Expr} {is : List Nat}, nmsIx C es = some is → PGs X es (gsG G is) ∧ (assignEach es X.env).length = es.length ∧ (assignEach es X.env).findIdx? (·.1) = none
  | [], _, h => by
    cases h
    refine ⟨⟨fun pins s σ H vs us Q I r q => pgs_nil.run pins s σ H vs us Q I r ?_⟩, rfl, rfl⟩
    obtain ⟨m, e, ds, e1, a1, a2, a3, a4⟩ := q
    cases ds with
    | nil => cases a3; cases (show vs = [] from a2); exact ⟨rfl, a4 σ a1 fun _ _ => rfl⟩
    | cons => cases a3
  | e :: es, _, h => by
    unfold nmsIx at h
    split at h
    · rename_i i is h1 h2
      cases h
      obtain ⟨b1, b2, b3⟩ := pgs_nm f h2
      have h1' := h1
      obtain ⟨x, p, rfl, hl, hk⟩ := nmIx_some h1
      have b4 : assignEach (.Name x p :: es) X.env = (false, assign (.Name x p) X.env) :: assignEach es X.env := rfl
      refine ⟨⟨fun pins s σ H vs us Q I r q => (pgs_cons (pg_nm f h1') b1 rfl).run pins s σ H vs us Q I r ?_⟩, by rw [b4, List.length_cons, List.length_cons, b2], by rw [b4, List.findIdx?_cons, b3]; rfl⟩
      obtain ⟨m, e, ds, e1, a1, a2, a3, a4⟩ := q
      cases ds with
      | nil => cases a3
      | cons d ds =>
        obtain ⟨v, vr, rfl, rv, rr⟩ := a2
        refine ⟨v, vr, rfl, m, e.set i (some d), ds, e1, a1.set (f.noHk hk) rv, rr, a3, fun σ' y1 y2 => a4 σ' y1 fun ws hw => ?_⟩
        rw [y2 ws fun j hj => hw j (List.mem_cons_of_mem _ hj), wipe_set (hw i List.mem_cons_self)]
    · cases h
theorem pg_tg (f : Fit X C G F) {tg : Expr} {t : Tg} (h : tgOf C tg = some t) : PG X tg (gG G t) := by
  unfold tgOf at h
  split at h
  · obtain ⟨i, e1, e2⟩ := map_some h
    subst e2
    refine PG.of (pg_nm f e1) fun v σ H Q q => ?_
    obtain ⟨m, e, hh, d, e', a1, a2, a3, a4, a5⟩ := q
    obtain ⟨x, p, e0, hl, hk⟩ := nmIx_some e1
    cases a4
    exact a5 _ (a2.set (f.noHk hk) a3) fun vs hv => wipe_set (hv i (List.mem_singleton.mpr rfl))
  · split at h
    · rename_i hc
      obtain ⟨is, e1, e2⟩ := map_some h
      subst e2
      obtain ⟨b1, b2, b3⟩ := pgs_nm f e1
      have hc : X.calm = true := by rw [f.calm]; exact hc
      refine PG.or (pg_tup hc b1 b2 b3) (pg_lst hc b1 b2 b3) fun v σ H Q q => ?_
      obtain ⟨K, W, cls, fld, Wx, hk, kc⟩ := G
      have hK : X.K = K := f.K
      subst hK
      obtain ⟨m, e, hh, d, e', a1, a2, a3, a4, a5⟩ := q
      have a4 : (match unpk d hh with | some ds => setAll is ds e | none => none) = some e' := a4
      have sal : ∀ {is : List Nat} {ds : List D} {e e' : DE}, setAll is ds e = some e' → ds.length = is.length := by
        intro is
        induction is with
        | nil => intro ds e e' h; cases ds with
          | nil => rfl
          | cons => cases h
        | cons i is ih => intro ds e e' h; cases ds with
          | nil => cases h
          | cons d ds => rw [List.length_cons, List.length_cons, ih h]
      cases d with
      | tup xs =>
        obtain ⟨a, vs, rfl, ha, ga⟩ := a3
        exact .inl ⟨a, vs, rfl, SqT.of ha, by rw [nmsIx_len e1, ga.length, sal a4], m, e, xs, e', a2, ga, a4, a5⟩
      | kt xs =>
        obtain ⟨a, vs, rfl, ha, ga⟩ := a3
        have ga := RelKs.relDs (w := W) (m := m) (H := H) xs vs ga
        exact .inl ⟨a, vs, rfl, ha.sq, by rw [nmsIx_len e1, ga.length, sal a4], m, e, xs, e', a2, ga, a4, a5⟩
      | ref i =>
        cases hu : lstAt hh i with
        | none => unfold unpk at a4; dsimp only [seqD] at a4; rw [hu] at a4; cases a4
        | some xs =>
          unfold unpk at a4
          dsimp only [seqD] at a4
          rw [hu] at a4
          obtain ⟨a, vs, rfl, ma, ha, ga⟩ := ref_lst a1 a3 hu
          exact .inr ⟨a, vs, rfl, SqL.of ha, by rw [nmsIx_len e1, ga.length, sal a4], m, e, xs, e', a2, ga, a4, a5⟩
      | vl xs =>
        obtain ⟨a, vs, rfl, ha, nw, ga⟩ := a3
        exact .inr ⟨a, vs, rfl, SqL.of ha, by rw [nmsIx_len e1, ga.length, sal a4], m, e, xs, e', a2, ga, a4, a5⟩
      | _ => cases a4
    · cases h
  · cases h
end
/-! # 18. Comprehensions -/
/-- in a block nothing goes out -/
def Pc.blk (G : Pc) : Pc := { G with W := fun _ _ _ _ => False }
theorem EnvR.toBlk {G : Pc} {m : Mp} {H : Hp} {e : DE} {σ : L2.St} (h : EnvR G m H e σ) : EnvR G.blk m H e σ := ⟨h.len, h.slot⟩
section
variable {X : Cx} {C : CE} {G : Pc} {F : Call} {S : Sm}
theorem Fit.blk (f : Fit X C G F) (hc : C.calm = true) (scope : Scope) (s : Shared) (H : Hp) (c : Addr) (cl : List (Str × Addr)) (fp : List Addr) :
    Fit (X.blk s H scope (compEnvC scope cl c X.env) fp) (C.inBlk scope) G.blk F where
  N := f.N
  nd := f.nd
  sc := by show relS scope X.env.scope = relS scope C.sc; rw [f.sc]
  calm := f.calm
  fn := fun x h => by
    have h : (false || decide (scope.names.lookup x = some .cell)) = true := h
    rw [Bool.false_or] at h
    show (scope.names.lookup x == some .cell) = true
    rw [of_decide_eq_true h]; rfl
  K := f.K
  w := f.w
  tk := takes0
  pass := PassesOwn.never
  un := f.un
  gd := f.gd
  blt := f.blt
  con := f.con
  fns := f.fns
  own := fun h => nomatch (show false = true from h)
  exc := f.exc
  excF := f.excF
  room := f.room
  hkc := f.hkc
  hk0 := f.hk0
  hk1 := fun i c h => nomatch (show none = some (i, c) from (f.hkc hc).symm.trans h)
end
end Dd

set_option Elab.async false
set_option linter.all false
set_option maxRecDepth 100000
set_option maxHeartbeats 4000000
namespace Dd
open PySem PySem.Spec PyProof.Rows L2

section
variable {G : Pc} {σ : L2.St} {H : Hp} {Q : VK}
/-- the walk of a list comprehension, by the plain loop -/
theorem lc_main {it : M Src} {t : Tg} {c : M Bool} {mm : M D} {vs : List Nat} (ht : ∀ i ∈ t.ixs, i ∈ vs) (hyp : tG G G.R (lcM vs it t c mm) σ H Q) :
    tLc (iG G it) (gG G.blk t) (tG G.blk relB c) (tG G.blk G.blk.R mm) vs σ H Q := by
  obtain ⟨m, e, h, r, h', a1, a2, a3, a4⟩ := hyp
  rcases bnd_some a3 with ⟨k, p, e1, rfl⟩ | ⟨s, h1, e1, e2⟩
  · exact ⟨m, e, h, _, h', a1, a2, e1, a4⟩
  refine ⟨m, e, h, _, h1, a1, a2, e1, fun m1 H1 x1 y1 J dr D hD => ?_⟩
  obtain ⟨hz, e3, e4⟩ := map_some e2
  cases e4
  generalize hhz : h' = h'0 at e3 a4
  obtain ⟨b1, b2, b3⟩ := new_lst (K := G.K) (w := G.w) (m := m1) (h := h1) (H := H1) (p := D) (ds := []) (vs := []) y1 hD RelDs.nil
  have e0 := ((a2.ext x1).ext b2).wipe vs
  obtain ⟨p, q1, q2⟩ := b3
  cases q2
  refine ⟨fun i n H' => n = s.len - i ∧ ∃ m' h', Ext (m1.add D) (upd H1 D (.lst [])) m' H' ∧ G.H m' h' H' ∧ i ≤ s.len ∧ lcLoop s t c mm h1.length (wipeE e vs) (s.len - i) i h' = some h'0, ⟨s.len, rfl, _, _, Ext.refl _ _, b1, Nat.zero_le _, e3⟩, ?_⟩
  rintro i n H' ⟨rfl, m', h', c1, c2, c3, c4⟩
  obtain ⟨d1, d2⟩ := dr m' h' H' (b2.trans c1) c2
  by_cases hi : i = s.len
  · subst hi
    rw [Nat.sub_self] at c4
    have c4 : (if s.done h' then some h' else none) = some h'0 := c4
    split at c4
    · rename_i hd
      cases c4
      exact .inl ⟨d2 hd, a4 m' H' (x1.trans (b2.trans c1)) c2 _ ⟨D, c1.ix q1, rfl⟩⟩
    · cases c4
  · obtain ⟨k, hk⟩ : ∃ k, s.len - i = k + 1 := ⟨s.len - i - 1, by omega⟩
    rw [hk] at c4
    dsimp only [lcLoop] at c4
    split at c4
    · cases c4
    rename_i d hd
    obtain ⟨j1, j2⟩ := d1 i d hd
    refine .inr ⟨j1, fun H' => ∃ m' h', Ext (m1.add D) (upd H1 D (.lst [])) m' H' ∧ G.H m' h' H' ∧ lcLoop s t c mm h1.length (wipeE e vs) k (i + 1) h' = some h'0,
      fun H'' ⟨m', h', l1, l2, l3⟩ => ⟨k, by omega, by omega, m', h', l1, l2, by omega, by rw [show s.len - (i + 1) = k by omega]; exact l3⟩, fun x H'' hy => ?_⟩
    obtain ⟨z1, z2, z3⟩ := j2 x H'' hy
    split at c4
    · cases c4
    rename_i e1' he1
    refine ⟨m', wipeE e vs, h', d, e1', z2, (e0.ext (c1.trans z1)).toBlk, z3, he1, fun σ2 s1 s2 => ⟨(s2 vs ht).trans wipe_wipe, ?_⟩⟩
    split at c4
    · rename_i h2 hc2
      refine ⟨m', e1', h', _, h2, z2, s1, hc2, fun m3 H3 x3 y3 b hb => ?_⟩
      cases (show true = b from hb)
      rw [if_pos rfl]
      split at c4
      · rename_i xd h3 hm2
        refine ⟨m3, e1', h2, _, h3, y3, s1.ext x3, hm2, fun m4 H4 x4 y4 y hy => ?_⟩
        split at c4
        · rename_i acc hacc
          split at c4
          · rename_i hlt
            obtain ⟨p, us, w0, q2, q3, q4⟩ := ref_lstW y4 (x := .ref D) ⟨D, (c1.trans (z1.trans (x3.trans x4))).ix q1, rfl⟩ hacc
            cases w0
            obtain ⟨w1, w2⟩ := y4.write (ob := .lst (acc ++ [xd])) (o := .lst (us ++ [y])) q2 (lstW_some hacc) rfl rfl ⟨_, rfl, q4.append (RelDs.one hy)⟩
            exact ⟨us, q3, by rw [q4.length, ← Z_eq]; exact hlt, m4, _, c1.trans (z1.trans (x3.trans (x4.trans w2))), w1, c4⟩
          · cases c4
        · cases c4
      · cases c4
    · rename_i h2 hc2
      refine ⟨m', e1', h', _, h2, z2, s1, hc2, fun m3 H3 x3 y3 b hb => ?_⟩
      cases (show false = b from hb)
      rw [if_neg (fun z => nomatch z)]
      exact ⟨m3, h2, c1.trans (z1.trans x3), y3, c4⟩
    · cases c4
end
section
variable {G : Pc} {σ : L2.St} {H : Hp} {Q : VK}
theorem yes_if {A B : Hp → Prop} {σ : L2.St} {H : Hp} (h : A H) : tYes σ H (fun b H3 => if b = true then A H3 else B H3) := by
  unfold tYes
  exact h
/-- two clauses -/
theorem lc2_main {it it1 : M Src} {t t1 : Tg} {mm : M D} {vs vs1 : List Nat} (ht : ∀ i ∈ t.ixs, i ∈ vs) (ht1 : ∀ i ∈ t1.ixs, i ∈ vs1) (hyp : tG G G.R (lc2M vs it t it1 vs1 t1 mm) σ H Q) :
    tLc2 (iG G it) (gG G.blk t) tYes (iG G.blk it1) (gG G.blk t1) tYes (tG G.blk G.blk.R mm) vs vs1 σ H Q := by
  obtain ⟨m, e, h, r, h', a1, a2, a3, a4⟩ := hyp
  rcases bnd_some a3 with ⟨k, p, e1, rfl⟩ | ⟨s, h1, e1, e2⟩
  · exact ⟨m, e, h, _, h', a1, a2, e1, a4⟩
  refine ⟨m, e, h, _, h1, a1, a2, e1, fun m1 H1 x1 y1 J dr D hD => ?_⟩
  obtain ⟨hz, e3, e4⟩ := map_some e2
  cases e4
  generalize hhz : h' = h'0 at e3 a4
  obtain ⟨b1, b2, b3⟩ := new_lst (K := G.K) (w := G.w) (m := m1) (h := h1) (H := H1) (p := D) (ds := []) (vs := []) y1 hD RelDs.nil
  have e0 := ((a2.ext x1).ext b2).wipe vs
  obtain ⟨p, q1, q2⟩ := b3
  cases q2
  refine ⟨fun i n H' => n = s.len - i ∧ ∃ m' h', Ext (m1.add D) (upd H1 D (.lst [])) m' H' ∧ G.H m' h' H' ∧ i ≤ s.len ∧ lc2Loop s t it1 vs1 t1 mm h1.length (wipeE e vs) (s.len - i) i h' = some h'0, ⟨s.len, rfl, _, _, Ext.refl _ _, b1, Nat.zero_le _, e3⟩, ?_⟩
  rintro i n H' ⟨rfl, m', h', c1, c2, c3, c4⟩
  obtain ⟨d1, d2⟩ := dr m' h' H' (b2.trans c1) c2
  by_cases hi : i = s.len
  · subst hi
    rw [Nat.sub_self] at c4
    have c4 : (if s.done h' then some h' else none) = some h'0 := c4
    split at c4
    · rename_i hd
      cases c4
      exact .inl ⟨d2 hd, a4 m' H' (x1.trans (b2.trans c1)) c2 _ ⟨D, c1.ix q1, rfl⟩⟩
    · cases c4
  · obtain ⟨k, hk⟩ : ∃ k, s.len - i = k + 1 := ⟨s.len - i - 1, by omega⟩
    rw [hk] at c4
    dsimp only [lc2Loop] at c4
    split at c4
    · cases c4
    rename_i d hd
    obtain ⟨j1, j2⟩ := d1 i d hd
    refine .inr ⟨j1, fun H' => ∃ m' h', Ext (m1.add D) (upd H1 D (.lst [])) m' H' ∧ G.H m' h' H' ∧ lc2Loop s t it1 vs1 t1 mm h1.length (wipeE e vs) k (i + 1) h' = some h'0,
      fun H'' ⟨m', h', l1, l2, l3⟩ => ⟨k, by omega, by omega, m', h', l1, l2, by omega, by rw [show s.len - (i + 1) = k by omega]; exact l3⟩, fun x H'' hy => ?_⟩
    obtain ⟨z1, z2, z3⟩ := j2 x H'' hy
    split at c4
    · cases c4
    rename_i e1' he1
    refine ⟨m', wipeE e vs, h', d, e1', z2, (e0.ext (c1.trans z1)).toBlk, z3, he1, fun σ2 s1 s2 => ⟨(s2 vs ht).trans wipe_wipe, ?_⟩⟩
    refine yes_if ?_
    split at c4
    rotate_left
    · cases c4
    rename_i sr h2 hs2
    split at c4
    rotate_left
    · cases c4
    rename_i h3 hl3
    refine ⟨m', e1', h', _, h2, z2, s1, hs2, fun m3 H3 x3 y3 J1 dr1 => ?_⟩
    refine ⟨fun j n H4 => n = sr.len - j ∧ ∃ m4 h4, Ext m3 H3 m4 H4 ∧ G.H m4 h4 H4 ∧ j ≤ sr.len ∧ lcLoop sr t1 (ret true) mm h1.length (wipeE e1' vs1) (sr.len - j) j h4 = some h3, ⟨sr.len, rfl, _, _, Ext.refl _ _, y3, Nat.zero_le _, hl3⟩, ?_⟩
    rintro j n H4 ⟨rfl, m4, h4, f1, f2, f3, f4⟩
    obtain ⟨g1, g2⟩ := dr1 m4 h4 H4 f1 f2
    have ex4 := c1.trans (z1.trans (x3.trans f1))
    by_cases hj : j = sr.len
    · subst hj
      rw [Nat.sub_self] at f4
      have f4 : (if sr.done h4 then some h4 else none) = some h3 := f4
      split at f4
      · rename_i hd
        cases f4
        exact .inl ⟨g2 hd, m4, _, ex4, f2, c4⟩
      · cases f4
    · obtain ⟨k1, hk1⟩ : ∃ k1, sr.len - j = k1 + 1 := ⟨sr.len - j - 1, by omega⟩
      rw [hk1] at f4
      dsimp only [lcLoop] at f4
      split at f4
      · cases f4
      rename_i d' hd'
      obtain ⟨l1, l2⟩ := g1 j d' hd'
      refine .inr ⟨l1, fun H5 => ∃ m5 h5, Ext m3 H3 m5 H5 ∧ G.H m5 h5 H5 ∧ lcLoop sr t1 (ret true) mm h1.length (wipeE e1' vs1) k1 (j + 1) h5 = some h3,
        fun H'' ⟨m', h', l1, l2, l3⟩ => ⟨k1, by omega, by omega, m', h', l1, l2, by omega, by rw [show sr.len - (j + 1) = k1 by omega]; exact l3⟩, fun x' H5 hy' => ?_⟩
      obtain ⟨w1, w2, w3⟩ := l2 x' H5 hy'
      split at f4
      · cases f4
      rename_i e2' he2
      refine ⟨m4, wipeE e1' vs1, h4, d', e2', w2, ((s1.wipe vs1).ext (x3.trans (f1.trans w1))), w3, he2, fun σ3 v1 v2 => ⟨(v2 vs1 ht1).trans wipe_wipe, ?_⟩⟩
      refine yes_if ?_
      have f4 : (match mm e2' h4 with
          | some (.ok x, h2) => match lstW h2 h1.length with
            | some acc => if acc.length < Z then lcLoop sr t1 (ret true) mm h1.length (wipeE e1' vs1) k1 (j + 1) (h2.set h1.length (.lst (acc ++ [x]))) else none
            | none => none
          | _ => none) = some h3 := f4
      split at f4
      · rename_i xd h5 hm5
        refine ⟨m4, e2', h4, _, h5, w2, v1, hm5, fun m6 H6 x6 y6 y hy6 => ?_⟩
        split at f4
        · rename_i acc hacc
          split at f4
          · rename_i hlt
            obtain ⟨p, us, u0, u1, u2, u3⟩ := ref_lstW y6 (x := .ref D) ⟨D, (ex4.trans (w1.trans x6)).ix q1, rfl⟩ hacc
            cases u0
            obtain ⟨t1', t2'⟩ := y6.write (ob := .lst (acc ++ [xd])) (o := .lst (us ++ [y])) u1 (lstW_some hacc) rfl rfl ⟨_, rfl, u3.append (RelDs.one hy6)⟩
            exact ⟨us, u2, by rw [u3.length, ← Z_eq]; exact hlt, m6, _, f1.trans (w1.trans (x6.trans t2')), t1', f4⟩
          · cases f4
        · cases f4
      · cases f4
end
section
variable {X : Cx} {C : CE} {G : Pc} {F : Call} {S : Sm}
theorem folded {it : Expr} (h : isSetE it = false) : ∀ x, foldedSetIterable it X.env x = pure x := by
  intro x
  cases it <;> first | rfl | cases h
theorem blk_ok (f : Fit X C G F) {sc : Scope} {own : List (Str × Nat)} (h : blkC C.N C.sc sc own = true) : BlkOk X.N X.env.scope sc own := by
  rw [f.N, f.sc]
  exact blkOk_by h
theorem ixs_in {t : Tg} {vs : List Nat} (h : (t.ixs.all fun i => decide (i ∈ vs)) = true) : ∀ i ∈ t.ixs, i ∈ vs := fun i hi => of_decide_eq_true (List.all_eq_true.mp h i hi)
/-- what a comprehension asks -/
theorem compT_some {C : CE} {tg it : Expr} {sc : Scope} {t : Tg} (h : compT C tg it sc = some t) : C.calm = true ∧ blkC C.N C.sc sc (ownOf C.N sc) = true ∧ isSetE it = false ∧ tgOf (C.inBlk sc) tg = some t ∧ ∀ i ∈ t.ixs, i ∈ (ownOf C.N sc).map (·.2) := by
  unfold compT at h
  split at h
  · rename_i hc
    simp only [Bool.and_eq_true, Bool.not_eq_true'] at hc
    split at h
    · rename_i t' ht
      split at h
      · rename_i hi
        cases h
        exact ⟨hc.1.1, hc.1.2, hc.2, ht, ixs_in hi⟩
      · cases h
    · cases h
  · cases h
theorem yes_ret {σ : L2.St} {H : Hp} {Q : Bool → Hp → Prop} (h : tG G relB (ret true) σ H Q) : tYes σ H Q := by
  obtain ⟨m, e, hh, a1, a2, a3⟩ := tG_ret h
  exact a3 true rfl
theorem PTs.of {es : List Expr} {t t' : TT} (h : PTs X es t) (w : ∀ σ H Q, t' σ H Q → t σ H Q) : PTs X es t' := ⟨fun pins s σ H Q I q => h.run pins s σ H Q I (w σ H Q q)⟩
theorem comp_main {elt tg it : Expr} {ifs : List Expr} {sc : Scope} (hE : OkE S F) (hT : OkT S F) (hI : OkI S F) (f : Fit X C G F) {σ : L2.St} {H : Hp} {Q : VK} (h : tG G G.R (compE S C elt tg it ifs sc) σ H Q) :
    ∃ t c, compT C tg it sc = some t ∧ (∀ (s : Shared) (H : Hp) (a : Addr) (cl : List (Str × Addr)) (fp : List Addr), PTs (X.blk s H sc (compEnvC sc cl a X.env) fp) ifs (tG G.blk relB c)) ∧
      tLc (iG G (S.I C tg it)) (gG G.blk t) (tG G.blk relB c) (tG G.blk G.blk.R (frzE S (C.inBlk sc) elt)) ((ownOf C.N sc).map (·.2)) σ H Q := by
  unfold compE at h
  split at h
  · rename_i t ht
    obtain ⟨c1, c2, c3, c4, c5⟩ := compT_some ht
    split at h
    · exact ⟨t, _, ht, fun s H a cl fp => PTs.of pts_nil fun σ H Q q => yes_ret q, lc_main c5 h⟩
    · exact ⟨t, _, ht, fun s H a cl fp => pts_one (PT.of (hT _ _ _ (f.blk c1 sc s H a cl fp) _) fun σ H Q q => trimB_tG q), lc_main c5 h⟩
    · exact (tG_stuck h).elim
  · exact (tG_stuck h).elim
theorem e_lc {elt tg it : Expr} {ifs : List Expr} {sc : Scope} {pos : Pos} (hE : OkE S F) (hT : OkT S F) (hI : OkI S F) (f : Fit X C G F) :
    PE X (.ListComp elt [⟨tg, it, ifs, 0⟩] sc pos) (tG G G.R (compE S C elt tg it ifs sc)) := by
  refine ⟨fun pins s σ H Q I q => ?_⟩
  obtain ⟨t, c, ht, pt, q⟩ := comp_main hE hT hI f q
  obtain ⟨c1, c2, c3, c4, c5⟩ := compT_some ht
  exact (pe_lc (by rw [f.calm]; exact c1) (by rw [f.N]; exact f.nd) (hI X C G f tg it) (blk_ok f c2) (fun s H a cl fp => pg_tg (f.blk c1 sc s H a cl fp) c4) pt
    (fun s H a cl fp => frzE_ok (hE _ _ _ (f.blk c1 sc s H a cl fp) elt)) (folded c3)).run pins s σ H Q I q
theorem s_lc {elt tg it : Expr} {ifs : List Expr} {sc : Scope} {pos spos py : Pos} {i : Nat} {y : Str} (hE : OkE S F) (hT : OkT S F) (hI : OkI S F) (f : Fit X C G F) (hy : X.N[i]? = some y) (hyl : X.env.scope.names.lookup y = some .local)
    (hsw : swapsWith (.ListComp elt [⟨tg, it, ifs, 0⟩] sc pos) (some (.Name y py)) spos.line X.env = pure true) :
    PS X (.Assign [.Name y py] (.ListComp elt [⟨tg, it, ifs, 0⟩] sc pos) spos) (tAsg (tG G G.R (compE S C elt tg it ifs sc)) (gName i)) := by
  refine ⟨fun pins s σ H D I q => ?_⟩
  obtain ⟨t, c, ht, pt, q⟩ := comp_main hE hT hI f q
  obtain ⟨c1, c2, c3, c4, c5⟩ := compT_some ht
  exact (ps_setLc (by rw [f.calm]; exact c1) (by rw [f.N]; exact f.nd) hy hyl hsw (hI X C G f tg it) (blk_ok f c2) (fun s H a cl fp => pg_tg (f.blk c1 sc s H a cl fp) c4) pt
    (fun s H a cl fp => frzE_ok (hE _ _ _ (f.blk c1 sc s H a cl fp) elt)) (folded c3)).run pins s σ H D I q
theorem folded2 {it : Expr} (h : isSetE it = false) : ∀ env x, foldedSetIterable it env x = pure x := by
  intro env x
  cases it <;> first | rfl | cases h
theorem comp2_main {elt tg it tg1 it1 : Expr} {sc : Scope} {σ : L2.St} {H : Hp} {Q : VK} (h : tG G G.R (comp2E S C elt tg it tg1 it1 sc) σ H Q) :
    ∃ t t1, compT C tg it sc = some t ∧ tgOf (C.inBlk sc) tg1 = some t1 ∧ isSetE it1 = false ∧ (∀ i ∈ t1.ixs, i ∈ (ownOf C.N sc).map (·.2)) ∧
      tLc2 (iG G (S.I C tg it)) (gG G.blk t) tYes (iG G.blk (S.I (C.inBlk sc) tg1 it1)) (gG G.blk t1) tYes (tG G.blk G.blk.R (frzE S (C.inBlk sc) elt)) ((ownOf C.N sc).map (·.2)) t1.ixs σ H Q := by
  unfold comp2E at h
  split at h
  · rename_i t ht
    split at h
    · rename_i t1 ht1
      split at h
      · rename_i hc
        rw [Bool.and_eq_true, Bool.not_eq_true'] at hc
        exact ⟨t, t1, ht, ht1, hc.2, ixs_in hc.1, lc2_main (compT_some ht).2.2.2.2 (fun _ z => z) h⟩
      · exact (tG_stuck h).elim
    · exact (tG_stuck h).elim
  · exact (tG_stuck h).elim
theorem e_lc2 {elt tg it tg1 it1 : Expr} {sc : Scope} {pos : Pos} (hE : OkE S F) (hI : OkI S F) (f : Fit X C G F) :
    PE X (.ListComp elt [⟨tg, it, [], 0⟩, ⟨tg1, it1, [], 0⟩] sc pos) (tG G G.R (comp2E S C elt tg it tg1 it1 sc)) := by
  refine ⟨fun pins s σ H Q I q => ?_⟩
  obtain ⟨t, t1, ht, ht1, hs1, hv, q⟩ := comp2_main q
  obtain ⟨c1, c2, c3, c4, c5⟩ := compT_some ht
  exact (pe_lc2 (by rw [f.calm]; exact c1) (by rw [f.N]; exact f.nd) (hI X C G f tg it) (blk_ok f c2) hv (fun s H a cl fp => pg_tg (f.blk c1 sc s H a cl fp) c4) (fun s H a cl fp => pts_nil)
    (fun s H a cl fp => hI _ _ _ (f.blk c1 sc s H a cl fp) tg1 it1) (fun s H a cl fp => pg_tg (f.blk c1 sc s H a cl fp) ht1) (fun s H a cl fp => pts_nil)
    (fun s H a cl fp => frzE_ok (hE _ _ _ (f.blk c1 sc s H a cl fp) elt)) (folded c3) (folded2 hs1)).run pins s σ H Q I q
theorem s_lc2 {elt tg it tg1 it1 : Expr} {sc : Scope} {pos spos py : Pos} {i : Nat} {y : Str} (hE : OkE S F) (hI : OkI S F) (f : Fit X C G F) (hy : X.N[i]? = some y) (hyl : X.env.scope.names.lookup y = some .local)
    (hsw : swapsWith (.ListComp elt [⟨tg, it, [], 0⟩, ⟨tg1, it1, [], 0⟩] sc pos) (some (.Name y py)) spos.line X.env = pure true) :
    PS X (.Assign [.Name y py] (.ListComp elt [⟨tg, it, [], 0⟩, ⟨tg1, it1, [], 0⟩] sc pos) spos) (tAsg (tG G G.R (comp2E S C elt tg it tg1 it1 sc)) (gName i)) := by
  refine ⟨fun pins s σ H D I q => ?_⟩
  obtain ⟨t, t1, ht, ht1, hs1, hv, q⟩ := comp2_main q
  obtain ⟨c1, c2, c3, c4, c5⟩ := compT_some ht
  exact (ps_setLc2 (by rw [f.calm]; exact c1) (by rw [f.N]; exact f.nd) hy hyl hsw (hI X C G f tg it) (blk_ok f c2) hv (fun s H a cl fp => pg_tg (f.blk c1 sc s H a cl fp) c4) (fun s H a cl fp => pts_nil)
    (fun s H a cl fp => hI _ _ _ (f.blk c1 sc s H a cl fp) tg1 it1) (fun s H a cl fp => pg_tg (f.blk c1 sc s H a cl fp) ht1) (fun s H a cl fp => pts_nil)
    (fun s H a cl fp => frzE_ok (hE _ _ _ (f.blk c1 sc s H a cl fp) elt)) (folded c3) (folded2 hs1)).run pins s σ H D I q
end
end Dd

set_option Elab.async false
set_option linter.all false
set_option maxRecDepth 100000
set_option maxHeartbeats 4000000
namespace Dd
open PySem PySem.Spec PyProof.Rows L2

/-! # 19. {k: v for ..}, the keys tuples -/
/-- one more pair -/
theorem put_tup {X : Cx} {pins : List (Addr × Obj)} {σ : L2.St} {H : Hp} {s : Shared} {E : Value → Shared → Prop} {p b : Addr} {kvs : List (List Key × V)} {k : List Key} {v : V} {r : Value} {Q : Unit → Shared → Prop}
    (hu : X.A.units + 1 < cLine) (I : Inv X pins σ H s) (hp : H p = some (.dT kvs)) (hb : H b = some (.tup (k.map kV))) (hz : kvs.length < sizeLine) (rv : RelV v r) (q : ∀ t, Inv X pins σ (upd H p (.dT (putK kvs k v))) t → Q () t) :
    wpAny (model X.prog X.w) X.A (dictSet p (.ref b) r) Q E s := by
  obtain ⟨z, nd, xs, rel, dd⟩ := dt_of I.hok hp
  refine wpAny_dictSet_heap (hsz := by rw [← Paired.length rel]; exact z) (show X.A.units < cLine from Nat.lt_of_succ_lt hu) (key_of I.hok hb) dd fun h' ⟨o, es, ep, e1, e2, e3, e4, _, e5⟩ sb => q _ ?_
  have z' : (putK kvs k v).length ≤ sizeLine := Nat.le_trans (length_putK kvs k v) hz
  exact d_write I (by rw [hp]; exact True.intro) sb ⟨o, e1⟩
    ⟨z', nd, _, (rel.put k hb rv).keeps fun c ys ec => (upd_ne (ne_of ec hp (fun z => nomatch z))).trans ec, o, es, ep, e1, e2, e3, e4, e5⟩
section
variable {X : Cx}
def tDcT (wi : TI) (g : TG) (tk tv : TE) (vs : List Nat) : TE := fun σ H Q => wi σ H fun J H1 => ∀ p, H1 p = none → ∃ W : Nat → Nat → Hp → Prop, (∃ n, W 0 n (upd H1 p (.dT []))) ∧ ∀ i n H2, W i n H2 →
  (J.stop i H2 ∧ Q (.ref p) H2) ∨ (J.go i H2 ∧ ∃ Nx : Hp → Prop, (∀ H3, Nx H3 → ∃ n', n' < n ∧ W (i + 1) n' H3) ∧ ∀ x H3, J.yld i H2 x H3 → g x (wipe σ vs) H3 fun σ4 H4 => wipe σ4 vs = wipe σ vs ∧
    tk σ4 H4 fun y H5 => tv σ4 H5 fun z H6 => ∃ kvs k b, y = .ref b ∧ H6 b = some (.tup (k.map kV)) ∧ H6 p = some (.dT kvs) ∧ kvs.length < sizeLine ∧ Nx (upd H6 p (.dT (putK kvs k z))))
theorem dcT_core {pins : List (Addr × Obj)} {s : Shared} {σ : L2.St} {H : Hp} {Q : VK} {kx vx tg iter : Expr} {scope : Scope} {own : List (Str × Nat)} {pos pos' : Pos} {wi : TI} {g : TG} {tk tv : TE} {use : Option (Value → Sem Unit)} {Qf : Value → Shared → Prop}
    (hu : X.A.units + 1 < cLine) (hc : X.calm = true) (hN : X.N.Nodup) (I : Inv X pins σ H s) (hi : PI X tg iter wi) (ok : BlkOk X.N X.env.scope scope own)
    (hg : ∀ (s : Shared) (H : Hp) (a : Addr) (cl : List (Str × Addr)) (fp : List Addr), PG (X.blk s H scope (compEnvC scope cl a X.env) fp) tg g)
    (hk : ∀ (s : Shared) (H : Hp) (a : Addr) (cl : List (Str × Addr)) (fp : List Addr), PE (X.blk s H scope (compEnvC scope cl a X.env) fp) kx tk)
    (hv : ∀ (s : Shared) (H : Hp) (a : Addr) (cl : List (Str × Addr)) (fp : List Addr), PE (X.blk s H scope (compEnvC scope cl a X.env) fp) vx tv) (hs : ∀ x, foldedSetIterable iter X.env x = pure x)
    (h : tDcT wi g tk tv (own.map (·.2)) σ H Q)
    (fin : ∀ p c s' m H', Inv X pins σ H' s' → Q (.ref p) H' → s'.heap.Ns c m → FpOk X pins H' c → compPost (model X.prog X.w) X.A X.xe use Qf (.ref p) c (.ok .next) s') :
    wpAny (model X.prog X.w) X.A (comprehension (.DictComp kx vx [⟨tg, iter, [], 0⟩] scope pos) scope X.env pos' newDict false (eval iter X.env) use) Qf X.xe s := by
  have clo : ∀ y ∈ scope.names, y.2 = .free → ∃ c, X.env.cells.lookup y.1 = some c := fun y hy e => (ok.free y hy e).elim (fun k => I.ok.has _ (.inl k)) (fun k => I.ok.has _ (.inr k))
  refine wpAny_comprehension_free (use := use) rfl hs (closure_ok clo) ok.kind (fun y hy e => by rw [ok.uniq y hy, e]) (thn (hi.run pins s σ H _ I h) fun xv s1 hx => thn hx fun itv s2 h2 => ?_)
  obtain ⟨it, fp, tn, J, H2, rfl, I2, T, st2, f2, q⟩ := h2
  refine wpAny_newObj_type (newEnv_comp ?_)
  obtain ⟨p, hp⟩ : ∃ p, s2.heap.objs.size = p := ⟨_, rfl⟩
  obtain ⟨W, ⟨n0, w0⟩, turn⟩ := q p (I2.hok.fresh (Nat.le_of_eq hp))
  -- the dict
  obtain ⟨s3, e3⟩ : ∃ s3 : Shared, s3 = { s2 with heap := s2.heap.push { cls := .type "dict", data := .dict #[] } } := ⟨_, rfl⟩
  obtain ⟨H3, eH⟩ : ∃ H3, H3 = upd H2 p (.dT []) := ⟨_, rfl⟩
  have kp2 : ∀ b o, s2.heap.get? b = some o → s3.heap.get? b = some o := fun b o e => by rw [e3]; exact Heap.get?_push_of_some _ e
  have I3 : Inv X pins σ H3 s3 := by
    rw [e3, eH]
    refine I2.laid (t' := s2.toks) (fun b o e => Heap.get?_push_of_some _ e) (Nat.le_of_eq hp) ?_
    rw [← hp]
    exact dt_empty s2.heap I2.big
  have f3 : ∀ b ∈ fp, FpOk X pins H3 b ∧ b < s3.heap.objs.size := fun b hb => by
    obtain ⟨o, e, _⟩ := T.obj _ _ st2 b hb
    refine ⟨⟨?_, (f2 b hb).2⟩, Heap.lt_size (kp2 b o e)⟩
    rw [eH, upd_ne (by rw [← hp]; exact Nat.ne_of_lt (Heap.lt_size e))]
    exact (f2 b hb).1
  have st3 : tn 0 s3.heap := T.keep _ _ _ st2 fun b _ o e => kp2 b o e
  have I4 := block_start I3 ok hN f3
  obtain ⟨ce, ece⟩ : ∃ ce, ce = compEnvC scope (cellsFrom (s3.heap.objs.size + 1) scope.names (cloFrom X.env.cells scope.names [])) s3.heap.objs.size X.env := ⟨_, rfl⟩
  have pg := hg s3 H3 s3.heap.objs.size (cellsFrom (s3.heap.objs.size + 1) scope.names (cloFrom X.env.cells scope.names [])) fp
  have pk := hk s3 H3 s3.heap.objs.size (cellsFrom (s3.heap.objs.size + 1) scope.names (cloFrom X.env.cells scope.names [])) fp
  have pv := hv s3 H3 s3.heap.objs.size (cellsFrom (s3.heap.objs.size + 1) scope.names (cloFrom X.env.cells scope.names [])) fp
  obtain ⟨s4, e4⟩ : ∃ s4 : Shared, s4 = { s3 with heap := pushCells (s3.heap.push { cls := .type "dict", data := .dict #[] }) scope.names } := ⟨_, rfl⟩
  have st4 : tn 0 s4.heap := T.keep _ _ _ st3 fun b _ o e => by rw [e4]; exact pushCells_keeps _ _ _ _ (Heap.get?_push_of_some _ e)
  rw [← ece] at I4 pg pk pv
  rw [← e4] at I4
  have cl : ce.locals = s3.heap.objs.size := by rw [ece]; rfl
  have goal : codeAny (model X.prog X.w) X.A (.compStart (.DictComp kx vx [⟨tg, iter, [], 0⟩] scope pos) 0 (.ref it) (.ref p) ce) (compPost (model X.prog X.w) X.A X.xe use Qf (.ref p) s3.heap.objs.size) s4 := by
    have stat : ∀ {σ' : L2.St} {H' : Hp} {s' : Shared}, Inv (X.blk s3 H3 scope ce fp) [] σ' H' s' → (∀ b ∈ fp, H' b = none) → ∀ b ∈ fp, FpOk (X.blk s3 H3 scope ce fp) [] H' b := fun {σ' H' s'} J hn b hb =>
      ⟨hn b hb, (J.ok.exf b hb).1, J.ok.exfs b hb, .inl hb, fun x c e => (J.ok.exf b hb).2 x c e, fun p hp => absurd (show p ∈ ([] : List (Addr × Obj)) ++ [] from hp) (by simp)⟩
    have loop : codeAny (model X.prog X.w) X.A (.compLoop (.DictComp kx vx [⟨tg, iter, [], 0⟩] scope pos) 0 (.ref it) (.ref p) ce) (compPost (model X.prog X.w) X.A X.xe use Qf (.ref p) s3.heap.objs.size) s4 := by
      refine compLoop_anyD (fun n s' => ∃ i H', Inv (X.blk s3 H3 scope ce fp) [] (wipe σ (own.map (·.2))) H' s' ∧ tn i s'.heap ∧ (∀ b ∈ fp, H' b = none) ∧ W i n H') ?_ n0 ⟨0, H3, I4, st4, fun b hb => (f3 b hb).1.1, by rw [eH]; exact w0⟩
      rintro n s5 ⟨i, H5, I5, st5, n5, w5⟩
      rcases turn i n H5 w5 with ⟨stop, qq⟩ | ⟨go, Nx, hNx, step⟩
      · refine thnF (T.done (X.blk s3 H3 scope ce fp) rfl rfl rfl hc i [] s5 _ H5 (fun _ _ => False) I5 (stat I5 n5) st5 stop) fun r s6 ⟨hr, I6⟩ => ?_
        subst hr
        have I7 : Inv X pins σ H5 s6 := I3.call' (ch := fp) I6.os I6.base I6.hok I6.bare fun b hb => ⟨(f3 b hb).1.2.2.2.1, (f3 b hb).1.2.1, (f3 b hb).1.2.2.2.2.1, (f3 b hb).1.2.2.2.2.2⟩
        have z : H5 ce.locals = none := I6.free
        obtain ⟨mm, hn, _⟩ := I6.loc
        have hn : s6.heap.Ns ce.locals mm := hn
        rw [cl] at hn z
        exact fin p _ s6 mm H5 I7 qq hn (I3.fpOk (Nat.le_refl _) z)
      · refine thnF (T.item (X.blk s3 H3 scope ce fp) rfl rfl rfl hc i [] s5 _ H5 (fun _ _ => False) I5 (stat I5 n5) st5 go) fun r s6 ⟨u, hr, h6⟩ => ?_
        subst hr
        refine thnF h6 fun _ s7 ⟨x, H7, I7, r7, y7, st7, n7⟩ => ?_
        refine thnF (pg.run _ s7 _ H7 x u _ (I7.pinned (stat I7 n7) (T.obj _ _ st7)) r7 (step x H7 y7)) fun _ s8 ⟨σ8, H8, I8, hw8, q8⟩ => ?_
        refine thnF ((pts_nil (X := X.blk s3 H3 scope ce fp)).run _ s8 σ8 H8 (fun b H' => b = true ∧ H' = H8) I8 ⟨rfl, rfl⟩) fun b s9 ⟨H9, I9, hb, hH⟩ => ?_
        subst hb hH
        rw [if_pos rfl]
        refine thnF (pk.run _ s9 σ8 H9 _ I9 q8) fun ku s10 ⟨yk, H10, I10, r10, q10⟩ => ?_
        refine thnF (pv.run _ s10 σ8 H10 _ I10 q10) fun vu s11 ⟨yv, H11, I11, r11, kvs, k, b, ek, hb11, hp11, hz11, nx⟩ => ?_
        subst ek
        cases (show ku = Value.ref b from r10)
        refine put_tup (X := X.blk s3 H3 scope ce fp) hu I11 hp11 hb11 hz11 r11 fun s12 I12 => ?_
        obtain ⟨n', hn', w'⟩ := hNx _ nx
        have hold : ∀ b ∈ fp, ∀ o, s7.heap.get? b = some o → s12.heap.get? b = some o ∧ (upd H11 p (.dT (putK kvs k yv))) b = none := fun b hb o e =>
          let z := I12.pin (b, o) (List.mem_append_right _ (List.mem_append_right _ (mem_pinsAt hb e)))
          ⟨z.1, z.2.1⟩
        refine ⟨n', hn', i + 1, _, (I12.unpinned (pins := [])).weak (by rw [← hw8, wipe_length]) (fun j v e => ?_), T.keep _ _ _ st7 fun b hb o e => (hold b hb o e).1, fun b hb => ?_, w'⟩
        · rw [← hw8] at e
          exact (wipe_some e).1
        · obtain ⟨o, e, _⟩ := T.obj _ _ st7 b hb
          exact (hold b hb o e).2
    exact codeAny_compStart_dict loop (T.self X.A 0 _ _ _ st4 loop)
  rw [ece, e4] at goal
  rw [hp, ← e3]
  exact goal
theorem pe_dcT {kx vx tg iter : Expr} {scope : Scope} {own : List (Str × Nat)} {pos : Pos} {wi : TI} {g : TG} {tk tv : TE} (hu : X.A.units + 1 < cLine) (hc : X.calm = true) (hN : X.N.Nodup) (hi : PI X tg iter wi) (ok : BlkOk X.N X.env.scope scope own)
    (hg : ∀ (s : Shared) (H : Hp) (a : Addr) (cl : List (Str × Addr)) (fp : List Addr), PG (X.blk s H scope (compEnvC scope cl a X.env) fp) tg g)
    (hk : ∀ (s : Shared) (H : Hp) (a : Addr) (cl : List (Str × Addr)) (fp : List Addr), PE (X.blk s H scope (compEnvC scope cl a X.env) fp) kx tk)
    (hv : ∀ (s : Shared) (H : Hp) (a : Addr) (cl : List (Str × Addr)) (fp : List Addr), PE (X.blk s H scope (compEnvC scope cl a X.env) fp) vx tv) (hs : ∀ x, foldedSetIterable iter X.env x = pure x) :
    PE X (.DictComp kx vx [⟨tg, iter, [], 0⟩] scope pos) (tDcT wi g tk tv (own.map (·.2))) := by
  refine ⟨fun pins s σ H Q I h => ?_⟩
  rw [arm_eval_DictComp]
  refine dcT_core hu hc hN I hi ok hg hk hv hs h fun p c s' m H' I' q hn ⟨f0, f1, f2, f3, f4, f5⟩ => ⟨m, hn, fun h'' sb => ?_⟩
  exact ⟨.ref p, H', I'.turned (t' := s'.toks) (fun b o hb e => (sb.2 b hb).trans e) f0 f1 f3 f4 f5, rfl, q⟩
theorem ps_setDcT {i : Nat} {y : Str} {py spos : Pos} {kx vx tg iter : Expr} {scope : Scope} {own : List (Str × Nat)} {pos : Pos} {wi : TI} {g : TG} {tk tv : TE} (hu : X.A.units + 1 < cLine) (hc : X.calm = true) (hN : X.N.Nodup)
    (hy : X.N[i]? = some y) (hyl : X.env.scope.names.lookup y = some .local) (hsw : swapsWith (.DictComp kx vx [⟨tg, iter, [], 0⟩] scope pos) (some (.Name y py)) spos.line X.env = pure true) (hi : PI X tg iter wi) (ok : BlkOk X.N X.env.scope scope own)
    (hg : ∀ (s : Shared) (H : Hp) (a : Addr) (cl : List (Str × Addr)) (fp : List Addr), PG (X.blk s H scope (compEnvC scope cl a X.env) fp) tg g)
    (hk : ∀ (s : Shared) (H : Hp) (a : Addr) (cl : List (Str × Addr)) (fp : List Addr), PE (X.blk s H scope (compEnvC scope cl a X.env) fp) kx tk)
    (hv : ∀ (s : Shared) (H : Hp) (a : Addr) (cl : List (Str × Addr)) (fp : List Addr), PE (X.blk s H scope (compEnvC scope cl a X.env) fp) vx tv) (hs : ∀ x, foldedSetIterable iter X.env x = pure x) :
    PS X (.Assign [.Name y py] (.DictComp kx vx [⟨tg, iter, [], 0⟩] scope pos) spos) (tAsg (tDcT wi g tk tv (own.map (·.2))) (gName i)) := by
  refine ⟨fun pins s σ H D I h => ?_⟩
  rw [exec_Assign_Name_used _ _ _ _ hsw]
  refine wpAny_bind (wpAny_standAt (wpAny_bind ?_))
  show wpAny _ X.A (do let _ ← comprehension (.DictComp kx vx [⟨tg, iter, [], 0⟩] scope pos) scope X.env (firstIterPos [⟨tg, iter, [], 0⟩] pos) newDict false (eval iter X.env) (some (assign (.Name y py) X.env))) _ _ s
  have h : tDcT wi g tk tv (own.map (·.2)) σ H (fun x H1 => gName i x σ H1 D.nx) := h
  refine wpAny_bind (thn (dcT_core (Qf := fun _ s' => SP X pins D .next s') hu hc hN I hi ok hg hk hv hs h fun p c s' m H' I' q hn ⟨f0, f1, f2, f3, f4, f5⟩ => ?_) fun _ s' hq => wpAny_pure (wpAny_pure hq))
  refine wpAny_assign_Name (store_ok2 (v := V.ref p) I' hN hy (.inl hyl) rfl (fun s2 I2 ⟨a, sb, ha⟩ => ?_) (.inr hyl))
  have nc : c ≠ a := ha.elim (fun z => by rw [z]; exact f1) (fun z e => f4 y a z e.symm)
  exact ⟨m, hn.sameBut sb nc, fun h3 sb3 => ⟨_, H', I2.turned (t' := s2.toks) (fun b o hb e => (sb3.2 b hb).trans e) f0 f1 f3 f4 f5, q⟩⟩
end
end Dd

set_option Elab.async false
set_option linter.all false
set_option maxRecDepth 100000
set_option maxHeartbeats 4000000
namespace Dd
open PySem PySem.Spec PyProof.Rows L2

section
variable {κ : Type} [DecidableEq κ] {K : PySem.W.Frag} {w : World} {m : Mp} {H : Hp}
theorem KV_any2 (k : κ) : ∀ {kvs : List (κ × D)} {vs : List (κ × V)}, RelKV K w m H kvs vs → (vs.any fun p => decide (p.1 = k)) = (kvs.any fun p => decide (p.1 = k))
  | [], vs, g => by cases (show vs = [] from g); rfl
  | p :: ps, vs, g => by
    obtain ⟨v, r, rfl, g1, g2⟩ := g
    rw [List.any_cons, List.any_cons, KV_any2 k g2]
theorem KV_repl (k : κ) {d : D} {v : V} (gd : RelD K w m H d v) : ∀ {kvs : List (κ × D)} {vs : List (κ × V)}, RelKV K w m H kvs vs →
    RelKV K w m H (kvs.map fun p => if p.1 = k then (p.1, d) else p) (vs.map fun p => if p.1 = k then (p.1, v) else p)
  | [], vs, g => by cases (show vs = [] from g); rfl
  | p :: ps, vs, g => by
    obtain ⟨u, r, rfl, g1, g2⟩ := g
    rw [List.map_cons, List.map_cons]
    by_cases e : p.1 = k
    · rw [if_pos e, if_pos e]
      exact ⟨v, _, rfl, gd, KV_repl k gd g2⟩
    · rw [if_neg e, if_neg e]
      exact ⟨u, _, rfl, g1, KV_repl k gd g2⟩
theorem KV_snoc (k : κ) {d : D} {v : V} (gd : RelD K w m H d v) : ∀ {kvs : List (κ × D)} {vs : List (κ × V)}, RelKV K w m H kvs vs → RelKV K w m H (kvs ++ [(k, d)]) (vs ++ [(k, v)])
  | [], vs, g => by cases (show vs = [] from g); exact ⟨v, [], rfl, gd, rfl⟩
  | p :: ps, vs, g => by
    obtain ⟨u, r, rfl, g1, g2⟩ := g
    exact ⟨u, _, rfl, g1, KV_snoc k gd g2⟩
theorem KV_put {kvs : List (κ × D)} {vs : List (κ × V)} (k : κ) {d : D} {v : V} (g : RelKV K w m H kvs vs) (gd : RelD K w m H d v) : RelKV K w m H (putD kvs k d) (putK vs k v) := by
  unfold putD putK
  rw [KV_any2 k g]
  split
  · exact KV_repl k gd g
  · exact KV_snoc k gd g
theorem KV_len : ∀ {kvs : List (κ × D)} {vs : List (κ × V)}, RelKV K w m H kvs vs → vs.length = kvs.length := fun g => (KV_any g).2
end
theorem ref_dt {K : PySem.W.Frag} {w : World} {kc : Nat → Addr} {m : Mp} {h : DH} {H : Hp} (r : RH K w kc m h H) {i : Nat} {a : Addr} (ha : m.l[i]? = some a) {kvs : List (List Key × D)} (e : h[i]? = some (.dt kvs)) : ∃ vs, H a = some (.dT vs) ∧ RelKV K w m H kvs vs := by
  obtain ⟨o, e1, vs, rfl, g⟩ := r.get ha e
  exact ⟨vs, e1, g⟩
theorem ref_dk {K : PySem.W.Frag} {w : World} {kc : Nat → Addr} {m : Mp} {h : DH} {H : Hp} (r : RH K w kc m h H) {i : Nat} {a : Addr} (ha : m.l[i]? = some a) {kvs : List (Key × D)} (e : h[i]? = some (.dk kvs)) : ∃ vs, H a = some (.dK vs) ∧ RelKV K w m H kvs vs := by
  obtain ⟨o, e1, vs, rfl, g⟩ := r.get ha e
  exact ⟨vs, e1, g⟩
section
variable {G : Pc} {σ : L2.St} {H : Hp} {Q : VK}
/-- the walk of a dict comprehension -/
theorem dc_main {it : M Src} {t : Tg} {mk mv : M D} {vs : List Nat} (ht : ∀ i ∈ t.ixs, i ∈ vs) (hyp : tG G G.R (dcM vs it t mk mv) σ H Q) :
    tDcT (iG G it) (gG G.blk t) (tG G.blk G.blk.R mk) (tG G.blk G.blk.R mv) vs σ H Q := by
  obtain ⟨m, e, h, r, h', a1, a2, a3, a4⟩ := hyp
  rcases bnd_some a3 with ⟨k, p, e1, rfl⟩ | ⟨s, h1, e1, e2⟩
  · exact ⟨m, e, h, _, h', a1, a2, e1, a4⟩
  refine ⟨m, e, h, _, h1, a1, a2, e1, fun m1 H1 x1 y1 J dr D hD => ?_⟩
  obtain ⟨hz, e3, e4⟩ := map_some e2
  cases e4
  obtain ⟨b1, b2⟩ := y1.alloc (p := D) (ob := .dt []) (o := .dT []) hD ⟨[], rfl, rfl⟩ rfl
  have q1 : (m1.add D).l[h1.length]? = some D := ix_last y1
  have e0 := ((a2.ext x1).ext b2).wipe vs
  refine ⟨fun i n H' => n = s.len - i ∧ ∃ m' h'', Ext (m1.add D) (upd H1 D (.dT [])) m' H' ∧ G.H m' h'' H' ∧ i ≤ s.len ∧ dcLoop s t mk mv h1.length (wipeE e vs) (s.len - i) i h'' = some h', ⟨s.len, rfl, _, _, Ext.refl _ _, b1, Nat.zero_le _, e3⟩, ?_⟩
  rintro i n H' ⟨rfl, m', h'', c1, c2, c3, c4⟩
  obtain ⟨d1, d2⟩ := dr m' h'' H' (b2.trans c1) c2
  by_cases hi : i = s.len
  · subst hi
    rw [Nat.sub_self] at c4
    have c4 : (if s.done h'' then some h'' else none) = some h' := c4
    split at c4
    · rename_i hd
      cases c4
      exact .inl ⟨d2 hd, a4 m' H' (x1.trans (b2.trans c1)) c2 _ ⟨D, c1.ix q1, rfl⟩⟩
    · cases c4
  · obtain ⟨k, hk⟩ : ∃ k, s.len - i = k + 1 := ⟨s.len - i - 1, by omega⟩
    rw [hk] at c4
    dsimp only [dcLoop] at c4
    split at c4
    · cases c4
    rename_i d hd
    obtain ⟨j1, j2⟩ := d1 i d hd
    refine .inr ⟨j1, fun H' => ∃ m' h'', Ext (m1.add D) (upd H1 D (.dT [])) m' H' ∧ G.H m' h'' H' ∧ dcLoop s t mk mv h1.length (wipeE e vs) k (i + 1) h'' = some h',
      fun H'' ⟨m', h'', l1, l2, l3⟩ => ⟨k, by omega, by omega, m', h'', l1, l2, by omega, by rw [show s.len - (i + 1) = k by omega]; exact l3⟩, fun x H'' hy => ?_⟩
    obtain ⟨z1, z2, z3⟩ := j2 x H'' hy
    split at c4
    · cases c4
    rename_i e1' he1
    refine ⟨m', wipeE e vs, h'', d, e1', z2, (e0.ext (c1.trans z1)).toBlk, z3, he1, fun σ2 s1 s2 => ⟨(s2 vs ht).trans wipe_wipe, ?_⟩⟩
    split at c4
    · rename_i ks h2 hc2
      refine ⟨m', e1', h'', _, h2, z2, s1, hc2, fun m3 H3 x3 y3 y gy => ?_⟩
      split at c4
      · rename_i xd h3 hm2
        refine ⟨m3, e1', h2, _, h3, y3, s1.ext x3, hm2, fun m4 H4 x4 y4 z gz => ?_⟩
        split at c4
        · rename_i kk kvs hkk hacc
          split at c4
          · rename_i hlt
            have ix := (c1.trans (z1.trans (x3.trans x4))).ix q1
            obtain ⟨us, q3, q4⟩ := ref_dt y4 ix hacc
            obtain ⟨b, bs, rfl, hb, gb⟩ := RelD.ext x4 (.tup ks) y gy
            obtain ⟨w1, w2⟩ := y4.write (ob := .dt (putD kvs kk xd)) (o := .dT (putK us kk z)) ix hacc rfl rfl ⟨_, rfl, KV_put kk q4 gz⟩
            exact ⟨us, kk, b, rfl, by rw [hb, keysD_rel hkk gb], q3, by rw [KV_len q4, ← Z_eq]; exact hlt, m4, _, c1.trans (z1.trans (x3.trans (x4.trans w2))), w1, c4⟩
          · cases c4
        · cases c4
      · cases c4
    · cases c4
end
section
variable {X : Cx} {C : CE} {G : Pc} {F : Call} {S : Sm}
theorem dcomp_main {k v tg it : Expr} {sc : Scope} {σ : L2.St} {H : Hp} {Q : VK} (h : tG G G.R (dcompE S C k v tg it sc) σ H Q) :
    ∃ t, compT C tg it sc = some t ∧ tDcT (iG G (S.I C tg it)) (gG G.blk t) (tG G.blk G.blk.R (frzE S (C.inBlk sc) k)) (tG G.blk G.blk.R (frzE S (C.inBlk sc) v)) ((ownOf C.N sc).map (·.2)) σ H Q := by
  unfold dcompE at h
  split at h
  · rename_i t ht
    exact ⟨t, ht, dc_main (compT_some ht).2.2.2.2 h⟩
  · exact (tG_stuck h).elim
theorem e_dc {k v tg it : Expr} {sc : Scope} {pos : Pos} (hE : OkE S F) (hI : OkI S F) (f : Fit X C G F) : PE X (.DictComp k v [⟨tg, it, [], 0⟩] sc pos) (tG G G.R (dcompE S C k v tg it sc)) := by
  refine ⟨fun pins s σ H Q I q => ?_⟩
  obtain ⟨t, ht, q⟩ := dcomp_main q
  obtain ⟨c1, c2, c3, c4, c5⟩ := compT_some ht
  exact (pe_dcT (by have := f.un; omega) (by rw [f.calm]; exact c1) (by rw [f.N]; exact f.nd) (hI X C G f tg it) (blk_ok f c2) (fun s H a cl fp => pg_tg (f.blk c1 sc s H a cl fp) c4)
    (fun s H a cl fp => frzE_ok (hE _ _ _ (f.blk c1 sc s H a cl fp) k)) (fun s H a cl fp => frzE_ok (hE _ _ _ (f.blk c1 sc s H a cl fp) v)) (folded c3)).run pins s σ H Q I q
theorem s_dc {k v tg it : Expr} {sc : Scope} {pos spos py : Pos} {i : Nat} {y : Str} (hE : OkE S F) (hI : OkI S F) (f : Fit X C G F) (hy : X.N[i]? = some y) (hyl : X.env.scope.names.lookup y = some .local)
    (hsw : swapsWith (.DictComp k v [⟨tg, it, [], 0⟩] sc pos) (some (.Name y py)) spos.line X.env = pure true) :
    PS X (.Assign [.Name y py] (.DictComp k v [⟨tg, it, [], 0⟩] sc pos) spos) (tAsg (tG G G.R (dcompE S C k v tg it sc)) (gName i)) := by
  refine ⟨fun pins s σ H D I q => ?_⟩
  obtain ⟨t, ht, q⟩ := dcomp_main q
  obtain ⟨c1, c2, c3, c4, c5⟩ := compT_some ht
  exact (ps_setDcT (by have := f.un; omega) (by rw [f.calm]; exact c1) (by rw [f.N]; exact f.nd) hy hyl hsw (hI X C G f tg it) (blk_ok f c2) (fun s H a cl fp => pg_tg (f.blk c1 sc s H a cl fp) c4)
    (fun s H a cl fp => frzE_ok (hE _ _ _ (f.blk c1 sc s H a cl fp) k)) (fun s H a cl fp => frzE_ok (hE _ _ _ (f.blk c1 sc s H a cl fp) v)) (folded c3)).run pins s σ H D I q
/-! # 20. Displays of dicts -/
def RelPs (K : PySem.W.Frag) (w : World) (m : Mp) (H : Hp) (ds : List (D × D)) (vs : List (V × V)) : Prop := RelDs K w m H (ds.map (·.1)) (vs.map (·.1)) ∧ RelDs K w m H (ds.map (·.2)) (vs.map (·.2))
theorem pairs_main {σ : L2.St} : ∀ {ms : List (M D × M D)} {H : Hp} {Q : List (V × V) → Hp → Prop} {m : Mp} {e : DE} {h h' : DH} {kvs : List (D × D)}, G.H m h H → EnvR G m H e σ → dispL ms e h = some (.ok kvs, h') →
    (∀ m' H', Ext m H m' H' → G.H m' h' H' → ∀ ps, RelPs G.K G.w m' H' kvs ps → Q ps H') → tPairs (ms.map fun p => (tG G G.R p.1, tG G G.R p.2)) σ H Q
  | [], H, Q, m, e, h, h', kvs, a1, a2, a3, a4 => by
    cases a3
    exact a4 m H (Ext.refl _ _) a1 [] ⟨rfl, rfl⟩
  | p :: ms, H, Q, m, e, h, h', kvs, a1, a2, a3, a4 => by
    rcases bnd_some a3 with ⟨c, q, _, z⟩ | ⟨k, h1, e1, e2⟩
    · cases z
    rcases bnd_some e2 with ⟨c, q, _, z⟩ | ⟨v, h2, e3, e4⟩
    · cases z
    rcases bnd_some e4 with ⟨c, q, _, z⟩ | ⟨rs, h3, e5, e6⟩
    · cases z
    cases e6
    refine ⟨m, e, h, _, h1, a1, a2, e1, fun m1 H1 x1 y1 x gx => ?_⟩
    refine ⟨m1, e, h1, _, h2, y1, a2.ext x1, e3, fun m2 H2 x2 y2 y gy => ?_⟩
    refine pairs_main y2 ((a2.ext x1).ext x2) e5 fun m3 H3 x3 y3 ps gp => ?_
    exact a4 m3 H3 (x1.trans (x2.trans x3)) y3 _ ⟨⟨x, _, rfl, gx.ext (x2.trans x3), gp.1⟩, ⟨y, _, rfl, gy.ext x3, gp.2⟩⟩
theorem dispKV_rel {K : PySem.W.Frag} {w : World} {m : Mp} {H : Hp} : ∀ {ds : List (D × D)} {l : List (Key × D)} {ps : List (V × V)}, dispKV ds = some l → RelPs K w m H ds ps → ∃ vs : List (Key × V), ps = vs.map (fun kv => (kV kv.1, kv.2)) ∧ RelKV K w m H l vs
  | [], l, ps, e, g => by
    cases (show some [] = some l from e)
    have : ps = [] := List.map_eq_nil_iff.mp (show ps.map (·.1) = [] from g.1)
    subst this
    exact ⟨[], rfl, rfl⟩
  | d :: ds, l, ps, e, g => by
    obtain ⟨g1, g2⟩ := g
    cases ps with
    | nil => obtain ⟨v, r, z, _⟩ := g1; cases z
    | cons p ps =>
      obtain ⟨v, r, z, h1, h2⟩ := g1
      cases z
      obtain ⟨v', r', z', h3, h4⟩ := g2
      cases z'
      obtain ⟨q, qs, e1, e2, e3⟩ := mapM_cons_some e
      cases e3
      obtain ⟨k, e4, e5⟩ := map_some e1
      subst e5
      obtain ⟨vs, rfl, gr⟩ := dispKV_rel (ps := ps) e2 ⟨h2, h4⟩
      exact ⟨(k, p.2) :: vs, by rw [List.map_cons]; dsimp only; rw [← keyD_rel e4 h1], p.2, vs, rfl, h3, gr⟩
theorem KV_merge {K : PySem.W.Frag} {w : World} {m : Mp} {H : Hp} : ∀ {l : List (Key × D)} {vs : List (Key × V)} {acc : List (Key × D)} {av : List (Key × V)}, RelKV K w m H l vs → RelKV K w m H acc av →
    RelKV K w m H (l.foldl (fun acc kv => putD acc kv.1 kv.2) acc) (mergeK av vs)
  | [], vs, acc, av, g, ga => by cases (show vs = [] from g); exact ga
  | p :: l, vs, acc, av, g, ga => by
    obtain ⟨v, r, rfl, g1, g2⟩ := g
    have z := KV_merge (l := l) (vs := r) g2 (KV_put p.1 ga g1)
    exact z
theorem disp_main {ms : List (M D × M D)} {σ : L2.St} {H : Hp} {Q : VK} (hyp : tG G G.R (dispM ms) σ H Q) : tDisp (ms.map fun p => (tG G G.R p.1, tG G G.R p.2)) σ H Q := by
  obtain ⟨m, e, h, r, h', a1, a2, a3, a4⟩ := hyp
  intro p hp
  unfold dispM at a3
  split at a3
  · rename_i kvs h1 e1
    split at a3
    · rename_i l e2 e3
      split at a3
      · rename_i hl
        cases a3
        obtain ⟨b1, b2⟩ := a1.alloc (p := p) (ob := .dk []) (o := .dK []) hp ⟨[], rfl, rfl⟩ rfl
        have q1 : (m.add p).l[h.length]? = some p := ix_last a1
        refine pairs_main b1 (a2.ext b2) e1 fun m' H' x y ps gp => ?_
        obtain ⟨us, q3, q4⟩ := ref_dk y (x.ix q1) e2
        cases (show us = [] from q4)
        obtain ⟨vs, rfl, gv⟩ := dispKV_rel e3 gp
        have gm := KV_merge gv (acc := []) (av := []) (show RelKV G.K G.w m' H' [] [] from rfl)
        obtain ⟨w1, w2⟩ := y.write (ob := .dk (l.foldl (fun acc kv => putD acc kv.1 kv.2) [])) (o := .dK (mergeK [] vs)) (x.ix q1) e2 rfl rfl ⟨_, rfl, gm⟩
        exact ⟨q3, vs, rfl, by rw [KV_len gv]; exact hl, a4 m' _ (b2.trans (x.trans w2)) w1 _ ⟨p, x.ix q1, rfl⟩⟩
      · cases a3
    · cases a3
  · cases a3
theorem pps_all {pos : Pos} {g : Expr → M D} (hE : ∀ e, PE X e (tG G G.R (g e))) : ∀ {keys : List (Option Expr)} {vals : List Expr}, keys.all Option.isSome = true → keys.length = vals.length →
    PPs X pos keys vals (((keys.zip vals).map fun p => ((match p.1 with | some k => g k | none => (stuck : M D)), g p.2)).map fun p => (tG G G.R p.1, tG G G.R p.2))
  | [], [], _, _ => pps_nil
  | some k :: ks, v :: vs, h1, h2 => pps_cons (hE k) (hE v) (pps_all hE (by simpa using h1) (by simpa using h2))
  | none :: ks, v :: vs, h1, h2 => by simp at h1
theorem e_disp {keys : List (Option Expr)} {vals : List Expr} {pos : Pos} (hE : ∀ e, PE X e (tG G G.R (S.E C e))) (h1 : keys.all Option.isSome = true) (h2 : keys.length = vals.length) (h3 : keys ≠ []) (h4 : keys.length ≤ 15) :
    PE X (.Dict keys vals pos) (tG G G.R (dispM ((keys.zip vals).map fun p => (match p.1 with | some k => S.E C k | none => stuck, S.E C p.2)))) :=
  PE.of (pe_disp (pps_all hE h1 h2) h1 h2 h3 h4) fun σ H Q h => disp_main h
end
end Dd

set_option Elab.async false
set_option linter.all false
set_option maxRecDepth 100000
set_option maxHeartbeats 4000000
namespace Dd
open PySem PySem.Spec PyProof.Rows L2

/-! # 21. Every expression of the semantics is walked -/
theorem plainIx {b : Expr} (h : isSl b = false) : PlainIx b := by
  intro o i
  cases b <;> first | rfl | cases h
theorem marks2 {op op' : PySem.CmpOp} {f g : D → D → DH → Option (D × DH)} {b c : Expr} (h : ordD op = some f) (h' : ordD op' = some g) : lastMarks [op, op'] [b, c] = false :=
  nomark c (fun e => by subst e; cases h') (fun e => by subst e; cases h')
section
variable {G : Pc} {σ : L2.St} {H : Hp} {Q : VK}
theorem ret_val {d : D} {v : V} (hv : ∀ m H, G.R m H d v) (h : tG G G.R (ret d) σ H Q) : Q v H := by
  obtain ⟨m, e, hh, a1, a2, a3⟩ := tG_ret h
  exact a3 v (hv m H)
theorem notV_tG {ma : M D} (h : tG G G.R (notV ma) σ H Q) : tNotV (tG G G.R ma) σ H Q := (tG_bnd h).mono fun x H1 h1 => tA1_not h1
theorem tup_main {xs : List V} (h : rDN G tupM xs H Q) : xs.length ≤ sizeLine ∧ ∀ p, H p = none → Q (.ref p) (upd H p (.tup xs)) := by
  obtain ⟨m, hh, as, d, h', a1, ra, e, q⟩ := h
  unfold tupM at e
  split at e
  · rename_i hz
    cases e
    refine ⟨by rw [RelDs.length ra, ← Z_eq]; exact hz, fun p hp => ?_⟩
    obtain ⟨b1, b2, b3⟩ := new_tup (K := G.K) (w := G.w) a1 hp ra
    exact q m _ _ b2 b1 b3
  · cases e
theorem lst_main {xs : List V} (h : rDN G lstM xs H Q) : xs.length ≤ sizeLine ∧ ∀ p, H p = none → Q (.ref p) (upd H p (.lst xs)) := by
  obtain ⟨m, hh, as, d, h', a1, ra, e, q⟩ := h
  unfold lstM at e
  split at e
  · rename_i hz
    cases e
    refine ⟨by rw [RelDs.length ra, ← Z_eq]; exact hz, fun p hp => ?_⟩
    obtain ⟨b1, b2, b3⟩ := new_lst (K := G.K) (w := G.w) a1 hp ra
    exact q _ _ _ b2 b1 b3
  · cases e
/-- a slice -/
theorem slice_main {ma : M D} {lo hi : M (Option Int)} (h : tG G G.R (sliceM ma lo hi) σ H Q) : tSl (rDSl G) (tG G G.R ma) (tG G relQ lo) (tG G relQ hi) σ H Q := by
  obtain ⟨m, e, hh, r, h', a1, a2, a3, a4⟩ := h
  rcases bnd_some a3 with ⟨c, p, e1, rfl⟩ | ⟨d, h1, e1, e2⟩
  · exact ⟨m, e, hh, _, h', a1, a2, e1, a4⟩
  refine ⟨m, e, hh, _, h1, a1, a2, e1, fun m1 H1 x1 y1 x gx => ?_⟩
  rcases bnd_some e2 with ⟨c, p, e3, rfl⟩ | ⟨l, h2, e3, e4⟩
  · exact ⟨m1, e, h1, _, h', y1, a2.ext x1, e3, fun m' H' x y => a4 m' H' (x1.trans x) y⟩
  refine ⟨m1, e, h1, _, h2, y1, a2.ext x1, e3, fun m2 H2 x2 y2 l' hl => ?_⟩
  cases (show l = l' from hl)
  rcases bnd_some e4 with ⟨c, p, e5, rfl⟩ | ⟨u, h3, e5, e6⟩
  · exact ⟨m2, e, h2, _, h', y2, (a2.ext x1).ext x2, e5, fun m' H' x y => a4 m' H' (x1.trans (x2.trans x)) y⟩
  refine ⟨m2, e, h2, _, h3, y2, (a2.ext x1).ext x2, e5, fun m3 H3 x3 y3 u' hu => ?_⟩
  cases (show u = u' from hu)
  obtain ⟨z, rfl, e7⟩ := lift_some e6
  exact ⟨m3, h3, d, z, h', y3, (gx.ext x2).ext x3, e7, fun m' H' v x y z => a4 m' H' (x1.trans (x2.trans (x3.trans x))) y v z⟩
end
section
variable {X : Cx} {C : CE} {G : Pc} {F : Call} {S : Sm}
theorem e_call (hE : OkE S F) (f : Fit X C G F) (fn : Str) (as : List Expr) (p pos : Pos) : PE X (.Call (.Name fn p) as [] pos) (tG G G.R (callE F S C fn as)) := by
  have iE := hE X C G f
  have iF := fun e => frzE_ok (C := C) (S := S) (iE e)
  unfold callE
  split
  · rename_i hg
    simp only [Bool.and_eq_true, decide_eq_true_eq] at hg
    obtain ⟨⟨hs, h30⟩, hgl⟩ := hg
    split
    · rename_i i ar k hx
      split
      · rename_i hc
        simp only [Bool.and_eq_true, decide_eq_true_eq] at hc
        obtain ⟨⟨c1, c2⟩, c3⟩ := hc
        cases as with
        | nil => rw [← c2] at c3; exact absurd c3 (Nat.lt_irrefl _)
        | cons a as =>
          split
          · exact e_fnP f hx hgl c1 hs (pa_all iF hs)
          · exact PE.of (e_fn f hx hgl c1 hs (pa_all iF hs)) fun σ H Q h => frz_tG h
          · exact e_fn f hx hgl c1 hs (pa_all iF hs)
          · exact PE.never fun σ H Q h => tG_stuck h
      · exact PE.never fun σ H Q h => tG_stuck h
    · split
      · rename_i hf
        subst hf
        split
        · rename_i a T pT
          split
          · rename_i hT
            split
            · rename_i t ht
              rw [List.all_cons, Bool.and_eq_true] at hs
              exact e_isin f (iE a) hs.1 hgl hT ht
            · exact PE.never fun σ H Q h => tG_stuck h
          · exact PE.never fun σ H Q h => tG_stuck h
        · exact PE.never fun σ H Q h => tG_stuck h
      · split
        · rename_i b hb
          split
          · exact PE.never fun σ H Q h => tG_stuck h
          · rename_i hc
            cases as with
            | nil => simp at hc
            | cons a as =>
              refine e_blt f hb hgl ?_ hs (pa_all iE hs)
              cases hh : (needsCalm b && !C.calm) with
              | false => rfl
              | true => rw [hh] at hc; exact absurd rfl hc
        · exact PE.never fun σ H Q h => tG_stuck h
  · exact PE.never fun σ H Q h => tG_stuck h
theorem e_attr (f : Fit X C G F) (x nm : Str) (p pos : Pos) : PE X (.Attribute (.Name x p) nm pos) (tG G G.R (stepE F S C (.Attribute (.Name x p) nm pos))) := by
  dsimp only [stepE]
  cases hk : C.hk with
  | none => exact PE.never fun σ H Q h => tG_stuck h
  | some q =>
    obtain ⟨i, c⟩ := q
    dsimp only
    split
    · rename_i hc
      rw [Bool.and_eq_true] at hc
      have hv : visIx C x = some i := of_decide_eq_true hc.1
      obtain ⟨y, e1, e2⟩ := map_some (of_decide_eq_true hc.2).symm.symm
      obtain ⟨y1, y2⟩ := y
      have e2 : nm = y2 := e2
      subst e2
      have e3 := f.excF c y1 nm e1
      subst e3
      obtain ⟨a, dd, g1, g2⟩ := f.hk1 i c hk
      obtain ⟨h1, h2, h3⟩ := f.vis hv
      obtain ⟨p1, p2, _⟩ := plain_ne h3
      refine PE.of (g2 _ _ pos (pe_var h1 h2 p1 p2) rfl) fun σ H Q h => ?_
      obtain ⟨m, e, hh, r, h', a1, a2, a3, a4⟩ := h
      have a3 : var i e hh = some (r, h') := a3
      dsimp only [var] at a3
      split at a3
      · rename_i d ed
        cases a3
        have sl := a2.slot i d ed
        unfold SlotR at sl
        rw [g1] at sl
        dsimp only at sl
        rw [if_pos rfl] at sl
        obtain ⟨s1, u, s2, s3⟩ := sl
        exact ⟨_, s1, rfl, u, s2, a4 m H (Ext.refl _ _) a1 u s3⟩
      · cases a3
    · exact PE.never fun σ H Q h => tG_stuck h
theorem ok_E (hE : OkE S F) (hT : OkT S F) (hI : OkI S F) (hO : OkO S F) : OkE (stepQ F S) F := by
  intro X C G f e
  have iE := hE X C G f
  have nv : ∀ {e : Expr}, PE X e (tG G G.R (stuck : M D)) := PE.never fun σ H Q h => tG_stuck h
  show PE X e (tG G G.R (stepE F S C e))
  unfold stepE
  split
  · exact PE.of pe_int fun σ H Q h => ret_val (G := G) (d := .int _) (fun m H => rfl) h
  · exact PE.of pe_bl fun σ H Q h => ret_val (G := G) (d := .bl _) (fun m H => rfl) h
  · exact PE.of pe_non fun σ H Q h => ret_val (G := G) (d := .non) (fun m H => rfl) h
  · exact PE.of pe_str fun σ H Q h => ret_val (G := G) (d := .str _) (fun m H => rfl) h
  · exact e_name (S := S) f _ _
  · split
    · rename_i hf
      exact PE.of (pe_op (o_bin f.K f.w hf) (iE _) (iE _)) fun σ H Q h => op2_tG h
    · exact nv
  · exact PE.of (pe_un (o_neg f.K f.w) (iE _)) fun σ H Q h => op1_tG h
  · exact PE.of (pe_not (iE _)) fun σ H Q h => notV_tG h
  · exact pe_one (iE _)
  · exact PE.of (pe_and (iE _) (iE _)) fun σ H Q h => andV_tG h
  · exact PE.of (pe_or (iE _) (iE _)) fun σ H Q h => orV_tG h
  · exact PE.of (pe_ifExp (hT X C G f _) (iE _) (iE _)) fun σ H Q h => ite_tG h
  · split
    · exact nv
    · rename_i hb
      split
      · rename_i hf
        exact PE.of (pe_cmpR (o_cmp f.K f.w hf f.un) (iE _) (iE _) (setMark (by simpa using hb))) fun σ H Q h => op2_tG h
      · exact nv
  · split
    · rename_i h1 h2
      exact PE.of (pe_chain (o_ord f.K f.w h1) (o_ord f.K f.w h2) (iE _) (iE _) (iE _) (marks2 h1 h2)) fun σ H Q h => chn_tG h
    · exact nv
  · split
    · rename_i hs
      exact PE.of (pe_tup (pa_all iE hs)) fun σ H Q h => (opN_tG h).mono fun xs H1 h1 => tup_main h1
    · exact nv
  · split
    · rename_i hs
      exact PE.of (pe_lst (pa_all iE hs)) fun σ H Q h => (opN_tG h).mono fun xs H1 h1 => lst_main h1
    · exact nv
  · split
    · refine PE.of pe_dnewT fun σ H Q h => ?_
      intro d hd
      obtain ⟨m, e, hh, r, h', a1, a2, a3, a4⟩ := h
      cases a3
      obtain ⟨b1, b2⟩ := a1.alloc (p := d) (ob := .dt []) (o := .dT []) hd ⟨[], rfl, rfl⟩ rfl
      exact a4 _ _ b2 b1 _ ⟨d, ix_last a1, rfl⟩
    · refine PE.of pe_dnewK fun σ H Q h => ?_
      intro d hd
      obtain ⟨m, e, hh, r, h', a1, a2, a3, a4⟩ := h
      cases a3
      obtain ⟨b1, b2⟩ := a1.alloc (p := d) (ob := .dk []) (o := .dK []) hd ⟨[], rfl, rfl⟩ rfl
      exact a4 _ _ b2 b1 _ ⟨d, ix_last a1, rfl⟩
  · split
    · rename_i hh
      simp only [Bool.and_eq_true, decide_eq_true_eq, Bool.not_eq_true'] at hh
      obtain ⟨⟨⟨h1, h2⟩, h3⟩, h4⟩ := hh
      exact e_disp iE h1 h2 (fun z => by rw [z] at h3; cases h3) h4
    · exact nv
  · exact PE.of (pe_slice (s_slice f.K f.w) (iE _) (hO X C G f _) (hO X C G f _)) fun σ H Q h => slice_main h
  · split
    · exact nv
    · rename_i hb
      exact PE.of (pe_ix (x_ix f.K f.w f.un) (iE _) (iE _) (plainIx (by simpa using hb))) fun σ H Q h => op2_tG h
  · exact e_attr (S := S) f _ _ _ _
  · exact e_call hE f _ _ _ _
  · split
    · rename_i hh
      simp only [Bool.and_eq_true, decide_eq_true_eq] at hh
      obtain ⟨⟨⟨h1, h2⟩, h3⟩, h4⟩ := hh
      split
      · rename_i k hk
        split
        · exact nv
        · rename_i hz
          refine e_mth f hk h1 h2 h3 h4 (iE _) (pa_all (fun e => frzE_ok (C := C) (S := S) (iE e)) h3) fun z => ?_
          subst z
          refine ⟨?_, rfl⟩
          cases k <;> first | rfl | exact absurd rfl hz
      · split
        · rename_i hb
          rw [Bool.and_eq_true] at hb
          have hm := of_decide_eq_true hb.1
          have ha := List.isEmpty_iff.mp hb.2
          subst hm ha
          refine PE.of (pe_bits (iE _) (base_eq h2) h1) fun σ H Q h => ?_
          refine (tG_bnd h).mono fun x H1 h1 => ?_
          obtain ⟨K, W, cls, fld, Wx, hk, kc⟩ := G
          obtain ⟨m, h, d, z, h', a1, ra, e, q⟩ := tA1_op h1
          unfold bitsD at e
          split at e
          · cases e
            exact ⟨_, ra, q m H1 _ (Ext.refl _ _) a1 rfl⟩
          · cases e
        · exact nv
    · exact nv
  · exact e_lc hE hT hI f
  · exact e_lc2 hE hI f
  · exact e_dc hE hI f
  · exact nv
end
end Dd

set_option Elab.async false
set_option linter.all false
set_option maxRecDepth 100000
set_option maxHeartbeats 4000000
namespace Dd
open PySem PySem.Spec PyProof.Rows L2

/-! # 22. Tests and parts of slices -/
section
variable {G : Pc} {σ : L2.St} {H : Hp}
theorem tst_tG {ma : M D} {Q : Bool → Hp → Prop} (h : tG G relB (tst ma) σ H Q) : tTest (tG G G.R ma) σ H Q := by
  obtain ⟨m, e, hh, r, h', a1, a2, a3, a4⟩ := h
  rcases bnd_some a3 with ⟨c, p, e1, rfl⟩ | ⟨d, h1, e1, e2⟩
  · exact ⟨m, e, hh, _, h', a1, a2, e1, a4⟩
  refine ⟨m, e, hh, _, h1, a1, a2, e1, fun m1 H1 x1 y1 x gx => ?_⟩
  cases d with
  | bl b =>
    cases e2
    exact ⟨b, gx, a4 m1 H1 x1 y1 b rfl⟩
  | _ => cases e2
theorem tru_tG {ma : M D} {Q : Bool → Hp → Prop} (h : tG G relB (tru truD ma) σ H Q) : tG G G.R ma σ H fun x H' => ∃ k, TruV G.K x H' k ∧ Q k H' := by
  obtain ⟨m, e, hh, r, h', a1, a2, a3, a4⟩ := h
  rcases bnd_some a3 with ⟨c, p, e1, rfl⟩ | ⟨d, h1, e1, e2⟩
  · exact ⟨m, e, hh, _, h', a1, a2, e1, a4⟩
  refine ⟨m, e, hh, _, h1, a1, a2, e1, fun m1 H1 x1 y1 x gx => ?_⟩
  obtain ⟨b, rfl, e3⟩ := lift_some e2
  obtain ⟨b', e4, e5⟩ := map_some e3
  cases e5
  exact ⟨b, tru_rel y1 e4 gx, a4 m1 H1 x1 y1 b rfl⟩
theorem notT_tG {ma : M Bool} {Q : Bool → Hp → Prop} (h : tG G relB (notT ma) σ H Q) : tNot (tG G relB ma) σ H Q :=
  (tG_bndB h).mono fun c H1 h1 => by
    obtain ⟨m, e, hh, a1, a2, a3⟩ := tG_ret h1
    exact a3 _ rfl
theorem andT_tG {ma mb : M Bool} {Q : Bool → Hp → Prop} (h : tG G relB (andT ma mb) σ H Q) : tAnd (tG G relB ma) (tG G relB mb) σ H Q :=
  (tG_bndB h).mono fun c H1 h1 => by
    cases c with
    | true => exact h1
    | false =>
      obtain ⟨m, e, hh, a1, a2, a3⟩ := tG_ret h1
      exact a3 _ rfl
theorem orT_tG {ma mb : M Bool} {Q : Bool → Hp → Prop} (h : tG G relB (orT ma mb) σ H Q) : tOr (tG G relB ma) (tG G relB mb) σ H Q :=
  (tG_bndB h).mono fun c H1 h1 => by
    cases c with
    | false => exact h1
    | true =>
      obtain ⟨m, e, hh, a1, a2, a3⟩ := tG_ret h1
      exact a3 _ rfl
theorem intOf_tG {ma : M D} {Q : Option Int → Hp → Prop} (h : tG G relQ (intOf ma) σ H Q) : tPart (tG G G.R ma) σ H Q := by
  obtain ⟨m, e, hh, r, h', a1, a2, a3, a4⟩ := h
  rcases bnd_some a3 with ⟨c, p, e1, rfl⟩ | ⟨d, h1, e1, e2⟩
  · exact ⟨m, e, hh, _, h', a1, a2, e1, a4⟩
  refine ⟨m, e, hh, _, h1, a1, a2, e1, fun m1 H1 x1 y1 x gx => ?_⟩
  cases d with
  | int b =>
    cases e2
    exact ⟨b, gx, a4 m1 H1 x1 y1 _ rfl⟩
  | _ => cases e2
end
theorem truth_by {e : Expr} (h : isTst e = false) (env : Env) : ∀ whole, isTrue e env whole = (do let v ← whole; standAt e.pos; holding [v] (truthy v)) := by
  intro whole
  unfold isTst at h
  cases e with
  | UnaryOp op a p => cases op <;> first | rfl | cases h
  | BoolOp => cases h
  | IfExp => cases h
  | Compare => cases h
  | _ => rfl
section
variable {X : Cx} {C : CE} {G : Pc} {F : Call} {S : Sm}
theorem PO.of {e : Option Expr} {t t' : TO} (h : PO X e t) (w : ∀ σ H Q, t' σ H Q → t σ H Q) : PO X e t' := ⟨fun pins s σ H Q I q => h.run pins s σ H Q I (w σ H Q q)⟩
theorem PW.of {e : Expr} {t t' : TT} (h : PW X e t) (w : ∀ σ H Q, t' σ H Q → t σ H Q) : PW X e t' := ⟨fun wh pins s σ H Q I q => h.run wh pins s σ H Q I (w σ H Q q)⟩
theorem PW.never {e : Expr} {t : TT} (w : ∀ σ H Q, t σ H Q → False) : PW X e t := ⟨fun wh pins s σ H Q I q => (w σ H Q q).elim⟩
theorem ok_O (hE : OkE S F) : OkO (stepQ F S) F := by
  intro X C G f o
  show PO X o (tG G relQ (stepO S C o))
  cases o with
  | none =>
    refine PO.of po_none fun σ H Q h => ?_
    obtain ⟨m, e, hh, a1, a2, a3⟩ := tG_ret h
    exact a3 _ rfl
  | some e => exact PO.of (po_some (hE X C G f e)) fun σ H Q h => intOf_tG h
theorem ok_W (hT : OkT S F) (hW : OkW S F) : OkW (stepQ F S) F := by
  intro X C G f op es p
  have iT := hT X C G f
  show PW X (.BoolOp op es p) (tG G relB (stepT F S C (.BoolOp op es p)))
  cases op with
  | And =>
    match es with
    | [] => exact PW.never fun σ H Q h => tG_stuck h
    | [a] => exact pw_and1 (iT a)
    | a :: b :: r => exact PW.of (pw_and (iT a) (hW X C G f _ _ _)) fun σ H Q h => andT_tG h
  | Or =>
    match es with
    | [] => exact PW.never fun σ H Q h => tG_stuck h
    | [a] => exact pw_or1 (iT a)
    | a :: b :: r => exact PW.of (pw_or (iT a) (hW X C G f _ _ _)) fun σ H Q h => orT_tG h
theorem ok_T (hE : OkE S F) (hT : OkT S F) (hW : OkW (stepQ F S) F) : OkT (stepQ F S) F := by
  intro X C G f e
  have iE := hE X C G f
  have iT := hT X C G f
  have nv : ∀ {e : Expr}, PT X e (tG G relB (stuck : M Bool)) := PT.never fun σ H Q h => tG_stuck h
  show PT X e (tG G relB (stepT F S C e))
  have other : ∀ (h : stepT F S C e = if isTst e then stuck else tru truD (S.E C e)), PT X e (tG G relB (stepT F S C e)) := by
    intro h
    rw [h]
    split
    · exact nv
    · rename_i ht
      refine PT.of (pt_truth (iE e) (truth_by (by simpa using ht) _)) fun σ H Q h => ?_
      have z := tru_tG h
      rw [← f.K] at z
      exact z
  cases e with
  | UnaryOp op a p =>
    cases op with
    | Not => exact PT.of (pt_not (iT a)) fun σ H Q h => notT_tG h
    | _ => exact other rfl
  | BoolOp op es p => exact (hW X C G f op es p).pt
  | Compare a ops bs p =>
    show PT X _ (tG G relB (tst (stepE F S C (.Compare a ops bs p))))
    match ops, bs with
    | [op], [b] =>
      show PT X _ (tG G relB (tst (if isSetE b then stuck else match cmpD op with | some f => op2 f (S.E C a) (S.E C b) | none => stuck)))
      split
      · exact PT.never fun σ H Q h => tG_stuck (tst_tG h)
      · rename_i hb
        split
        · rename_i hf
          exact PT.of (pt_cmpR (o_cmp f.K f.w hf f.un) (iE _) (iE _) (setMark (by simpa using hb))) fun σ H Q h => op2_tG (tst_tG h)
        · exact PT.never fun σ H Q h => tG_stuck (tst_tG h)
    | [op, op'], [b, c] =>
      show PT X _ (tG G relB (tst (match ordD op, ordD op' with | some f, some g => chn f g (S.E C a) (S.E C b) (S.E C c) | _, _ => stuck)))
      split
      · rename_i h1 h2
        exact PT.of (pt_chain (o_ord f.K f.w h1) (o_ord f.K f.w h2) (iE _) (iE _) (iE _) (marks2 h1 h2)) fun σ H Q h => chn_tG (tst_tG h)
      · exact PT.never fun σ H Q h => tG_stuck (tst_tG h)
    | [], _ => exact PT.never fun σ H Q h => tG_stuck (tst_tG h)
    | [_], [] => exact PT.never fun σ H Q h => tG_stuck (tst_tG h)
    | [_], _ :: _ :: _ => exact PT.never fun σ H Q h => tG_stuck (tst_tG h)
    | [_, _], [] => exact PT.never fun σ H Q h => tG_stuck (tst_tG h)
    | [_, _], [_] => exact PT.never fun σ H Q h => tG_stuck (tst_tG h)
    | _ :: _ :: _ :: _, [] => exact PT.never fun σ H Q h => tG_stuck (tst_tG h)
    | _ :: _ :: _ :: _, [_] => exact PT.never fun σ H Q h => tG_stuck (tst_tG h)
    | [_, _], _ :: _ :: _ :: _ => exact PT.never fun σ H Q h => tG_stuck (tst_tG h)
    | _ :: _ :: _ :: _, _ :: _ :: _ => exact PT.never fun σ H Q h => tG_stuck (tst_tG h)
  | _ => exact other rfl
end
end Dd

set_option Elab.async false
set_option linter.all false
set_option maxRecDepth 100000
set_option maxHeartbeats 4000000
namespace Dd
open PySem PySem.Spec PyProof.Rows L2

/-! # 23. Statements: what is asked -/
def FinS (G : Pc) (D : Ends) (f : Fl) (σ : L2.St) (m : Mp) (H : Hp) : Prop :=
  match f with
  | .next => D.nx σ H
  | .brk => D.bk σ H
  | .cont => D.ct σ H
  | .ret d => ∀ v, G.R m H d v → D.rt v H
  | .ex c p => ∀ cv d, ExcAt G m H c p cv d → G.W cv d σ H
/-- what is to come, from here -/
def KS (G : Pc) (D : Ends) (m : Mp) (H : Hp) (f : Fl) (e : DE) (h : DH) : Prop :=
  ∀ m' H' σ', Ext m H m' H' → G.H m' h H' → EnvR G m' H' e σ' → FinS G D f σ' m' H'
theorem KS.ext {G : Pc} {D : Ends} {m m1 : Mp} {H H1 : Hp} {f : Fl} {e : DE} {h : DH} (k : KS G D m H f e h) (x : Ext m H m1 H1) : KS G D m1 H1 f e h := fun m' H' σ' y => k m' H' σ' (x.trans y)
def tS (G : Pc) (M : MS) : TS := fun D σ H => ∃ m e h f e' h', G.H m h H ∧ EnvR G m H e σ ∧ M e h = some (f, e', h') ∧ KS G D m H f e' h'
def OkS (S : Sm) (F : Call) : Prop := ∀ (X : Cx) (C : CE) (G : Pc), Fit X C G F → ∀ st, PS X st (tS G (S.S C st))
def OkB (S : Sm) (F : Call) : Prop := ∀ (X : Cx) (C : CE) (G : Pc), Fit X C G F → ∀ st, PSs X st (tS G (S.B C st))
section
variable {G : Pc} {σ : L2.St} {H : Hp} {K : Ends}
theorem tS_stuck (h : tS G stuckS K σ H) : False := by
  obtain ⟨m, e, hh, f, e', h', a1, a2, a3, a4⟩ := h
  cases a3
theorem withM_some {α : Type} {M : M α} {k : α → MS} {e e' : DE} {h h' : DH} {f : Fl} (q : withM M k e h = some (f, e', h')) : (∃ c p, M e h = some (.ex c p, h') ∧ f = .ex c p ∧ e' = e) ∨ ∃ a h1, M e h = some (.ok a, h1) ∧ k a e h1 = some (f, e', h') := by
  unfold withM at q
  cases hm : M e h with
  | none => rw [hm] at q; cases q
  | some p =>
    obtain ⟨r1, h1⟩ := p
    rw [hm] at q
    cases r1 with
    | ex c p => cases q; exact .inl ⟨c, p, rfl, rfl, rfl⟩
    | ok a => exact .inr ⟨a, h1, rfl, q⟩
/-- a value, then -/
theorem tS_with {α β : Type} {rel : Mp → Hp → α → β → Prop} {M : M α} {k : α → MS} (h : tS G (withM M k) K σ H) :
    tG G rel M σ H fun b H1 => ∃ m a e h f e' h', rel m H1 a b ∧ G.H m h H1 ∧ EnvR G m H1 e σ ∧ k a e h = some (f, e', h') ∧ KS G K m H1 f e' h' := by
  obtain ⟨m, e, hh, f, e', h', a1, a2, a3, a4⟩ := h
  rcases withM_some a3 with ⟨c, p, e1, rfl, rfl⟩ | ⟨a, h1, e1, e2⟩
  · exact ⟨m, _, hh, _, h', a1, a2, e1, fun m' H' x y cv d q => a4 m' H' σ x y (a2.ext x) cv d q⟩
  · exact ⟨m, e, hh, _, h1, a1, a2, e1, fun m1 H1 x1 y1 b hb => ⟨m1, a, e, h1, f, e', h', hb, y1, a2.ext x1, e2, a4.ext x1⟩⟩
theorem skip_tS (h : tS G skip K σ H) : K.nx σ H := by
  obtain ⟨m, e, hh, f, e', h', a1, a2, a3, a4⟩ := h
  cases a3
  exact a4 m H σ (Ext.refl _ _) a1 a2
theorem seq_tS {a b : MS} (h : tS G (seq a b) K σ H) : tSeq (tS G a) (tS G b) K σ H := by
  obtain ⟨m, e, hh, f, e', h', a1, a2, a3, a4⟩ := h
  unfold seq at a3
  split at a3
  · rename_i e1 h1 ha
    exact ⟨m, e, hh, .next, e1, h1, a1, a2, ha, fun m1 H1 σ1 x1 y1 z1 => ⟨m1, e1, h1, f, e', h', y1, z1, a3, a4.ext x1⟩⟩
  · rename_i hn
    refine ⟨m, e, hh, f, e', h', a1, a2, a3, fun m1 H1 σ1 x1 y1 z1 => ?_⟩
    have q := a4 m1 H1 σ1 x1 y1 z1
    cases f with
    | next => exact absurd a3 (hn e' h')
    | _ => exact q
theorem drop_tS {M : M D} (h : tS G (drop M) K σ H) : tDrop (tG G G.R M) K σ H := by
  refine (tS_with h).mono fun b H1 h1 => ?_
  obtain ⟨m, a, e, hh, f, e', h', rb, a1, a2, a3, a4⟩ := h1
  cases a3
  exact a4 m H1 σ (Ext.refl _ _) a1 a2
theorem ret_tS {M : M D} (h : tS G (retS M) K σ H) : tRet (tG G G.R M) K σ H := by
  refine (tS_with h).mono fun b H1 h1 => ?_
  obtain ⟨m, a, e, hh, f, e', h', rb, a1, a2, a3, a4⟩ := h1
  cases a3
  exact a4 m H1 σ (Ext.refl _ _) a1 a2 b rb
theorem asg_tS {t : Tg} {M : M D} (h : tS G (asg t M) K σ H) : tAsg (tG G G.R M) (gG G t) K σ H := by
  refine (tS_with (rel := G.R) h).mono fun b H1 h1 => ?_
  obtain ⟨m, a, e, hh, f, e', h', rb, a1, a2, a3, a4⟩ := h1
  obtain ⟨e1, a5, a6⟩ := map_some a3
  cases a6
  exact ⟨m, e, hh, a, e', a1, a2, rb, a5, fun σ' y1 y2 => a4 m H1 σ' (Ext.refl _ _) a1 y1⟩
theorem asgN_tS {i : Nat} {M : M D} (hn : notHk G i) (h : tS G (asg (.nm i) M) K σ H) : tAsg (tG G G.R M) (gName i) K σ H := by
  refine (tS_with (rel := G.R) h).mono fun b H1 h1 => ?_
  obtain ⟨m, a, e, hh, f, e', h', rb, a1, a2, a3, a4⟩ := h1
  cases a3
  exact a4 m H1 _ (Ext.refl _ _) a1 (a2.set hn rb)
theorem if_tS {t : M Bool} {a b : MS} (h : tS G (ifS t a b) K σ H) : tIfS (tG G relB t) (tS G a) (tS G b) K σ H := by
  refine (tS_with (rel := relB) h).mono fun c H1 h1 => ?_
  obtain ⟨m, a', e, hh, f, e', h', rb, a1, a2, a3, a4⟩ := h1
  cases (show a' = c from rb)
  cases c with
  | true => exact ⟨m, e, hh, f, e', h', a1, a2, a3, a4⟩
  | false => exact ⟨m, e, hh, f, e', h', a1, a2, a3, a4⟩
end
end Dd

set_option Elab.async false
set_option linter.all false
set_option maxRecDepth 100000
set_option maxHeartbeats 4000000
namespace Dd
open PySem PySem.Spec PyProof.Rows L2

/-! # 24. Loops, stores, raise, try: by the plain semantics -/
/-- a op= b of ints that pass a test -/
def ipG (g : Int → Int → Bool) (f : Int → Int → Int) : TIp := fun x y H Q => ∃ i j, x = .int i ∧ y = .int j ∧ g i j = true ∧ Q (.int (f i j)) H
section
variable {G : Pc} {σ : L2.St} {H : Hp} {K : Ends}
theorem for_tS {it : M Src} {t : Tg} {b : MS} (h : tS G (forS it t b) K σ H) : tFor (iG G it) (gG G t) (tS G b) K σ H := by
  obtain ⟨m, e, hh, f, e', h', a1, a2, a3, a4⟩ := h
  rcases withM_some a3 with ⟨c, p, e1, rfl, rfl⟩ | ⟨s, h1, e1, e2⟩
  · exact ⟨m, _, hh, _, h', a1, a2, e1, fun m' H' x y cv d q => a4 m' H' σ x y (a2.ext x) cv d q⟩
  refine ⟨m, e, hh, _, h1, a1, a2, e1, fun m1 H1 x1 y1 J dr => ?_⟩
  refine ⟨fun i n σ' H' => n = s.len - i ∧ ∃ m' ee hx, Ext m1 H1 m' H' ∧ G.H m' hx H' ∧ EnvR G m' H' ee σ' ∧ i ≤ s.len ∧ forL s t b (s.len - i) i ee hx = some (f, e', h'), ⟨s.len, rfl, m1, e, h1, Ext.refl _ _, y1, a2.ext x1, Nat.zero_le _, e2⟩, ?_⟩
  rintro i n σ' H' ⟨rfl, m', ee, hx, c1, c2, c3, c4, c5⟩
  obtain ⟨d1, d2⟩ := dr m' hx H' c1 c2
  by_cases hi : i = s.len
  · subst hi
    rw [Nat.sub_self] at c5
    have c5 : (if s.done hx then some (.next, ee, hx) else none) = some (f, e', h') := c5
    split at c5
    · rename_i hd
      cases c5
      exact .inl ⟨d2 hd, a4 m' H' σ' (x1.trans c1) c2 c3⟩
    · cases c5
  · obtain ⟨k, hk⟩ : ∃ k, s.len - i = k + 1 := ⟨s.len - i - 1, by omega⟩
    rw [hk] at c5
    dsimp only [forL] at c5
    split at c5
    · cases c5
    rename_i d hd
    obtain ⟨j1, j2⟩ := d1 i d hd
    refine .inr ⟨j1, fun σ' H' => ∃ m' ee hx, Ext m1 H1 m' H' ∧ G.H m' hx H' ∧ EnvR G m' H' ee σ' ∧ forL s t b k (i + 1) ee hx = some (f, e', h'),
      fun σ'' H'' ⟨m', ee, hx, l1, l2, l3, l4⟩ => ⟨k, by omega, by omega, m', ee, hx, l1, l2, l3, by omega, by rw [show s.len - (i + 1) = k by omega]; exact l4⟩, fun x H'' hy => ?_⟩
    obtain ⟨z1, z2, z3⟩ := j2 x H'' hy
    split at c5
    · cases c5
    rename_i e2' he2
    refine ⟨m', ee, hx, d, e2', z2, c3.ext z1, z3, he2, fun σ2 s1 _ => ?_⟩
    split at c5
    · rename_i e3 h3 hb
      exact ⟨m', e2', hx, .next, e3, h3, z2, s1, hb, fun m3 H3 σ3 x3 y3 w3 => ⟨m3, e3, h3, c1.trans (z1.trans x3), y3, w3, c5⟩⟩
    · rename_i e3 h3 hb
      exact ⟨m', e2', hx, .cont, e3, h3, z2, s1, hb, fun m3 H3 σ3 x3 y3 w3 => ⟨m3, e3, h3, c1.trans (z1.trans x3), y3, w3, c5⟩⟩
    · rename_i e3 h3 hb
      cases c5
      exact ⟨m', e2', hx, .brk, _, _, z2, s1, hb, fun m3 H3 σ3 x3 y3 w3 => a4 m3 H3 σ3 (x1.trans (c1.trans (z1.trans x3))) y3 w3⟩
    · rename_i n1 n2 n3
      refine ⟨m', e2', hx, f, e', h', z2, s1, c5, fun m3 H3 σ3 x3 y3 w3 => ?_⟩
      have q := a4 m3 H3 σ3 (x1.trans (c1.trans (z1.trans x3))) y3 w3
      cases f with
      | next => exact absurd c5 (n1 _ _)
      | cont => exact absurd c5 (n2 _ _)
      | brk => exact absurd c5 (n3 _ _)
      | _ => exact q
theorem while_tS {t : M Bool} {b : MS} {n : Nat} (h : tS G (whileL t b n) K σ H) : tWhile (tG G relB t) (tS G b) K σ H := by
  obtain ⟨m, e, hh, f, e', h', a1, a2, a3, a4⟩ := h
  refine ⟨fun n σ' H' => ∃ m' ee hx, Ext m H m' H' ∧ G.H m' hx H' ∧ EnvR G m' H' ee σ' ∧ whileL t b n ee hx = some (f, e', h'), ⟨n, m, e, hh, Ext.refl _ _, a1, a2, a3⟩, ?_⟩
  rintro n σ' H' ⟨m', ee, hx, c1, c2, c3, c4⟩
  cases n with
  | zero => cases c4
  | succ r =>
    unfold whileL at c4
    rcases withM_some c4 with ⟨c, p, e1, rfl, rfl⟩ | ⟨c, h1, e1, e2⟩
    · exact ⟨m', _, hx, _, h', c2, c3, e1, fun m2 H2 x y cv d q => a4 m2 H2 σ' (c1.trans x) y (c3.ext x) cv d q⟩
    refine ⟨m', ee, hx, _, h1, c2, c3, e1, fun m1 H1 x1 y1 c' hc => ?_⟩
    cases (show c = c' from hc)
    cases c with
    | false =>
      cases e2
      exact a4 m1 H1 σ' (c1.trans x1) y1 (c3.ext x1)
    | true =>
      refine ⟨fun σ' H' => ∃ m' ee hx, Ext m H m' H' ∧ G.H m' hx H' ∧ EnvR G m' H' ee σ' ∧ whileL t b r ee hx = some (f, e', h'), fun σ2 H2 w => ⟨r, Nat.lt_succ_self r, w⟩, ?_⟩
      have e2 : (match b ee h1 with
        | some (.next, e2, h2) => whileL t b r e2 h2
        | some (.cont, e2, h2) => whileL t b r e2 h2
        | some (.brk, e2, h2) => some (.next, e2, h2)
        | r => r) = some (f, e', h') := e2
      split at e2
      · rename_i e3 h3 hb
        exact ⟨m1, ee, h1, .next, e3, h3, y1, c3.ext x1, hb, fun m3 H3 σ3 x3 y3 w3 => ⟨m3, e3, h3, c1.trans (x1.trans x3), y3, w3, e2⟩⟩
      · rename_i e3 h3 hb
        exact ⟨m1, ee, h1, .cont, e3, h3, y1, c3.ext x1, hb, fun m3 H3 σ3 x3 y3 w3 => ⟨m3, e3, h3, c1.trans (x1.trans x3), y3, w3, e2⟩⟩
      · rename_i e3 h3 hb
        cases e2
        exact ⟨m1, ee, h1, .brk, _, _, y1, c3.ext x1, hb, fun m3 H3 σ3 x3 y3 w3 => a4 m3 H3 σ3 (c1.trans (x1.trans x3)) y3 w3⟩
      · rename_i n1 n2 n3
        refine ⟨m1, ee, h1, f, e', h', y1, c3.ext x1, e2, fun m3 H3 σ3 x3 y3 w3 => ?_⟩
        have q := a4 m3 H3 σ3 (c1.trans (x1.trans x3)) y3 w3
        cases f with
        | next => exact absurd e2 (n1 _ _)
        | cont => exact absurd e2 (n2 _ _)
        | brk => exact absurd e2 (n3 _ _)
        | _ => exact q
/-- o[i] = v -/
def rSet (G : Pc) : TSet := fun o i v H Q => ∃ m h a b c h', G.H m h H ∧ G.R m H a o ∧ G.R m H b i ∧ G.R m H c v ∧ putAt a b c h = some h' ∧ ∀ m' H', Ext m H m' H' → G.H m' h' H' → Q H'
theorem set_tS {mo mk mv : M D} (h : tS G (setS mo mk mv) K σ H) : tAsg (tG G G.R mv) (gSub (tG G G.R mo) (tG G G.R mk) (rSet G)) K σ H := by
  obtain ⟨m, e, hh, f, e', h', a1, a2, a3, a4⟩ := h
  rcases withM_some a3 with ⟨c, p, e1, rfl, rfl⟩ | ⟨v, h1, e1, e2⟩
  · exact ⟨m, _, hh, _, h', a1, a2, e1, fun m' H' x y cv d q => a4 m' H' σ x y (a2.ext x) cv d q⟩
  refine ⟨m, e, hh, _, h1, a1, a2, e1, fun m1 H1 x1 y1 vv gv => ?_⟩
  rcases withM_some e2 with ⟨c, p, e3, rfl, rfl⟩ | ⟨o, h2, e3, e4⟩
  · exact ⟨m1, _, h1, _, h', y1, a2.ext x1, e3, fun m' H' x y cv d q => a4 m' H' σ (x1.trans x) y ((a2.ext x1).ext x) cv d q⟩
  refine ⟨m1, e, h1, _, h2, y1, a2.ext x1, e3, fun m2 H2 x2 y2 ov go => ?_⟩
  rcases withM_some e4 with ⟨c, p, e5, rfl, rfl⟩ | ⟨k, h3, e5, e6⟩
  · exact ⟨m2, _, h2, _, h', y2, (a2.ext x1).ext x2, e5, fun m' H' x y cv d q => a4 m' H' σ (x1.trans (x2.trans x)) y (((a2.ext x1).ext x2).ext x) cv d q⟩
  refine ⟨m2, e, h2, _, h3, y2, (a2.ext x1).ext x2, e5, fun m3 H3 x3 y3 kv gk => ?_⟩
  obtain ⟨h4, e7, e8⟩ := map_some e6
  cases e8
  exact ⟨m3, h3, o, k, v, h', y3, go.ext x3, gk, (gv.ext x2).ext x3, e7, fun m' H' x y => a4 m' H' σ (x1.trans (x2.trans (x3.trans x))) y ((((a2.ext x1).ext x2).ext x3).ext x)⟩
theorem aug_tS {gi : Int → Int → Bool} {fi : Int → Int → Int} {i : Nat} {M : M D} (hn : notHk G i) (h : tS G (augS (augI gi fi) i M) K σ H) : tAug i (tG G G.R M) (ipG gi fi) K σ H := by
  obtain ⟨m, e, hh, f, e', h', a1, a2, a3, a4⟩ := h
  rcases withM_some a3 with ⟨c, p, e1, rfl, rfl⟩ | ⟨x, h1, e1, e2⟩
  · unfold var at e1
    split at e1 <;> cases e1
  unfold var at e1
  split at e1
  · rename_i d ed
    cases e1
    obtain ⟨xv, g1, g2⟩ := a2.get hn ed
    refine ⟨xv, g1, ?_⟩
    rcases withM_some e2 with ⟨c, p, e3, rfl, rfl⟩ | ⟨y, h2, e3, e4⟩
    · exact ⟨m, _, hh, _, h', a1, a2, e3, fun m' H' x y cv d q => a4 m' H' σ x y (a2.ext x) cv d q⟩
    refine ⟨m, e, hh, _, h2, a1, a2, e3, fun m1 H1 x1 y1 yv gy => ?_⟩
    rcases withM_some e4 with ⟨c, p, e5, rfl, rfl⟩ | ⟨z, h3, e5, e6⟩
    · unfold lift at e5
      split at e5 <;> cases e5
    obtain ⟨z', e7, e8⟩ := lift_some e5
    cases e7
    cases e6
    have gx := g2.ext x1
    unfold augI at e8
    split at e8
    · split at e8
      · rename_i hg
        cases e8
        exact ⟨_, _, gx, gy, hg, a4 m1 H1 _ x1 y1 ((a2.ext x1).set hn rfl)⟩
      · cases e8
    · cases e8
  · cases e1
theorem raise_tS {c : Nat} {M : M D} (h : tS G (raiS c M) K σ H) : tMkX (G.cls c) (G.fld c) (tG G G.Rs (args [M])) σ H fun cls d H' => G.W cls d σ H' := by
  obtain ⟨m, e, hh, f, e', h', a1, a2, a3, a4⟩ := h
  rcases withM_some a3 with ⟨c', p, e1, rfl, rfl⟩ | ⟨p, h1, e1, e2⟩
  · refine ⟨m, _, hh, .ex c' p, h', a1, a2, ?_, fun m' H' x y cv d q => a4 m' H' σ x y (a2.ext x) cv d q⟩
    show bnd M _ _ _ = _
    unfold bnd
    rw [e1]
  · cases e2
    refine ⟨m, e, hh, .ok [p], h', a1, a2, ?_, fun m1 H1 x1 y1 vs gv => ?_⟩
    · show bnd M _ _ _ = _
      unfold bnd
      rw [e1]
      rfl
    obtain ⟨v, r, rfl, g1, g2⟩ := gv
    cases (show r = [] from g2)
    refine ⟨v, rfl, fun d hd => ?_⟩
    obtain ⟨b1, b2⟩ := y1.imm (o := .xd [(G.fld c, v)]) hd
    exact a4 m1 _ σ (x1.trans b2) b1 (a2.ext (x1.trans b2)) _ _ ⟨rfl, d, v, rfl, upd_same, g1.ext b2⟩
/-- in a suite -/
def Pc.suite (G : Pc) (hk : Option (Nat × Addr × Addr × Str)) : Pc := { G with W := fun _ _ _ _ => False, hk := hk }
def Pc.wish (G : Pc) (W : WX) : Pc := { G with W := W }
theorem EnvR.toHk {m : Mp} {e : DE} {i : Nat} {a dd : Addr} {fl : Str} {p : D} {u : V} (hk : G.hk = none) (h : EnvR G m H e σ) (hd : H dd = some (.xd [(fl, u)])) (g : G.R m H p u) :
    EnvR (G.suite (some (i, a, dd, fl))) m H (e.set i (some p)) (σ.set i (some (.ref a))) := by
  refine ⟨by rw [List.length_set, List.length_set]; exact h.len, fun j x q => ?_⟩
  unfold SlotR
  show if j = i then _ else _
  by_cases hj : j = i
  · subst hj
    have hl : j < e.length := by
      have := (List.getElem?_eq_some_iff.mp q).1
      rwa [List.length_set] at this
    rw [List.getElem?_set_self hl] at q
    cases q
    rw [if_pos rfl, List.getElem?_set_self (by rw [← h.len]; exact hl)]
    exact ⟨rfl, u, hd, g⟩
  · rw [if_neg hj]
    rw [List.getElem?_set_ne (fun z => hj z.symm)] at q ⊢
    have z := h.slot j x q
    unfold SlotR at z
    rw [hk] at z
    exact z
theorem EnvR.ofHk {m : Mp} {e : DE} {i : Nat} {a dd : Addr} {fl : Str} (hk : G.hk = none) (h : EnvR (G.suite (some (i, a, dd, fl))) m H e σ) : EnvR G m H (e.set i none) (σ.set i none) := by
  refine ⟨by rw [List.length_set, List.length_set]; exact h.len, fun j x q => ?_⟩
  unfold SlotR
  rw [hk]
  by_cases hj : j = i
  · subst hj
    have hl : j < e.length := by
      have := (List.getElem?_eq_some_iff.mp q).1
      rwa [List.length_set] at this
    rw [List.getElem?_set_self hl] at q
    cases q
  · rw [List.getElem?_set_ne (fun z => hj z.symm)] at q ⊢
    have z := h.slot j x q
    unfold SlotR at z
    have z : if j = i then _ else _ := z
    rw [if_neg hj] at z
    exact z
theorem EnvR.wish {m : Mp} {e : DE} {W : WX} (h : EnvR G m H e σ) : EnvR (G.wish W) m H e σ := ⟨h.len, h.slot⟩
theorem EnvR.unwish {m : Mp} {e : DE} {W : WX} (h : EnvR (G.wish W) m H e σ) : EnvR G m H e σ := ⟨h.len, h.slot⟩
theorem EnvR.toS {m : Mp} {e : DE} (hk : G.hk = none) (h : EnvR G m H e σ) : EnvR (G.suite none) m H e σ := ⟨h.len, fun i d q => by
  have z := h.slot i d q
  unfold SlotR at z ⊢
  rw [hk] at z
  exact z⟩
theorem EnvR.ofS {m : Mp} {e : DE} (hk : G.hk = none) (h : EnvR (G.suite none) m H e σ) : EnvR G m H e σ := ⟨h.len, fun i d q => by
  have z := h.slot i d q
  unfold SlotR
  rw [hk]
  exact z⟩
theorem noEx_some {r : Option (Fl × DE × DH)} {f : Fl} {e : DE} {h : DH} (q : noEx r = some (f, e, h)) : r = some (f, e, h) ∧ ∀ c p, f ≠ .ex c p := by
  unfold noEx at q
  split at q
  · cases q
  · rename_i hn
    exact ⟨q, fun c p z => by subst z; exact hn _ _ _ _ q⟩
/-- the suite by what is caught -/
def tSuite (G : Pc) (c : Nat) (i : Option Nat) (s : MS) : Addr → Value → Option Addr → TS := fun a cls d K σ H =>
  ∃ dd, d = some dd ∧ cls = .ref (G.cls c) ∧ tS (G.suite (i.map fun j => (j, a, dd, G.fld c))) s K σ H
theorem try_tS {c i : Nat} {b s : MS} (hk : G.hk = none) (te : PySem.W.exmOne G.K (.ref (G.cls c)) (.ref (G.cls c)) = some true) (h : tS G (tryS b c (some i) s) K σ H) :
    tS (G.wish (wAs G.K (.ref (G.cls c)) i (tSuite G c (some i) s) G.W K)) b K σ H := by
  obtain ⟨m, e, hh, f, e', h', a1, a2, a3, a4⟩ := h
  unfold tryS at a3
  split at a3
  · rename_i c' p e1 h1 hb
    split at a3
    · rename_i hc
      subst hc
      dsimp only at a3
      split at a3
      · rename_i f2 e2 h2 hs
        cases a3
        obtain ⟨hs, nex⟩ := noEx_some hs
        refine ⟨m, e, hh, _, e1, h1, a1, a2.wish, hb, fun m1 H1 σ1 x1 y1 z1 cv d q => ?_⟩
        obtain ⟨rfl, dd, u, rfl, g1, g2⟩ := q
        refine ⟨true, te, fun _ a ha => ⟨dd, rfl, rfl, m1, e1.set i (some p), h1, f, e2, h', y1, z1.unwish.toHk hk g1 g2, hs, fun m2 H2 σ2 x2 y2 z2 => ?_⟩, fun z => nomatch z⟩
        have q := a4 m2 H2 _ (x1.trans x2) y2 (z2.ofHk hk)
        cases f with
        | ex c p => exact absurd rfl (nex c p)
        | _ => exact q
      · cases a3
    · cases a3
  · rename_i hn
    refine ⟨m, e, hh, f, e', h', a1, a2.wish, a3, fun m1 H1 σ1 x1 y1 z1 => ?_⟩
    have q := a4 m1 H1 σ1 x1 y1 z1.unwish
    cases f with
    | ex c p => exact absurd a3 (hn _ _ _ _)
    | _ => exact q
theorem try0_tS {c : Nat} {b s : MS} (hk : G.hk = none) (te : PySem.W.exmOne G.K (.ref (G.cls c)) (.ref (G.cls c)) = some true) (h : tS G (tryS b c none s) K σ H) :
    tS (G.wish (wOnly G.K (.ref (G.cls c)) (tSuite G c none s) G.W K)) b K σ H := by
  obtain ⟨m, e, hh, f, e', h', a1, a2, a3, a4⟩ := h
  unfold tryS at a3
  split at a3
  · rename_i c' p e1 h1 hb
    split at a3
    · rename_i hc
      subst hc
      dsimp only at a3
      obtain ⟨hs, nex⟩ := noEx_some a3
      refine ⟨m, e, hh, _, e1, h1, a1, a2.wish, hb, fun m1 H1 σ1 x1 y1 z1 cv d q => ?_⟩
      obtain ⟨rfl, dd, u, rfl, g1, g2⟩ := q
      refine ⟨true, te, fun _ a ha => ⟨dd, rfl, rfl, m1, e1, h1, f, e', h', y1, z1.unwish.toS hk, hs, fun m2 H2 σ2 x2 y2 z2 => ?_⟩, fun z => nomatch z⟩
      have q := a4 m2 H2 _ (x1.trans x2) y2 (z2.ofS hk)
      cases f with
      | ex c p => exact absurd rfl (nex c p)
      | _ => exact q
    · cases a3
  · rename_i hn
    refine ⟨m, e, hh, f, e', h', a1, a2.wish, a3, fun m1 H1 σ1 x1 y1 z1 => ?_⟩
    have q := a4 m1 H1 σ1 x1 y1 z1.unwish
    cases f with
    | ex c p => exact absurd a3 (hn _ _ _ _)
    | _ => exact q
end
end Dd

set_option Elab.async false
set_option linter.all false
set_option maxRecDepth 100000
set_option maxHeartbeats 4000000
namespace Dd
open PySem PySem.Spec PyProof.Rows L2

/-! # 25. Every statement of the semantics is walked -/
section
variable {X : Cx} {C : CE} {G : Pc} {F : Call} {S : Sm}
theorem set_any (f : Fit X C G F) : PSet X (rSet G) := by
  have hu := f.un
  obtain ⟨K, W, cls, fld, Wx, hk, kc⟩ := G
  have hK : X.K = K := f.K
  have hw : X.w = W := f.w
  subst hK hw
  intro pins s σ H o i v ov iv u Q I ro ri rv ⟨m, h, a, b, c, h', a1, ga, gb, gc, e, q⟩
  have dict : ∀ {H'}, (∃ p, o = .ref p ∧ DPut H p i v H') → Q H' → wpAny (model X.prog X.w) X.A (setItem ov iv u) (fun _ s' => ∃ H', Inv X pins σ H' s' ∧ Q H') X.xe s := by
    rintro H' ⟨p, rfl, g⟩ q
    cases (show ov = Value.ref p from ro)
    exact d_setItem (by omega) I g ri rv fun s' I' => ⟨H', I', q⟩
  cases a with
  | ref j =>
    obtain ⟨p, mp, rfl⟩ := ga
    unfold putAt at e
    dsimp only at e
    split at e
    · rename_i xs k ex
      split at e
      · rename_i n hn
        cases e
        obtain ⟨ob, h1, vs, rfl, gv⟩ := a1.get mp ex
        obtain ⟨b1, b2⟩ := a1.write (ob := .lst (xs.set n c)) (o := .lst (vs.set n v)) mp ex rfl rfl ⟨_, rfl, gv.set n gc⟩
        exact set_list pins s σ H _ _ _ ov iv u Q I ro ri rv ⟨p, vs, k, n, rfl, gb, h1, by rw [gv.length]; exact hn, q m _ b2 b1⟩
      · cases e
    · rename_i kvs ex
      split at e
      · rename_i kk hkk
        split at e
        · rename_i hz
          cases e
          obtain ⟨vs, h1, gv⟩ := ref_dk a1 mp ex
          obtain ⟨b1, b2⟩ := a1.write (ob := .dk (putD kvs kk c)) (o := .dK (putK vs kk v)) mp ex rfl rfl ⟨_, rfl, KV_put kk gv gc⟩
          exact dict ⟨p, rfl, .inl ⟨vs, kk, h1, keyD_rel hkk gb, by rw [KV_len gv, ← Z_eq]; exact hz, rfl⟩⟩ (q m _ b2 b1)
        · cases e
      · cases e
    · rename_i kvs ks ex
      split at e
      · rename_i kk hkk
        split at e
        · rename_i hz
          cases e
          obtain ⟨vs, h1, gv⟩ := ref_dt a1 mp ex
          obtain ⟨bp, bs, rfl, hb, gbs⟩ := gb
          obtain ⟨b1, b2⟩ := a1.write (ob := .dt (putD kvs kk c)) (o := .dT (putK vs kk v)) mp ex rfl rfl ⟨_, rfl, KV_put kk gv gc⟩
          exact dict ⟨p, rfl, .inr ⟨vs, kk, bp, h1, rfl, by rw [hb, keysD_rel hkk gbs], by rw [KV_len gv, ← Z_eq]; exact hz, rfl⟩⟩ (q m _ b2 b1)
        · cases e
      · cases e
    · cases e
  | _ => cases e
theorem Fit.tr (f : Fit X C G F) (hc : C.hk = none) {W : WX} {pn : List (Addr × Obj)} {xe : Value → Shared → Prop} (tk : Takes (X.tr pn xe) W) (ps : PassesOwn (model X.prog X.w) X.A X.env xe) : Fit (X.tr pn xe) C (G.wish W) F where
  N := f.N
  nd := f.nd
  sc := f.sc
  calm := f.calm
  fn := f.fn
  K := f.K
  w := f.w
  tk := tk
  pass := ps
  un := f.un
  gd := f.gd
  blt := f.blt
  con := f.con
  fns := f.fns
  own := f.own
  exc := f.exc
  excF := f.excF
  room := f.room
  hkc := f.hkc
  hk0 := f.hk0
  hk1 := fun i c h => nomatch hc.symm.trans h
theorem Fit.suite (f : Fit X C G F) {a dd : Addr} {oe : Obj} {cls : Value} {c i : Nat} {x : Str} {pn : List (Addr × Obj)} (hz : Zc cls (some dd) oe) (hf : ∃ vs, oe.data = .fields vs) (hc : cls = .ref (G.cls c)) (hx : ExcT X.K X.mg x (G.fld c) (G.cls c)) :
    Fit (X.suite a ((a, oe) :: pn)) { C with calm := false, hk := some (i, c) } (G.suite (some (i, a, dd, G.fld c))) F where
  N := f.N
  nd := f.nd
  sc := f.sc
  calm := rfl
  fn := f.fn
  K := f.K
  w := f.w
  tk := takes0
  pass := PassesOwn.never
  un := f.un
  gd := f.gd
  blt := f.blt
  con := f.con
  fns := fun h => nomatch (show false = true from h)
  own := f.own
  exc := f.exc
  excF := f.excF
  room := fun h => nomatch (show false = true from h)
  hkc := fun h => nomatch (show false = true from h)
  hk0 := fun h => nomatch (show some (i, c) = none from h)
  hk1 := by
    intro i' c' h
    cases (show some (i, c) = some (i', c') from h)
    refine ⟨a, dd, rfl, fun e j pos he hb => ?_⟩
    refine PE.of (hx.rd X rfl rfl a oe cls (some dd) pn e _ pos hz hf he hb) fun σ H Q q => ?_
    obtain ⟨v, e1, e2, u, e3, e4⟩ := q
    exact ⟨v, e1, e2, hc, dd, u, rfl, e3, e4⟩
theorem Fit.suite0 (f : Fit X C G F) {a : Addr} {pn : List (Addr × Obj)} : Fit (X.suite a pn) { C with calm := false, hk := none } (G.suite none) F where
  N := f.N
  nd := f.nd
  sc := f.sc
  calm := rfl
  fn := f.fn
  K := f.K
  w := f.w
  tk := takes0
  pass := PassesOwn.never
  un := f.un
  gd := f.gd
  blt := f.blt
  con := f.con
  fns := fun h => nomatch (show false = true from h)
  own := f.own
  exc := f.exc
  excF := f.excF
  room := fun h => nomatch (show false = true from h)
  hkc := fun h => nomatch (show false = true from h)
  hk0 := fun h => rfl
  hk1 := fun i c h => nomatch (show none = some (i, c) from h)
/-- try -/
theorem s_try (hB : OkB S F) (f : Fit X C G F) (body : List Stmt) (x : Str) (n : Option Str) (su : List Stmt) (np pos' pos : Pos) : PS X (.Try body [.ExceptHandler (some (.Name x np)) n su pos'] [] [] pos) (tS G (tryE S C body x n su)) := by
  have nv : ∀ {s : Stmt}, PS X s (tS G stuckS) := PS.never fun D σ H h => tS_stuck h
  unfold tryE
  split
  · rename_i hh
    simp only [Bool.and_eq_true] at hh
    obtain ⟨⟨⟨h1, h2⟩, h3⟩, h4⟩ := hh
    obtain ⟨g1, g2⟩ := f.glb h3
    have hkc := f.hkc h1
    obtain ⟨o1, o2⟩ := f.own h2
    cases su with
    | nil => cases h4
    | cons b0 su =>
      split
      · rename_i c hc
        have ex := f.exc x c hc
        have nm : Names X x (.ref (G.cls c)) := ⟨g1, (plain_ne g2).1, .inl ex.gC⟩
        have te := ex.te
        rw [f.K] at te
        cases n with
        | some n =>
          dsimp only
          split
          · rename_i i hl hi
            refine PS.of (ps_try_as (i := i) (ts := tSuite G c (some i) (S.B { C with calm := false, hk := some (i, c) } (b0 :: su))) (tb := fun W => tS (G.wish W) (S.B C body)) o1 o2 (by rw [f.N]; exact f.nd) (by rw [f.N]; exact ixOf_get hi)
              (show X.env.scope.names.lookup n = some .local from by rw [f.sc]; exact hl) nm f.tk (fun W pn xe tk ps => hB _ _ _ (f.tr hkc tk ps) body) (fun a oe cls d pn hz hf => ?_)) fun D σ H h => ?_
            · refine ⟨fun pins s σ H D I q => ?_⟩
              obtain ⟨dd, rfl, hcl, q⟩ := q
              exact (hB _ _ _ (f.suite (i := i) hz hf hcl ex) (b0 :: su)).run pins s σ H D I q
            · have z := try_tS (f.hk0 hkc) te h
              rw [← f.K] at z
              exact z
          · exact nv
        | none =>
          dsimp only
          refine PS.of (ps_try_only (ts := tSuite G c none (S.B { C with calm := false, hk := none } (b0 :: su))) (tb := fun W => tS (G.wish W) (S.B C body)) o1 o2 nm f.tk (fun W pn xe tk ps => hB _ _ _ (f.tr hkc tk ps) body)
            (fun a oe cls d pn hz hf => ?_)) fun D σ H h => ?_
          · refine ⟨fun pins s σ H D I q => ?_⟩
            obtain ⟨dd, rfl, hcl, q⟩ := q
            exact (hB _ _ _ (f.suite0 (a := a) (pn := (a, oe) :: pn)) (b0 :: su)).run pins s σ H D I q
          · have z := try0_tS (f.hk0 hkc) te h
            rw [← f.K] at z
            exact z
      · exact nv
  · exact nv
theorem sw_none {e : Expr} (h : isComp e = false) (l : Nat) (env : Env) : swapsWith e none l env = pure false := by
  cases e <;> first | rfl | cases h
theorem sw_name {e : Expr} (h : isComp e = false) (t : Option Expr) (l : Nat) (env : Env) : swapsWith e t l env = pure false := by
  cases e <;> first | rfl | cases h
theorem ok_B (hS : OkS S F) (h0 : OkS (stepQ F S) F → True) : OkB (stepQ F S) F := by
  intro X C G f st
  show PSs X st (tS G (stepB S C st))
  induction st with
  | nil => exact PSs.of pss_nil fun D σ H h => skip_tS h
  | cons s r ih => exact PSs.of (pss_cons (hS X C G f s) ih) fun D σ H h => seq_tS h
theorem lc_other {elt : Expr} {gens : List Comprehension} {sc : Scope} {cp : Pos} (h : ¬ ∃ tg it ifs, gens = [⟨tg, it, ifs, 0⟩]) (h2 : ¬ ∃ tg it tg1 it1, gens = [⟨tg, it, [], 0⟩, ⟨tg1, it1, [], 0⟩]) : stepE F S C (.ListComp elt gens sc cp) = stuck := by
  unfold stepE
  split <;> first
    | rfl
    | (rename_i e; injection e with e1 e2; exact absurd ⟨_, _, _, e2⟩ h)
    | (rename_i e; injection e with e1 e2; exact absurd ⟨_, _, _, _, e2⟩ h2)
    | (rename_i e; cases e)
theorem dc_other {k v : Expr} {gens : List Comprehension} {sc : Scope} {cp : Pos} (h : ¬ ∃ tg it, gens = [⟨tg, it, [], 0⟩]) : stepE F S C (.DictComp k v gens sc cp) = stuck := by
  unfold stepE
  split <;> first
    | rfl
    | (rename_i e; injection e with e1 e2 e3; exact absurd ⟨_, _, e3⟩ h)
    | (rename_i e; cases e)
theorem asgF_tS {t : Tg} {e : Expr} {M : M D} {K : Ends} {σ : L2.St} {H : Hp} (h : tS G (asgF C t e M) K σ H) : tAsg (tG G G.R M) (gG G t) K σ H := by
  unfold asgF at h
  split at h
  · exact asg_tS h
  · exact frz_tG (asg_tS h)
theorem asgFN_tS {i : Nat} {e : Expr} {M : M D} {K : Ends} {σ : L2.St} {H : Hp} (hn : notHk G i) (h : tS G (asgF C (.nm i) e M) K σ H) : tAsg (tG G G.R M) (gName i) K σ H := by
  unfold asgF at h
  split at h
  · exact asgN_tS hn h
  · exact frz_tG (asgN_tS hn h)
/-- name = value -/
theorem s_name (hE : OkE S F) (hT : OkT S F) (hI : OkI S F) (f : Fit X C G F) {e : Expr} {tg : Expr} {i : Nat} (hi : nmIx C tg = some i) (pos : Pos) (iE' : PE X e (tG G G.R (stepE F S C e))) :
    PS X (.Assign [tg] e pos) (tS G (asgF C (.nm i) e (if isComp e then stepE F S C e else S.E C e))) := by
  obtain ⟨x, p, rfl, hl, hk⟩ := nmIx_some hi
  obtain ⟨a1, a2, a3⟩ := f.loc hl
  have nd : X.N.Nodup := by rw [f.N]; exact f.nd
  have hn := f.noHk hk
  have iE := hE X C G f
  have nv : ∀ {s : Stmt} {e : Expr}, PS X s (tS G (asgF C (.nm i) e (stuck : M D))) := PS.never fun D σ H h => tG_stuck (asgFN_tS hn h)
  cases hc : isComp e with
  | false =>
    exact PS.of (ps_set nd a1 a2 (iE e) (sw_name hc _ _ _) a3) fun D σ H h => asgFN_tS hn h
  | true =>
    cases e <;> first | (cases hc; done) | skip
    · rename_i elt gens sc cp
      by_cases hg : ∃ tg it ifs, gens = [⟨tg, it, ifs, 0⟩]
      · obtain ⟨tg', it, ifs, rfl⟩ := hg
        have hsw : swapsWith (.ListComp elt [⟨tg', it, ifs, 0⟩] sc cp) (some (.Name x p)) pos.line X.env = pure (X.env.blockKind == .function && X.env.kindOf x == some .local && p.line == cp.line && !(sc.names.any fun (n, k) => n == x && (k == .local || k == .cell))) := rfl
        cases hb : (X.env.blockKind == .function && X.env.kindOf x == some .local && p.line == cp.line && !(sc.names.any fun (n, k) => n == x && (k == .local || k == .cell))) with
        | false => rw [hb] at hsw; exact PS.of (ps_set nd a1 a2 iE' hsw a3) fun D σ H h => asgFN_tS hn h
        | true =>
          rw [hb] at hsw
          simp only [Bool.and_eq_true] at hb
          exact PS.of (s_lc hE hT hI f a1 (eq_of_beq hb.1.1.2) hsw) fun D σ H h => asgFN_tS hn h
      · by_cases hg2 : ∃ tg it tg1 it1, gens = [⟨tg, it, [], 0⟩, ⟨tg1, it1, [], 0⟩]
        · obtain ⟨tg', it, tg1, it1, rfl⟩ := hg2
          have hsw : swapsWith (.ListComp elt [⟨tg', it, [], 0⟩, ⟨tg1, it1, [], 0⟩] sc cp) (some (.Name x p)) pos.line X.env = pure (X.env.blockKind == .function && X.env.kindOf x == some .local && p.line == cp.line && !(sc.names.any fun (n, k) => n == x && (k == .local || k == .cell))) := rfl
          cases hb : (X.env.blockKind == .function && X.env.kindOf x == some .local && p.line == cp.line && !(sc.names.any fun (n, k) => n == x && (k == .local || k == .cell))) with
          | false => rw [hb] at hsw; exact PS.of (ps_set nd a1 a2 iE' hsw a3) fun D σ H h => asgFN_tS hn h
          | true =>
            rw [hb] at hsw
            simp only [Bool.and_eq_true] at hb
            exact PS.of (s_lc2 hE hI f a1 (eq_of_beq hb.1.1.2) hsw) fun D σ H h => asgFN_tS hn h
        · rw [lc_other hg hg2]
          exact nv
    · exact nv
    · rename_i kx vx gens sc cp
      by_cases hg : ∃ tg it, gens = [⟨tg, it, [], 0⟩]
      · obtain ⟨tg', it, rfl⟩ := hg
        have hsw : swapsWith (.DictComp kx vx [⟨tg', it, [], 0⟩] sc cp) (some (.Name x p)) pos.line X.env = pure (X.env.blockKind == .function && X.env.kindOf x == some .local && p.line == cp.line && !(sc.names.any fun (n, k) => n == x && (k == .local || k == .cell))) := rfl
        cases hb : (X.env.blockKind == .function && X.env.kindOf x == some .local && p.line == cp.line && !(sc.names.any fun (n, k) => n == x && (k == .local || k == .cell))) with
        | false => rw [hb] at hsw; exact PS.of (ps_set nd a1 a2 iE' hsw a3) fun D σ H h => asgFN_tS hn h
        | true =>
          rw [hb] at hsw
          simp only [Bool.and_eq_true] at hb
          exact PS.of (s_dc hE hI f a1 (eq_of_beq hb.1.1.2) hsw) fun D σ H h => asgFN_tS hn h
      · rw [dc_other hg]
        exact nv
end
end Dd

set_option Elab.async false
set_option linter.all false
set_option maxRecDepth 100000
set_option maxHeartbeats 4000000
namespace Dd
open PySem PySem.Spec PyProof.Rows L2

section
variable {X : Cx} {C : CE} {G : Pc} {F : Call} {S : Sm}
theorem tg_sub {o k e : Expr} {p : Pos} (l : Nat) (env : Env) : swapsWithSole [.Subscript o k p] e l env = pure false ∧ swappedStores [.Subscript o k p] e env = pure none := by
  refine ⟨?_, ?_⟩
  · show swapsWith e (some (.Subscript o k p)) l env = pure false
    cases e <;> rfl
  · cases e <;> rfl
theorem tg_tup {es : List Expr} {k : Nat} {e : Expr} {p : Pos} (h : isTupE e = false) (hc : isComp e = false) (l : Nat) (env : Env) : swapsWithSole [.Tuple es k p] e l env = pure false ∧ swappedStores [.Tuple es k p] e env = pure none := by
  refine ⟨?_, ?_⟩
  · show swapsWith e (some (.Tuple es k p)) l env = pure false
    exact sw_name hc _ _ _
  · cases e <;> first | rfl | cases h
theorem aug_some {op : PySem.Operator} {f : D → D → DH → Option (D × DH)} (h : augD op = some f) : ∃ gi fi, f = augI gi fi ∧ ∀ X : Cx, PIp X op (ipG gi fi) := by
  cases op <;> first | cases h | skip
  · exact ⟨_, _, rfl, fun X pins s σ H x y v u Q I r1 r2 ⟨i, j, e1, e2, _, q⟩ => ip_add pins s σ H x y v u Q I r1 r2 ⟨i, j, e1, e2, q⟩⟩
  · exact ⟨_, _, rfl, fun X pins s σ H x y v u Q I r1 r2 ⟨i, j, e1, e2, _, q⟩ => ip_sub pins s σ H x y v u Q I r1 r2 ⟨i, j, e1, e2, q⟩⟩
  · exact ⟨_, _, rfl, fun X pins s σ H x y v u Q I r1 r2 ⟨i, j, e1, e2, g, q⟩ => iop_shr pins s σ H x y v u Q I r1 r2 ⟨i, j, e1, e2, leI_iff.mp g, q⟩⟩
  · exact ⟨_, _, rfl, fun X pins s σ H x y v u Q I r1 r2 ⟨i, j, e1, e2, _, q⟩ => iop_or pins s σ H x y v u Q I r1 r2 ⟨i, j, e1, e2, q⟩⟩
theorem ok_S (hE : OkE S F) (hT : OkT S F) (hI : OkI S F) (hO : OkO S F) (hB : OkB S F) (hE' : OkE (stepQ F S) F) : OkS (stepQ F S) F := by
  intro X C G f st
  have iE := hE X C G f
  have nd : X.N.Nodup := by rw [f.N]; exact f.nd
  have nv : ∀ {s : Stmt}, PS X s (tS G stuckS) := PS.never fun D σ H h => tS_stuck h
  show PS X st (tS G (stepS F S C st))
  unfold stepS
  split
  · exact PS.of (ps_ret (iE _)) fun D σ H h => ret_tS h
  · refine PS.of ps_retN fun D σ H h => ?_
    obtain ⟨m, e, hh, fl, e', h', a1, a2, a3, a4⟩ := h
    cases a3
    exact a4 m H σ (Ext.refl _ _) a1 a2 _ rfl
  · exact PS.of ps_pass fun D σ H h => skip_tS h
  · refine PS.of ps_break fun D σ H h => ?_
    obtain ⟨m, e, hh, fl, e', h', a1, a2, a3, a4⟩ := h
    cases a3
    exact a4 m H σ (Ext.refl _ _) a1 a2
  · refine PS.of ps_continue fun D σ H h => ?_
    obtain ⟨m, e, hh, fl, e', h', a1, a2, a3, a4⟩ := h
    cases a3
    exact a4 m H σ (Ext.refl _ _) a1 a2
  · exact PS.of ps_doc fun D σ H h => skip_tS h
  · split
    · exact nv
    · rename_i hc
      exact PS.of (ps_expr (iE _) (sw_none (by simpa using hc) _ _)) fun D σ H h => frz_tG (drop_tS h)
  · split
    · exact nv
    · rename_i o k p e pos hc
      simp only [Bool.or_eq_true, not_or, Bool.not_eq_true] at hc
      have sub := tg_sub (o := o) (k := k) (e := e) (p := p) pos.line X.env
      refine PS.of (ps_asg (frzE_ok (iE e)) (pg_sub (iE o) (iE k) (set_any f) ?_) sub.1 sub.2 rfl) fun D σ H h => set_tS h
      intro v
      have := hc.1
      cases k <;> first | rfl | cases this
  · split
    · rename_i tg e pos hn _ t ht
      split
      · exact nv
      · rename_i hc
        simp only [Bool.or_eq_true, Bool.and_eq_true, not_or, not_and, Bool.not_eq_true] at hc
        unfold tgOf at ht
        split at ht
        · obtain ⟨i, e1, e2⟩ := map_some ht
          subst e2
          exact s_name hE hT hI f e1 pos (hE' X C G f e)
        · rename_i es kk tp
          have c2 : isComp e = false := by
            cases hh : isComp e with
            | false => rfl
            | true => exact absurd (hc.2 hh) (by intro z; cases z)
          have c1 : isTupE e = false := hc.1 rfl
          rw [c2]
          have tp' : tgOf C (.Tuple es kk tp) = some t := ht
          have sub := tg_tup (es := es) (k := kk) (p := tp) c1 c2 pos.line X.env
          exact PS.of (ps_asg (iE e) (pg_tg f tp') sub.1 sub.2 rfl) fun D σ H h => asgF_tS h
        · cases ht
    · exact nv
  · split
    · rename_i x p op e pos _ _ i g hi hf
      split
      · exact nv
      · rename_i hk
        obtain ⟨gi, fi, rfl, hp⟩ := aug_some hf
        obtain ⟨a1, a2, a3⟩ := f.loc hi
        exact PS.of (ps_aug nd a1 a2 (iE e) (hp X) a3) fun D σ H h => aug_tS (f.noHk (by simpa using hk)) h
    · exact nv
  · exact PS.of (ps_if (hT X C G f _) (hB X C G f _) (hB X C G f _)) fun D σ H h => trimB_tG (if_tS h)
  · split
    · rename_i hc
      rw [Bool.and_eq_true] at hc
      split
      · rename_i t ht
        exact PS.of (ps_for f.pass (by rw [f.calm]; exact hc.1) (hI X C G f _ _) (pg_tg f ht) (hB X C G f _) (folded (by simpa using hc.2))) fun D σ H h => for_tS h
      · exact nv
    · exact nv
  · exact PS.of (ps_while f.pass (PT.of (hT X C G f _) fun σ H Q q => trimB_tG q) (hB X C G f _)) fun D σ H h => while_tS h
  · split
    · rename_i x p a p2 pos hc
      simp only [Bool.and_eq_true] at hc
      obtain ⟨⟨⟨h1, h2⟩, h3⟩, h4⟩ := hc
      obtain ⟨g1, g2⟩ := f.glb h3
      split
      · rename_i c hx
        obtain ⟨k, hr⟩ := f.room h1
        have hall : ([a] : List Expr).all noStar = true := by rw [List.all_cons, h4]; rfl
        exact PS.of (ps_raise (by rw [f.calm]; exact h1) f.tk ((f.exc x c hx).mkx X rfl rfl a _ p p2 k hr (pa_all iE hall) g1 (plain_ne g2).1 h4)) fun D σ H h => raise_tS h
      · exact nv
    · exact nv
  · exact s_try hB f _ _ _ _ _ _ _
  · exact nv
structure OkSm (S : Sm) (F : Call) : Prop where
  E : OkE S F
  T : OkT S F
  W : OkW S F
  O : OkO S F
  I : OkI S F
  St : OkS S F
  B : OkB S F
theorem ok_sem (F : Call) : ∀ n, OkSm (sem F n) F
  | 0 => by
    refine ⟨fun X C G f e => PE.never fun σ H Q h => tG_stuck h, fun X C G f e => PT.never fun σ H Q h => tG_stuck h, fun X C G f op es p => PW.never fun σ H Q h => tG_stuck h, fun X C G f o => ⟨fun pins s σ H Q I q => (tG_stuck q).elim⟩,
      fun X C G f tg e => ⟨fun pins s σ H R I q => ?_⟩, fun X C G f st => PS.never fun D σ H h => tS_stuck h, fun X C G f st => ⟨fun pins s σ H D I q => (tS_stuck q).elim⟩⟩
    obtain ⟨m, e0, hh, r, h', a1, a2, a3, a4⟩ := q
    cases a3
  | n + 1 => by
    have ih := ok_sem F n
    have e := ok_E ih.E ih.T ih.I ih.O
    have w := ok_W ih.T ih.W
    exact ⟨e, ok_T ih.E ih.T w, w, ok_O ih.E, ok_I ih.E, ok_S ih.E ih.T ih.I ih.O ih.B e, ok_B ih.St (fun _ => trivial)⟩
end
end Dd

set_option Elab.async false
set_option linter.all false
set_option maxRecDepth 100000
set_option maxHeartbeats 4000000
namespace Dd
open PySem PySem.Spec PyProof.Rows L2

/-! # 26. Every def of the program does what the plain program does -/
structure Lk (w : World) (K : PySem.W.Frag) (mg : Str → Option Value) (p : Pg) (cls : Nat → Addr) (fld : Nat → Str) : Prop where
  fns : ∀ (k : Nat) (f : Fn), p.fns[k]? = some f → ∃ (a : Addr) (fd : FuncData) (st : Stmt), mg f.name = some (.ref a) ∧ PySem.W.keepIn K (.ref a) = true ∧ Fun K f.name f.name st a fd ∧ FnScope f.N f.ps (defScope st) ∧ Binds K fd f.ps [] ∧ f.sc = defScope st ∧ f.body = defBody st
  blt : ∀ x ∈ bltNms, mg x = none
  con : ∀ x d, p.con.lookup x = some d → ∃ u v, mg x = some u ∧ RelV v u ∧ ∀ m H, RelD K w m H d v
  exc : ∀ x c, exIx x p.exc 0 = some c → ExcT K mg x (fld c) (cls c)
  excF : ∀ c x f, p.exc[c]? = some (x, f) → f = fld c
theorem fnIx_get {x : Str} : ∀ {l : List (Str × Nat × Nat)} {k i : Nat} {ar : Nat × Nat}, fnIx x l k = some (i, ar) → ∃ j, i = k + j ∧ l[j]? = some (x, ar)
  | [], _, _, _, h => by cases h
  | (y, a) :: r, k, i, ar, h => by
    unfold fnIx at h
    split at h
    · rename_i e
      cases h
      exact ⟨0, rfl, by rw [e]; rfl⟩
    · obtain ⟨j, e1, e2⟩ := fnIx_get h
      exact ⟨j + 1, by omega, e2⟩
theorem start_env {G : Pc} {m : Mp} {H : Hp} (hk : G.hk = none) {N : List Str} : ∀ {ds : List D} {vs : List V}, G.Rs m H ds vs → EnvR G m H (startD N ds) (L2.start N vs) := by
  intro ds vs g
  have hl : vs.length = ds.length := RelDs.length g
  refine ⟨?_, fun i d q => ?_⟩
  · unfold startD L2.start
    rw [List.length_append, List.length_append, List.length_map, List.length_map, hl, List.length_replicate, List.length_replicate]
  · unfold SlotR
    rw [hk]
    show ∃ v, (L2.start N vs)[i]? = some (some v) ∧ G.R m H d v
    unfold startD at q
    by_cases hi : i < ds.length
    · rw [List.getElem?_append_left (by rw [List.length_map]; exact hi), List.getElem?_map] at q
      obtain ⟨d', e1, e2⟩ := map_some q
      cases e2
      obtain ⟨v, e3, e4⟩ := RelDs.get g e1
      refine ⟨v, ?_, e4⟩
      unfold L2.start
      rw [List.getElem?_append_left (by rw [List.length_map, hl]; exact hi), List.getElem?_map, e3]
      rfl
    · rw [List.getElem?_append_right (by rw [List.length_map]; omega)] at q
      rw [List.getElem?_replicate] at q
      split at q <;> cases q
section
variable {P : Program} {w : World} {K : PySem.W.Frag} {mg : Str → Option Value} {base : Heap} {p : Pg} {cls : Nat → Addr} {fld : Nat → Str}
def pcOf (K : PySem.W.Frag) (w : World) (cls : Nat → Addr) (fld : Nat → Str) (W : WX) : Pc := ⟨K, w, cls, fld, W, none, fun _ => 0⟩
theorem fit_def (L : Lk w K mg p cls fld) {f : Fn} {n : Nat} {F : Call} {st : Stmt} {fa : Addr} {cdv : Value} {A : Around} {outer : List Env} {s : Shared} {H : Hp} {E : XK} (S : FnScope f.N f.ps (defScope st)) (hsc : f.sc = defScope st)
    (hr : Room n (A.deeper (envOfC f.name (defScope st) s.heap.objs.size fa cdv))) (hg : A.guards = some [])
    (ih : ∀ (k : Nat) (g : Fn) (a : Addr), p.fns[k]? = some g → mg g.name = some (.ref a) → FnG P w K mg base n a (spF (pcOf K w cls fld fun _ _ _ _ => False) F k)) :
    Fit (cxOf (L2.CX P w) P w K mg base f.N f.name (defScope st) fa cdv A outer s H E) (p.ce f) (pcOf K w cls fld fun cv d _ H => E cv d H) F where
  N := rfl
  nd := S.nd
  sc := hsc.symm
  calm := rfl
  fn := fun x _ => rfl
  K := rfl
  w := rfl
  tk := takes_of rfl rfl rfl rfl
  pass := passes_of rfl
  un := by
    have := hr.un
    show (A.deeper (envOfC f.name (defScope st) s.heap.objs.size fa cdv)).units + 100 < cLine
    omega
  gd := hg
  blt := L.blt
  con := L.con
  fns := by
    intro _ x i ar h
    obtain ⟨j, e1, e2⟩ := fnIx_get h
    rw [Nat.zero_add] at e1
    subst e1
    have e2 : (p.fns.map fun g => (g.name, g.ps.length, g.kind))[i]? = some (x, ar) := e2
    rw [List.getElem?_map] at e2
    obtain ⟨g, e3, e4⟩ := map_some e2
    cases e4
    obtain ⟨a, fd, st', h1, h2, _⟩ := L.fns i g e3
    exact ⟨a, n, h1, h2, hr, ih i g a e3 h1⟩
  own := fun _ => ⟨rfl, rfl⟩
  exc := L.exc
  excF := L.excF
  room := fun _ => ⟨n, hr⟩
  hkc := fun _ => rfl
  hk0 := fun _ => rfl
  hk1 := fun i c h => nomatch (show (none : Option (Nat × Nat)) = some (i, c) from h)
theorem run_ok (L : Lk w K mg p cls fld) : ∀ (n k : Nat) (f : Fn) (a : Addr), p.fns[k]? = some f → mg f.name = some (.ref a) → FnG P w K mg base n a (spF (pcOf K w cls fld fun _ _ _ _ => False) (p.run n) k)
  | 0, k, f, a, _, _ => fun A outer s H us vs Q E _ _ _ _ ⟨m, h, ds, r, h', _, _, e, _⟩ => nomatch (show none = some (r, h') from e)
  | n + 1, k, f, a, hf, ha => by
    obtain ⟨a', fd, st, h1, h2, h3, h4, h5, h6, h7⟩ := L.fns k f hf
    rw [ha] at h1
    cases h1
    have ih := run_ok L n
    refine fnG_of h3 h4 h5 (fun vs H Q E h => ?_) fun cdv A outer s H vs Q E hr hg h => ?_
    · obtain ⟨m, hh, ds, r, h', a1, a2, a3, a4⟩ := h
      have a3 : (match p.fns[k]? with | some f => f.run p (p.run n) ds hh | none => none) = some (r, h') := a3
      rw [hf] at a3
      have a3 : f.run p (p.run n) ds hh = some (r, h') := a3
      unfold Fn.run at a3
      split at a3
      · rename_i hl
        rw [RelDs.length a2, hl]
      · cases a3
    · have fit := fit_def (P := P) (base := base) L (cdv := cdv) (outer := outer) (H := H) (E := E) h4 h6 hr hg ih
      refine ⟨_, (ok_sem (p.run n) fuel).B _ _ _ fit (defBody st), ?_⟩
      obtain ⟨m, hh, ds, r, h', a1, a2, a3, a4⟩ := h
      have a3 : (match p.fns[k]? with | some f => f.run p (p.run n) ds hh | none => none) = some (r, h') := a3
      rw [hf] at a3
      have a3 : f.run p (p.run n) ds hh = some (r, h') := a3
      unfold Fn.run at a3
      split at a3
      · rw [h7] at a3
        have en : EnvR (pcOf K w cls fld fun cv d _ H => E cv d H) m H (startD f.N ds) (L2.start f.N vs) := start_env rfl a2
        split at a3
        · rename_i d e1 h1 hs
          cases a3
          exact ⟨m, _, hh, _, _, _, a1, en, hs, fun m' H' σ' x y z v g => a4 m' H' x y v g⟩
        · rename_i e1 h1 hs
          cases a3
          exact ⟨m, _, hh, _, _, _, a1, en, hs, fun m' H' σ' x y z => a4 m' H' x y _ rfl⟩
        · rename_i c q e1 h1 hs
          cases a3
          exact ⟨m, _, hh, _, _, _, a1, en, hs, fun m' H' σ' x y z cv d ex => a4 m' H' x y cv d ex⟩
        · cases a3
      · cases a3
end
end Dd

set_option Elab.async false
set_option linter.all false
set_option maxRecDepth 100000
set_option maxHeartbeats 4000000
namespace Dd
open PySem PySem.Spec PyProof.Rows L2

/-! # 27. What the program's top has left -/
/-- of the written part that is meant -/
abbrev KOf {K : PySem.W.Frag} {h : Heap} (_ : K.In h) (Q : PySem.W.Frag → Prop) : Prop := Q K
/-- a def stands there -/
def DefAt (K : PySem.W.Frag) (mg : Str → Option Value) (x : Str) (st : Stmt) : Prop := ∃ (a : Addr) (fd : FuncData), mg x = some (.ref a) ∧ PySem.W.keepIn K (.ref a) = true ∧ Fun K x x st a fd
theorem def_mk {K : PySem.W.Frag} {h : Heap} {mg : Str → Option Value} {x : Str} {st : Stmt} (X : K.In h) (G : h.Ns mainGlobals mg) {f : Addr} {oc : Value} {od an : Option Addr} {osl : Array (Option Value)} {kV doc pm cdv ct : Value}
    (a : PySem.W.nsIn K mainGlobals x = some (some (.ref f))) (l : K.lookup f = some ⟨oc, od, .func (PySem.W.fnOf x x (defArgs st) (defBody st) (defScope st) .none kV doc pm an cdv ct), osl⟩)
    (c : PySem.W.codeIn K cdv x = true) (k : PySem.W.keepIn K (.ref f) = true) : DefAt K mg x st := ⟨f, _, PySem.W.mg_of X G a, k, fun_mk l c k⟩
/-- a def of the plain program, of the text st -/
structure FnOf (f : Fn) (st : Stmt) : Prop where
  sc : f.sc = defScope st
  body : f.body = defBody st
  scope : FnScope f.N f.ps (defScope st)
  binds : ∀ (kV doc pm : Value) (an : Option Addr) (cdv ct : Value) (us : List Value), us.length = f.ps.length → bindArgs (PySem.W.fnOf f.name f.name (defArgs st) (defBody st) (defScope st) .none kV doc pm an cdv ct) ⟨us, []⟩ = pure (f.ps.zip us)
def LkF (K : PySem.W.Frag) (mg : Str → Option Value) (f : Fn) : Prop := ∃ (a : Addr) (fd : FuncData) (st : Stmt), mg f.name = some (.ref a) ∧ PySem.W.keepIn K (.ref a) = true ∧ Fun K f.name f.name st a fd ∧ FnScope f.N f.ps (defScope st) ∧ Binds K fd f.ps [] ∧ f.sc = defScope st ∧ f.body = defBody st
theorem lkF {K : PySem.W.Frag} {mg : Str → Option Value} {f : Fn} {st : Stmt} (o : FnOf f st) (d : DefAt K mg f.name st) : LkF K mg f := by
  obtain ⟨a, fd, h1, h2, h3⟩ := d
  exact ⟨a, fd, st, h1, h2, h3, o.scope, h3.binds o.binds, o.sc, o.body⟩
def ConAt (K : PySem.W.Frag) (w : World) (mg : Str → Option Value) (x : Str) (d : D) : Prop := ∃ u v, mg x = some u ∧ RelV v u ∧ ∀ m H, RelD K w m H d v
section
variable {K : PySem.W.Frag} {w : World} {h : Heap} {mg : Str → Option Value} {x : Str}
theorem con_int (X : K.In h) (G : h.Ns mainGlobals mg) {i : Int} {t : Tok} (a : PySem.W.nsIn K mainGlobals x = some (some (.int i t))) : ConAt K w mg x (.int i) := ⟨_, .int i, PySem.W.mg_of X G a, ⟨t, rfl⟩, fun m H => rfl⟩
theorem con_str (X : K.In h) (G : h.Ns mainGlobals mg) {i : Str} {t : Tok} (a : PySem.W.nsIn K mainGlobals x = some (some (.str i t))) : ConAt K w mg x (.str i) := ⟨_, .str i, PySem.W.mg_of X G a, ⟨t, rfl⟩, fun m H => rfl⟩
theorem con_kt (X : K.In h) (G : h.Ns mainGlobals mg) {xs : List D} {p : Addr} (a : PySem.W.nsIn K mainGlobals x = some (some (.ref p))) (k : RelK K (.kt xs) (.ref p)) : ConAt K w mg x (.kt xs) := ⟨_, .ref p, PySem.W.mg_of X G a, rfl, fun m H => k⟩
theorem con_wd (X : K.In h) (G : h.Ns mainGlobals mg) {kvs : List (Str × D)} {p : Addr} (a : PySem.W.nsIn K mainGlobals x = some (some (.ref p))) (k : RelW K w kvs (.ref p)) : ConAt K w mg x (.wd kvs) := ⟨_, .ref p, PySem.W.mg_of X G a, rfl, fun m H => k⟩
theorem kt_mk {xs : List D} {vs : List V} {p : Addr} {c : Value} {dd : Option Addr} {its : Array Value} {n : Nat} {sl : Array (Option Value)} (l : K.lookup p = some ⟨c, dd, .seq its n, sl⟩) (hc : c = .type "tuple") (hz : its.size ≤ 1000) (hv : Vals vs its.toList) (hr : RelKs K xs vs) : RelK K (.kt xs) (.ref p) :=
  ⟨p, vs, rfl, ⟨_, its, n, l, hc, rfl, Nat.le_trans hz (by decide), hv⟩, hr⟩
/-- the entries of a written dict -/
def EntR (K : PySem.W.Frag) : List DictEntry → List (Str × D) → Prop
  | [], kvs => kvs = []
  | e :: es, kvs => ∃ x d r t v0, kvs = (x, d) :: r ∧ e.key = .str x t ∧ RelV v0 e.val ∧ RelK K d v0 ∧ EntR K es r
theorem ent_find {a : Addr} (z : Str) : ∀ {es : List DictEntry} {kvs : List (Str × D)}, EntR K es kvs → match kvs.lookup z with
    | some d => ∃ e v0, es.find? (·.key.isStr z) = some e ∧ RelV v0 e.val ∧ RelK K d v0
    | none => es.find? (·.key.isStr z) = none ∧ es.any (·.refKey) = false
  | [], kvs, h => by cases (show kvs = [] from h); exact ⟨rfl, rfl⟩
  | e :: es, kvs, h => by
    obtain ⟨x, d, r, t, v0, rfl, hk, h1, h2, h3⟩ := h
    have ih := ent_find (a := a) z h3
    have hs : e.key.isStr z = (x == z) := by rw [hk]; rfl
    have hr : e.refKey = false := by unfold DictEntry.refKey; rw [hk]
    rw [List.lookup_cons, List.find?_cons, hs]
    cases hb : x == z with
    | true =>
      have : (z == x) = true := by rw [eq_of_beq hb]; exact beq_self_eq_true z
      rw [this]
      exact ⟨e, v0, rfl, h1, h2⟩
    | false =>
      have : (z == x) = false := by
        cases hh : z == x with
        | false => rfl
        | true => rw [eq_of_beq hh, beq_self_eq_true] at hb; cases hb
      rw [this, List.any_cons, hr, Bool.false_or]
      exact ih
theorem wd_mk {kvs : List (Str × D)} {p : Addr} {es : Array DictEntry} {n : Nat} (l : K.lookup p = some ⟨.type "dict", none, .dict es n, #[]⟩) (lit : PySem.W.KeysLit w.params es.toList) (low : (p == sysModules) = false) (e : EntR K es.toList kvs) : RelW K w kvs (.ref p) := by
  refine ⟨p, es, n, rfl, ⟨l, lit, low⟩, fun z => ?_⟩
  have q := ent_find (a := p) z e
  unfold WdAt
  split at q
  · rename_i d hd
    try rw [hd]
    obtain ⟨e, v0, h1, h2, h3⟩ := q
    refine ⟨e.val, v0, ?_, h2, h3⟩
    unfold PySem.W.nsIn
    rw [l]
    dsimp only
    rw [h1]
  · rename_i hd
    try rw [hd]
    show PySem.W.nsIn K p z = some none
    unfold PySem.W.nsIn
    rw [l]
    dsimp only
    rw [q.1, q.2]
    rfl
end
/-- an error with one field is what except of its class names -/
theorem exm_own {K : PySem.W.Frag} {c : Addr} (h1 : PySem.W.subIn K (.ref c) (.type "BaseException") = some true) (h2 : PySem.W.isClsIn K c = true) (h3 : PySem.W.typeIn K (.ref c) = some (.type "type")) (h4 : PySem.W.subIn K (.ref c) (.ref c) = some true) :
    PySem.W.exmOne K (.ref c) (.ref c) = some true := by
  have h2' : (PySem.W.clsIn K c).isSome = true := h2
  simp [PySem.W.exmOne, PySem.W.kitCls, h1, h2', h3, h4]
theorem ex0 {x y : Str} {l : List (Str × Str)} {f : Str} {k c : Nat} (h : exIx x ((y, f) :: l) k = some c) : (x = y ∧ c = k) ∨ exIx x l (k + 1) = some c := by
  unfold exIx at h
  split at h
  · rename_i e; cases h; exact .inl ⟨e, rfl⟩
  · exact .inr h
theorem own_why {K : PySem.W.Frag} {h : Heap} {mg : Str → Option Value} {x : Str} (X : K.In h) (G : h.Ns mainGlobals mg) {C fI : Addr} {nm q : Str} {N : Addr} {bs bm : List Value} {sn : List Str} {sub : List Value} {ab : Bool} {col : Option Bool} {dd : Option Addr} {m0 m1 m2 m3 m5 : Option Value}
    {od an : Option Addr} {sl : Array (Option Value)} {oc dc pm cd ct : Value} {qn : Str} {p1 p2 q1 q2 q3 q4 : Pos}
    (aC : PySem.W.nsIn K mainGlobals x = some (some (.ref C)))
    (xL : K.lookup C = some (excClassObj nm q C N bs bm true sn sub ab col dd m0 m1 m2 m3 m5 "ValueError.__new__")) (rv : PySem.HandSPX.refsVE bm = true)
    (sa : PySem.W.findIn K (.ref C) "__setattr__" = some (some (.builtin "object.__setattr__"))) (ga : PySem.W.findIn K (.ref C) "__getattribute__" = some (some (.builtin "BaseException.__getattribute__"))) (gg : PySem.W.findIn K (.ref C) "__getattr__" = some none) (nb : PySem.W.findIn K (.ref C) "why" = some none)
    (a1 : PySem.W.findIn K (.ref C) "__init__" = some (some (.ref fI))) (t1 : PySem.W.typeIn K (.ref fI) = some (.type "function"))
    (l1 : K.lookup fI = some ⟨oc, od, .func (PySem.W.fnOf "__init__" qn (PySem.OWhy.iA p1 p2) (PySem.OWhy.iB q1 q2 q3 q4) PySem.OWhy.iS .none .none dc pm an cd ct), sl⟩) (c1 : PySem.W.codeIn K cd qn = true)
    (kC : PySem.W.keepIn K (.ref C) = true) (eC : PySem.W.subIn K (.ref C) (.type "BaseException") = some true) (tC : PySem.W.typeIn K (.ref C) = some (.type "type")) (hC : PySem.W.hasDictIn K C = true) (iC : PySem.W.isClsIn K C = true) (sC : PySem.W.subIn K (.ref C) (.ref C) = some true) :
    ∃ C fI, PySem.OWhy.OTxt K mg x C fI :=
  ⟨C, fI, { gC := PySem.W.mg_of X G aC, cls := ⟨nm, q, N, bs, bm, sn, sub, ab, col, dd, m0, m1, m2, m3, m5, xL, rv⟩, sa := sa, ga := ga, gg := gg, noN := nb, iC := a1, tC := t1, kC := kC, exC := eC, tyC := tC, hdC := hC, te := exm_own eC iC tC sC,
            fn := ⟨_, _, _, _, _, _, _, _, _, _, _, _, _, _, _, l1, c1⟩ }⟩
theorem own_path {K : PySem.W.Frag} {h : Heap} {mg : Str → Option Value} {x : Str} (X : K.In h) (G : h.Ns mainGlobals mg) {C fI : Addr} {nm q : Str} {N : Addr} {bs bm : List Value} {sn : List Str} {sub : List Value} {ab : Bool} {col : Option Bool} {dd : Option Addr} {m0 m1 m2 m3 m5 : Option Value}
    {od an : Option Addr} {sl : Array (Option Value)} {oc dc pm cd ct : Value} {qn : Str} {p1 p2 q1 q2 q3 q4 : Pos}
    (aC : PySem.W.nsIn K mainGlobals x = some (some (.ref C)))
    (xL : K.lookup C = some (excClassObj nm q C N bs bm true sn sub ab col dd m0 m1 m2 m3 m5 "ValueError.__new__")) (rv : PySem.HandSPX.refsVE bm = true)
    (sa : PySem.W.findIn K (.ref C) "__setattr__" = some (some (.builtin "object.__setattr__"))) (ga : PySem.W.findIn K (.ref C) "__getattribute__" = some (some (.builtin "BaseException.__getattribute__"))) (gg : PySem.W.findIn K (.ref C) "__getattr__" = some none) (nb : PySem.W.findIn K (.ref C) "path" = some none)
    (a1 : PySem.W.findIn K (.ref C) "__init__" = some (some (.ref fI))) (t1 : PySem.W.typeIn K (.ref fI) = some (.type "function"))
    (l1 : K.lookup fI = some ⟨oc, od, .func (PySem.W.fnOf "__init__" qn (PySem.OPath.iA p1 p2) (PySem.OPath.iB q1 q2 q3 q4) PySem.OPath.iS .none .none dc pm an cd ct), sl⟩) (c1 : PySem.W.codeIn K cd qn = true)
    (kC : PySem.W.keepIn K (.ref C) = true) (eC : PySem.W.subIn K (.ref C) (.type "BaseException") = some true) (tC : PySem.W.typeIn K (.ref C) = some (.type "type")) (hC : PySem.W.hasDictIn K C = true) (iC : PySem.W.isClsIn K C = true) (sC : PySem.W.subIn K (.ref C) (.ref C) = some true) :
    ∃ C fI, PySem.OPath.OTxt K mg x C fI :=
  ⟨C, fI, { gC := PySem.W.mg_of X G aC, cls := ⟨nm, q, N, bs, bm, sn, sub, ab, col, dd, m0, m1, m2, m3, m5, xL, rv⟩, sa := sa, ga := ga, gg := gg, noN := nb, iC := a1, tC := t1, kC := kC, exC := eC, tyC := tC, hdC := hC, te := exm_own eC iC tC sC,
            fn := ⟨_, _, _, _, _, _, _, _, _, _, _, _, _, _, _, l1, c1⟩ }⟩
theorem own_part {K : PySem.W.Frag} {h : Heap} {mg : Str → Option Value} {x : Str} (X : K.In h) (G : h.Ns mainGlobals mg) {C fI : Addr} {nm q : Str} {N : Addr} {bs bm : List Value} {sn : List Str} {sub : List Value} {ab : Bool} {col : Option Bool} {dd : Option Addr} {m0 m1 m2 m3 m5 : Option Value}
    {od an : Option Addr} {sl : Array (Option Value)} {oc dc pm cd ct : Value} {qn : Str} {p1 p2 q1 q2 q3 q4 : Pos}
    (aC : PySem.W.nsIn K mainGlobals x = some (some (.ref C)))
    (xL : K.lookup C = some (excClassObj nm q C N bs bm true sn sub ab col dd m0 m1 m2 m3 m5 "ValueError.__new__")) (rv : PySem.HandSPX.refsVE bm = true)
    (sa : PySem.W.findIn K (.ref C) "__setattr__" = some (some (.builtin "object.__setattr__"))) (ga : PySem.W.findIn K (.ref C) "__getattribute__" = some (some (.builtin "BaseException.__getattribute__"))) (gg : PySem.W.findIn K (.ref C) "__getattr__" = some none) (nb : PySem.W.findIn K (.ref C) "part" = some none)
    (a1 : PySem.W.findIn K (.ref C) "__init__" = some (some (.ref fI))) (t1 : PySem.W.typeIn K (.ref fI) = some (.type "function"))
    (l1 : K.lookup fI = some ⟨oc, od, .func (PySem.W.fnOf "__init__" qn (PySem.OPart.iA p1 p2) (PySem.OPart.iB q1 q2 q3 q4) PySem.OPart.iS .none .none dc pm an cd ct), sl⟩) (c1 : PySem.W.codeIn K cd qn = true)
    (kC : PySem.W.keepIn K (.ref C) = true) (eC : PySem.W.subIn K (.ref C) (.type "BaseException") = some true) (tC : PySem.W.typeIn K (.ref C) = some (.type "type")) (hC : PySem.W.hasDictIn K C = true) (iC : PySem.W.isClsIn K C = true) (sC : PySem.W.subIn K (.ref C) (.ref C) = some true) :
    ∃ C fI, PySem.OPart.OTxt K mg x C fI :=
  ⟨C, fI, { gC := PySem.W.mg_of X G aC, cls := ⟨nm, q, N, bs, bm, sn, sub, ab, col, dd, m0, m1, m2, m3, m5, xL, rv⟩, sa := sa, ga := ga, gg := gg, noN := nb, iC := a1, tC := t1, kC := kC, exC := eC, tyC := tC, hdC := hC, te := exm_own eC iC tC sC,
            fn := ⟨_, _, _, _, _, _, _, _, _, _, _, _, _, _, _, l1, c1⟩ }⟩
/-- the law's own word -/
def spLaw (K : PySem.W.Frag) (k : Nat) : Sp := fun vs H Q _ => ∃ (a : Addr) (ns : List Int), vs = [.ref a] ∧ ns.length ≤ k ∧ FrzL K H a (ns.map V.int) ∧ ∀ H', Q (.bl true) H'
theorem FnG.mono {P : Program} {w : World} {K : PySem.W.Frag} {mg : Str → Option Value} {base : Heap} {n : Nat} {f : Addr} {sp sp' : Sp} (F : FnG P w K mg base n f sp) (h : ∀ vs H Q E, sp' vs H Q E → sp vs H Q E) : FnG P w K mg base n f sp' :=
  fun A outer s H us vs Q E hr hg e0 r q => F A outer s H us vs Q E hr hg e0 r (h _ _ _ _ q)
theorem law_of {P : Program} {w : World} {K : PySem.W.Frag} {mg : Str → Option Value} {base : Heap} {p : Pg} {cls : Nat → Addr} {fld : Nat → Str} (L : Lk w K mg p cls fld) {n li k : Nat} {f : Fn} {fa : Addr} (hf : p.fns[li]? = some f) (ha : mg f.name = some (.ref fa))
    (main : ∀ ns : List Int, ns.length ≤ k → ∃ h', p.run n li [.frz ns] [] = some (.ok (.bl true), h')) : FnG P w K mg base n fa (spLaw K k) := by
  refine (run_ok (P := P) (base := base) L n li f fa hf ha).mono fun vs H Q E h => ?_
  obtain ⟨a, ns, rfl, hn, hz, q⟩ := h
  obtain ⟨h', hm⟩ := main ns hn
  refine ⟨⟨[], fun _ => False, fun _ => 0⟩, [], [.frz ns], _, h', ⟨List.nodup_nil, rfl, rfl, fun i ob z => (nomatch z), fun _ z => z.elim⟩, ⟨_, [], rfl, ⟨a, rfl, hz⟩, rfl⟩, hm, fun m' H' x y v g => ?_⟩
  rw [show v = V.bl true from g]
  exact q H'
end Dd

set_option Elab.async false
set_option linter.all false
set_option maxRecDepth 100000
set_option maxHeartbeats 4000000
namespace Dd
open PySem L2

/-! # 28. Asking the plain program: what is to hold behind a statement, an expression, a call -/
def WP (m : MS) (e : DE) (h : DH) (Q : Fl → DE → DH → Prop) : Prop := ∃ f e' h', m e h = some (f, e', h') ∧ Q f e' h'
def RsP {α : Type} (r : Rs α) (h : DH) (Q : α → DH → Prop) (X : Nat → D → DH → Prop) : Prop := match r with | .ok a => Q a h | .ex c p => X c p h
def WE {α : Type} (m : M α) (e : DE) (h : DH) (Q : α → DH → Prop) (X : Nat → D → DH → Prop) : Prop := ∃ r h', m e h = some (r, h') ∧ RsP r h' Q X
/-- a call -/
def WC (F : Call) (i : Nat) (ds : List D) (h : DH) (Q : D → DH → Prop) (X : Nat → D → DH → Prop) : Prop := ∃ r h', F i ds h = some (r, h') ∧ RsP r h' Q X
/-- an operation -/
def WO {α : Type} (f : DH → Option (α × DH)) (h : DH) (Q : α → DH → Prop) : Prop := match f h with | some (d, h') => Q d h' | none => False
theorem wo_iff {α : Type} {f : DH → Option (α × DH)} {h : DH} {Q : α → DH → Prop} : WO f h Q ↔ ∃ d h', f h = some (d, h') ∧ Q d h' := by
  unfold WO
  cases hf : f h with
  | none => exact ⟨fun z => z.elim, fun ⟨_, _, z, _⟩ => (nomatch z)⟩
  | some p => exact ⟨fun z => ⟨p.1, p.2, rfl, z⟩, fun ⟨_, _, z, q⟩ => by cases z; exact q⟩
section
variable {α β : Type} {e : DE} {h : DH} {X : Nat → D → DH → Prop}
theorem WE.mono {m : M α} {Q Q' : α → DH → Prop} {X' : Nat → D → DH → Prop} (w : WE m e h Q X) (q : ∀ a h, Q a h → Q' a h) (x : ∀ c p h, X c p h → X' c p h) : WE m e h Q' X' := by
  obtain ⟨r, h', a, b⟩ := w
  refine ⟨r, h', a, ?_⟩
  cases r with
  | ok a => exact q _ _ b
  | ex c p => exact x _ _ _ b
theorem WC.mono {F : Call} {i : Nat} {ds : List D} {Q Q' : D → DH → Prop} {X' : Nat → D → DH → Prop} (w : WC F i ds h Q X) (q : ∀ a h, Q a h → Q' a h) (x : ∀ c p h, X c p h → X' c p h) : WC F i ds h Q' X' := by
  obtain ⟨r, h', a, b⟩ := w
  refine ⟨r, h', a, ?_⟩
  cases r with
  | ok a => exact q _ _ b
  | ex c p => exact x _ _ _ b
theorem WP.mono {m : MS} {Q Q' : Fl → DE → DH → Prop} (w : WP m e h Q) (q : ∀ f e h, Q f e h → Q' f e h) : WP m e h Q' := by
  obtain ⟨f, e', h', a, b⟩ := w
  exact ⟨f, e', h', a, q _ _ _ b⟩
theorem WC.ok {F : Call} {i : Nat} {ds : List D} {d : D} {h' : DH} {Q : D → DH → Prop} (q : F i ds h = some (.ok d, h')) (w : Q d h') : WC F i ds h Q X := ⟨_, _, q, w⟩
theorem WC.ex {F : Call} {i : Nat} {ds : List D} {c : Nat} {p : D} {h' : DH} {Q : D → DH → Prop} (q : F i ds h = some (.ex c p, h')) (w : X c p h') : WC F i ds h Q X := ⟨_, _, q, w⟩
@[simp] theorem we_ret {a : α} {Q : α → DH → Prop} : WE (ret a) e h Q X ↔ Q a h := by
  constructor
  · rintro ⟨r, h', q, w⟩
    cases q
    exact w
  · exact fun w => ⟨_, _, rfl, w⟩
@[simp] theorem we_bnd {m : M α} {k : α → M β} {Q : β → DH → Prop} : WE (bnd m k) e h Q X ↔ WE m e h (fun a h1 => WE (k a) e h1 Q X) X := by
  constructor
  · rintro ⟨r, h', q, w⟩
    unfold bnd at q
    split at q
    · cases q
    · rename_i c p h1 hm
      cases q
      exact ⟨_, _, hm, w⟩
    · rename_i a h1 hm
      exact ⟨_, _, hm, r, h', q, w⟩
  · rintro ⟨r, h1, q, w⟩
    cases r with
    | ex c p => exact ⟨.ex c p, h1, by unfold bnd; rw [q], w⟩
    | ok a =>
      obtain ⟨r2, h2, q2, w2⟩ := w
      exact ⟨r2, h2, by unfold bnd; rw [q]; exact q2, w2⟩
@[simp] theorem we_lift {f : DH → Option (α × DH)} {Q : α → DH → Prop} : WE (lift f) e h Q X ↔ WO f h Q := by
  rw [wo_iff]
  constructor
  · rintro ⟨r, h', q, w⟩
    unfold lift at q
    split at q
    · rename_i a h1 hf
      cases q
      exact ⟨_, _, hf, w⟩
    · cases q
  · rintro ⟨d, h', q, w⟩
    exact ⟨.ok d, h', by unfold lift; rw [q], w⟩
@[simp] theorem we_var {i : Nat} {Q : D → DH → Prop} : WE (var i) e h Q X ↔ ∃ d, e[i]? = some (some d) ∧ Q d h := by
  constructor
  · rintro ⟨r, h', q, w⟩
    unfold var at q
    split at q
    · rename_i d hd
      cases q
      exact ⟨d, hd, w⟩
    · cases q
  · rintro ⟨d, q, w⟩
    exact ⟨.ok d, h, by unfold var; rw [q], w⟩
@[simp] theorem we_args_nil {Q : List D → DH → Prop} : WE (args []) e h Q X ↔ Q [] h := we_ret
@[simp] theorem we_args_cons {m : M D} {r : List (M D)} {Q : List D → DH → Prop} : WE (args (m :: r)) e h Q X ↔ WE m e h (fun x h1 => WE (args r) e h1 (fun xs h2 => Q (x :: xs) h2) X) X := by
  show WE (bnd m fun x => bnd (args r) fun xs => ret (x :: xs)) e h Q X ↔ _
  simp only [we_bnd, we_ret]
@[simp] theorem we_opN {f : List D → DH → Option (D × DH)} {as : List (M D)} {Q : D → DH → Prop} : WE (opN f as) e h Q X ↔ WE (args as) e h (fun xs h1 => WO (f xs) h1 Q) X := by
  unfold opN
  simp only [we_bnd, we_lift]
@[simp] theorem we_op1 {f : D → DH → Option (D × DH)} {a : M D} {Q : D → DH → Prop} : WE (op1 f a) e h Q X ↔ WE a e h (fun x h1 => WO (f x) h1 Q) X := by
  unfold op1
  simp only [we_bnd, we_lift]
@[simp] theorem we_op2 {f : D → D → DH → Option (D × DH)} {a b : M D} {Q : D → DH → Prop} : WE (op2 f a b) e h Q X ↔ WE a e h (fun x h1 => WE b e h1 (fun y h2 => WO (f x y) h2 Q) X) X := by
  unfold op2
  simp only [we_bnd, we_lift]
@[simp] theorem we_call {F : Call} {i : Nat} {as : List (M D)} {Q : D → DH → Prop} : WE (callM F i as) e h Q X ↔ WE (args as) e h (fun xs h1 => WC F i xs h1 Q X) X := by
  unfold callM
  rw [we_bnd]
  exact Iff.rfl
@[simp] theorem we_tst {m : M D} {Q : Bool → DH → Prop} : WE (tst m) e h Q X ↔ WE m e h (fun x h1 => ∃ b, x = .bl b ∧ Q b h1) X := by
  unfold tst
  rw [we_bnd]
  constructor <;> intro w <;> refine w.mono (fun a h1 q => ?_) fun _ _ _ x => x
  · cases a with
    | bl b => exact ⟨b, rfl, we_ret.mp q⟩
    | _ => obtain ⟨r, h', z, _⟩ := q; cases z
  · obtain ⟨b, rfl, q⟩ := q
    exact we_ret.mpr q
@[simp] theorem we_tru {f : D → DH → Option Bool} {m : M D} {Q : Bool → DH → Prop} : WE (tru f m) e h Q X ↔ WE m e h (fun x h1 => ∃ b, f x h1 = some b ∧ Q b h1) X := by
  unfold tru
  rw [we_bnd]
  constructor <;> intro w <;> refine w.mono (fun a h1 q => ?_) fun _ _ _ x => x
  · obtain ⟨d, h', q1, q2⟩ := wo_iff.mp (we_lift.mp q)
    obtain ⟨b, e1, e2⟩ := map_some q1
    cases e2
    exact ⟨_, e1, q2⟩
  · obtain ⟨b, e1, q2⟩ := q
    exact we_lift.mpr (wo_iff.mpr ⟨b, h1, by rw [e1]; rfl, q2⟩)
@[simp] theorem we_notT {t : M Bool} {Q : Bool → DH → Prop} : WE (notT t) e h Q X ↔ WE t e h (fun b h1 => Q (!b) h1) X := by
  unfold notT
  simp only [we_bnd, we_ret]
theorem we_if {α : Type} {b : Bool} {m n : M α} {Q : α → DH → Prop} : WE (if b then m else n) e h Q X ↔ if b then WE m e h Q X else WE n e h Q X := by
  cases b <;> exact Iff.rfl
@[simp] theorem we_andT {t u : M Bool} {Q : Bool → DH → Prop} : WE (andT t u) e h Q X ↔ WE t e h (fun b h1 => if b then WE u e h1 Q X else Q false h1) X := by
  unfold andT
  simp only [we_bnd, we_if, we_ret]
@[simp] theorem we_orT {t u : M Bool} {Q : Bool → DH → Prop} : WE (orT t u) e h Q X ↔ WE t e h (fun b h1 => if b then Q true h1 else WE u e h1 Q X) X := by
  unfold orT
  simp only [we_bnd, we_if, we_ret]
theorem we_bl {m : Bool → M D} {x : D} {Q : D → DH → Prop} : WE (match x with | .bl b => m b | _ => stuck) e h Q X ↔ ∃ b, x = .bl b ∧ WE (m b) e h Q X := by
  constructor
  · intro w
    cases x with
    | bl b => exact ⟨b, rfl, w⟩
    | _ => obtain ⟨r, h', z, _⟩ := w; cases z
  · rintro ⟨b, rfl, w⟩
    exact w
@[simp] theorem we_notV {m : M D} {Q : D → DH → Prop} : WE (notV m) e h Q X ↔ WE m e h (fun x h1 => ∃ b, x = .bl b ∧ Q (.bl (!b)) h1) X := by
  show WE (bnd m _) e h Q X ↔ _
  rw [we_bnd]
  constructor <;> intro w <;> refine w.mono (fun a h1 q => ?_) fun _ _ _ x => x
  · obtain ⟨b, rfl, q⟩ := (we_bl (m := fun b => ret (.bl (!b)))).mp q
    exact ⟨b, rfl, we_ret.mp q⟩
  · obtain ⟨b, rfl, q⟩ := q
    exact we_ret.mpr q
@[simp] theorem we_andV {m n : M D} {Q : D → DH → Prop} : WE (andV m n) e h Q X ↔ WE m e h (fun x h1 => ∃ b, x = .bl b ∧ if b then WE n e h1 Q X else Q (.bl false) h1) X := by
  show WE (bnd m _) e h Q X ↔ _
  rw [we_bnd]
  constructor <;> intro w <;> refine w.mono (fun a h1 q => ?_) fun _ _ _ x => x
  · obtain ⟨b, rfl, q⟩ := (we_bl (m := fun b => if b then n else ret (.bl false))).mp q
    cases b
    · exact ⟨false, rfl, we_ret.mp q⟩
    · exact ⟨true, rfl, q⟩
  · obtain ⟨b, rfl, q⟩ := q
    cases b
    · exact we_ret.mpr q
    · exact q
@[simp] theorem we_orV {m n : M D} {Q : D → DH → Prop} : WE (orV m n) e h Q X ↔ WE m e h (fun x h1 => ∃ b, x = .bl b ∧ if b then Q (.bl true) h1 else WE n e h1 Q X) X := by
  show WE (bnd m _) e h Q X ↔ _
  rw [we_bnd]
  constructor <;> intro w <;> refine w.mono (fun a h1 q => ?_) fun _ _ _ x => x
  · obtain ⟨b, rfl, q⟩ := (we_bl (m := fun b => if b then ret (.bl true) else n)).mp q
    cases b
    · exact ⟨false, rfl, q⟩
    · exact ⟨true, rfl, we_ret.mp q⟩
  · obtain ⟨b, rfl, q⟩ := q
    cases b
    · exact q
    · exact we_ret.mpr q
@[simp] theorem we_ite {t : M Bool} {a b : M D} {Q : D → DH → Prop} : WE (iteM t a b) e h Q X ↔ WE t e h (fun c h1 => if c then WE a e h1 Q X else WE b e h1 Q X) X := by
  unfold iteM
  simp only [we_bnd, we_if]
@[simp] theorem we_chn {f g : D → D → DH → Option (D × DH)} {a b c : M D} {Q : D → DH → Prop} : WE (chn f g a b c) e h Q X ↔ WE a e h (fun x h1 => WE b e h1 (fun y h2 => WO (f x y) h2 fun z h3 => ∃ k, z = .bl k ∧ if k then WE c e h3 (fun u h4 => WO (g y u) h4 Q) X else Q (.bl false) h3) X) X := by
  show WE (bnd a fun x => bnd b fun y => bnd (lift (f x y)) _) e h Q X ↔ _
  simp only [we_bnd, we_lift]
  constructor <;> intro w <;> refine w.mono (fun x h1 w => w.mono (fun y h2 w => ?_) fun _ _ _ x => x) fun _ _ _ x => x
  · obtain ⟨z, h3, q1, q2⟩ := wo_iff.mp w
    refine wo_iff.mpr ⟨z, h3, q1, ?_⟩
    obtain ⟨k, rfl, q⟩ := (we_bl (m := fun k => if k then bnd c fun u => lift (g y u) else ret (.bl false))).mp q2
    cases k
    · exact ⟨false, rfl, we_ret.mp q⟩
    · refine ⟨true, rfl, ?_⟩
      have q := we_bnd.mp q
      simp only [we_lift] at q
      exact q
  · obtain ⟨z, h3, q1, k, rfl, q⟩ := wo_iff.mp w
    refine wo_iff.mpr ⟨_, h3, q1, ?_⟩
    cases k
    · exact we_ret.mpr q
    · refine we_bnd.mpr ?_
      simp only [we_lift]
      exact q
@[simp] theorem we_mth {k : Mth} {o : M D} {as : List (M D)} {Q : D → DH → Prop} : WE (mthM k o as) e h Q X ↔ WE o e h (fun x h1 => mthOk k x h1 = true ∧ WE (args as) e h1 (fun xs h2 => WO (mthG k x xs) h2 Q) X) X := by
  unfold mthM
  simp only [we_bnd, we_lift]
  constructor <;> intro w <;> refine w.mono (fun x h1 w => ?_) fun _ _ _ x => x
  · obtain ⟨z, h3, q1, q2⟩ := wo_iff.mp w
    split at q1
    · rename_i hk
      cases q1
      exact ⟨hk, q2⟩
    · cases q1
  · exact wo_iff.mpr ⟨(), h1, by rw [if_pos w.1], w.2⟩
@[simp] theorem we_slice {a : M D} {lo hi : M (Option Int)} {Q : D → DH → Prop} : WE (sliceM a lo hi) e h Q X ↔ WE a e h (fun x h1 => WE lo e h1 (fun l h2 => WE hi e h2 (fun u h3 => WO (sliceD x l u) h3 Q) X) X) X := by
  unfold sliceM
  simp only [we_bnd, we_lift]
@[simp] theorem we_intOf {a : M D} {Q : Option Int → DH → Prop} : WE (intOf a) e h Q X ↔ WE a e h (fun x h1 => ∃ i, x = .int i ∧ Q (some i) h1) X := by
  show WE (bnd a _) e h Q X ↔ _
  rw [we_bnd]
  constructor <;> intro w <;> refine w.mono (fun x h1 q => ?_) fun _ _ _ x => x
  · cases x with
    | int i => exact ⟨i, rfl, we_ret.mp q⟩
    | _ => obtain ⟨r, h', z, _⟩ := q; cases z
  · obtain ⟨i, rfl, q⟩ := q
    exact we_ret.mpr q
end
/-! ### statements -/
/-- what comes behind -/
def Nx (Q : Fl → DE → DH → Prop) (b : MS) : Fl → DE → DH → Prop := fun f e h => match f with | .next => WP b e h Q | f => Q f e h
section
variable {e : DE} {h : DH} {Q : Fl → DE → DH → Prop}
@[simp] theorem nx_next {b : MS} : Nx Q b .next e h ↔ WP b e h Q := ⟨fun x => x, fun x => x⟩
@[simp] theorem nx_ret {b : MS} {d : D} : Nx Q b (.ret d) e h ↔ Q (.ret d) e h := ⟨fun x => x, fun x => x⟩
@[simp] theorem nx_ex {b : MS} {c : Nat} {d : D} : Nx Q b (.ex c d) e h ↔ Q (.ex c d) e h := ⟨fun x => x, fun x => x⟩
@[simp] theorem nx_brk {b : MS} : Nx Q b .brk e h ↔ Q .brk e h := ⟨fun x => x, fun x => x⟩
@[simp] theorem nx_cont {b : MS} : Nx Q b .cont e h ↔ Q .cont e h := ⟨fun x => x, fun x => x⟩
@[simp] theorem wp_skip : WP skip e h Q ↔ Q .next e h := by
  constructor
  · rintro ⟨f, e', h', q, w⟩
    cases q
    exact w
  · exact fun w => ⟨_, _, _, rfl, w⟩
@[simp] theorem wp_seq {a b : MS} : WP (seq a b) e h Q ↔ WP a e h (Nx Q b) := by
  constructor
  · rintro ⟨f, e', h', q, w⟩
    unfold seq at q
    split at q
    · rename_i e1 h1 ha
      exact ⟨.next, e1, h1, ha, f, e', h', q, w⟩
    · rename_i hn
      refine ⟨f, e', h', q, ?_⟩
      cases f with
      | next => exact absurd q (hn e' h')
      | _ => exact w
  · rintro ⟨f, e1, h1, q, w⟩
    cases f with
    | next =>
      obtain ⟨f2, e2, h2, q2, w2⟩ := w
      exact ⟨f2, e2, h2, by unfold seq; rw [q]; exact q2, w2⟩
    | _ => exact ⟨_, _, _, by unfold seq; rw [q], w⟩
theorem wp_with {α : Type} {m : M α} {k : α → MS} : WP (withM m k) e h Q ↔ WE m e h (fun a h1 => WP (k a) e h1 Q) fun c p h1 => Q (.ex c p) e h1 := by
  constructor
  · rintro ⟨f, e', h', q, w⟩
    rcases withM_some q with ⟨c, p, q1, rfl, rfl⟩ | ⟨a, h1, q1, q2⟩
    · exact ⟨_, _, q1, w⟩
    · exact ⟨_, _, q1, f, e', h', q2, w⟩
  · rintro ⟨r, h1, q, w⟩
    cases r with
    | ex c p => exact ⟨.ex c p, e, h1, by unfold withM; rw [q], w⟩
    | ok a =>
      obtain ⟨f2, e2, h2, q2, w2⟩ := w
      exact ⟨f2, e2, h2, by unfold withM; rw [q]; exact q2, w2⟩
@[simp] theorem wp_drop {m : M D} : WP (drop m) e h Q ↔ WE m e h (fun _ h1 => Q .next e h1) fun c p h1 => Q (.ex c p) e h1 := by
  unfold drop
  simp only [wp_with, wp_skip]
@[simp] theorem wp_ret {m : M D} : WP (retS m) e h Q ↔ WE m e h (fun d h1 => Q (.ret d) e h1) fun c p h1 => Q (.ex c p) e h1 := by
  unfold retS
  rw [wp_with]
  constructor <;> intro w <;> refine w.mono (fun x h1 w => ?_) fun _ _ _ x => x
  · obtain ⟨f, e', h', q, w⟩ := w
    cases q
    exact w
  · exact ⟨_, _, _, rfl, w⟩
@[simp] theorem wp_asg {t : Tg} {m : M D} : WP (asg t m) e h Q ↔ WE m e h (fun d h1 => ∃ e1, t.put d h1 e = some e1 ∧ Q .next e1 h1) fun c p h1 => Q (.ex c p) e h1 := by
  unfold asg
  rw [wp_with]
  constructor <;> intro w <;> refine w.mono (fun x h1 w => ?_) fun _ _ _ x => x
  · obtain ⟨f, e', h', q, w⟩ := w
    obtain ⟨e1, q1, q2⟩ := map_some q
    cases q2
    exact ⟨e', q1, w⟩
  · obtain ⟨e1, q1, w⟩ := w
    exact ⟨.next, e1, h1, by dsimp only; rw [q1]; rfl, w⟩
@[simp] theorem wp_if {t : M Bool} {a b : MS} : WP (ifS t a b) e h Q ↔ WE t e h (fun c h1 => if c then WP a e h1 Q else WP b e h1 Q) fun c p h1 => Q (.ex c p) e h1 := by
  unfold ifS
  rw [wp_with]
  constructor <;> intro w <;> refine w.mono (fun c h1 w => ?_) fun _ _ _ x => x
  · cases c <;> exact w
  · cases c <;> exact w
@[simp] theorem wp_raise {c : Nat} {m : M D} : WP (raiS c m) e h Q ↔ WE m e h (fun d h1 => Q (.ex c d) e h1) fun c p h1 => Q (.ex c p) e h1 := by
  unfold raiS
  rw [wp_with]
  constructor <;> intro w <;> refine w.mono (fun x h1 w => ?_) fun _ _ _ x => x
  · obtain ⟨f, e', h', q, w⟩ := w
    cases q
    exact w
  · exact ⟨_, _, _, rfl, w⟩
@[simp] theorem wp_set {o k m : M D} : WP (setS o k m) e h Q ↔ WE m e h (fun v h1 => WE o e h1 (fun x h2 => WE k e h2 (fun y h3 => ∃ h4, putAt x y v h3 = some h4 ∧ Q .next e h4) fun c p h1 => Q (.ex c p) e h1) fun c p h1 => Q (.ex c p) e h1) fun c p h1 => Q (.ex c p) e h1 := by
  unfold setS
  simp only [wp_with]
  constructor <;> intro w <;> refine w.mono (fun v h1 w => w.mono (fun x h2 w => w.mono (fun y h3 w => ?_) fun _ _ _ x => x) fun _ _ _ x => x) fun _ _ _ x => x
  · obtain ⟨f, e', h', q, w⟩ := w
    obtain ⟨h4, q1, q2⟩ := map_some q
    cases q2
    exact ⟨h', q1, w⟩
  · obtain ⟨h4, q1, w⟩ := w
    exact ⟨.next, e, h4, by dsimp only; rw [q1]; rfl, w⟩
/-- a for over items -/
theorem wp_for {it : M Src} {t : Tg} {b : MS} (w : WE it e h (fun s h1 => ∃ xs, s = .items xs ∧ ∃ Inv : Nat → DE → DH → Prop, Inv 0 e h1 ∧ (∀ e h, Inv xs.length e h → Q .next e h) ∧
      ∀ k d e h, xs[k]? = some d → Inv k e h → ∃ e1, t.put d h e = some e1 ∧ WP b e1 h fun f e2 h2 => match f with | .next => Inv (k + 1) e2 h2 | .cont => Inv (k + 1) e2 h2 | .brk => Q .next e2 h2 | f => Q f e2 h2) fun c p h1 => Q (.ex c p) e h1) : WP (forS it t b) e h Q := by
  unfold forS
  rw [wp_with]
  refine w.mono (fun s h1 w => ?_) fun _ _ _ x => x
  obtain ⟨xs, rfl, Inv, h0, hd, step⟩ := w
  show WP (forL (.items xs) t b xs.length 0) e h1 Q
  have go : ∀ n k e h, k + n = xs.length → Inv k e h → WP (forL (.items xs) t b n k) e h Q := by
    intro n
    induction n with
    | zero =>
      intro k e h hk i
      exact ⟨.next, e, h, rfl, hd e h (by rw [← hk]; exact i)⟩
    | succ n ih =>
      intro k e h hk i
      have hlt : k < xs.length := by omega
      obtain ⟨e1, p1, f, e2, h2, q, w⟩ := step k xs[k] e h (List.getElem?_eq_getElem hlt) i
      have un : forL (.items xs) t b (n + 1) k e h = match b e1 h with
          | some (.next, e2, h2) => forL (.items xs) t b n (k + 1) e2 h2
          | some (.cont, e2, h2) => forL (.items xs) t b n (k + 1) e2 h2
          | some (.brk, e2, h2) => some (.next, e2, h2)
          | r => r := by
        dsimp only [forL, Src.at_]
        rw [List.getElem?_eq_getElem hlt]
        dsimp only
        rw [p1]
        try rfl
      unfold WP
      rw [un, q]
      cases f with
      | next => exact ih (k + 1) e2 h2 (by omega) w
      | cont => exact ih (k + 1) e2 h2 (by omega) w
      | brk => exact ⟨_, _, _, rfl, w⟩
      | ret d => exact ⟨_, _, _, rfl, w⟩
      | ex c p => exact ⟨_, _, _, rfl, w⟩
  exact go xs.length 0 e h1 (by omega) h0
end
/-! ### what stands still, calls that see values alone -/
/-- as a value -/
def DeepB (b : Nat) (h : DH) (d : D) (Q : D → Prop) : Prop := ∃ d', deep b h deepN d = some d' ∧ Q d'
def Frz (h h1 : DH) (d : D) (Q : D → DH → Prop) : Prop := ∃ p, frzR h h1 d = some p ∧ Q p.1 p.2
def PC (F : Call) (i : Nat) (ds : List D) (Q : D → Prop) (X : Nat → D → Prop) : Prop := ∃ r, pcall F i ds = some r ∧ match r with | .ok d => Q d | .ex c p => X c p
def PCH (F : Call) (i : Nat) (ds : List D) (h : DH) (Q : D → DH → Prop) (X : Nat → D → DH → Prop) : Prop := ∃ r h', pcallH F i ds h = some (r, h') ∧ RsP r h' Q X
theorem PC.mono {F : Call} {i : Nat} {ds : List D} {Q Q' : D → Prop} {X X' : Nat → D → Prop} (w : PC F i ds Q X) (q : ∀ d, Q d → Q' d) (x : ∀ c p, X c p → X' c p) : PC F i ds Q' X' := by
  obtain ⟨r, a, b⟩ := w
  refine ⟨r, a, ?_⟩
  cases r with
  | ok d => exact q _ b
  | ex c p => exact x _ _ b
section
variable {e : DE} {h : DH} {X : Nat → D → DH → Prop}
@[simp] theorem we_frz {m : M D} {Q : D → DH → Prop} : WE (frzM m) e h Q X ↔ WE m e h (fun d h1 => Frz h h1 d Q) X := by
  constructor
  · rintro ⟨r, h', q, w⟩
    unfold frzM at q
    split at q
    · rename_i d h1 hm
      split at q
      · rename_i p hp
        cases q
        exact ⟨_, _, hm, p, hp, w⟩
      · cases q
    · rename_i hn
      refine ⟨r, h', q, ?_⟩
      cases r with
      | ok d => exact absurd q (hn d h')
      | ex c p => exact w
  · rintro ⟨r, h1, q, w⟩
    cases r with
    | ok d =>
      obtain ⟨p, hp, w⟩ := w
      exact ⟨.ok p.1, p.2, by unfold frzM; rw [q]; dsimp only; rw [hp], w⟩
    | ex c p => exact ⟨_, _, by unfold frzM; rw [q], w⟩
@[simp] theorem we_trim {α : Type} {m : M α} {Q : α → DH → Prop} : WE (trimM m) e h Q X ↔ WE m e h (fun d h1 => Frz h h1 .non fun _ h2 => Q d h2) X := by
  constructor
  · rintro ⟨r, h', q, w⟩
    unfold trimM at q
    split at q
    · rename_i d h1 hm
      split at q
      · rename_i p hp
        cases q
        exact ⟨_, _, hm, p, hp, w⟩
      · cases q
    · rename_i hn
      refine ⟨r, h', q, ?_⟩
      cases r with
      | ok d => exact absurd q (hn d h')
      | ex c p => exact w
  · rintro ⟨r, h1, q, w⟩
    cases r with
    | ok d =>
      obtain ⟨p, hp, w⟩ := w
      exact ⟨.ok d, p.2, by unfold trimM; rw [q]; dsimp only; rw [hp], w⟩
    | ex c p => exact ⟨_, _, by unfold trimM; rw [q], w⟩
@[simp] theorem we_callP {F : Call} {i : Nat} {as : List (M D)} {Q : D → DH → Prop} : WE (callP F i as) e h Q X ↔ WE (args as) e h (fun xs h1 => PCH F i xs h1 Q X) X := by
  unfold callP
  rw [we_bnd]
  exact Iff.rfl
end
/-! values without names -/
mutual
theorem frF_pure (look : Nat → Option D) : ∀ d : D, pureD d = true → frF look d = some d
  | .non, _ => rfl
  | .bl _, _ => rfl
  | .int _, _ => rfl
  | .str _, _ => rfl
  | .kt _, _ => rfl
  | .frz _, _ => rfl
  | .wd _, _ => rfl
  | .ref _, p => nomatch p
  | .tup xs, p => by show (frFs look xs).map D.tup = _; rw [frFs_pure look xs p]; rfl
  | .vl xs, p => by show (frFs look xs).map D.vl = _; rw [frFs_pure look xs p]; rfl
  | .vk ks xs, p => by show (frFs look xs).map (D.vk ks) = _; rw [frFs_pure look xs p]; rfl
  | .vt ks xs, p => by show (frFs look xs).map (D.vt ks) = _; rw [frFs_pure look xs p]; rfl
  | .vi c fs xs, p => by show (frFs look xs).map (D.vi c fs) = _; rw [frFs_pure look xs p]; rfl
theorem frFs_pure (look : Nat → Option D) : ∀ ds : List D, pureDs ds = true → frFs look ds = some ds
  | [], _ => rfl
  | d :: ds, p => by
    have p : (pureD d && pureDs ds) = true := p
    rw [Bool.and_eq_true] at p
    unfold frFs
    rw [frF_pure look d p.1]
    dsimp only
    rw [frFs_pure look ds p.2]
end
theorem deep_pure {b : Nat} {h : DH} {n : Nat} {d : D} (p : pureD d = true) : deep b h n d = some d := by
  cases n <;> exact frF_pure _ d p
theorem deeps_pure {b : Nat} {h : DH} {n : Nat} : ∀ {ds : List D}, pureDs ds = true → ds.mapM (deep b h n) = some ds
  | [], _ => rfl
  | d :: ds, p => by
    have p : (pureD d && pureDs ds) = true := p
    rw [Bool.and_eq_true] at p
    rw [List.mapM_cons, deep_pure p.1, deeps_pure p.2]; rfl
mutual
theorem refs_pure : ∀ d : D, pureD d = true → refsD d = []
  | .non, _ => rfl
  | .bl _, _ => rfl
  | .int _, _ => rfl
  | .str _, _ => rfl
  | .kt _, _ => rfl
  | .frz _, _ => rfl
  | .wd _, _ => rfl
  | .ref _, p => nomatch p
  | .tup xs, p => refss_pure xs p
  | .vl xs, p => refss_pure xs p
  | .vk ks xs, p => refss_pure xs p
  | .vt ks xs, p => refss_pure xs p
  | .vi c fs xs, p => refss_pure xs p
theorem refss_pure : ∀ ds : List D, pureDs ds = true → refsDs ds = []
  | [], _ => rfl
  | d :: ds, p => by
    have p : (pureD d && pureDs ds) = true := p
    rw [Bool.and_eq_true] at p
    show refsD d ++ refsDs ds = []
    rw [refs_pure d p.1, refss_pure ds p.2]; rfl
end
theorem reach_pure {h : DH} {n : Nat} {d : D} (p : pureD d = true) : reach h n d = [] := by
  cases n with
  | zero => exact refs_pure d p
  | succ n => show refsD d ++ (refsD d).flatMap _ = []; rw [refs_pure d p]; rfl
theorem reachs_pure {h : DH} {n : Nat} : ∀ {ds : List D}, pureDs ds = true → ds.flatMap (reach h n) = []
  | [], _ => rfl
  | d :: ds, p => by
    have p : (pureD d && pureDs ds) = true := p
    rw [Bool.and_eq_true] at p
    rw [List.flatMap_cons, reach_pure p.1, reachs_pure p.2]; rfl
theorem reach_ref {h : DH} {n i : Nat} {ob : Ob} (e : h[i]? = some ob) (p : pureDs ob.vals = true) : reach h (n + 1) (.ref i) = [i] := by
  show [i] ++ ([i]).flatMap (fun i => match h[i]? with | some ob => ob.vals.flatMap (reach h n) | none => []) = [i]
  rw [List.flatMap_cons, e]
  dsimp only
  rw [reachs_pure p]; rfl
@[simp] theorem pch_pure {F : Call} {i : Nat} {xs : List D} {h : DH} {Q : D → DH → Prop} {X : Nat → D → DH → Prop} (p : pureDs xs = true) : PCH F i xs h Q X ↔ PC F i xs (fun d => Q d h) fun c p => X c p h := by
  unfold PCH PC pcallH
  rw [deeps_pure p, reachs_pure p]
  dsimp only
  cases hq : pcall F i xs with
  | none => exact ⟨fun ⟨_, _, z, _⟩ => (nomatch z), fun ⟨_, z, _⟩ => (nomatch z)⟩
  | some r =>
    cases r with
    | ex c p => exact ⟨fun ⟨r, h', z, w⟩ => by cases z; exact ⟨_, rfl, w⟩, fun ⟨r, z, w⟩ => by cases z; exact ⟨_, _, rfl, w⟩⟩
    | ok d =>
      have e : (if scalT d then some (Rs.ok d, h) else (stillAll [] h).map fun h1 => (Rs.ok d, h1)) = some (Rs.ok d, h) := by
        split
        · rfl
        · rfl
      dsimp only
      rw [e]
      exact ⟨fun ⟨r, h', z, w⟩ => by cases z; exact ⟨_, rfl, w⟩, fun ⟨r, z, w⟩ => by cases z; exact ⟨_, _, rfl, w⟩⟩
/-- given with lists of one's own, which stand still from here on if the answer may hold them -/
theorem pch_raw {F : Call} {i : Nat} {xs ys : List D} {h h2 : DH} {Q : D → DH → Prop} {X : Nat → D → DH → Prop} (e1 : xs.mapM (deep 0 h deepN) = some ys) (e2 : stillAll (xs.flatMap (reach h deepN)) h = some h2)
    (w : PC F i ys (fun d => if scalT d then Q d h else Q d h2) fun c p => X c p h) : PCH F i xs h Q X := by
  obtain ⟨r, q, w⟩ := w
  unfold PCH pcallH
  rw [e1, e2]
  dsimp only
  rw [q]
  cases r with
  | ex c p => exact ⟨_, _, rfl, w⟩
  | ok d =>
    dsimp only at w ⊢
    split at w
    · rename_i hs
      rw [if_pos hs]
      exact ⟨_, _, rfl, w⟩
    · rename_i hs
      rw [if_neg hs]
      exact ⟨_, _, rfl, w⟩
section
variable {b : Nat} {h : DH} {Q : D → Prop}
@[simp] theorem db_pure {d : D} (p : pureD d = true) : DeepB b h d Q ↔ Q d := by
  unfold DeepB
  rw [deep_pure p]
  exact ⟨fun ⟨_, z, w⟩ => by cases z; exact w, fun w => ⟨_, rfl, w⟩⟩
@[simp] theorem db_int {i : Int} : DeepB b h (.int i) Q ↔ Q (.int i) := db_pure rfl
@[simp] theorem db_bl {i : Bool} : DeepB b h (.bl i) Q ↔ Q (.bl i) := db_pure rfl
@[simp] theorem db_str {i : Str} : DeepB b h (.str i) Q ↔ Q (.str i) := db_pure rfl
@[simp] theorem db_non : DeepB b h .non Q ↔ Q .non := db_pure rfl
@[simp] theorem db_kt {xs : List D} : DeepB b h (.kt xs) Q ↔ Q (.kt xs) := db_pure rfl
@[simp] theorem db_old {i : Nat} (hi : i < b) : DeepB b h (.ref i) Q ↔ Q (.ref i) := by
  have e : deep b h deepN (.ref i) = some (.ref i) := by
    show (if Nat.blt i b then some (D.ref i) else _) = _
    rw [if_pos (nblt.mpr hi)]
  unfold DeepB
  rw [e]
  exact ⟨fun ⟨_, z, w⟩ => by cases z; exact w, fun w => ⟨_, rfl, w⟩⟩
theorem deep_ref {i n : Nat} {ob : Ob} (hi : ¬ i < b) (e : h[i]? = some ob) (p : pureDs ob.vals = true) : deep b h (n + 1) (.ref i) = some (ob.vw ob.vals) := by
  show (if Nat.blt i b then some (D.ref i) else match h[i]? with | some ob => (ob.vals.mapM (deep b h n)).map ob.vw | none => none) = _
  rw [if_neg (fun z => hi (nblt.mp z)), e]
  dsimp only
  rw [deeps_pure p]; rfl
theorem db_new {i : Nat} {ob : Ob} (hi : ¬ i < b) (e : h[i]? = some ob) (p : pureDs ob.vals = true) : DeepB b h (.ref i) Q ↔ Q (ob.vw ob.vals) := by
  unfold DeepB
  rw [show deepN = 5 + 1 from rfl, deep_ref hi e p]
  exact ⟨fun ⟨_, z, w⟩ => by cases z; exact w, fun w => ⟨_, rfl, w⟩⟩
@[simp] theorem db_lst {i : Nat} {xs : List D} (hi : ¬ i < b) (e : h[i]? = some (.lst xs)) (p : pureDs xs = true) : DeepB b h (.ref i) Q ↔ Q (.vl xs) := db_new hi e p
@[simp] theorem db_fl {i : Nat} {xs : List D} (hi : ¬ i < b) (e : h[i]? = some (.fl xs)) (p : pureDs xs = true) : DeepB b h (.ref i) Q ↔ Q (.vl xs) := db_new hi e p
/-- the parts of a tuple -/
def DeepBs (b : Nat) (h : DH) (xs : List D) (Q : List D → Prop) : Prop := ∃ ys, frFs (fun i => if Nat.blt i b then some (.ref i) else match h[i]? with | some ob => (ob.vals.mapM (deep b h 5)).map ob.vw | none => none) xs = some ys ∧ Q ys
@[simp] theorem db_tup {xs : List D} : DeepB b h (.tup xs) Q ↔ DeepBs b h xs fun ys => Q (.tup ys) := by
  unfold DeepB DeepBs
  have e : deep b h deepN (.tup xs) = (frFs (fun i => if Nat.blt i b then some (.ref i) else match h[i]? with | some ob => (ob.vals.mapM (deep b h 5)).map ob.vw | none => none) xs).map D.tup := rfl
  rw [e]
  constructor
  · rintro ⟨d', z, w⟩
    cases hq : frFs (fun i => if Nat.blt i b then some (.ref i) else match h[i]? with | some ob => (ob.vals.mapM (deep b h 5)).map ob.vw | none => none) xs with
    | none => rw [hq] at z; cases z
    | some ys => rw [hq] at z; cases z; exact ⟨ys, rfl, w⟩
  · rintro ⟨ys, z, w⟩
    exact ⟨_, by rw [z]; rfl, w⟩
@[simp] theorem dbs_nil {Q : List D → Prop} : DeepBs b h [] Q ↔ Q [] := ⟨fun ⟨_, z, w⟩ => by cases z; exact w, fun w => ⟨_, rfl, w⟩⟩
@[simp] theorem dbs_cons {x : D} {xs : List D} {Q : List D → Prop} : DeepBs b h (x :: xs) Q ↔ DeepB b h x fun y => DeepBs b h xs fun ys => Q (y :: ys) := by
  unfold DeepB DeepBs
  have e : deep b h deepN x = frF (fun i => if Nat.blt i b then some (.ref i) else match h[i]? with | some ob => (ob.vals.mapM (deep b h 5)).map ob.vw | none => none) x := by cases x <;> rfl
  rw [e]
  constructor
  · rintro ⟨ys, z, w⟩
    unfold frFs at z
    split at z
    · rename_i d' q1
      split at z
      · rename_i r q2
        cases z
        exact ⟨d', q1, r, q2, w⟩
      · cases z
    · cases z
  · rintro ⟨y, q1, ys, q2, w⟩
    exact ⟨y :: ys, by unfold frFs; rw [q1]; dsimp only; rw [q2], w⟩
end
section
variable {h : DH} {d : D} {Q : D → DH → Prop}
theorem clean_app (h g : DH) : Clean h (h ++ g) := ⟨by rw [List.length_append]; omega, fun i hi => .inl (List.getElem?_append_left hi)⟩
theorem fz_len {h1 : DH} (e : h1.length = h.length) : Frz h h1 d Q ↔ Q d h1 := by
  unfold Frz frzR
  rw [if_pos e]
  exact ⟨fun ⟨_, z, w⟩ => by cases z; exact w, fun w => ⟨_, rfl, w⟩⟩
@[simp] theorem fz_h : Frz h h d Q ↔ Q d h := fz_len rfl
theorem fz_clean {h1 : DH} (ne : h1.length ≠ h.length) (c : Clean h h1) : Frz h h1 d Q ↔ DeepB h.length h1 d fun d' => Q d' (h1.take h.length) := by
  unfold Frz frzR DeepB
  rw [if_neg ne, if_pos c]
  cases hq : deep h.length h1 deepN d with
  | none => exact ⟨fun ⟨_, z, _⟩ => (nomatch z), fun ⟨_, z, _⟩ => (nomatch z)⟩
  | some d' => exact ⟨fun ⟨_, z, w⟩ => by cases z; exact ⟨_, rfl, w⟩, fun ⟨_, z, w⟩ => by cases z; exact ⟨_, rfl, w⟩⟩
theorem fz_app {g : DH} (ne : g ≠ []) : Frz h (h ++ g) d Q ↔ DeepB h.length (h ++ g) d fun d' => Q d' h := by
  have hl : (h ++ g).length ≠ h.length := by
    rw [List.length_append]
    intro z
    exact ne (List.length_eq_zero_iff.mp (by omega))
  rw [fz_clean hl (clean_app h g), List.take_left]
@[simp] theorem fz_0 {o : Ob} {g : DH} : Frz [] (o :: g) d Q ↔ DeepB 0 (o :: g) d fun d' => Q d' [] := fz_app (h := []) (g := o :: g) (fun z => nomatch z)
@[simp] theorem fz_1 {a o : Ob} {g : DH} : Frz [a] (a :: o :: g) d Q ↔ DeepB 1 (a :: o :: g) d fun d' => Q d' [a] := fz_app (h := [a]) (g := o :: g) (fun z => nomatch z)
@[simp] theorem fz_2 {a b o : Ob} {g : DH} : Frz [a, b] (a :: b :: o :: g) d Q ↔ DeepB 2 (a :: b :: o :: g) d fun d' => Q d' [a, b] := fz_app (h := [a, b]) (g := o :: g) (fun z => nomatch z)
@[simp] theorem fz_3 {a b c o : Ob} {g : DH} : Frz [a, b, c] (a :: b :: c :: o :: g) d Q ↔ DeepB 3 (a :: b :: c :: o :: g) d fun d' => Q d' [a, b, c] := fz_app (h := [a, b, c]) (g := o :: g) (fun z => nomatch z)
@[simp] theorem fz_4 {a b c f o : Ob} {g : DH} : Frz [a, b, c, f] (a :: b :: c :: f :: o :: g) d Q ↔ DeepB 4 (a :: b :: c :: f :: o :: g) d fun d' => Q d' [a, b, c, f] := fz_app (h := [a, b, c, f]) (g := o :: g) (fun z => nomatch z)
@[simp] theorem fz_c1 {a a' : Ob} : Frz [a] [a'] d Q ↔ Q d [a'] := fz_len rfl
@[simp] theorem fz_c2 {a a' b b' : Ob} : Frz [a, b] [a', b'] d Q ↔ Q d [a', b'] := fz_len rfl
@[simp] theorem fz_c3 {a a' b b' c c' : Ob} : Frz [a, b, c] [a', b', c'] d Q ↔ Q d [a', b', c'] := fz_len rfl
@[simp] theorem fz_c4 {a a' b b' c c' f f' : Ob} : Frz [a, b, c, f] [a', b', c', f'] d Q ↔ Q d [a', b', c', f'] := fz_len rfl
end
/-! ### the end of a def, its word -/
def EndP (Q : D → Prop) (X : Nat → D → Prop) : Fl → DE → DH → Prop := fun f _ h => match f with
  | .ret d => DeepB 0 h d Q
  | .next => Q .non
  | .ex c p => scalT p = true ∧ X c p
  | _ => False
def End (Q : D → DH → Prop) (X : Nat → D → DH → Prop) : Fl → DE → DH → Prop := fun f _ h => match f with
  | .ret d => Q d h
  | .next => Q .non h
  | .ex c p => X c p h
  | _ => False
section
variable {Q : D → DH → Prop} {X : Nat → D → DH → Prop} {e : DE} {h : DH}
@[simp] theorem end_ret {d : D} : End Q X (.ret d) e h ↔ Q d h := Iff.rfl
@[simp] theorem end_next : End Q X .next e h ↔ Q .non h := Iff.rfl
@[simp] theorem end_ex {c : Nat} {p : D} : End Q X (.ex c p) e h ↔ X c p h := Iff.rfl
theorem wc_of {pg : Pg} {k : Nat} {f : Fn} {b : Call → MS} (hf : pg.fns[k]? = some f) (he : ∀ F : Call, (sem F fuel).B (pg.ce f) f.body = b F) {n : Nat} {ds : List D} {h : DH} (hl : ds.length = f.ps.length) (w : WP (b (pg.run n)) (startD f.N ds) h (End Q X)) : WC (pg.run (n + 1)) k ds h Q X := by
  obtain ⟨fl, e', h', q, w⟩ := w
  have u : pg.run (n + 1) k ds h = f.run pg (pg.run n) ds h := by
    show (match pg.fns[k]? with | some f => f.run pg (pg.run n) ds h | none => none) = _
    rw [hf]
  unfold WC
  rw [u]
  unfold Fn.run
  rw [if_pos hl, he, q]
  cases fl with
  | ret d => exact ⟨_, _, rfl, w⟩
  | next => exact ⟨_, _, rfl, w⟩
  | ex c p => exact ⟨_, _, rfl, w⟩
  | _ => exact w.elim
end
section
variable {Q : D → Prop} {X : Nat → D → Prop} {e : DE} {h : DH}
@[simp] theorem endp_ret {d : D} : EndP Q X (.ret d) e h ↔ DeepB 0 h d Q := Iff.rfl
@[simp] theorem endp_next : EndP Q X .next e h ↔ Q .non := Iff.rfl
@[simp] theorem endp_ex {c : Nat} {p : D} : EndP Q X (.ex c p) e h ↔ scalT p = true ∧ X c p := Iff.rfl
theorem pc_of {pg : Pg} {k : Nat} {f : Fn} {b : Call → MS} (hf : pg.fns[k]? = some f) (he : ∀ F : Call, (sem F fuel).B (pg.ce f) f.body = b F) {n : Nat} {ds : List D} (hl : ds.length = f.ps.length) (w : WP (b (pg.run n)) (startD f.N ds) [] (EndP Q X)) : PC (pg.run (n + 1)) k ds Q X := by
  obtain ⟨fl, e', h', q, w⟩ := w
  have u : pg.run (n + 1) k ds [] = f.run pg (pg.run n) ds [] := by
    show (match pg.fns[k]? with | some f => f.run pg (pg.run n) ds [] | none => none) = _
    rw [hf]
  unfold PC pcall
  rw [u]
  unfold Fn.run
  rw [if_pos hl, he, q]
  cases fl with
  | ret d =>
    obtain ⟨d', e1, w⟩ := w
    exact ⟨.ok d', by dsimp only; rw [e1]; rfl, w⟩
  | next => exact ⟨_, rfl, w⟩
  | ex c p => exact ⟨.ex c p, if_pos w.1, w.2⟩
  | _ => exact w.elim
/-- a def that always answers so -/
theorem pc_ok {F : Call} {i : Nat} {ds : List D} {d : D} (q : PC F i ds (fun x => x = d) fun _ _ => False) : PC F i ds Q X ↔ Q d := by
  obtain ⟨r, a, b⟩ := q
  cases r with
  | ex c p => exact b.elim
  | ok x =>
    have b : x = d := b
    subst b
    unfold PC
    rw [a]
    exact ⟨fun ⟨_, z, w⟩ => by cases z; exact w, fun w => ⟨_, rfl, w⟩⟩
end
end Dd

set_option Elab.async false
set_option linter.all false
set_option maxRecDepth 100000
set_option maxHeartbeats 4000000
namespace Dd
open PySem L2

/-! # 29. Loops by what is walked -/
/-- behind a turn -/
def Turned (Q : Fl → DE → DH → Prop) (I : DE → DH → Prop) : Fl → DE → DH → Prop := fun f e h => match f with
  | .next => I e h
  | .cont => I e h
  | .brk => Q .next e h
  | f => Q f e h
section
variable {e : DE} {h : DH} {Q : Fl → DE → DH → Prop} {I : DE → DH → Prop}
@[simp] theorem td_next : Turned Q I .next e h ↔ I e h := ⟨fun x => x, fun x => x⟩
@[simp] theorem td_cont : Turned Q I .cont e h ↔ I e h := ⟨fun x => x, fun x => x⟩
@[simp] theorem td_brk : Turned Q I .brk e h ↔ Q .next e h := ⟨fun x => x, fun x => x⟩
@[simp] theorem td_ret {d : D} : Turned Q I (.ret d) e h ↔ Q (.ret d) e h := ⟨fun x => x, fun x => x⟩
@[simp] theorem td_ex {c : Nat} {p : D} : Turned Q I (.ex c p) e h ↔ Q (.ex c p) e h := ⟨fun x => x, fun x => x⟩
theorem td_iff {f : Fl} : Turned Q I f e h ↔ (match f with | .next => I e h | .cont => I e h | .brk => Q .next e h | f => Q f e h) := by
  cases f <;> exact Iff.rfl
theorem rngs_turn {lo : Int} {n k : Nat} {d : D} (h : ((List.range n).map fun k => D.int (lo + (k : Nat)))[k]? = some d) : d = .int (lo + k) ∧ k < n := by
  rw [List.getElem?_map] at h
  obtain ⟨j, e1, e2⟩ := map_some h
  obtain ⟨h1, h2⟩ := List.getElem?_eq_some_iff.mp e1
  rw [List.length_range] at h1
  rw [List.getElem_range] at h2
  subst h2 e2
  exact ⟨rfl, h1⟩
theorem rng1_nat {n : Nat} {h : DH} (h62 : in62 n = true) : rng1 (.int n) h = some (.items ((List.range n).map fun k => D.int (0 + (k : Nat))), h) := by
  simp only [rng1, h62, if_true, rngs, Int.toNat_natCast]
theorem wo_of {α : Type} {f : DH → Option (α × DH)} {h h' : DH} {d : α} {Q : α → DH → Prop} (q : f h = some (d, h')) (w : Q d h') : WO f h Q := wo_iff.mpr ⟨d, h', q, w⟩
theorem in62_nat {n : Nat} (hz : n ≤ Z) : in62 n = true := by
  have : Z = 16777216 := rfl
  exact below_iff.mpr (by omega)
/-- for i in range(n) -/
theorem for_rng {a : M D} {t : Tg} {b : MS} (Inv : Nat → DE → DH → Prop)
    (w : WE a e h (fun d h1 => ∃ n : Nat, d = .int n ∧ in62 n = true ∧ Inv 0 e h1 ∧ (∀ e h, Inv n e h → Q .next e h) ∧
      ∀ k e h, k < n → Inv k e h → ∃ e1, t.put (.int k) h e = some e1 ∧ WP b e1 h (Turned Q (Inv (k + 1)))) fun c p h1 => Q (.ex c p) e h1) : WP (forS (bnd a fun x => lift (rng1 x)) t b) e h Q := by
  refine wp_for ?_
  rw [we_bnd]
  refine w.mono (fun d h1 w => ?_) fun _ _ _ x => x
  obtain ⟨n, rfl, h62, i0, hd, step⟩ := w
  rw [we_lift]
  have z := rng1_nat (n := n) (h := h1) h62
  rw [wo_iff]
  refine ⟨_, _, z, ?_⟩
  have len : ((List.range n).map fun k => D.int (0 + (k : Nat))).length = n := by rw [List.length_map, List.length_range]
  refine ⟨_, rfl, Inv, i0, fun e h i => hd e h (by rw [len] at i; exact i), fun k d e h hk i => ?_⟩
  obtain ⟨rfl, hlt⟩ := rngs_turn hk
  obtain ⟨e1, p, q⟩ := step k e h hlt i
  exact ⟨e1, by rw [Int.zero_add]; exact p, q.mono fun f e h z => td_iff.mp z⟩
theorem src_tup {xs : List D} {h : DH} : srcD (.tup xs) h = some (.items xs, h) := rfl
/-- for x in a tuple, a text -/
theorem for_in {a : M D} {t : Tg} {b : MS} (Inv : Nat → DE → DH → Prop)
    (w : WE a e h (fun d h1 => ∃ xs, srcD d h1 = some (.items xs, h1) ∧ Inv 0 e h1 ∧ (∀ e h, Inv xs.length e h → Q .next e h) ∧
      ∀ k d e h, xs[k]? = some d → Inv k e h → ∃ e1, t.put d h e = some e1 ∧ WP b e1 h (Turned Q (Inv (k + 1)))) fun c p h1 => Q (.ex c p) e h1) : WP (forS (bnd a fun x => lift (srcD x)) t b) e h Q := by
  refine wp_for ?_
  rw [we_bnd]
  refine w.mono (fun d h1 w => ?_) fun _ _ _ x => x
  obtain ⟨xs, hs, i0, hd, step⟩ := w
  rw [we_lift]
  unfold WO
  rw [hs]
  refine ⟨_, rfl, Inv, i0, hd, fun k d e h hk i => ?_⟩
  obtain ⟨e1, p, q⟩ := step k d e h hk i
  exact ⟨e1, p, q.mono fun f e h z => td_iff.mp z⟩
end
/-- for x in what holds l; what is carried -/
theorem for_fold {α S : Type} {e : DE} {h : DH} {Q : Fl → DE → DH → Prop} {a : M D} {t : Tg} {b : MS} (l : List α) (f : α → D) (R : S → DE → DH → Prop) (st : S → α → S) (s0 : S)
    (w : WE (bnd a fun x => lift (srcD x)) e h (fun s h1 => s = .items (l.map f) ∧ h1 = h) fun _ _ _ => False) (r0 : R s0 e h) (hd : ∀ e h, R (l.foldl st s0) e h → Q .next e h)
    (step : ∀ s a e h, a ∈ l → R s e h → ∃ e1, t.put (f a) h e = some e1 ∧ WP b e1 h (Turned Q (R (st s a)))) : WP (forS (bnd a fun x => lift (srcD x)) t b) e h Q := by
  refine wp_for (w.mono (fun s h1 q => ?_) fun _ _ _ z => z.elim)
  obtain ⟨rfl, rfl⟩ := q
  refine ⟨l.map f, rfl, fun k e h => R ((l.take k).foldl st s0) e h, r0, fun e h r => hd e h (by rw [List.length_map, List.take_length] at r; exact r), fun k d e h hk r => ?_⟩
  rw [List.getElem?_map] at hk
  obtain ⟨a, e1, rfl⟩ := map_some hk
  obtain ⟨e2, p, q⟩ := step _ a e h (List.mem_of_getElem? e1) r
  refine ⟨e2, p, q.mono fun fl e h z => ?_⟩
  have tk : l.take (k + 1) = l.take k ++ [a] := by rw [List.take_succ, e1]; rfl
  have z := td_iff.mp z
  dsimp only
  rw [tk, List.foldl_append]
  exact z
/-- for x in what holds l; what is known before turn k -/
theorem for_map {α : Type} {e : DE} {h : DH} {Q : Fl → DE → DH → Prop} {a : M D} {t : Tg} {b : MS} (l : List α) (f : α → D) (Inv : Nat → DE → DH → Prop)
    (w : WE (bnd a fun x => lift (srcD x)) e h (fun s h1 => s = .items (l.map f) ∧ h1 = h) fun _ _ _ => False) (r0 : Inv 0 e h) (hd : ∀ e h, Inv l.length e h → Q .next e h)
    (step : ∀ k a e h, l[k]? = some a → Inv k e h → ∃ e1, t.put (f a) h e = some e1 ∧ WP b e1 h (Turned Q (Inv (k + 1)))) : WP (forS (bnd a fun x => lift (srcD x)) t b) e h Q := by
  refine wp_for (w.mono (fun s h1 q => ?_) fun _ _ _ z => z.elim)
  obtain ⟨rfl, rfl⟩ := q
  refine ⟨l.map f, rfl, Inv, r0, fun e h r => hd e h (by rw [List.length_map] at r; exact r), fun k d e h hk r => ?_⟩
  rw [List.getElem?_map] at hk
  obtain ⟨a, e1, rfl⟩ := map_some hk
  obtain ⟨e2, p, q⟩ := step k a e h e1 r
  exact ⟨e2, p, q.mono fun fl e h z => td_iff.mp z⟩
/-- for x in any items -/
theorem for_any {α : Type} {e : DE} {h : DH} {Q : Fl → DE → DH → Prop} {it : M Src} {t : Tg} {b : MS} (l : List α) (f : α → D) (Inv : Nat → DE → DH → Prop)
    (w : WE it e h (fun s h1 => s = .items (l.map f) ∧ h1 = h) fun _ _ _ => False) (r0 : Inv 0 e h) (hd : ∀ e h, Inv l.length e h → Q .next e h)
    (step : ∀ k a e h, l[k]? = some a → Inv k e h → ∃ e1, t.put (f a) h e = some e1 ∧ WP b e1 h (Turned Q (Inv (k + 1)))) : WP (forS it t b) e h Q := by
  refine wp_for (w.mono (fun s h1 q => ?_) fun _ _ _ z => z.elim)
  obtain ⟨rfl, rfl⟩ := q
  refine ⟨l.map f, rfl, Inv, r0, fun e h r => hd e h (by rw [List.length_map] at r; exact r), fun k d e h hk r => ?_⟩
  rw [List.getElem?_map] at hk
  obtain ⟨a, e1, rfl⟩ := map_some hk
  obtain ⟨e2, p, q⟩ := step k a e h e1 r
  exact ⟨e2, p, q.mono fun fl e h z => td_iff.mp z⟩
/-- for i in range(n), the number told -/
theorem for_rngS {a : M D} {t : Tg} {b : MS} {e : DE} {h : DH} {Q : Fl → DE → DH → Prop} (n : Nat) (Inv : Nat → DE → DH → Prop)
    (w : WE a e h (fun d h1 => d = .int (n : Int) ∧ h1 = h) fun _ _ _ => False) (hz : in62 n = true) (i0 : Inv 0 e h) (hd : ∀ e h, Inv n e h → Q .next e h)
    (step : ∀ k e h, k < n → Inv k e h → ∃ e1, t.put (.int (k : Int)) h e = some e1 ∧ WP b e1 h (Turned Q (Inv (k + 1)))) : WP (forS (bnd a fun x => lift (rng1 x)) t b) e h Q := by
  refine for_rng Inv (w.mono (fun d h1 x => ?_) fun _ _ _ x => x.elim)
  obtain ⟨rfl, rfl⟩ := x
  exact ⟨n, rfl, hz, i0, hd, step⟩
/-! comprehensions whose elements leave the heap as it was -/
theorem lc_go {vs : List Nat} {t : Tg} {c : M Bool} {m : M D} {e : DE} {h : DH} {α : Type} (l : List α) (f g : α → D) (p : α → Bool) (hz : l.length ≤ Z)
    (step : ∀ a ∈ l, ∃ e1, (∀ h, t.put (f a) h (wipeE e vs) = some e1) ∧ ∀ acc : List D, WE c e1 (h ++ [.lst acc]) (fun b h1 => b = p a ∧ h1 = h ++ [.lst acc]) (fun _ _ _ => False) ∧
      (p a = true → WE m e1 (h ++ [.lst acc]) (fun y h1 => y = g a ∧ h1 = h ++ [.lst acc]) fun _ _ _ => False)) :
    ∀ n k acc, k + n = l.length → acc.length ≤ k → lcLoop (.items (l.map f)) t c m h.length (wipeE e vs) n k (h ++ [.lst acc]) = some (h ++ [.lst (acc ++ ((l.drop k).filter p).map g)]) := by
  have wat : ∀ acc : List D, lstW (h ++ [.lst acc]) h.length = some acc := fun acc => by
    unfold lstW
    rw [List.getElem?_append_right (Nat.le_refl _), Nat.sub_self]
    rfl
  have wset : ∀ acc acc' : List D, (h ++ [Ob.lst acc]).set h.length (.lst acc') = h ++ [.lst acc'] := fun acc acc' => by
    rw [List.set_append_right _ _ (Nat.le_refl _), Nat.sub_self]
    rfl
  intro n
  induction n with
  | zero =>
    intro k acc hk ha
    rw [List.drop_of_length_le (by omega)]
    show some _ = _
    rw [List.filter_nil, List.map_nil, List.append_nil]
  | succ n ih =>
    intro k acc hk ha
    have hlt : k < l.length := by omega
    obtain ⟨e1, p1, st⟩ := step l[k] (List.getElem_mem hlt)
    obtain ⟨⟨rb, hb, qb, wb⟩, wm⟩ := st acc
    cases rb with
    | ex c p => exact wb.elim
    | ok b =>
      obtain ⟨wb, rfl⟩ := wb
      have wb : b = p l[k] := wb
      have dr : l.drop k = l[k] :: l.drop (k + 1) := List.drop_eq_getElem_cons hlt
      have at_ : (Src.items (l.map f)).at_ k (h ++ [.lst acc]) = some (f l[k]) := by
        show (l.map f)[k]? = _
        rw [List.getElem?_map, List.getElem?_eq_getElem hlt]; rfl
      dsimp only [lcLoop]
      rw [at_]
      dsimp only
      rw [p1]
      dsimp only
      rw [qb, wb, dr]
      cases hp : p l[k] with
      | false =>
        dsimp only
        rw [ih (k + 1) acc (by omega) (by omega), List.filter_cons, hp, if_neg (by decide)]
      | true =>
        obtain ⟨ry, hy, qy, wy⟩ := wm hp
        cases ry with
        | ex c p => exact wy.elim
        | ok y =>
          obtain ⟨wy, rfl⟩ := wy
          have wy : y = g l[k] := wy
          dsimp only
          rw [qy]
          dsimp only
          rw [wat]
          dsimp only
          rw [if_pos (by omega), wset, ih (k + 1) _ (by omega) (by rw [List.length_append]; exact Nat.succ_le_succ ha), List.filter_cons, hp, if_pos rfl, List.map_cons, wy, List.append_assoc]
          rfl
/-- [.. for x in l if ..] -/
theorem lc_filt {vs : List Nat} {it : M Src} {t : Tg} {c : M Bool} {m : M D} {e : DE} {h : DH} {Q : D → DH → Prop} {X : Nat → D → DH → Prop} {α : Type} (l : List α) (f g : α → D) (p : α → Bool) (hz : l.length ≤ Z)
    (w : WE it e h (fun s h1 => s = .items (l.map f) ∧ h1 = h) fun _ _ _ => False)
    (step : ∀ a ∈ l, ∃ e1, (∀ h, t.put (f a) h (wipeE e vs) = some e1) ∧ ∀ acc : List D, WE c e1 (h ++ [.lst acc]) (fun b h1 => b = p a ∧ h1 = h ++ [.lst acc]) (fun _ _ _ => False) ∧
      (p a = true → WE m e1 (h ++ [.lst acc]) (fun y h1 => y = g a ∧ h1 = h ++ [.lst acc]) fun _ _ _ => False))
    (q : Q (.ref h.length) (h ++ [.lst ((l.filter p).map g)])) : WE (lcM vs it t c m) e h Q X := by
  unfold lcM
  rw [we_bnd]
  refine w.mono (fun s h1 z => ?_) fun _ _ _ z => z.elim
  obtain ⟨rfl, rfl⟩ := z
  have go := lc_go (vs := vs) (t := t) (c := c) (m := m) (e := e) (h := h1) l f g p hz step l.length 0 [] (by omega) (Nat.le_refl _)
  refine ⟨.ok (.ref h1.length), h1 ++ [Ob.lst ((l.filter p).map g)], ?_, q⟩
  show (lcLoop (.items (l.map f)) t c m h1.length (wipeE e vs) (l.map f).length 0 (h1 ++ [.lst []])).map _ = _
  rw [List.length_map, go]
  rfl
/-- [.. for x in l] -/
theorem lc_map {vs : List Nat} {it : M Src} {t : Tg} {m : M D} {e : DE} {h : DH} {Q : D → DH → Prop} {X : Nat → D → DH → Prop} {α : Type} (l : List α) (f g : α → D) (hz : l.length ≤ Z)
    (w : WE it e h (fun s h1 => s = .items (l.map f) ∧ h1 = h) fun _ _ _ => False)
    (step : ∀ a ∈ l, ∃ e1, (∀ h, t.put (f a) h (wipeE e vs) = some e1) ∧ ∀ acc : List D, WE m e1 (h ++ [.lst acc]) (fun y h1 => y = g a ∧ h1 = h ++ [.lst acc]) fun _ _ _ => False)
    (q : Q (.ref h.length) (h ++ [.lst (l.map g)])) : WE (lcM vs it t (ret true) m) e h Q X := by
  refine lc_filt l f g (fun _ => true) hz w (fun a ha => ?_) (by rw [List.filter_eq_self.mpr (fun _ _ => rfl)]; exact q)
  obtain ⟨e1, p1, st⟩ := step a ha
  exact ⟨e1, p1, fun acc => ⟨we_ret.mpr ⟨rfl, rfl⟩, fun _ => st acc⟩⟩
/-- [.. for x in l for y in k x] -/
theorem lc2_map {vs vs1 : List Nat} {it it1 : M Src} {t t1 : Tg} {m : M D} {e : DE} {h : DH} {Q : D → DH → Prop} {X : Nat → D → DH → Prop} {α β : Type} (l : List α) (f : α → D) (k : α → List β) (f1 g : β → D) (hz : (l.flatMap k).length ≤ Z)
    (w : WE it e h (fun s h1 => s = .items (l.map f) ∧ h1 = h) fun _ _ _ => False)
    (step : ∀ a ∈ l, ∃ e1, (∀ h, t.put (f a) h (wipeE e vs) = some e1) ∧ ∀ acc : List D, WE it1 e1 (h ++ [.lst acc]) (fun s h1 => s = .items ((k a).map f1) ∧ h1 = h ++ [.lst acc]) (fun _ _ _ => False) ∧
      ∀ b ∈ k a, ∃ e2, (∀ h, t1.put (f1 b) h (wipeE e1 vs1) = some e2) ∧ ∀ acc : List D, WE m e2 (h ++ [.lst acc]) (fun y h1 => y = g b ∧ h1 = h ++ [.lst acc]) fun _ _ _ => False)
    (q : Q (.ref h.length) (h ++ [.lst ((l.flatMap k).map g)])) : WE (lc2M vs it t it1 vs1 t1 m) e h Q X := by
  unfold lc2M
  rw [we_bnd]
  refine w.mono (fun s h1 z => ?_) fun _ _ _ z => z.elim
  obtain ⟨rfl, rfl⟩ := z
  have wat : ∀ acc : List D, lstW (h1 ++ [.lst acc]) h1.length = some acc := fun acc => by
    unfold lstW
    rw [List.getElem?_append_right (Nat.le_refl _), Nat.sub_self]
    rfl
  have wset : ∀ acc acc' : List D, (h1 ++ [Ob.lst acc]).set h1.length (.lst acc') = h1 ++ [.lst acc'] := fun acc acc' => by
    rw [List.set_append_right _ _ (Nat.le_refl _), Nat.sub_self]
    rfl
  -- the inner loop
  have inner : ∀ (a : α), a ∈ l → ∀ e1, (∀ b ∈ k a, ∃ e2, (∀ h, t1.put (f1 b) h (wipeE e1 vs1) = some e2) ∧ ∀ acc : List D, WE m e2 (h1 ++ [.lst acc]) (fun y h2 => y = g b ∧ h2 = h1 ++ [.lst acc]) fun _ _ _ => False) →
      ∀ n j acc, j + n = (k a).length → acc.length + n ≤ Z → lcLoop (.items ((k a).map f1)) t1 (ret true) m h1.length (wipeE e1 vs1) n j (h1 ++ [.lst acc]) = some (h1 ++ [.lst (acc ++ ((k a).drop j).map g)]) := by
    intro a ha e1 st n
    induction n with
    | zero =>
      intro j acc hj _
      rw [List.drop_of_length_le (by omega)]
      show some _ = _
      rw [List.map_nil, List.append_nil]
    | succ n ih =>
      intro j acc hj hz
      have hlt : j < (k a).length := by omega
      obtain ⟨e2, p2, s2⟩ := st (k a)[j] (List.getElem_mem hlt)
      obtain ⟨ry, hy, qy, wy⟩ := s2 acc
      have at_ : (Src.items ((k a).map f1)).at_ j (h1 ++ [.lst acc]) = some (f1 (k a)[j]) := by
        show ((k a).map f1)[j]? = _
        rw [List.getElem?_map, List.getElem?_eq_getElem hlt]; rfl
      cases ry with
      | ex c p => exact wy.elim
      | ok y =>
        obtain ⟨wy, rfl⟩ := wy
        have wy : y = g (k a)[j] := wy
        dsimp only [lcLoop]
        rw [at_]
        dsimp only
        rw [p2]
        show (match m e2 (h1 ++ [.lst acc]) with
          | some (.ok x, h2) => match lstW h2 h1.length with
            | some acc => if acc.length < Z then lcLoop (.items ((k a).map f1)) t1 (ret true) m h1.length (wipeE e1 vs1) n (j + 1) (h2.set h1.length (.lst (acc ++ [x]))) else none
            | none => none
          | _ => none) = _
        rw [qy]
        dsimp only
        rw [wat]
        dsimp only
        rw [if_pos (by omega), wset, ih (j + 1) _ (by omega) (by rw [List.length_append]; show acc.length + 1 + n ≤ Z; omega), List.drop_eq_getElem_cons hlt, List.map_cons, wy, List.append_assoc]
        rfl
  have go : ∀ n j acc, j + n = l.length → acc.length + ((l.drop j).flatMap k).length ≤ Z → lc2Loop (.items (l.map f)) t it1 vs1 t1 m h1.length (wipeE e vs) n j (h1 ++ [.lst acc]) = some (h1 ++ [.lst (acc ++ ((l.drop j).flatMap k).map g)]) := by
    intro n
    induction n with
    | zero =>
      intro j acc hj _
      rw [List.drop_of_length_le (by omega)]
      show some _ = _
      rw [List.flatMap_nil, List.map_nil, List.append_nil]
    | succ n ih =>
      intro j acc hj hz
      have hlt : j < l.length := by omega
      have dr : l.drop j = l[j] :: l.drop (j + 1) := List.drop_eq_getElem_cons hlt
      rw [dr, List.flatMap_cons, List.length_append] at hz
      obtain ⟨e1, p1, st⟩ := step l[j] (List.getElem_mem hlt)
      obtain ⟨⟨rs, hs, qs, ws⟩, st2⟩ := st acc
      have at_ : (Src.items (l.map f)).at_ j (h1 ++ [.lst acc]) = some (f l[j]) := by
        show (l.map f)[j]? = _
        rw [List.getElem?_map, List.getElem?_eq_getElem hlt]; rfl
      cases rs with
      | ex c p => exact ws.elim
      | ok sr =>
        obtain ⟨ws, rfl⟩ := ws
        have ws : sr = .items ((k l[j]).map f1) := ws
        subst ws
        dsimp only [lc2Loop]
        rw [at_]
        dsimp only
        rw [p1]
        dsimp only
        rw [qs]
        dsimp only
        have il := inner l[j] (List.getElem_mem hlt) e1 st2 (k l[j]).length 0 acc (by omega) (by omega)
        rw [show (Src.items ((k l[j]).map f1)).len = (k l[j]).length from List.length_map _, il]
        dsimp only
        rw [List.drop_zero, ih (j + 1) _ (by omega) (by rw [List.length_append, List.length_map]; omega), dr, List.flatMap_cons, List.map_append, List.append_assoc]
  refine ⟨.ok (.ref h1.length), h1 ++ [Ob.lst ((l.flatMap k).map g)], ?_, q⟩
  show (lc2Loop (.items (l.map f)) t it1 vs1 t1 m h1.length (wipeE e vs) (l.map f).length 0 (h1 ++ [.lst []])).map _ = _
  rw [List.length_map, go l.length 0 [] (by omega) (by rw [List.drop_zero]; simpa using hz), List.drop_zero]
  rfl
/-! # 30. Displays of dicts -/
section
variable {e : DE} {h : DH} {X : Nat → D → DH → Prop}
@[simp] theorem we_dispL_nil {Q : List (D × D) → DH → Prop} : WE (dispL []) e h Q X ↔ Q [] h := we_ret
@[simp] theorem we_dispL_cons {p : M D × M D} {r : List (M D × M D)} {Q : List (D × D) → DH → Prop} : WE (dispL (p :: r)) e h Q X ↔ WE p.1 e h (fun k h1 => WE p.2 e h1 (fun v h2 => WE (dispL r) e h2 (fun rs h3 => Q ((k, v) :: rs) h3) X) X) X := by
  show WE (bnd p.1 fun k => bnd p.2 fun v => bnd (dispL r) fun rs => ret ((k, v) :: rs)) e h Q X ↔ _
  simp only [we_bnd, we_ret]
theorem we_disp {ps : List (M D × M D)} {Q : D → DH → Prop} (w : WE (dispL ps) e (h ++ [.dk []]) (fun kvs h1 => h1[h.length]? = some (.dk []) ∧ ∃ l, dispKV kvs = some l ∧ l.length ≤ 15 ∧ Q (.ref h.length) (h1.set h.length (.dk (l.foldl (fun acc kv => putD acc kv.1 kv.2) [])))) fun _ _ _ => False) : WE (dispM ps) e h Q X := by
  obtain ⟨r, h1, q, w⟩ := w
  cases r with
  | ex c p => exact w.elim
  | ok kvs =>
    obtain ⟨w1, l, w2, w3, w4⟩ := w
    refine ⟨.ok (.ref h.length), h1.set h.length (.dk (l.foldl (fun (acc : List (Key × D)) (kv : Key × D) => putD acc kv.1 kv.2) [])), ?_, w4⟩
    unfold dispM
    rw [q]
    dsimp only
    rw [w1, w2]
    dsimp only
    rw [if_pos w3]
end
section
variable {e : DE} {h : DH} {Q : Fl → DE → DH → Prop}
@[simp] theorem wp_aug {f : D → D → DH → Option (D × DH)} {i : Nat} {m : M D} : WP (augS f i m) e h Q ↔ WE (var i) e h (fun x h1 => WE m e h1 (fun y h2 => WO (f x y) h2 fun z h3 => Q .next (e.set i (some z)) h3) fun c p h1 => Q (.ex c p) e h1) fun c p h1 => Q (.ex c p) e h1 := by
  unfold augS
  rw [wp_with]
  constructor
  · intro w
    refine w.mono (fun x h1 w => ?_) fun _ _ _ x => x
    rw [wp_with] at w
    refine w.mono (fun y h2 w => ?_) fun _ _ _ x => x
    rw [wp_with, we_lift] at w
    rw [wo_iff] at w ⊢
    obtain ⟨z, h3, q, f', e', h', q2, w⟩ := w
    cases q2
    exact ⟨z, h3, q, w⟩
  · intro w
    refine w.mono (fun x h1 w => ?_) fun _ _ _ x => x
    rw [wp_with]
    refine w.mono (fun y h2 w => ?_) fun _ _ _ x => x
    rw [wp_with, we_lift]
    rw [wo_iff] at w ⊢
    obtain ⟨z, h3, q, w⟩ := w
    exact ⟨z, h3, q, _, _, _, rfl, w⟩
theorem wp_while {t : M Bool} {b : MS} {N : Nat} (Inv : Nat → DE → DH → Prop) (hN : N < 1000000) (i0 : Inv N e h)
    (step : ∀ n e h, Inv n e h → WE t e h (fun c h1 => if c then ∃ n', n = n' + 1 ∧ WP b e h1 (Turned Q (Inv n')) else Q .next e h1) fun c p h1 => Q (.ex c p) e h1) : WP (whileL t b whileFuel) e h Q := by
  have go : ∀ r n e h, n < r → Inv n e h → WP (whileL t b r) e h Q := by
    intro r
    induction r with
    | zero => intro n e h hn; omega
    | succ r ih =>
      intro n e h hn iv
      show WP (withM t fun c => if c then _ else skip) e h Q
      rw [wp_with]
      refine (step n e h iv).mono (fun c h1 w => ?_) fun _ _ _ x => x
      cases c with
      | false => exact wp_skip.mpr w
      | true =>
        obtain ⟨n', rfl, f, e2, h2, q, w⟩ := w
        show WP (fun e h => match b e h with
          | some (.next, e2, h2) => whileL t b r e2 h2
          | some (.cont, e2, h2) => whileL t b r e2 h2
          | some (.brk, e2, h2) => some (.next, e2, h2)
          | r => r) e h1 Q
        unfold WP
        dsimp only
        rw [q]
        cases f with
        | next => exact ih n' e2 h2 (by omega) w
        | cont => exact ih n' e2 h2 (by omega) w
        | brk => exact ⟨_, _, _, rfl, w⟩
        | ret d => exact ⟨_, _, _, rfl, w⟩
        | ex c p => exact ⟨_, _, _, rfl, w⟩
  exact go whileFuel N e h hN i0
end
@[simp] theorem wp_brk {e : DE} {h : DH} {Q : Fl → DE → DH → Prop} : WP (fun e h => some (.brk, e, h)) e h Q ↔ Q .brk e h := by
  constructor
  · rintro ⟨f, e', h', q, w⟩
    cases q
    exact w
  · exact fun w => ⟨_, _, _, rfl, w⟩
/-- try .. except X: without a name -/
theorem wp_try0 {b s : MS} {c : Nat} {e : DE} {h : DH} {Q : Fl → DE → DH → Prop} (w : WP b e h fun f e1 h1 => match f with
      | .ex c' p => c' = c ∧ WP s e1 h1 fun f e2 h2 => (∀ c p, f ≠ .ex c p) ∧ Q f e2 h2
      | f => Q f e1 h1) : WP (tryS b c none s) e h Q := by
  obtain ⟨f, e1, h1, q, w⟩ := w
  cases f with
  | ex c' p =>
    obtain ⟨rfl, f2, e2, h2, q2, w1, w2⟩ := w
    refine ⟨f2, e2, h2, ?_, w2⟩
    unfold tryS
    rw [q]
    dsimp only
    rw [if_pos rfl, q2]
    cases f2 with
    | ex c p => exact absurd rfl (w1 c p)
    | _ => rfl
  | next => exact ⟨_, _, _, by unfold tryS; rw [q], w⟩
  | brk => exact ⟨_, _, _, by unfold tryS; rw [q], w⟩
  | cont => exact ⟨_, _, _, by unfold tryS; rw [q], w⟩
  | ret d => exact ⟨_, _, _, by unfold tryS; rw [q], w⟩
theorem wp_try {b s : MS} {c i : Nat} {e : DE} {h : DH} {Q : Fl → DE → DH → Prop} (w : WP b e h fun f e1 h1 => match f with
      | .ex c' p => c' = c ∧ WP s (e1.set i (some p)) h1 fun f e2 h2 => (∀ c p, f ≠ .ex c p) ∧ Q f (e2.set i none) h2
      | f => Q f e1 h1) : WP (tryS b c (some i) s) e h Q := by
  obtain ⟨f, e1, h1, q, w⟩ := w
  cases f with
  | ex c' p =>
    obtain ⟨rfl, f2, e2, h2, q2, w1, w2⟩ := w
    refine ⟨f2, e2.set i none, h2, ?_, w2⟩
    unfold tryS
    rw [q]
    dsimp only
    rw [if_pos rfl, q2]
    cases f2 with
    | ex c p => exact absurd rfl (w1 c p)
    | _ => rfl
  | next => exact ⟨_, _, _, by unfold tryS; rw [q], w⟩
  | brk => exact ⟨_, _, _, by unfold tryS; rw [q], w⟩
  | cont => exact ⟨_, _, _, by unfold tryS; rw [q], w⟩
  | ret d => exact ⟨_, _, _, by unfold tryS; rw [q], w⟩
end Dd

set_option Elab.async false
set_option linter.all false
set_option maxRecDepth 100000
set_option maxHeartbeats 4000000
namespace Dk
open PySem PySem.Spec PyProof.Rows L2 Dd

def augAdd : D → D → DH → Option (D × DH) := augI (fun _ _ => true) fun i j => i + j
def augSub : D → D → DH → Option (D × DH) := augI (fun _ _ => true) fun i j => i - j
def augOr : D → D → DH → Option (D × DH) := augI (fun _ _ => true) PySem.Builtin.bitOr
def augShr : D → D → DH → Option (D × DH) := augI (fun _ j => leI 0 j) shrI
theorem Zv : Z = 16777216 := rfl
section
variable {h : DH} {Q : D → DH → Prop}
theorem wo_eq {f : DH → Option (D × DH)} {d : D} {h' : DH} (e : f h = some (d, h')) : WO f h Q ↔ Q d h' := by
  unfold WO
  rw [e]
theorem wo_if {f : DH → Option (D × DH)} {c : Prop} [Decidable c] {d : D} {h' : DH} (e : f h = if c then some (d, h') else none) : WO f h Q ↔ c ∧ Q d h' := by
  unfold WO
  rw [e]
  by_cases hc : c
  · rw [if_pos hc]; exact ⟨fun w => ⟨hc, w⟩, fun w => w.2⟩
  · rw [if_neg hc]; exact ⟨fun w => w.elim, fun w => absurd w.1 hc⟩
theorem wo_opt {α : Type} {f : DH → Option (D × DH)} {o : Option α} {g : α → D} (e : f h = o.map fun a => (g a, h)) : WO f h Q ↔ ∃ a, o = some a ∧ Q (g a) h := by
  unfold WO
  rw [e]
  cases o with
  | none => exact ⟨fun w => w.elim, fun ⟨_, z, _⟩ => nomatch z⟩
  | some a => exact ⟨fun w => ⟨a, rfl, w⟩, fun ⟨_, z, w⟩ => by cases z; exact w⟩
/-! lists -/
theorem wo_lst {f : DH → Option (D × DH)} {i : Nat} {k : List D → Option (D × DH)} (e : f h = match lstAt h i with | some xs => k xs | none => none) : WO f h Q ↔ ∃ xs, lstAt h i = some xs ∧ WO (fun _ => k xs) h Q := by
  unfold WO
  rw [e]
  cases lstAt h i with
  | none => exact ⟨fun w => w.elim, fun ⟨_, z, _⟩ => nomatch z⟩
  | some xs => exact ⟨fun w => ⟨xs, rfl, w⟩, fun ⟨_, z, w⟩ => by cases z; exact w⟩
theorem wo_lstW {f : DH → Option (D × DH)} {i : Nat} {k : List D → Option (D × DH)} (e : f h = match lstW h i with | some xs => k xs | none => none) : WO f h Q ↔ ∃ xs, lstW h i = some xs ∧ WO (fun _ => k xs) h Q := by
  unfold WO
  rw [e]
  cases lstW h i with
  | none => exact ⟨fun w => w.elim, fun ⟨_, z, _⟩ => nomatch z⟩
  | some xs => exact ⟨fun w => ⟨xs, rfl, w⟩, fun ⟨_, z, w⟩ => by cases z; exact w⟩
end
section
variable {a b : Ob} {g : DH} {xs : List D} {kvs : List (Key × D)} {i : Nat}
@[simp] theorem la_0 : lstAt (.lst xs :: g) 0 = some xs := rfl
@[simp] theorem la_0f : lstAt (.fl xs :: g) 0 = some xs := rfl
@[simp] theorem la_0d : lstAt (.dk kvs :: g) 0 = none := rfl
@[simp] theorem la_n : lstAt [] i = none := rfl
@[simp] theorem la_1 : lstAt (a :: g) 1 = lstAt g 0 := rfl
@[simp] theorem la_2 : lstAt (a :: g) 2 = lstAt g 1 := rfl
@[simp] theorem la_3 : lstAt (a :: g) 3 = lstAt g 2 := rfl
@[simp] theorem la_4 : lstAt (a :: g) 4 = lstAt g 3 := rfl
@[simp] theorem la_5 : lstAt (a :: g) 5 = lstAt g 4 := rfl
@[simp] theorem la_6 : lstAt (a :: g) 6 = lstAt g 5 := rfl
@[simp] theorem lw_0 : lstW (.lst xs :: g) 0 = some xs := rfl
@[simp] theorem lw_1 : lstW (a :: g) 1 = lstW g 0 := rfl
@[simp] theorem lw_2 : lstW (a :: g) 2 = lstW g 1 := rfl
@[simp] theorem lw_3 : lstW (a :: g) 3 = lstW g 2 := rfl
@[simp] theorem lw_4 : lstW (a :: g) 4 = lstW g 3 := rfl
@[simp] theorem lw_5 : lstW (a :: g) 5 = lstW g 4 := rfl
end
/-! ### operators -/
section
variable {h : DH} {Q : D → DH → Prop} {i j : Int} {k n : Nat} {x y : Str} {xs ys : List D} {d : D} {u v : Bool}
@[simp] theorem w_add : WO (addD (.int i) (.int j)) h Q ↔ Q (.int (i + j)) h := wo_eq rfl
@[simp] theorem w_adds : WO (addD (.str x) (.str y)) h Q ↔ x.length + y.length ≤ 16777216 ∧ Q (.str (x ++ y)) h := wo_if rfl
@[simp] theorem w_addt : WO (addD (.tup xs) (.tup ys)) h Q ↔ xs.length + ys.length ≤ 16777216 ∧ Q (.tup (xs ++ ys)) h := wo_if rfl
@[simp] theorem w_addl : WO (addD (.vl xs) (.vl ys)) h Q ↔ xs.length + ys.length ≤ 16777216 ∧ Q (.ref h.length) (h ++ [.lst (xs ++ ys)]) := wo_if rfl
@[simp] theorem w_addr : WO (addD (.vl xs) (.ref k)) h Q ↔ ∃ ys, lstAt h k = some ys ∧ xs.length + ys.length ≤ 16777216 ∧ Q (.ref h.length) (h ++ [.lst (xs ++ ys)]) := by
  simp only [WO, addD, seqD, newOb]
  cases lstAt h k with
  | none => simp
  | some ys => by_cases c : xs.length + ys.length ≤ 16777216 <;> simp [c]
@[simp] theorem w_addrl : WO (addD (.ref k) (.vl ys)) h Q ↔ ∃ xs, lstAt h k = some xs ∧ xs.length + ys.length ≤ 16777216 ∧ Q (.ref h.length) (h ++ [.lst (xs ++ ys)]) := by
  simp only [WO, addD, seqD, newOb]
  cases lstAt h k with
  | none => simp
  | some xs => by_cases c : xs.length + ys.length ≤ 16777216 <;> simp [c]
@[simp] theorem w_addrr : WO (addD (.ref k) (.ref n)) h Q ↔ ∃ xs, lstAt h k = some xs ∧ ∃ ys, lstAt h n = some ys ∧ xs.length + ys.length ≤ 16777216 ∧ Q (.ref h.length) (h ++ [.lst (xs ++ ys)]) := by
  simp only [WO, addD, seqD, newOb]
  cases lstAt h k with
  | none => simp
  | some xs => cases lstAt h n with
    | none => simp
    | some ys => by_cases c : xs.length + ys.length ≤ 16777216 <;> simp [c]
@[simp] theorem w_sub : WO (subD (.int i) (.int j)) h Q ↔ Q (.int (i - j)) h := wo_eq rfl
@[simp] theorem w_neg : WO (negD (.int i)) h Q ↔ Q (.int (-i)) h := wo_eq rfl
@[simp] theorem w_mod : WO (modD (.int i) (.int j)) h Q ↔ 0 < j ∧ Q (.int (i % j)) h := wo_if rfl
@[simp] theorem w_fdiv : WO (fdivD (.int i) (.int j)) h Q ↔ (0 < j ∧ j < 1073741824) ∧ Q (.int (i / j)) h := by
  refine (wo_if (c := 0 < j ∧ below j 1073741824 = true) rfl).trans (and_congr ⟨fun z => ⟨z.1, (below_iff.mp z.2).2⟩, fun z => ⟨z.1, below_iff.mpr ⟨by omega, z.2⟩⟩⟩ Iff.rfl)
theorem small_iff {i : Int} : smallI i = true ↔ -18446744073709551616 < i ∧ i < 18446744073709551616 := below_iff
@[simp] theorem w_mul : WO (mulD (.int i) (.int j)) h Q ↔ ((-18446744073709551616 < i ∧ i < 18446744073709551616) ∨ (-18446744073709551616 < j ∧ j < 18446744073709551616)) ∧ Q (.int (i * j)) h := by
  refine (wo_if (c := (smallI i || smallI j) = true) rfl).trans (and_congr ?_ Iff.rfl)
  rw [Bool.or_eq_true, small_iff, small_iff]
@[simp] theorem w_muls : WO (mulD (.str x) (.int j)) h Q ↔ (below j 1000001 = true ∧ x.length ≤ 1000000 ∧ x.length * j.toNat ≤ 1000000) ∧ Q (.str (PySem.Txt.mul x j)) h := wo_if rfl
@[simp] theorem w_mull : WO (mulD (.vl xs) (.int j)) h Q ↔ (below j 9223372036854775808 = true ∧ xs.length * j.toNat ≤ 16777216) ∧ Q (.ref h.length) (h ++ [.lst (List.replicate j.toNat xs).flatten]) := wo_if rfl
@[simp] theorem w_mulr : WO (mulD (.ref k) (.int j)) h Q ↔ ∃ xs, lstAt h k = some xs ∧ (below j 9223372036854775808 = true ∧ xs.length * j.toNat ≤ 16777216) ∧ Q (.ref h.length) (h ++ [.lst (List.replicate j.toNat xs).flatten]) := by
  refine (wo_lst (i := k) rfl).trans (exists_congr fun ys => and_congr Iff.rfl (wo_if rfl))
@[simp] theorem w_and : WO (andD (.int i) (.int j)) h Q ↔ Q (.int (PySem.Builtin.bitAnd i j)) h := wo_eq rfl
@[simp] theorem w_or : WO (orD (.int i) (.int j)) h Q ↔ Q (.int (PySem.Builtin.bitOr i j)) h := wo_eq rfl
@[simp] theorem w_shl : WO (shlD (.int i) (.int j)) h Q ↔ ((0 ≤ j ∧ j < 1000001) ∧ -18446744073709551616 < i ∧ i < 18446744073709551616) ∧ Q (.int (i * 2 ^ j.toNat)) h := by
  refine (wo_if (c := (leI 0 j && below j 1000001 && smallI i) = true) rfl).trans (and_congr ?_ Iff.rfl)
  rw [Bool.and_eq_true, Bool.and_eq_true, small_iff, leI_eq, decide_eq_true_eq, below_iff]
  constructor
  · rintro ⟨⟨a, b⟩, c⟩; exact ⟨⟨a, b.2⟩, c⟩
  · rintro ⟨⟨a, b⟩, c⟩; exact ⟨⟨a, by omega, b⟩, c⟩
@[simp] theorem w_shr : WO (shrD (.int i) (.int j)) h Q ↔ 0 ≤ j ∧ Q (.int (i / 2 ^ j.toNat)) h := by
  refine (wo_if (c := leI 0 j = true) rfl).trans (and_congr ?_ Iff.rfl)
  rw [leI_eq, decide_eq_true_eq]
@[simp] theorem w_bits : WO (bitsD (.int i)) h Q ↔ Q (.int (PySem.Builtin.Int.intBits i : Nat)) h := wo_eq rfl
@[simp] theorem w_aadd : WO (augAdd (.int i) (.int j)) h Q ↔ Q (.int (i + j)) h := wo_eq rfl
@[simp] theorem w_asub : WO (augSub (.int i) (.int j)) h Q ↔ Q (.int (i - j)) h := wo_eq rfl
@[simp] theorem w_aor : WO (augOr (.int i) (.int j)) h Q ↔ Q (.int (PySem.Builtin.bitOr i j)) h := wo_eq rfl
@[simp] theorem w_ashr : WO (augShr (.int i) (.int j)) h Q ↔ 0 ≤ j ∧ Q (.int (i / 2 ^ j.toNat)) h := by
  refine (wo_if (c := leI 0 j = true) rfl).trans (and_congr ?_ Iff.rfl)
  rw [leI_eq, decide_eq_true_eq]
/-! comparisons -/
@[simp] theorem w_lt : WO (ltD (.int i) (.int j)) h Q ↔ Q (.bl (decide (i < j))) h := by rw [← ltI_eq]; exact wo_eq rfl
@[simp] theorem w_le : WO (leD (.int i) (.int j)) h Q ↔ Q (.bl (decide (i ≤ j))) h := by rw [← leI_eq]; exact wo_eq rfl
@[simp] theorem w_gt : WO (gtD (.int i) (.int j)) h Q ↔ Q (.bl (decide (j < i))) h := by rw [← ltI_eq]; exact wo_eq rfl
@[simp] theorem w_ge : WO (geD (.int i) (.int j)) h Q ↔ Q (.bl (decide (j ≤ i))) h := by rw [← leI_eq]; exact wo_eq rfl
@[simp] theorem w_lts : WO (ltD (.str x) (.str y)) h Q ↔ Q (.bl (decide (x.cps.toList < y.cps.toList))) h := wo_eq rfl
@[simp] theorem w_les : WO (leD (.str x) (.str y)) h Q ↔ Q (.bl (!decide (y.cps.toList < x.cps.toList))) h := wo_eq rfl
@[simp] theorem w_gts : WO (gtD (.str x) (.str y)) h Q ↔ Q (.bl (decide (y.cps.toList < x.cps.toList))) h := wo_eq rfl
@[simp] theorem w_ges : WO (geD (.str x) (.str y)) h Q ↔ Q (.bl (!decide (x.cps.toList < y.cps.toList))) h := wo_eq rfl
@[simp] theorem w_ltb : WO (ltD (.bl u) (.bl v)) h Q ↔ Q (.bl (decide (b2n u < b2n v))) h := wo_eq rfl
@[simp] theorem w_leb : WO (leD (.bl u) (.bl v)) h Q ↔ Q (.bl (decide (b2n u ≤ b2n v))) h := wo_eq rfl
@[simp] theorem w_gtb : WO (gtD (.bl u) (.bl v)) h Q ↔ Q (.bl (decide (b2n v < b2n u))) h := wo_eq rfl
@[simp] theorem w_geb : WO (geD (.bl u) (.bl v)) h Q ↔ Q (.bl (decide (b2n v ≤ b2n u))) h := wo_eq rfl
@[simp] theorem w_eqi : WO (eqD (.int i) (.int j)) h Q ↔ Q (.bl (decide (i = j))) h := wo_eq rfl
@[simp] theorem w_nei : WO (neD (.int i) (.int j)) h Q ↔ Q (.bl (!decide (i = j))) h := wo_eq rfl
@[simp] theorem w_eqs : WO (eqD (.str x) (.str y)) h Q ↔ Q (.bl (decide (x = y))) h := wo_eq rfl
@[simp] theorem w_nes : WO (neD (.str x) (.str y)) h Q ↔ Q (.bl (!decide (x = y))) h := wo_eq rfl
@[simp] theorem w_eqb : WO (eqD (.bl u) (.bl v)) h Q ↔ Q (.bl (decide (u = v))) h := wo_eq rfl
@[simp] theorem w_neb : WO (neD (.bl u) (.bl v)) h Q ↔ Q (.bl (!decide (u = v))) h := wo_eq rfl
@[simp] theorem w_isn : WO (isD d .non) h Q ↔ Q (.bl (isNonD d)) h := wo_eq (by cases d <;> rfl)
@[simp] theorem w_isb : WO (isD (.bl u) (.bl v)) h Q ↔ Q (.bl (decide (u = v))) h := wo_eq rfl
@[simp] theorem w_isnn : WO (isNotD d .non) h Q ↔ Q (.bl (!isNonD d)) h := wo_eq (by unfold isNotD isD; cases d <;> rfl)
@[simp] theorem w_isnb : WO (isNotD (.bl u) (.bl v)) h Q ↔ Q (.bl (!decide (u = v))) h := wo_eq rfl
@[simp] theorem non_0 : isNonD .non = true := id rfl
@[simp] theorem non_1 : isNonD (.int i) = false := id rfl
@[simp] theorem non_2 : isNonD (.str x) = false := id rfl
@[simp] theorem non_3 : isNonD (.bl u) = false := id rfl
@[simp] theorem non_4 : isNonD (.tup xs) = false := id rfl
@[simp] theorem non_5 : isNonD (.vl xs) = false := id rfl
/-! items -/
theorem atI_nat {α : Type} {xs : List α} {k : Nat} : L2.atI xs (k : Int) = xs[k]? := by
  unfold L2.atI ixN
  rw [if_pos (by omega)]
  by_cases c : k < xs.length
  · rw [if_pos (by omega)]
    show xs[(k : Int).toNat]? = _
    rw [Int.toNat_natCast]
  · rw [if_neg (by omega)]
    exact (List.getElem?_eq_none (by omega)).symm
theorem atI_of {α : Type} {xs : List α} {i : Int} {k : Nat} {x : α} (hi : i = (k : Int)) (h : xs[k]? = some x) : L2.atI xs i = some x := by rw [hi, atI_nat, h]
theorem w_ixl : WO (ixD (.vl xs) (.int i)) h Q ↔ ∃ d, L2.atI xs i = some d ∧ Q d h := wo_opt (g := id) rfl
theorem w_ixt : WO (ixD (.tup xs) (.int i)) h Q ↔ ∃ d, L2.atI xs i = some d ∧ Q d h := wo_opt (g := id) rfl
theorem w_ixk : WO (ixD (.kt xs) (.int i)) h Q ↔ ∃ d, L2.atI xs i = some d ∧ Q d h := wo_opt (g := id) rfl
@[simp] theorem w_ixln : WO (ixD (.vl xs) (.int (k : Int))) h Q ↔ ∃ d, xs[k]? = some d ∧ Q d h := by rw [w_ixl, atI_nat]
@[simp] theorem w_ixl0 : WO (ixD (.vl xs) (.int 0)) h Q ↔ ∃ d, xs[0]? = some d ∧ Q d h := w_ixln (k := 0)
@[simp] theorem w_ixtn : WO (ixD (.tup xs) (.int (k : Int))) h Q ↔ ∃ d, xs[k]? = some d ∧ Q d h := by rw [w_ixt, atI_nat]
@[simp] theorem w_ixt0 : WO (ixD (.tup xs) (.int 0)) h Q ↔ ∃ d, xs[0]? = some d ∧ Q d h := w_ixtn (k := 0)
@[simp] theorem w_ixt1 : WO (ixD (.tup xs) (.int 1)) h Q ↔ ∃ d, xs[1]? = some d ∧ Q d h := w_ixtn (k := 1)
@[simp] theorem w_ixt2 : WO (ixD (.tup xs) (.int 2)) h Q ↔ ∃ d, xs[2]? = some d ∧ Q d h := w_ixtn (k := 2)
@[simp] theorem w_ixt3 : WO (ixD (.tup xs) (.int 3)) h Q ↔ ∃ d, xs[3]? = some d ∧ Q d h := w_ixtn (k := 3)
@[simp] theorem w_ixk0 : WO (ixD (.kt xs) (.int 0)) h Q ↔ ∃ d, xs[0]? = some d ∧ Q d h := by rw [w_ixk]; exact Iff.of_eq (by rw [show (0 : Int) = ((0 : Nat) : Int) from rfl, atI_nat])
@[simp] theorem w_ixk1 : WO (ixD (.kt xs) (.int 1)) h Q ↔ ∃ d, xs[1]? = some d ∧ Q d h := by rw [w_ixk]; exact Iff.of_eq (by rw [show (1 : Int) = ((1 : Nat) : Int) from rfl, atI_nat])
@[simp] theorem w_ixk2 : WO (ixD (.kt xs) (.int 2)) h Q ↔ ∃ d, xs[2]? = some d ∧ Q d h := by rw [w_ixk]; exact Iff.of_eq (by rw [show (2 : Int) = ((2 : Nat) : Int) from rfl, atI_nat])
@[simp] theorem w_ixk3 : WO (ixD (.kt xs) (.int 3)) h Q ↔ ∃ d, xs[3]? = some d ∧ Q d h := by rw [w_ixk]; exact Iff.of_eq (by rw [show (3 : Int) = ((3 : Nat) : Int) from rfl, atI_nat])
theorem w_ixr : WO (ixD (.ref k) d) h Q ↔ match lstAt h k with
    | some xs => (∃ i d', d = .int i ∧ L2.atI xs i = some d' ∧ Q d' h)
    | none => ∃ d', dGet (.ref k) d h = some (some d') ∧ Q d' h := by
  have e0 : ixD (.ref k) d h = (match lstAt h k with
    | some xs => match d with
      | .int j => pureO (L2.atI xs j) h
      | _ => none
    | none => match dGet (.ref k) d h with
      | some (some d) => some (d, h)
      | _ => none) := by
    first | (simp only [ixD, seqD]; done) | (simp only [ixD, seqD]; rfl)
  unfold WO
  rw [e0]
  cases lstAt h k with
  | none =>
    dsimp only
    cases dGet (.ref k) d h with
    | none => simp
    | some o => cases o <;> simp
  | some xs =>
    dsimp only
    cases d <;> first | (simp; done) | skip
    rename_i i
    cases hq : L2.atI xs i with
    | none => simp [pureO, hq]
    | some d => simp [pureO, hq]
@[simp] theorem w_ixri : WO (ixD (.ref k) (.int i)) h Q ↔ match lstAt h k with
    | some xs => (∃ d', L2.atI xs i = some d' ∧ Q d' h)
    | none => ∃ d', dGet (.ref k) (.int i) h = some (some d') ∧ Q d' h := by
  rw [w_ixr]
  cases lstAt h k with
  | none => exact Iff.rfl
  | some xs => exact ⟨fun ⟨_, d, z, w⟩ => by cases z; exact ⟨d, w⟩, fun ⟨d, w⟩ => ⟨_, d, rfl, w⟩⟩
@[simp] theorem w_ixs : WO (ixD (.str x) (.int i)) h Q ↔ ∃ c, strAt x i = some c ∧ Q (.str ⟨#[c]⟩) h := by
  refine (wo_opt (o := strAt x i) (g := fun c => .str ⟨#[c]⟩) ?_)
  show pureO ((strAt x i).map fun c => .str ⟨#[c]⟩) h = _
  cases strAt x i <;> rfl
@[simp] theorem w_ixf {ns : List Int} : WO (ixD (.frz ns) (.int i)) h Q ↔ ∃ c, L2.atI ns i = some c ∧ Q (.int c) h := by
  refine (wo_opt (o := L2.atI ns i) (g := fun c => .int c) ?_)
  show pureO ((L2.atI ns i).map D.int) h = _
  cases L2.atI ns i <;> rfl
@[simp] theorem w_ixw {kvs : List (Str × D)} : WO (ixD (.wd kvs) (.str x)) h Q ↔ ∃ d, kvs.lookup x = some d ∧ Q d h := by
  refine (wo_opt (o := kvs.lookup x) (g := id) ?_)
  show (match some (kvs.lookup x) with | some (some d) => some (d, h) | _ => none) = _
  cases kvs.lookup x <;> rfl
/-! slices -/
theorem cut_nat {α : Type} {xs : List α} {a b : Nat} : Dd.cutD xs (some (a : Int)) (some (b : Int)) = (xs.drop a).take (b - a) := by
  unfold Dd.cutD
  rw [HT.sIx_nat, HT.sIx_nat]
  by_cases c : a ≤ xs.length
  · rw [Nat.min_eq_left c]
    by_cases e : b ≤ xs.length
    · rw [Nat.min_eq_left e]
    · have e1 : min b xs.length = xs.length := Nat.min_eq_right (by omega)
      rw [e1, List.take_of_length_le (by rw [List.length_drop]; omega), List.take_of_length_le (by rw [List.length_drop]; omega)]
  · have e1 : min a xs.length = xs.length := Nat.min_eq_right (by omega)
    rw [e1, List.drop_of_length_le (Nat.le_refl _), List.drop_of_length_le (by omega)]; simp
theorem cut_to {α : Type} {xs : List α} {b : Nat} : Dd.cutD xs none (some (b : Int)) = xs.take b := by
  unfold Dd.cutD
  rw [HT.sIx_none, HT.sIx_nat, List.drop_zero, Nat.sub_zero]
  by_cases e : b ≤ xs.length
  · rw [Nat.min_eq_left e]
  · have e1 : min b xs.length = xs.length := Nat.min_eq_right (by omega)
    rw [e1, List.take_of_length_le (Nat.le_refl _), List.take_of_length_le (by omega)]
theorem cut_from {α : Type} {xs : List α} {a : Nat} : Dd.cutD xs (some (a : Int)) none = xs.drop a := by
  unfold Dd.cutD
  rw [HT.sIx_none, HT.sIx_nat]
  by_cases c : a ≤ xs.length
  · rw [Nat.min_eq_left c]
    exact List.take_of_length_le (by rw [List.length_drop]; omega)
  · have e1 : min a xs.length = xs.length := Nat.min_eq_right (by omega)
    rw [e1, List.drop_of_length_le (Nat.le_refl _), List.drop_of_length_le (by omega)]; simp
@[simp] theorem w_sll {lo hi : Option Int} : WO (sliceD (.vl xs) lo hi) h Q ↔ Q (.ref h.length) (h ++ [.lst (cutD xs lo hi)]) := wo_eq rfl
@[simp] theorem w_slt {lo hi : Option Int} : WO (sliceD (.tup xs) lo hi) h Q ↔ Q (.tup (cutD xs lo hi)) h := wo_eq rfl
@[simp] theorem w_sls {lo hi : Option Int} : WO (sliceD (.str x) lo hi) h Q ↔ x.length ≤ 16777216 ∧ Q (.str (cutS x lo hi)) h := wo_if rfl
@[simp] theorem w_slr {lo hi : Option Int} : WO (sliceD (.ref k) lo hi) h Q ↔ ∃ xs, lstAt h k = some xs ∧ Q (.ref h.length) (h ++ [.lst (cutD xs lo hi)]) := by
  refine (wo_lst (i := k) rfl).trans (exists_congr fun ys => and_congr Iff.rfl (wo_eq rfl))
/-! displays -/
@[simp] theorem w_lst : WO (lstM xs) h Q ↔ xs.length ≤ 16777216 ∧ Q (.ref h.length) (h ++ [.lst xs]) := wo_if rfl
@[simp] theorem w_tup : WO (tupM xs) h Q ↔ xs.length ≤ 16777216 ∧ Q (.tup xs) h := wo_if rfl
@[simp] theorem w_new {o : Ob} : WO (newOb o) h Q ↔ Q (.ref h.length) (h ++ [o]) := wo_eq rfl
/-! built-ins -/
@[simp] theorem w_lens : WO (bltD .len [.str x]) h Q ↔ x.length ≤ 16777216 ∧ Q (.int x.length) h := wo_if rfl
@[simp] theorem w_lent : WO (bltD .len [.tup xs]) h Q ↔ Q (.int xs.length) h := wo_eq rfl
@[simp] theorem w_lenk : WO (bltD .len [.kt xs]) h Q ↔ Q (.int xs.length) h := wo_eq rfl
@[simp] theorem w_lenl : WO (bltD .len [.vl xs]) h Q ↔ Q (.int xs.length) h := wo_eq rfl
@[simp] theorem w_lenf {ns : List Int} : WO (bltD .len [.frz ns]) h Q ↔ Q (.int ns.length) h := wo_eq rfl
@[simp] theorem w_lenr : WO (bltD .len [.ref k]) h Q ↔ match lstAt h k with
    | some xs => Q (.int xs.length) h
    | none => ∃ kvs, dkD (.ref k) h = some kvs ∧ Q (.int kvs.length) h := by
  have e0 : bltD .len [.ref k] h = (match lstAt h k with
    | some ds => some (D.int ds.length, h)
    | none => match dkD (.ref k) h with
      | some ds => some (.int ds.length, h)
      | none => none) := by
    first | (simp only [bltD, seqD]; done) | (simp only [bltD, seqD]; rfl)
  unfold WO
  rw [e0]
  cases lstAt h k with
  | some xs => simp
  | none =>
    dsimp only
    cases dkD (.ref k) h <;> simp
@[simp] theorem w_abs : WO (bltD .abs [.int i]) h Q ↔ Q (.int (if i < 0 then -i else i)) h := wo_eq rfl
@[simp] theorem w_int : WO (bltD .int [.int i]) h Q ↔ Q (.int i) h := wo_eq rfl
@[simp] theorem w_intb : WO (bltD .int [.bl u]) h Q ↔ Q (.int (if u then 1 else 0)) h := wo_eq rfl
@[simp] theorem w_str : WO (bltD .str [.int i]) h Q ↔ i.natAbs.log2 < 1920 ∧ Q (.str (toString i)) h := wo_if rfl
@[simp] theorem w_tupt : WO (bltD .tuple [.tup xs]) h Q ↔ Q (.tup xs) h := wo_eq rfl
@[simp] theorem w_tupl : WO (bltD .tuple [.vl xs]) h Q ↔ Q (.tup xs) h := wo_eq rfl
@[simp] theorem w_tupr : WO (bltD .tuple [.ref k]) h Q ↔ ∃ xs, lstAt h k = some xs ∧ Q (.tup xs) h := by
  refine (wo_lst (i := k) rfl).trans (exists_congr fun ys => and_congr Iff.rfl (wo_eq rfl))
@[simp] theorem w_lstt : WO (bltD .list [.tup xs]) h Q ↔ Q (.ref h.length) (h ++ [.lst xs]) := wo_eq rfl
@[simp] theorem w_lstl : WO (bltD .list [.vl xs]) h Q ↔ Q (.ref h.length) (h ++ [.lst xs]) := wo_eq rfl
@[simp] theorem w_ord : WO (bltD .ord [.str x]) h Q ↔ x.length = 1 ∧ Q (.int (x.cps.getD 0 0 : Nat)) h := wo_if rfl
@[simp] theorem w_min : WO (bltD .min [.int i, .int j]) h Q ↔ Q (.int (if j < i then j else i)) h := wo_eq rfl
@[simp] theorem w_max : WO (bltD .max [.int i, .int j]) h Q ↔ Q (.int (if j > i then j else i)) h := wo_eq rfl
@[simp] theorem w_maxl : WO (bltD .max [.vl xs]) h Q ↔ ∃ d, extremeD true xs = some d ∧ Q d h := wo_opt (g := id) rfl
@[simp] theorem w_minl : WO (bltD .min [.vl xs]) h Q ↔ ∃ d, extremeD false xs = some d ∧ Q d h := wo_opt (g := id) rfl
@[simp] theorem w_alll : WO (bltD .all [.vl xs]) h Q ↔ ∃ bs, bools xs = some bs ∧ Q (.bl (bs.all id)) h := wo_opt (g := fun bs : List Bool => .bl (bs.all id)) rfl
@[simp] theorem w_anyl : WO (bltD .any [.vl xs]) h Q ↔ ∃ bs, bools xs = some bs ∧ Q (.bl (bs.any id)) h := wo_opt (g := fun bs : List Bool => .bl (bs.any id)) rfl
@[simp] theorem w_allr : WO (bltD .all [.ref k]) h Q ↔ ∃ xs, lstAt h k = some xs ∧ ∃ bs, bools xs = some bs ∧ Q (.bl (bs.all id)) h := by
  refine (wo_lst (i := k) rfl).trans (exists_congr fun ys => and_congr Iff.rfl (wo_opt (g := fun bs : List Bool => .bl (bs.all id)) rfl))
@[simp] theorem w_anyr : WO (bltD .any [.ref k]) h Q ↔ ∃ xs, lstAt h k = some xs ∧ ∃ bs, bools xs = some bs ∧ Q (.bl (bs.any id)) h := by
  refine (wo_lst (i := k) rfl).trans (exists_congr fun ys => and_congr Iff.rfl (wo_opt (g := fun bs : List Bool => .bl (bs.any id)) rfl))
@[simp] theorem w_istt {t : String} : WO (isinD t (.tup xs)) h Q ↔ Q (.bl (isTy t "tuple")) h := wo_eq rfl
@[simp] theorem w_istk {t : String} : WO (isinD t (.kt xs)) h Q ↔ Q (.bl (isTy t "tuple")) h := wo_eq rfl
@[simp] theorem w_ists {t : String} : WO (isinD t (.str x)) h Q ↔ Q (.bl (isTy t "str")) h := wo_eq rfl
@[simp] theorem w_isti {t : String} : WO (isinD t (.int i)) h Q ↔ Q (.bl (isTy t "int")) h := wo_eq rfl
@[simp] theorem w_istb {t : String} : WO (isinD t (.bl u)) h Q ↔ Q (.bl (isTy t "bool")) h := wo_eq rfl
@[simp] theorem w_istn {t : String} : WO (isinD t .non) h Q ↔ Q (.bl (isTy t "NoneType")) h := wo_eq rfl
@[simp] theorem w_istl {t : String} : WO (isinD t (.vl xs)) h Q ↔ Q (.bl (isTy t "list")) h := wo_eq rfl
/-! methods -/
@[simp] theorem ok_app : mthOk .append (.ref k) h = (lstW h k).isSome := id rfl
@[simp] theorem ok_ext : mthOk .extend (.ref k) h = (lstW h k).isSome := id rfl
@[simp] theorem ok_pop : mthOk .pop (.ref k) h = (lstW h k).isSome := id rfl
@[simp] theorem ok_join : mthOk .join (.str x) h = true := id rfl
@[simp] theorem ok_cntl : mthOk .count (.vl xs) h = true := id rfl
@[simp] theorem ok_ixl : mthOk .index (.vl xs) h = true := id rfl
@[simp] theorem ok_ixr : mthOk .index (.ref k) h = (lstAt h k).isSome := id rfl
theorem wo_ok {f : DH → Option (D × DH)} {c : Bool} {g : DH → Option (D × DH)} (e : f h = if c then g h else none) : WO f h Q ↔ c = true ∧ WO g h Q := by
  unfold WO
  rw [e]
  cases c with
  | true => exact ⟨fun w => ⟨rfl, w⟩, fun w => w.2⟩
  | false => exact ⟨fun w => w.elim, fun w => nomatch w.1⟩
@[simp] theorem w_app : WO (mthG .append (.ref k) [d]) h Q ↔ ∃ xs, lstW h k = some xs ∧ xs.length < 16777216 ∧ Q .non (h.set k (.lst (xs ++ [d]))) := by
  refine (wo_ok (c := (lstW h k).isSome) (g := mthD .append (.ref k) [d]) rfl).trans ?_
  refine (and_congr Iff.rfl (wo_lstW (i := k) rfl)).trans ?_
  constructor
  · rintro ⟨_, xs, e, w⟩
    exact ⟨xs, e, (wo_if rfl).mp w⟩
  · rintro ⟨xs, e, w⟩
    exact ⟨by rw [e]; rfl, xs, e, (wo_if rfl).mpr w⟩
@[simp] theorem w_extl : WO (mthG .extend (.ref k) [.vl ys]) h Q ↔ ∃ xs, lstW h k = some xs ∧ xs.length + ys.length ≤ 16777216 ∧ Q .non (h.set k (.lst (xs ++ ys))) := by
  refine (wo_ok (c := (lstW h k).isSome) (g := mthD .extend (.ref k) [.vl ys]) rfl).trans ?_
  have e0 : mthD .extend (.ref k) [.vl ys] h = match lstW h k with
      | some xs => if xs.length + ys.length ≤ Z then some (.non, h.set k (.lst (xs ++ ys))) else none
      | none => none := by
    show (match lstW h k, some ys with
      | some xs, some ys => if xs.length + ys.length ≤ Z then some (D.non, h.set k (.lst (xs ++ ys))) else none
      | _, _ => none) = _
    cases lstW h k <;> rfl
  refine (and_congr Iff.rfl (wo_lstW (i := k) e0)).trans ?_
  constructor
  · rintro ⟨_, xs, e, w⟩
    exact ⟨xs, e, (wo_if rfl).mp w⟩
  · rintro ⟨xs, e, w⟩
    exact ⟨by rw [e]; rfl, xs, e, (wo_if rfl).mpr w⟩
@[simp] theorem w_join : WO (mthG .join (.str x) [.vl xs]) h Q ↔ ∃ ys, txts xs = some ys ∧ joinLen x ys ≤ 16777216 ∧ Q (.str (PySem.Str.join x ys)) h := by
  have e0 : mthG .join (.str x) [.vl xs] h = (match txts xs with
      | some ys => if joinLen x ys ≤ Z then some (D.str (PySem.Str.join x ys), h) else none
      | none => none) := by
    first | (simp only [mthG, ok_join, if_true, mthD, seqD]; done) | (simp only [mthG, ok_join, if_true, mthD, seqD]; rfl)
  unfold WO
  rw [e0]
  cases txts xs with
  | none => simp
  | some ys => by_cases c : joinLen x ys ≤ 16777216 <;> simp [c]
@[simp] theorem w_cnt : WO (mthG .count (.vl xs) [.int i]) h Q ↔ ∃ ns, intsD xs = some ns ∧ Q (.int (ns.count i : Nat)) h := by
  have e0 : mthG .count (.vl xs) [.int i] h = (match intsD xs with
      | some ns => some (D.int (ns.count i : Nat), h)
      | none => none) := by
    first | (simp only [mthG, ok_cntl, if_true, mthD, seqD]; done) | (simp only [mthG, ok_cntl, if_true, mthD, seqD]; rfl)
  unfold WO
  rw [e0]
  cases intsD xs <;> simp
/-! targets, tests, the environment -/
@[simp] theorem q_nm {e : DE} {i : Nat} : (Tg.nm i).put d h e = some (e.set i (some d)) := rfl
@[simp] theorem q_tp {e : DE} {is : List Nat} : (Tg.tp is).put (.tup xs) h e = setAll is xs e := rfl
@[simp] theorem q_tpk {e : DE} {is : List Nat} : (Tg.tp is).put (.kt xs) h e = setAll is xs e := rfl
@[simp] theorem q_tpl {e : DE} {is : List Nat} : (Tg.tp is).put (.vl xs) h e = setAll is xs e := rfl
@[simp] theorem q_sa0 {e : DE} : setAll [] [] e = some e := rfl
@[simp] theorem q_sa1 {e : DE} {i : Nat} {is : List Nat} {ds : List D} : setAll (i :: is) (d :: ds) e = setAll is ds (e.set i (some d)) := rfl
@[simp] theorem q_wipe0 {e : DE} : wipeE e [] = e := rfl
@[simp] theorem q_wipe1 {e : DE} {v : Nat} {vs : List Nat} : wipeE e (v :: vs) = (wipeE e vs).set v none := rfl
@[simp] theorem q_trub : truD (.bl u) h = some u := rfl
@[simp] theorem q_trui : truD (.int i) h = some (i != 0) := rfl
/-! what is walked -/
@[simp] theorem w_srcl {Qs : Src → DH → Prop} : WO (srcD (.vl xs)) h Qs ↔ Qs (.items xs) h := Iff.rfl
@[simp] theorem w_srct {Qs : Src → DH → Prop} : WO (srcD (.tup xs)) h Qs ↔ Qs (.items xs) h := Iff.rfl
@[simp] theorem w_srck {Qs : Src → DH → Prop} : WO (srcD (.kt xs)) h Qs ↔ Qs (.items xs) h := Iff.rfl
@[simp] theorem w_srcs {Qs : Src → DH → Prop} : WO (srcD (.str x)) h Qs ↔ Qs (.items (signs x)) h := Iff.rfl
@[simp] theorem w_zipl {Qs : Src → DH → Prop} : WO (zipD (.vl xs) (.vl ys)) h Qs ↔ Qs (.items ((xs.zip ys).map fun p => .tup [p.1, p.2])) h := Iff.rfl
@[simp] theorem w_zipt {Qs : Src → DH → Prop} : WO (zipD (.tup xs) (.tup ys)) h Qs ↔ Qs (.items ((xs.zip ys).map fun p => .tup [p.1, p.2])) h := Iff.rfl
/-! pure values -/
@[simp] theorem p_int : pureD (.int i) = true := id rfl
@[simp] theorem p_bl : pureD (.bl u) = true := id rfl
@[simp] theorem p_str : pureD (.str x) = true := id rfl
@[simp] theorem p_non : pureD .non = true := id rfl
@[simp] theorem p_kt : pureD (.kt xs) = true := id rfl
@[simp] theorem p_frz {ns : List Int} : pureD (.frz ns) = true := id rfl
@[simp] theorem p_wd {kvs : List (Str × D)} : pureD (.wd kvs) = true := id rfl
@[simp] theorem p_tup : pureD (.tup xs) = pureDs xs := id rfl
@[simp] theorem p_vl : pureD (.vl xs) = pureDs xs := id rfl
@[simp] theorem p_nil : pureDs [] = true := id rfl
@[simp] theorem p_cons : pureDs (d :: xs) = (pureD d && pureDs xs) := id rfl
@[simp] theorem p_app : pureDs (xs ++ ys) = (pureDs xs && pureDs ys) := by
  induction xs with
  | nil => rfl
  | cons z zs ih => rw [List.cons_append, p_cons, p_cons, ih, Bool.and_assoc]
theorem p_all : pureDs xs = true ↔ ∀ d ∈ xs, pureD d = true := by
  induction xs with
  | nil => exact ⟨fun _ _ z => (nomatch z), fun _ => rfl⟩
  | cons z zs ih => rw [p_cons, Bool.and_eq_true, ih]; simp
theorem p_map {α : Type} {l : List α} {f : α → D} (hf : ∀ a ∈ l, pureD (f a) = true) : pureDs (l.map f) = true := by
  rw [p_all]
  intro d hd
  obtain ⟨a, ha, rfl⟩ := List.mem_map.mp hd
  exact hf a ha
theorem p_take (hp : pureDs xs = true) : pureDs (xs.take k) = true := by rw [p_all] at hp ⊢; exact fun d hd => hp d (List.mem_of_mem_take hd)
theorem p_drop (hp : pureDs xs = true) : pureDs (xs.drop k) = true := by rw [p_all] at hp ⊢; exact fun d hd => hp d (List.mem_of_mem_drop hd)
@[simp] theorem sc_int : scalT (.int i) = true := id rfl
@[simp] theorem sc_bl : scalT (.bl u) = true := id rfl
@[simp] theorem sc_str : scalT (.str x) = true := id rfl
@[simp] theorem sc_non : scalT .non = true := id rfl
end
/-! ### lists of numbers -/
def nD (bs : List Nat) : List D := bs.map fun b : Nat => D.int (b : Int)
theorem nD_app (a b : List Nat) : nD (a ++ b) = nD a ++ nD b := List.map_append
@[simp] theorem nD_len (a : List Nat) : (nD a).length = a.length := List.length_map _
@[simp] theorem nD_pure (a : List Nat) : pureDs (nD a) = true := p_map fun _ _ => rfl
theorem nD_get (a : List Nat) (k : Nat) : (nD a)[k]? = (a[k]?).map fun b : Nat => D.int (b : Int) := List.getElem?_map
theorem nD_take (a : List Nat) (k : Nat) : (nD a).take k = nD (a.take k) := List.map_take.symm
theorem nD_drop (a : List Nat) (k : Nat) : (nD a).drop k = nD (a.drop k) := List.map_drop.symm
theorem nD_cons (a : Nat) (b : List Nat) : nD (a :: b) = .int (a : Int) :: nD b := rfl
/-! ### bits -/
theorem m_127 (i : Int) : PySem.Builtin.bitAnd i 127 = i % 128 := bitAnd_m7 i
theorem m_255 (i : Int) : PySem.Builtin.bitAnd i 255 = i % 256 := bitAnd_m8 i
theorem m_1 (i : Int) : PySem.Builtin.bitAnd i 1 = i % 2 := bitAnd_m1 i
theorem m_mask (i : Int) (k : Nat) : PySem.Builtin.bitAnd i (2 ^ k - 1) = i % 2 ^ k := PySem.W.kbt_mask i k
theorem or_add {a b k : Nat} (ha : a < 2 ^ k) : PySem.Builtin.bitOr (a : Int) ((b * 2 ^ k : Nat) : Int) = ((a + b * 2 ^ k : Nat) : Int) := by
  have hl := or_low (q := (b : Int)) (r := (a : Int)) (k := k) (Int.natCast_nonneg _) (Int.natCast_nonneg _) (by exact_mod_cast ha)
  have hc : ((b * 2 ^ k : Nat) : Int) = (b : Int) * 2 ^ k := by rw [Int.natCast_mul]; norm_cast
  rw [bitOr_nn (Int.natCast_nonneg _) (Int.natCast_nonneg _)] at *
  rw [hc]
  rw [bitOr_nn (by rw [← hc]; exact Int.natCast_nonneg _) (Int.natCast_nonneg _)] at hl
  rw [Nat.or_comm, hl]
  norm_cast
  rw [Nat.add_comm]
end Dk

set_option Elab.async false
set_option linter.all false
set_option maxRecDepth 100000
set_option maxHeartbeats 4000000
namespace Dk
open PySem PySem.Spec PyProof.Rows L2 Dd

def top (i : Nat) : Stmt := PySem.Challenge.pw_stripestack_k09_pages_of_any_size.main.body.getD i (.Pass ⟨0, 0, 0, 0⟩)
abbrev s_put_number : Stmt := top 6
abbrev i_put_number : Nat := 0
def f_put_number : Fn := ⟨"put_number", ["number"], ["number", "written"], defScope s_put_number, defBody s_put_number, 0, [1]⟩
abbrev s_take_number : Stmt := top 7
abbrev i_take_number : Nat := 1
def f_take_number : Fn := ⟨"take_number", ["data", "at"], ["data", "at", "number", "place", "byte"], defScope s_take_number, defBody s_take_number, 0, []⟩
abbrev s_put_word : Stmt := top 8
abbrev i_put_word : Nat := 2
def f_put_word : Fn := ⟨"put_word", ["number"], ["number"], defScope s_put_word, defBody s_put_word, 0, []⟩
abbrev s_take_word : Stmt := top 9
abbrev i_take_word : Nat := 3
def f_take_word : Fn := ⟨"take_word", ["data", "at"], ["data", "at", "end", "word"], defScope s_take_word, defBody s_take_word, 0, []⟩
abbrev s_take_byte : Stmt := top 10
abbrev i_take_byte : Nat := 4
def f_take_byte : Fn := ⟨"take_byte", ["data", "at"], ["data", "at"], defScope s_take_byte, defBody s_take_byte, 0, []⟩
abbrev s_fold_sign : Stmt := top 11
abbrev i_fold_sign : Nat := 5
def f_fold_sign : Fn := ⟨"fold_sign", ["number"], ["number"], defScope s_fold_sign, defBody s_fold_sign, 0, []⟩
abbrev s_unfold_sign : Stmt := top 12
abbrev i_unfold_sign : Nat := 6
def f_unfold_sign : Fn := ⟨"unfold_sign", ["number"], ["number"], defScope s_unfold_sign, defBody s_unfold_sign, 0, []⟩
abbrev s_width_of : Stmt := top 13
abbrev i_width_of : Nat := 7
def f_width_of : Fn := ⟨"width_of", ["most"], ["most"], defScope s_width_of, defBody s_width_of, 0, []⟩
abbrev s_pack : Stmt := top 14
abbrev i_pack : Nat := 8
def f_pack : Fn := ⟨"pack", ["numbers", "width"], ["numbers", "width", "packed", "held", "filled", "number"], defScope s_pack, defBody s_pack, 0, [2]⟩
abbrev s_unpack : Stmt := top 15
abbrev i_unpack : Nat := 9
def f_unpack : Fn := ⟨"unpack", ["data", "at", "count", "width"], ["data", "at", "count", "width", "end", "lowest", "numbers", "held", "filled", "byte"], defScope s_unpack, defBody s_unpack, 0, [6]⟩
abbrev s_put_levels : Stmt := top 19
abbrev i_put_levels : Nat := 10
def f_put_levels : Fn := ⟨"put_levels", ["numbers", "most"], ["numbers", "most", "width", "written", "done", "at", "end"], defScope s_put_levels, defBody s_put_levels, 0, [3]⟩
abbrev s_end_of_equals : Stmt := top 20
abbrev i_end_of_equals : Nat := 11
def f_end_of_equals : Fn := ⟨"_end_of_equals", ["numbers", "at"], ["numbers", "at", "end"], defScope s_end_of_equals, defBody s_end_of_equals, 0, []⟩
abbrev s_put_pieces : Stmt := top 21
abbrev i_put_pieces : Nat := 12
def f_put_pieces : Fn := ⟨"_put_pieces", ["numbers", "width"], ["numbers", "width", "written", "at", "piece"], defScope s_put_pieces, defBody s_put_pieces, 0, [2]⟩
abbrev s_take_levels : Stmt := top 22
abbrev i_take_levels : Nat := 13
def f_take_levels : Fn := ⟨"take_levels", ["data", "at", "count", "most"], ["data", "at", "count", "most", "width", "numbers", "head", "length", "piece", "level"], defScope s_take_levels, defBody s_take_levels, 0, [5]⟩
abbrev s_is_value : Stmt := top 28
abbrev i_is_value : Nat := 14
def f_is_value : Fn := ⟨"is_value", ["kind", "value"], ["kind", "value"], defScope s_is_value, defBody s_is_value, 0, []⟩
abbrev s_is_int : Stmt := top 29
abbrev i_is_int : Nat := 15
def f_is_int : Fn := ⟨"_is_int", ["value"], ["value"], defScope s_is_int, defBody s_is_int, 0, []⟩
abbrev s_is_text : Stmt := top 30
abbrev i_is_text : Nat := 16
def f_is_text : Fn := ⟨"_is_text", ["value"], ["value", "sign"], defScope s_is_text, defBody s_is_text, 0, []⟩
abbrev s_allowed : Stmt := top 39
abbrev i_allowed : Nat := 17
def f_allowed : Fn := ⟨"allowed", ["kind"], ["kind"], defScope s_allowed, defBody s_allowed, 0, []⟩
abbrev s_put_signs : Stmt := top 40
abbrev i_put_signs : Nat := 18
def f_put_signs : Fn := ⟨"put_signs", ["text"], ["text", "sign"], defScope s_put_signs, defBody s_put_signs, 0, []⟩
abbrev s_take_signs : Stmt := top 41
abbrev i_take_signs : Nat := 19
def f_take_signs : Fn := ⟨"take_signs", ["data", "at", "count"], ["data", "at", "count", "end", "code"], defScope s_take_signs, defBody s_take_signs, 0, []⟩
abbrev s_sign_of : Stmt := top 42
abbrev i_sign_of : Nat := 20
def f_sign_of : Fn := ⟨"_sign_of", ["code"], ["code"], defScope s_sign_of, defBody s_sign_of, 0, []⟩
abbrev s_put_one : Stmt := top 43
abbrev i_put_one : Nat := 21
def f_put_one : Fn := ⟨"put_one", ["kind", "value"], ["kind", "value"], defScope s_put_one, defBody s_put_one, 0, []⟩
abbrev s_take_one : Stmt := top 44
abbrev i_take_one : Nat := 22
def f_take_one : Fn := ⟨"take_one", ["kind", "data", "at"], ["kind", "data", "at", "word", "byte", "length"], defScope s_take_one, defBody s_take_one, 0, []⟩
abbrev s_signed : Stmt := top 45
abbrev i_signed : Nat := 23
def f_signed : Fn := ⟨"_signed", ["word"], ["word"], defScope s_signed, defBody s_signed, 0, []⟩
abbrev s_put_values : Stmt := top 46
abbrev i_put_values : Nat := 24
def f_put_values : Fn := ⟨"put_values", ["kind", "values", "encoding"], ["kind", "values", "encoding"], defScope s_put_values, defBody s_put_values, 0, []⟩
abbrev s_take_values : Stmt := top 47
abbrev i_take_values : Nat := 25
def f_take_values : Fn := ⟨"take_values", ["kind", "data", "at", "count", "encoding"], ["kind", "data", "at", "count", "encoding"], defScope s_take_values, defBody s_take_values, 0, []⟩
abbrev s_put_plain : Stmt := top 48
abbrev i_put_plain : Nat := 26
def f_put_plain : Fn := ⟨"_put_plain", ["kind", "values"], ["kind", "values", "value", "byte"], defScope s_put_plain, defBody s_put_plain, 0, []⟩
abbrev s_take_plain : Stmt := top 49
abbrev i_take_plain : Nat := 27
def f_take_plain : Fn := ⟨"_take_plain", ["kind", "data", "at", "count"], ["kind", "data", "at", "count", "bits", "values", "_", "value", "bit"], defScope s_take_plain, defBody s_take_plain, 0, [5]⟩
abbrev s_put_dictionary : Stmt := top 50
abbrev i_put_dictionary : Nat := 28
def f_put_dictionary : Fn := ⟨"_put_dictionary", ["kind", "values"], ["kind", "values", "places", "value", "indexes"], defScope s_put_dictionary, defBody s_put_dictionary, 0, [2]⟩
abbrev s_take_dictionary : Stmt := top 51
abbrev i_take_dictionary : Nat := 29
def f_take_dictionary : Fn := ⟨"_take_dictionary", ["kind", "data", "at", "count"], ["kind", "data", "at", "count", "size", "known", "indexes", "index"], defScope s_take_dictionary, defBody s_take_dictionary, 0, []⟩
abbrev s_last_index : Stmt := top 52
abbrev i_last_index : Nat := 30
def f_last_index : Fn := ⟨"_last_index", ["size"], ["size"], defScope s_last_index, defBody s_last_index, 0, []⟩
abbrev s_put_differences : Stmt := top 53
abbrev i_put_differences : Nat := 31
def f_put_differences : Fn := ⟨"_put_differences", ["values"], ["values", "written", "before", "value"], defScope s_put_differences, defBody s_put_differences, 0, [1]⟩
abbrev s_take_differences : Stmt := top 54
abbrev i_take_differences : Nat := 32
def f_take_differences : Fn := ⟨"_take_differences", ["data", "at", "count"], ["data", "at", "count", "values", "value", "_", "folded"], defScope s_take_differences, defBody s_take_differences, 0, [3]⟩
abbrev s_put_page : Stmt := top 65
abbrev i_put_page : Nat := 33
def f_put_page : Fn := ⟨"put_page", ["column", "entries", "encoding"], ["column", "entries", "encoding", "_", "kind", "most_definition", "most_repetition", "repetitions", "definitions", "levels", "entry"], defScope s_put_page, defBody s_put_page, 0, []⟩
abbrev s_values_of : Stmt := top 66
abbrev i_values_of : Nat := 34
def f_values_of : Fn := ⟨"_values_of", ["column", "entries"], ["column", "entries", "entry"], defScope s_values_of, defBody s_values_of, 0, []⟩
abbrev s_take_page : Stmt := top 67
abbrev i_take_page : Nat := 35
def f_take_page : Fn := ⟨"take_page", ["column", "data", "encoding"], ["column", "data", "encoding", "_", "kind", "most_definition", "most_repetition", "count", "at", "repetitions", "definitions", "values", "entries", "used", "repetition", "definition"], defScope s_take_page, defBody s_take_page, 0, [12]⟩
abbrev s_mark_of : Stmt := top 68
abbrev i_mark_of : Nat := 36
def f_mark_of : Fn := ⟨"mark_of", ["kind", "value"], ["kind", "value", "number"], defScope s_mark_of, defBody s_mark_of, 0, []⟩
abbrev s_text_number : Stmt := top 69
abbrev i_text_number : Nat := 37
def f_text_number : Fn := ⟨"_text_number", ["text"], ["text", "number", "sign"], defScope s_text_number, defBody s_text_number, 0, []⟩
abbrev s_has_mark : Stmt := top 70
abbrev i_has_mark : Nat := 38
def f_has_mark : Fn := ⟨"has_mark", ["sieve", "mark"], ["sieve", "mark"], defScope s_has_mark, defBody s_has_mark, 0, []⟩
abbrev s_told_of : Stmt := top 71
abbrev i_told_of : Nat := 39
def f_told_of : Fn := ⟨"told_of", ["column", "entries"], ["column", "entries", "values", "state", "sieve", "value"], defScope s_told_of, defBody s_told_of, 0, []⟩
abbrev s_put_told : Stmt := top 72
abbrev i_put_told : Nat := 40
def f_put_told : Fn := ⟨"put_told", ["column", "told"], ["column", "told", "state", "least", "greatest", "sieve"], defScope s_put_told, defBody s_put_told, 0, []⟩
abbrev s_take_told : Stmt := top 73
abbrev i_take_told : Nat := 41
def f_take_told : Fn := ⟨"take_told", ["column", "data", "at"], ["column", "data", "at", "state", "least", "greatest", "sieve"], defScope s_take_told, defBody s_take_told, 0, []⟩
abbrev s_law_cell : Stmt := top 75
abbrev i_law_cell : Nat := 42
def f_law_cell : Fn := ⟨"_law_cell", ["script", "k"], ["script", "k"], defScope s_law_cell, defBody s_law_cell, 0, []⟩
abbrev s_law_numbers : Stmt := top 76
abbrev i_law_numbers : Nat := 43
def f_law_numbers : Fn := ⟨"_law_numbers", ["cell", "many"], ["cell", "many", "found", "rest", "k"], defScope s_law_numbers, defBody s_law_numbers, 0, [2]⟩
abbrev s_law_number : Stmt := top 77
abbrev i_law_number : Nat := 44
def f_law_number : Fn := ⟨"_law_number", ["number"], ["number", "found", "k"], defScope s_law_number, defBody s_law_number, 0, [1]⟩
abbrev s_law_word : Stmt := top 78
abbrev i_law_word : Nat := 45
def f_law_word : Fn := ⟨"_law_word", ["number"], ["number"], defScope s_law_word, defBody s_law_word, 0, []⟩
abbrev s_law_width : Stmt := top 79
abbrev i_law_width : Nat := 46
def f_law_width : Fn := ⟨"_law_width", ["most"], ["most", "width", "k"], defScope s_law_width, defBody s_law_width, 0, []⟩
abbrev s_law_pack : Stmt := top 80
abbrev i_law_pack : Nat := 47
def f_law_pack : Fn := ⟨"_law_pack", ["numbers", "width"], ["numbers", "width", "bits", "number", "k", "found", "total", "j"], defScope s_law_pack, defBody s_law_pack, 0, [2, 5]⟩
abbrev s_law_run : Stmt := top 81
abbrev i_law_run : Nat := 48
def f_law_run : Fn := ⟨"_law_run", ["numbers", "at", "most"], ["numbers", "at", "most", "count", "k"], defScope s_law_run, defBody s_law_run, 0, []⟩
abbrev s_law_levels : Stmt := top 82
abbrev i_law_levels : Nat := 49
def f_law_levels : Fn := ⟨"_law_levels", ["numbers", "most"], ["numbers", "most", "width", "found", "at", "length", "end"], defScope s_law_levels, defBody s_law_levels, 0, []⟩
abbrev s_law_one : Stmt := top 83
abbrev i_law_one : Nat := 50
def f_law_one : Fn := ⟨"_law_one", ["kind", "value"], ["kind", "value", "char"], defScope s_law_one, defBody s_law_one, 0, []⟩
abbrev s_law_plain : Stmt := top 84
abbrev i_law_plain : Nat := 51
def f_law_plain : Fn := ⟨"_law_plain", ["kind", "values"], ["kind", "values", "found", "value"], defScope s_law_plain, defBody s_law_plain, 0, []⟩
abbrev s_law_encoded : Stmt := top 85
abbrev i_law_encoded : Nat := 52
def f_law_encoded : Fn := ⟨"_law_encoded", ["kind", "values", "encoding"], ["kind", "values", "encoding", "found", "known", "value", "last", "change"], defScope s_law_encoded, defBody s_law_encoded, 0, [4]⟩
abbrev s_law_page : Stmt := top 86
abbrev i_law_page : Nat := 53
def f_law_page : Fn := ⟨"_law_page", ["column", "entries", "encoding"], ["column", "entries", "encoding", "path", "kind", "defined", "again", "values", "found", "entry"], defScope s_law_page, defBody s_law_page, 0, []⟩
abbrev s_law_mark : Stmt := top 87
abbrev i_law_mark : Nat := 54
def f_law_mark : Fn := ⟨"_law_mark", ["kind", "value"], ["kind", "value", "number", "char"], defScope s_law_mark, defBody s_law_mark, 0, []⟩
abbrev s_law_told : Stmt := top 88
abbrev i_law_told : Nat := 55
def f_law_told : Fn := ⟨"_law_told", ["column", "entries"], ["column", "entries", "kind", "values", "least", "greatest", "sieve", "marks", "value", "mark", "worth", "k", "entry"], defScope s_law_told, defBody s_law_told, 0, [7]⟩
abbrev s_law_told_bytes : Stmt := top 89
abbrev i_law_told_bytes : Nat := 56
def f_law_told_bytes : Fn := ⟨"_law_told_bytes", ["kind", "told"], ["kind", "told"], defScope s_law_told_bytes, defBody s_law_told_bytes, 0, []⟩
abbrev s_law_value : Stmt := top 90
abbrev i_law_value : Nat := 57
def f_law_value : Fn := ⟨"_law_value", ["kind", "number", "size"], ["kind", "number", "size"], defScope s_law_value, defBody s_law_value, 0, []⟩
abbrev s_law_entries : Stmt := top 91
abbrev i_law_entries : Nat := 58
def f_law_entries : Fn := ⟨"_law_entries", ["script", "column", "count"], ["script", "column", "count", "path", "kind", "defined", "again", "size", "numbers", "entries", "k", "number", "level", "first"], defScope s_law_entries, defBody s_law_entries, 0, [9]⟩
abbrev s_law_refused : Stmt := top 92
abbrev i_law_refused : Nat := 59
def f_law_refused : Fn := ⟨"_law_refused", ["deed", "column", "data", "encoding"], ["deed", "column", "data", "encoding"], defScope s_law_refused, defBody s_law_refused, 0, []⟩
abbrev s_law : Stmt := top 93
abbrev i_law : Nat := 60
def f_law : Fn := ⟨"law", ["script"], ["script", "setting", "kind", "column", "count", "entries", "values", "codes", "encoding", "due", "encoded", "told", "shown", "value", "mark", "entry"], defScope s_law, defBody s_law, 0, []⟩
def pg : Pg where
  fns := [f_put_number, f_take_number, f_put_word, f_take_word, f_take_byte, f_fold_sign, f_unfold_sign, f_width_of, f_pack, f_unpack, f_put_levels, f_end_of_equals, f_put_pieces, f_take_levels, f_is_value, f_is_int, f_is_text, f_allowed, f_put_signs, f_take_signs, f_sign_of, f_put_one, f_take_one, f_signed, f_put_values, f_take_values, f_put_plain, f_take_plain, f_put_dictionary, f_take_dictionary, f_last_index, f_put_differences, f_take_differences, f_put_page, f_values_of, f_take_page, f_mark_of, f_text_number, f_has_mark, f_told_of, f_put_told, f_take_told, f_law_cell, f_law_numbers, f_law_number, f_law_word, f_law_width, f_law_pack, f_law_run, f_law_levels, f_law_one, f_law_plain, f_law_encoded, f_law_page, f_law_mark, f_law_told, f_law_told_bytes, f_law_value, f_law_entries, f_law_refused, f_law]
  con := [("MOST_BYTES", .int 5), ("WORD_BYTES", .int 4), ("LEAST_RUN", .int 4), ("MOST_PIECE", .int 32), ("LEAST_INT", .int (-2147483648)), ("GREATEST_INT", .int 2147483647), ("MOST_TEXT", .int 60), ("BARRED_CODE", .int 37), ("DICTIONARY", .int 1), ("DIFFERENCES", .int 2), ("ENCODINGS", .wd [("int", .kt [.int 0, .int 1, .int 2]), ("bool", .kt [.int 0]), ("text", .kt [.int 0, .int 1])]), ("LOW_SIGNS", .str " !\"#$"), ("LOW_CODE", .int 32), ("HIGH_SIGNS", .str "&'()*+,-./0123456789:;<=>?@ABCDEFGHIJKLMNOPQRSTUVWXYZ[\\]^_`abcdefghijklmnopqrstuvwxyz{|}~"), ("HIGH_CODE", .int 38), ("MOST_ENTRIES", .int 20000), ("NO_VALUES", .int 0), ("SOME_VALUES", .int 1), ("ALL_VALUES", .int 2), ("NOTHING_TOLD", .kt [.int 0, .non, .non, .int 0]), ("MOST_WORD", .int 4294967295), ("MARK_FACTOR", .int 2654435761), ("MARK_SHIFT", .int 27), ("TEXT_FACTOR", .int 31)]
  exc := [("BadFile", "part")]
  tkr := []
theorem o_put_number : FnOf f_put_number s_put_number := ⟨rfl, rfl, ⟨rfl, rfl, rfl, by decide +kernel, rfl, by decide +kernel, by decide +kernel⟩, fun _ _ _ _ _ _ us hl => match us, hl with | [_], _ => rfl⟩
theorem o_take_number : FnOf f_take_number s_take_number := ⟨rfl, rfl, ⟨rfl, rfl, rfl, by decide +kernel, rfl, by decide +kernel, by decide +kernel⟩, fun _ _ _ _ _ _ us hl => match us, hl with | [_, _], _ => rfl⟩
theorem o_put_word : FnOf f_put_word s_put_word := ⟨rfl, rfl, ⟨rfl, rfl, rfl, by decide +kernel, rfl, by decide +kernel, by decide +kernel⟩, fun _ _ _ _ _ _ us hl => match us, hl with | [_], _ => rfl⟩
theorem o_take_word : FnOf f_take_word s_take_word := ⟨rfl, rfl, ⟨rfl, rfl, rfl, by decide +kernel, rfl, by decide +kernel, by decide +kernel⟩, fun _ _ _ _ _ _ us hl => match us, hl with | [_, _], _ => rfl⟩
theorem o_take_byte : FnOf f_take_byte s_take_byte := ⟨rfl, rfl, ⟨rfl, rfl, rfl, by decide +kernel, rfl, by decide +kernel, by decide +kernel⟩, fun _ _ _ _ _ _ us hl => match us, hl with | [_, _], _ => rfl⟩
theorem o_fold_sign : FnOf f_fold_sign s_fold_sign := ⟨rfl, rfl, ⟨rfl, rfl, rfl, by decide +kernel, rfl, by decide +kernel, by decide +kernel⟩, fun _ _ _ _ _ _ us hl => match us, hl with | [_], _ => rfl⟩
theorem o_unfold_sign : FnOf f_unfold_sign s_unfold_sign := ⟨rfl, rfl, ⟨rfl, rfl, rfl, by decide +kernel, rfl, by decide +kernel, by decide +kernel⟩, fun _ _ _ _ _ _ us hl => match us, hl with | [_], _ => rfl⟩
theorem o_width_of : FnOf f_width_of s_width_of := ⟨rfl, rfl, ⟨rfl, rfl, rfl, by decide +kernel, rfl, by decide +kernel, by decide +kernel⟩, fun _ _ _ _ _ _ us hl => match us, hl with | [_], _ => rfl⟩
theorem o_pack : FnOf f_pack s_pack := ⟨rfl, rfl, ⟨rfl, rfl, rfl, by decide +kernel, rfl, by decide +kernel, by decide +kernel⟩, fun _ _ _ _ _ _ us hl => match us, hl with | [_, _], _ => rfl⟩
theorem o_unpack : FnOf f_unpack s_unpack := ⟨rfl, rfl, ⟨rfl, rfl, rfl, by decide +kernel, rfl, by decide +kernel, by decide +kernel⟩, fun _ _ _ _ _ _ us hl => match us, hl with | [_, _, _, _], _ => rfl⟩
theorem o_put_levels : FnOf f_put_levels s_put_levels := ⟨rfl, rfl, ⟨rfl, rfl, rfl, by decide +kernel, rfl, by decide +kernel, by decide +kernel⟩, fun _ _ _ _ _ _ us hl => match us, hl with | [_, _], _ => rfl⟩
theorem o_end_of_equals : FnOf f_end_of_equals s_end_of_equals := ⟨rfl, rfl, ⟨rfl, rfl, rfl, by decide +kernel, rfl, by decide +kernel, by decide +kernel⟩, fun _ _ _ _ _ _ us hl => match us, hl with | [_, _], _ => rfl⟩
theorem o_put_pieces : FnOf f_put_pieces s_put_pieces := ⟨rfl, rfl, ⟨rfl, rfl, rfl, by decide +kernel, rfl, by decide +kernel, by decide +kernel⟩, fun _ _ _ _ _ _ us hl => match us, hl with | [_, _], _ => rfl⟩
theorem o_take_levels : FnOf f_take_levels s_take_levels := ⟨rfl, rfl, ⟨rfl, rfl, rfl, by decide +kernel, rfl, by decide +kernel, by decide +kernel⟩, fun _ _ _ _ _ _ us hl => match us, hl with | [_, _, _, _], _ => rfl⟩
theorem o_is_value : FnOf f_is_value s_is_value := ⟨rfl, rfl, ⟨rfl, rfl, rfl, by decide +kernel, rfl, by decide +kernel, by decide +kernel⟩, fun _ _ _ _ _ _ us hl => match us, hl with | [_, _], _ => rfl⟩
theorem o_is_int : FnOf f_is_int s_is_int := ⟨rfl, rfl, ⟨rfl, rfl, rfl, by decide +kernel, rfl, by decide +kernel, by decide +kernel⟩, fun _ _ _ _ _ _ us hl => match us, hl with | [_], _ => rfl⟩
theorem o_is_text : FnOf f_is_text s_is_text := ⟨rfl, rfl, ⟨rfl, rfl, rfl, by decide +kernel, rfl, by decide +kernel, by decide +kernel⟩, fun _ _ _ _ _ _ us hl => match us, hl with | [_], _ => rfl⟩
theorem o_allowed : FnOf f_allowed s_allowed := ⟨rfl, rfl, ⟨rfl, rfl, rfl, by decide +kernel, rfl, by decide +kernel, by decide +kernel⟩, fun _ _ _ _ _ _ us hl => match us, hl with | [_], _ => rfl⟩
theorem o_put_signs : FnOf f_put_signs s_put_signs := ⟨rfl, rfl, ⟨rfl, rfl, rfl, by decide +kernel, rfl, by decide +kernel, by decide +kernel⟩, fun _ _ _ _ _ _ us hl => match us, hl with | [_], _ => rfl⟩
theorem o_take_signs : FnOf f_take_signs s_take_signs := ⟨rfl, rfl, ⟨rfl, rfl, rfl, by decide +kernel, rfl, by decide +kernel, by decide +kernel⟩, fun _ _ _ _ _ _ us hl => match us, hl with | [_, _, _], _ => rfl⟩
theorem o_sign_of : FnOf f_sign_of s_sign_of := ⟨rfl, rfl, ⟨rfl, rfl, rfl, by decide +kernel, rfl, by decide +kernel, by decide +kernel⟩, fun _ _ _ _ _ _ us hl => match us, hl with | [_], _ => rfl⟩
theorem o_put_one : FnOf f_put_one s_put_one := ⟨rfl, rfl, ⟨rfl, rfl, rfl, by decide +kernel, rfl, by decide +kernel, by decide +kernel⟩, fun _ _ _ _ _ _ us hl => match us, hl with | [_, _], _ => rfl⟩
theorem o_take_one : FnOf f_take_one s_take_one := ⟨rfl, rfl, ⟨rfl, rfl, rfl, by decide +kernel, rfl, by decide +kernel, by decide +kernel⟩, fun _ _ _ _ _ _ us hl => match us, hl with | [_, _, _], _ => rfl⟩
theorem o_signed : FnOf f_signed s_signed := ⟨rfl, rfl, ⟨rfl, rfl, rfl, by decide +kernel, rfl, by decide +kernel, by decide +kernel⟩, fun _ _ _ _ _ _ us hl => match us, hl with | [_], _ => rfl⟩
theorem o_put_values : FnOf f_put_values s_put_values := ⟨rfl, rfl, ⟨rfl, rfl, rfl, by decide +kernel, rfl, by decide +kernel, by decide +kernel⟩, fun _ _ _ _ _ _ us hl => match us, hl with | [_, _, _], _ => rfl⟩
theorem o_take_values : FnOf f_take_values s_take_values := ⟨rfl, rfl, ⟨rfl, rfl, rfl, by decide +kernel, rfl, by decide +kernel, by decide +kernel⟩, fun _ _ _ _ _ _ us hl => match us, hl with | [_, _, _, _, _], _ => rfl⟩
theorem o_put_plain : FnOf f_put_plain s_put_plain := ⟨rfl, rfl, ⟨rfl, rfl, rfl, by decide +kernel, rfl, by decide +kernel, by decide +kernel⟩, fun _ _ _ _ _ _ us hl => match us, hl with | [_, _], _ => rfl⟩
theorem o_take_plain : FnOf f_take_plain s_take_plain := ⟨rfl, rfl, ⟨rfl, rfl, rfl, by decide +kernel, rfl, by decide +kernel, by decide +kernel⟩, fun _ _ _ _ _ _ us hl => match us, hl with | [_, _, _, _], _ => rfl⟩
theorem o_put_dictionary : FnOf f_put_dictionary s_put_dictionary := ⟨rfl, rfl, ⟨rfl, rfl, rfl, by decide +kernel, rfl, by decide +kernel, by decide +kernel⟩, fun _ _ _ _ _ _ us hl => match us, hl with | [_, _], _ => rfl⟩
theorem o_take_dictionary : FnOf f_take_dictionary s_take_dictionary := ⟨rfl, rfl, ⟨rfl, rfl, rfl, by decide +kernel, rfl, by decide +kernel, by decide +kernel⟩, fun _ _ _ _ _ _ us hl => match us, hl with | [_, _, _, _], _ => rfl⟩
theorem o_last_index : FnOf f_last_index s_last_index := ⟨rfl, rfl, ⟨rfl, rfl, rfl, by decide +kernel, rfl, by decide +kernel, by decide +kernel⟩, fun _ _ _ _ _ _ us hl => match us, hl with | [_], _ => rfl⟩
theorem o_put_differences : FnOf f_put_differences s_put_differences := ⟨rfl, rfl, ⟨rfl, rfl, rfl, by decide +kernel, rfl, by decide +kernel, by decide +kernel⟩, fun _ _ _ _ _ _ us hl => match us, hl with | [_], _ => rfl⟩
theorem o_take_differences : FnOf f_take_differences s_take_differences := ⟨rfl, rfl, ⟨rfl, rfl, rfl, by decide +kernel, rfl, by decide +kernel, by decide +kernel⟩, fun _ _ _ _ _ _ us hl => match us, hl with | [_, _, _], _ => rfl⟩
theorem o_put_page : FnOf f_put_page s_put_page := ⟨rfl, rfl, ⟨rfl, rfl, rfl, by decide +kernel, rfl, by decide +kernel, by decide +kernel⟩, fun _ _ _ _ _ _ us hl => match us, hl with | [_, _, _], _ => rfl⟩
theorem o_values_of : FnOf f_values_of s_values_of := ⟨rfl, rfl, ⟨rfl, rfl, rfl, by decide +kernel, rfl, by decide +kernel, by decide +kernel⟩, fun _ _ _ _ _ _ us hl => match us, hl with | [_, _], _ => rfl⟩
theorem o_take_page : FnOf f_take_page s_take_page := ⟨rfl, rfl, ⟨rfl, rfl, rfl, by decide +kernel, rfl, by decide +kernel, by decide +kernel⟩, fun _ _ _ _ _ _ us hl => match us, hl with | [_, _, _], _ => rfl⟩
theorem o_mark_of : FnOf f_mark_of s_mark_of := ⟨rfl, rfl, ⟨rfl, rfl, rfl, by decide +kernel, rfl, by decide +kernel, by decide +kernel⟩, fun _ _ _ _ _ _ us hl => match us, hl with | [_, _], _ => rfl⟩
theorem o_text_number : FnOf f_text_number s_text_number := ⟨rfl, rfl, ⟨rfl, rfl, rfl, by decide +kernel, rfl, by decide +kernel, by decide +kernel⟩, fun _ _ _ _ _ _ us hl => match us, hl with | [_], _ => rfl⟩
theorem o_has_mark : FnOf f_has_mark s_has_mark := ⟨rfl, rfl, ⟨rfl, rfl, rfl, by decide +kernel, rfl, by decide +kernel, by decide +kernel⟩, fun _ _ _ _ _ _ us hl => match us, hl with | [_, _], _ => rfl⟩
theorem o_told_of : FnOf f_told_of s_told_of := ⟨rfl, rfl, ⟨rfl, rfl, rfl, by decide +kernel, rfl, by decide +kernel, by decide +kernel⟩, fun _ _ _ _ _ _ us hl => match us, hl with | [_, _], _ => rfl⟩
theorem o_put_told : FnOf f_put_told s_put_told := ⟨rfl, rfl, ⟨rfl, rfl, rfl, by decide +kernel, rfl, by decide +kernel, by decide +kernel⟩, fun _ _ _ _ _ _ us hl => match us, hl with | [_, _], _ => rfl⟩
theorem o_take_told : FnOf f_take_told s_take_told := ⟨rfl, rfl, ⟨rfl, rfl, rfl, by decide +kernel, rfl, by decide +kernel, by decide +kernel⟩, fun _ _ _ _ _ _ us hl => match us, hl with | [_, _, _], _ => rfl⟩
theorem o_law_cell : FnOf f_law_cell s_law_cell := ⟨rfl, rfl, ⟨rfl, rfl, rfl, by decide +kernel, rfl, by decide +kernel, by decide +kernel⟩, fun _ _ _ _ _ _ us hl => match us, hl with | [_, _], _ => rfl⟩
theorem o_law_numbers : FnOf f_law_numbers s_law_numbers := ⟨rfl, rfl, ⟨rfl, rfl, rfl, by decide +kernel, rfl, by decide +kernel, by decide +kernel⟩, fun _ _ _ _ _ _ us hl => match us, hl with | [_, _], _ => rfl⟩
theorem o_law_number : FnOf f_law_number s_law_number := ⟨rfl, rfl, ⟨rfl, rfl, rfl, by decide +kernel, rfl, by decide +kernel, by decide +kernel⟩, fun _ _ _ _ _ _ us hl => match us, hl with | [_], _ => rfl⟩
theorem o_law_word : FnOf f_law_word s_law_word := ⟨rfl, rfl, ⟨rfl, rfl, rfl, by decide +kernel, rfl, by decide +kernel, by decide +kernel⟩, fun _ _ _ _ _ _ us hl => match us, hl with | [_], _ => rfl⟩
theorem o_law_width : FnOf f_law_width s_law_width := ⟨rfl, rfl, ⟨rfl, rfl, rfl, by decide +kernel, rfl, by decide +kernel, by decide +kernel⟩, fun _ _ _ _ _ _ us hl => match us, hl with | [_], _ => rfl⟩
theorem o_law_pack : FnOf f_law_pack s_law_pack := ⟨rfl, rfl, ⟨rfl, rfl, rfl, by decide +kernel, rfl, by decide +kernel, by decide +kernel⟩, fun _ _ _ _ _ _ us hl => match us, hl with | [_, _], _ => rfl⟩
theorem o_law_run : FnOf f_law_run s_law_run := ⟨rfl, rfl, ⟨rfl, rfl, rfl, by decide +kernel, rfl, by decide +kernel, by decide +kernel⟩, fun _ _ _ _ _ _ us hl => match us, hl with | [_, _, _], _ => rfl⟩
theorem o_law_levels : FnOf f_law_levels s_law_levels := ⟨rfl, rfl, ⟨rfl, rfl, rfl, by decide +kernel, rfl, by decide +kernel, by decide +kernel⟩, fun _ _ _ _ _ _ us hl => match us, hl with | [_, _], _ => rfl⟩
theorem o_law_one : FnOf f_law_one s_law_one := ⟨rfl, rfl, ⟨rfl, rfl, rfl, by decide +kernel, rfl, by decide +kernel, by decide +kernel⟩, fun _ _ _ _ _ _ us hl => match us, hl with | [_, _], _ => rfl⟩
theorem o_law_plain : FnOf f_law_plain s_law_plain := ⟨rfl, rfl, ⟨rfl, rfl, rfl, by decide +kernel, rfl, by decide +kernel, by decide +kernel⟩, fun _ _ _ _ _ _ us hl => match us, hl with | [_, _], _ => rfl⟩
theorem o_law_encoded : FnOf f_law_encoded s_law_encoded := ⟨rfl, rfl, ⟨rfl, rfl, rfl, by decide +kernel, rfl, by decide +kernel, by decide +kernel⟩, fun _ _ _ _ _ _ us hl => match us, hl with | [_, _, _], _ => rfl⟩
theorem o_law_page : FnOf f_law_page s_law_page := ⟨rfl, rfl, ⟨rfl, rfl, rfl, by decide +kernel, rfl, by decide +kernel, by decide +kernel⟩, fun _ _ _ _ _ _ us hl => match us, hl with | [_, _, _], _ => rfl⟩
theorem o_law_mark : FnOf f_law_mark s_law_mark := ⟨rfl, rfl, ⟨rfl, rfl, rfl, by decide +kernel, rfl, by decide +kernel, by decide +kernel⟩, fun _ _ _ _ _ _ us hl => match us, hl with | [_, _], _ => rfl⟩
theorem o_law_told : FnOf f_law_told s_law_told := ⟨rfl, rfl, ⟨rfl, rfl, rfl, by decide +kernel, rfl, by decide +kernel, by decide +kernel⟩, fun _ _ _ _ _ _ us hl => match us, hl with | [_, _], _ => rfl⟩
theorem o_law_told_bytes : FnOf f_law_told_bytes s_law_told_bytes := ⟨rfl, rfl, ⟨rfl, rfl, rfl, by decide +kernel, rfl, by decide +kernel, by decide +kernel⟩, fun _ _ _ _ _ _ us hl => match us, hl with | [_, _], _ => rfl⟩
theorem o_law_value : FnOf f_law_value s_law_value := ⟨rfl, rfl, ⟨rfl, rfl, rfl, by decide +kernel, rfl, by decide +kernel, by decide +kernel⟩, fun _ _ _ _ _ _ us hl => match us, hl with | [_, _, _], _ => rfl⟩
theorem o_law_entries : FnOf f_law_entries s_law_entries := ⟨rfl, rfl, ⟨rfl, rfl, rfl, by decide +kernel, rfl, by decide +kernel, by decide +kernel⟩, fun _ _ _ _ _ _ us hl => match us, hl with | [_, _, _], _ => rfl⟩
theorem o_law_refused : FnOf f_law_refused s_law_refused := ⟨rfl, rfl, ⟨rfl, rfl, rfl, by decide +kernel, rfl, by decide +kernel, by decide +kernel⟩, fun _ _ _ _ _ _ us hl => match us, hl with | [_, _, _, _], _ => rfl⟩
theorem o_law : FnOf f_law s_law := ⟨rfl, rfl, ⟨rfl, rfl, rfl, by decide +kernel, rfl, by decide +kernel, by decide +kernel⟩, fun _ _ _ _ _ _ us hl => match us, hl with | [_], _ => rfl⟩
end Dk

set_option Elab.async false
set_option linter.all false
set_option maxRecDepth 100000
set_option maxHeartbeats 4000000
namespace Dk
open PySem PySem.Spec PyProof.Rows L2 Dd

noncomputable def b_put_number (F : Call) : MS := seq (asg (.nm 1) (opN lstM [])) (
seq (whileL (trimM (tst (op2 gtD (var 0) (ret (.int 127)))))
(seq (drop (frzM (mthM .append (var 1) [frzM (op2 orD (op2 andD (var 0) (ret (.int 127))) (ret (.int 128)))]))) (seq (augS augShr 0 (ret (.int 7))) (skip))) whileFuel) (
seq (drop (frzM (mthM .append (var 1) [var 0]))) (
seq (retS (var 1)) (
skip))))
theorem e_put_number (F : Call) : (sem F fuel).B (pg.ce f_put_number) f_put_number.body = b_put_number F := by kernel_rfl
noncomputable def b_take_number (F : Call) : MS := seq (asg (.nm 2) (ret (.int 0))) (
seq (forS (bnd (ret (.int 5)) fun x => lift (rng1 x)) (.nm 3)
(seq (ifS (trimM (tst (op2 geD (op2 addD (var 1) (var 3)) (opN (bltD .len) [var 0]))))
  (seq (raiS 0 (ret (.str "number cut short"))) (skip))
  (skip)) (seq (asg (.nm 4) (frzM (op2 ixD (var 0) (op2 addD (var 1) (var 3))))) (seq (augS augOr 2 (op2 shlD (op2 andD (var 4) (ret (.int 127))) (op2 mulD (ret (.int 7)) (var 3)))) (seq (ifS (trimM (tst (op2 ltD (var 4) (ret (.int 128)))))
  (seq (ifS (trimM (andT (tst (op2 eqD (var 4) (ret (.int 0)))) (tst (op2 gtD (var 3) (ret (.int 0))))))
    (seq (raiS 0 (ret (.str "number with a needless byte"))) (skip))
    (skip)) (seq (retS (opN tupM [var 2, op2 addD (op2 addD (var 1) (var 3)) (ret (.int 1))])) (skip)))
  (skip)) (skip)))))) (
seq (raiS 0 (ret (.str "number too long"))) (
skip)))
theorem e_take_number (F : Call) : (sem F fuel).B (pg.ce f_take_number) f_take_number.body = b_take_number F := by kernel_rfl
noncomputable def b_put_word (F : Call) : MS := seq (retS (opN lstM [op2 andD (var 0) (ret (.int 255)), op2 andD (op2 shrD (var 0) (ret (.int 8))) (ret (.int 255)), op2 andD (op2 shrD (var 0) (ret (.int 16))) (ret (.int 255)), op2 andD (op2 shrD (var 0) (ret (.int 24))) (ret (.int 255))])) (
skip)
theorem e_put_word (F : Call) : (sem F fuel).B (pg.ce f_put_word) f_put_word.body = b_put_word F := by kernel_rfl
noncomputable def b_take_word (F : Call) : MS := seq (asg (.nm 2) (frzM (op2 addD (var 1) (ret (.int 4))))) (
seq (ifS (trimM (tst (op2 gtD (var 2) (opN (bltD .len) [var 0]))))
(seq (raiS 0 (ret (.str "word cut short"))) (skip))
(skip)) (
seq (asg (.nm 3) (frzM (op2 orD (op2 orD (op2 orD (op2 ixD (var 0) (var 1)) (op2 shlD (op2 ixD (var 0) (op2 addD (var 1) (ret (.int 1)))) (ret (.int 8)))) (op2 shlD (op2 ixD (var 0) (op2 addD (var 1) (ret (.int 2)))) (ret (.int 16)))) (op2 shlD (op2 ixD (var 0) (op2 addD (var 1) (ret (.int 3)))) (ret (.int 24)))))) (
seq (retS (opN tupM [var 3, var 2])) (
skip))))
theorem e_take_word (F : Call) : (sem F fuel).B (pg.ce f_take_word) f_take_word.body = b_take_word F := by kernel_rfl
noncomputable def b_take_byte (F : Call) : MS := seq (ifS (trimM (tst (op2 geD (var 1) (opN (bltD .len) [var 0]))))
(seq (raiS 0 (ret (.str "byte cut short"))) (skip))
(skip)) (
seq (retS (opN tupM [op2 ixD (var 0) (var 1), op2 addD (var 1) (ret (.int 1))])) (
skip))
theorem e_take_byte (F : Call) : (sem F fuel).B (pg.ce f_take_byte) f_take_byte.body = b_take_byte F := by kernel_rfl
noncomputable def b_fold_sign (F : Call) : MS := seq (ifS (trimM (tst (op2 ltD (var 0) (ret (.int 0)))))
(seq (retS (op2 subD (op2 mulD (op1 negD (ret (.int 2))) (var 0)) (ret (.int 1)))) (skip))
(skip)) (
seq (retS (op2 mulD (ret (.int 2)) (var 0))) (
skip))
theorem e_fold_sign (F : Call) : (sem F fuel).B (pg.ce f_fold_sign) f_fold_sign.body = b_fold_sign F := by kernel_rfl
noncomputable def b_unfold_sign (F : Call) : MS := seq (ifS (trimM (tst (op2 eqD (op2 andD (var 0) (ret (.int 1))) (ret (.int 1)))))
(seq (retS (op2 subD (op1 negD (op2 fdivD (var 0) (ret (.int 2)))) (ret (.int 1)))) (skip))
(skip)) (
seq (retS (op2 fdivD (var 0) (ret (.int 2)))) (
skip))
theorem e_unfold_sign (F : Call) : (sem F fuel).B (pg.ce f_unfold_sign) f_unfold_sign.body = b_unfold_sign F := by kernel_rfl
noncomputable def b_width_of (F : Call) : MS := seq (retS (op1 bitsD (var 0))) (
skip)
theorem e_width_of (F : Call) : (sem F fuel).B (pg.ce f_width_of) f_width_of.body = b_width_of F := by kernel_rfl
noncomputable def b_pack (F : Call) : MS := seq (asg (.nm 2) (opN lstM [])) (
seq (asg (.nm 3) (ret (.int 0))) (
seq (asg (.nm 4) (ret (.int 0))) (
seq (forS (bnd (var 0) fun x => lift (srcD x)) (.nm 5)
(seq (augS augOr 3 (op2 shlD (var 5) (var 4))) (seq (augS augAdd 4 (var 1)) (seq (whileL (trimM (tst (op2 geD (var 4) (ret (.int 8)))))
  (seq (drop (frzM (mthM .append (var 2) [frzM (op2 andD (var 3) (ret (.int 255)))]))) (seq (augS augShr 3 (ret (.int 8))) (seq (augS augSub 4 (ret (.int 8))) (skip)))) whileFuel) (skip))))) (
seq (ifS (trimM (tst (op2 gtD (var 4) (ret (.int 0)))))
(seq (drop (frzM (mthM .append (var 2) [frzM (op2 andD (var 3) (ret (.int 255)))]))) (skip))
(skip)) (
seq (retS (var 2)) (
skip))))))
theorem e_pack (F : Call) : (sem F fuel).B (pg.ce f_pack) f_pack.body = b_pack F := by kernel_rfl
noncomputable def b_unpack (F : Call) : MS := seq (ifS (trimM (tst (op2 eqD (var 3) (ret (.int 0)))))
(seq (retS (opN tupM [op2 mulD (opN lstM [ret (.int 0)]) (var 2), var 1])) (skip))
(skip)) (
seq (asg (.nm 4) (frzM (op2 addD (var 1) (op2 fdivD (op2 addD (op2 mulD (var 2) (var 3)) (ret (.int 7))) (ret (.int 8)))))) (
seq (ifS (trimM (tst (op2 gtD (var 4) (opN (bltD .len) [var 0]))))
(seq (raiS 0 (ret (.str "packed numbers cut short"))) (skip))
(skip)) (
seq (asg (.nm 5) (frzM (op2 subD (op2 shlD (ret (.int 1)) (var 3)) (ret (.int 1))))) (
seq (asg (.nm 6) (opN lstM [])) (
seq (asg (.nm 7) (ret (.int 0))) (
seq (asg (.nm 8) (ret (.int 0))) (
seq (forS (bnd (frzM (sliceM (var 0) (intOf (var 1)) (intOf (var 4)))) fun x => lift (srcD x)) (.nm 9)
(seq (augS augOr 7 (op2 shlD (var 9) (var 8))) (seq (augS augAdd 8 (ret (.int 8))) (seq (whileL (trimM (andT (tst (op2 geD (var 8) (var 3))) (tst (op2 ltD (opN (bltD .len) [var 6]) (var 2)))))
  (seq (drop (frzM (mthM .append (var 6) [frzM (op2 andD (var 7) (var 5))]))) (seq (augS augShr 7 (var 3)) (seq (augS augSub 8 (var 3)) (skip)))) whileFuel) (skip))))) (
seq (ifS (trimM (tst (op2 neD (var 7) (ret (.int 0)))))
(seq (raiS 0 (ret (.str "bits left over"))) (skip))
(skip)) (
seq (retS (opN tupM [var 6, var 4])) (
skip))))))))))
theorem e_unpack (F : Call) : (sem F fuel).B (pg.ce f_unpack) f_unpack.body = b_unpack F := by kernel_rfl
noncomputable def b_put_levels (F : Call) : MS := seq (asg (.nm 2) (frzM (callP F i_width_of [var 1]))) (
seq (ifS (trimM (tst (op2 eqD (var 2) (ret (.int 0)))))
(seq (retS (opN lstM [])) (skip))
(skip)) (
seq (asg (.nm 3) (opN lstM [])) (
seq (asg (.nm 4) (ret (.int 0))) (
seq (asg (.nm 5) (ret (.int 0))) (
seq (whileL (trimM (tst (op2 ltD (var 5) (opN (bltD .len) [var 0]))))
(seq (asg (.nm 6) (frzM (callP F i_end_of_equals [var 0, var 5]))) (seq (ifS (trimM (tst (op2 geD (op2 subD (var 6) (var 5)) (ret (.int 4)))))
  (seq (drop (frzM (mthM .extend (var 3) [frzM (callP F i_put_pieces [frzM (sliceM (var 0) (intOf (var 4)) (intOf (var 5))), var 2])]))) (seq (drop (frzM (mthM .extend (var 3) [frzM (op2 addD (callP F i_put_number [frzM (op2 mulD (ret (.int 2)) (op2 subD (var 6) (var 5)))]) (callP F i_put_number [frzM (op2 ixD (var 0) (var 5))]))]))) (seq (asg (.nm 4) (var 6)) (skip))))
  (skip)) (seq (asg (.nm 5) (var 6)) (skip)))) whileFuel) (
seq (drop (frzM (mthM .extend (var 3) [frzM (callP F i_put_pieces [frzM (sliceM (var 0) (intOf (var 4)) (ret none)), var 2])]))) (
seq (retS (var 3)) (
skip))))))))
theorem e_put_levels (F : Call) : (sem F fuel).B (pg.ce f_put_levels) f_put_levels.body = b_put_levels F := by kernel_rfl
noncomputable def b_end_of_equals (F : Call) : MS := seq (asg (.nm 2) (frzM (op2 addD (var 1) (ret (.int 1))))) (
seq (whileL (trimM (andT (tst (op2 ltD (var 2) (opN (bltD .len) [var 0]))) (tst (op2 eqD (op2 ixD (var 0) (var 2)) (op2 ixD (var 0) (var 1))))))
(seq (augS augAdd 2 (ret (.int 1))) (skip)) whileFuel) (
seq (retS (var 2)) (
skip)))
theorem e_end_of_equals (F : Call) : (sem F fuel).B (pg.ce f_end_of_equals) f_end_of_equals.body = b_end_of_equals F := by kernel_rfl
noncomputable def b_put_pieces (F : Call) : MS := seq (asg (.nm 2) (opN lstM [])) (
seq (forS (bnd (ret (.int 0)) fun x => bnd (frzM (opN (bltD .len) [var 0])) fun y => bnd (ret (.int 32)) fun z => lift (rng3 x y z)) (.nm 3)
(seq (asg (.nm 4) (frzM (sliceM (var 0) (intOf (var 3)) (intOf (op2 addD (var 3) (ret (.int 32))))))) (seq (drop (frzM (mthM .extend (var 2) [frzM (op2 addD (callP F i_put_number [frzM (op2 addD (op2 mulD (ret (.int 2)) (opN (bltD .len) [var 4])) (ret (.int 1)))]) (callP F i_pack [var 4, var 1]))]))) (skip)))) (
seq (retS (var 2)) (
skip)))
theorem e_put_pieces (F : Call) : (sem F fuel).B (pg.ce f_put_pieces) f_put_pieces.body = b_put_pieces F := by kernel_rfl
noncomputable def b_take_levels (F : Call) : MS := seq (asg (.nm 4) (frzM (callP F i_width_of [var 3]))) (
seq (ifS (trimM (tst (op2 eqD (var 4) (ret (.int 0)))))
(seq (retS (opN tupM [op2 mulD (opN lstM [ret (.int 0)]) (var 2), var 1])) (skip))
(skip)) (
seq (asg (.nm 5) (opN lstM [])) (
seq (whileL (trimM (tst (op2 ltD (opN (bltD .len) [var 5]) (var 2))))
(seq (asg (.tp [6, 1]) (frzM (callP F i_take_number [var 0, var 1]))) (seq (asg (.nm 7) (frzM (op2 fdivD (var 6) (ret (.int 2))))) (seq (ifS (trimM (orT (tst (op2 eqD (var 7) (ret (.int 0)))) (tst (op2 gtD (var 7) (op2 subD (var 2) (opN (bltD .len) [var 5]))))))
  (seq (raiS 0 (ret (.str "length of levels"))) (skip))
  (skip)) (seq (ifS (trimM (tst (op2 eqD (op2 andD (var 6) (ret (.int 1))) (ret (.int 1)))))
  (seq (asg (.tp [8, 1]) (frzM (callP F i_unpack [var 0, var 1, var 7, var 4]))) (skip))
  (seq (asg (.tp [9, 1]) (frzM (callP F i_take_number [var 0, var 1]))) (seq (asg (.nm 8) (frzM (op2 mulD (opN lstM [var 9]) (var 7)))) (skip)))) (seq (ifS (trimM (tst (op2 gtD (opN (bltD .max) [var 8]) (var 3))))
  (seq (raiS 0 (ret (.str "level too great"))) (skip))
  (skip)) (seq (drop (frzM (mthM .extend (var 5) [var 8]))) (skip))))))) whileFuel) (
seq (retS (opN tupM [var 5, var 1])) (
skip)))))
theorem e_take_levels (F : Call) : (sem F fuel).B (pg.ce f_take_levels) f_take_levels.body = b_take_levels F := by kernel_rfl
noncomputable def b_is_value (F : Call) : MS := seq (ifS (trimM (tst (op2 eqD (var 0) (ret (.str "int")))))
(seq (retS (callP F i_is_int [var 1])) (skip))
(skip)) (
seq (ifS (trimM (tst (op2 eqD (var 0) (ret (.str "bool")))))
(seq (retS (op1 (isinD "bool") (var 1))) (skip))
(skip)) (
seq (retS (andV (op2 eqD (var 0) (ret (.str "text"))) (callP F i_is_text [var 1]))) (
skip)))
theorem e_is_value (F : Call) : (sem F fuel).B (pg.ce f_is_value) f_is_value.body = b_is_value F := by kernel_rfl
noncomputable def b_is_int (F : Call) : MS := seq (ifS (trimM (orT (notT (tru truD (op1 (isinD "int") (var 0)))) (tru truD (op1 (isinD "bool") (var 0)))))
(seq (retS (ret (.bl false))) (skip))
(skip)) (
seq (retS (chn leD leD (ret (.int (-2147483648))) (var 0) (ret (.int 2147483647)))) (
skip))
theorem e_is_int (F : Call) : (sem F fuel).B (pg.ce f_is_int) f_is_int.body = b_is_int F := by kernel_rfl
noncomputable def b_is_text (F : Call) : MS := seq (ifS (trimM (orT (notT (tru truD (op1 (isinD "str") (var 0)))) (tst (op2 gtD (opN (bltD .len) [var 0]) (ret (.int 60))))))
(seq (retS (ret (.bl false))) (skip))
(skip)) (
seq (retS (opN (bltD .all) [lcM [1] (bnd (var 0) fun x => lift (srcD x)) (.nm 1) (ret true) (frzM (andV (chn leD leD (ret (.str " ")) (var 1) (ret (.str "~"))) (op2 neD (opN (bltD .ord) [var 1]) (ret (.int 37)))))])) (
skip))
theorem e_is_text (F : Call) : (sem F fuel).B (pg.ce f_is_text) f_is_text.body = b_is_text F := by kernel_rfl
noncomputable def b_allowed (F : Call) : MS := seq (retS (op2 ixD (ret (.wd [("int", .kt [.int 0, .int 1, .int 2]), ("bool", .kt [.int 0]), ("text", .kt [.int 0, .int 1])])) (var 0))) (
skip)
theorem e_allowed (F : Call) : (sem F fuel).B (pg.ce f_allowed) f_allowed.body = b_allowed F := by kernel_rfl
noncomputable def b_put_signs (F : Call) : MS := seq (retS (lcM [1] (bnd (var 0) fun x => lift (srcD x)) (.nm 1) (ret true) (frzM (opN (bltD .ord) [var 1])))) (
skip)
theorem e_put_signs (F : Call) : (sem F fuel).B (pg.ce f_put_signs) f_put_signs.body = b_put_signs F := by kernel_rfl
noncomputable def b_take_signs (F : Call) : MS := seq (asg (.nm 3) (frzM (op2 addD (var 1) (var 2)))) (
seq (ifS (trimM (tst (op2 gtD (var 3) (opN (bltD .len) [var 0]))))
(seq (raiS 0 (ret (.str "text cut short"))) (skip))
(skip)) (
seq (retS (opN tupM [mthM .join (ret (.str "")) [frzM (lcM [4] (bnd (frzM (sliceM (var 0) (intOf (var 1)) (intOf (var 3)))) fun x => lift (srcD x)) (.nm 4) (ret true) (frzM (callP F i_sign_of [var 4])))], var 3])) (
skip)))
theorem e_take_signs (F : Call) : (sem F fuel).B (pg.ce f_take_signs) f_take_signs.body = b_take_signs F := by kernel_rfl
noncomputable def b_sign_of (F : Call) : MS := seq (ifS (trimM (tst (chn leD ltD (ret (.int 0)) (op2 subD (var 0) (ret (.int 32))) (opN (bltD .len) [ret (.str " !\"#$")]))))
(seq (retS (op2 ixD (ret (.str " !\"#$")) (op2 subD (var 0) (ret (.int 32))))) (skip))
(skip)) (
seq (ifS (trimM (tst (chn leD ltD (ret (.int 0)) (op2 subD (var 0) (ret (.int 38))) (opN (bltD .len) [ret (.str "&'()*+,-./0123456789:;<=>?@ABCDEFGHIJKLMNOPQRSTUVWXYZ[\\]^_`abcdefghijklmnopqrstuvwxyz{|}~")]))))
(seq (retS (op2 ixD (ret (.str "&'()*+,-./0123456789:;<=>?@ABCDEFGHIJKLMNOPQRSTUVWXYZ[\\]^_`abcdefghijklmnopqrstuvwxyz{|}~")) (op2 subD (var 0) (ret (.int 38))))) (skip))
(skip)) (
seq (raiS 0 (ret (.str "code of no character"))) (
skip)))
theorem e_sign_of (F : Call) : (sem F fuel).B (pg.ce f_sign_of) f_sign_of.body = b_sign_of F := by kernel_rfl
noncomputable def b_put_one (F : Call) : MS := seq (ifS (trimM (tst (op2 eqD (var 0) (ret (.str "int")))))
(seq (retS (callP F i_put_word [var 1])) (skip))
(skip)) (
seq (ifS (trimM (tst (op2 eqD (var 0) (ret (.str "bool")))))
(seq (retS (opN lstM [opN (bltD .int) [var 1]])) (skip))
(skip)) (
seq (retS (op2 addD (callP F i_put_number [frzM (opN (bltD .len) [var 1])]) (callP F i_put_signs [var 1]))) (
skip)))
theorem e_put_one (F : Call) : (sem F fuel).B (pg.ce f_put_one) f_put_one.body = b_put_one F := by kernel_rfl
noncomputable def b_take_one (F : Call) : MS := seq (ifS (trimM (tst (op2 eqD (var 0) (ret (.str "int")))))
(seq (asg (.tp [3, 2]) (frzM (callP F i_take_word [var 1, var 2]))) (seq (retS (opN tupM [callP F i_signed [var 3], var 2])) (skip)))
(skip)) (
seq (ifS (trimM (tst (op2 eqD (var 0) (ret (.str "bool")))))
(seq (asg (.tp [4, 2]) (frzM (callP F i_take_byte [var 1, var 2]))) (seq (ifS (trimM (tst (op2 gtD (var 4) (ret (.int 1)))))
  (seq (raiS 0 (ret (.str "bool above 1"))) (skip))
  (skip)) (seq (retS (opN tupM [op2 eqD (var 4) (ret (.int 1)), var 2])) (skip))))
(skip)) (
seq (asg (.tp [5, 2]) (frzM (callP F i_take_number [var 1, var 2]))) (
seq (ifS (trimM (tst (op2 gtD (var 5) (ret (.int 60)))))
(seq (raiS 0 (ret (.str "text too long"))) (skip))
(skip)) (
seq (retS (callP F i_take_signs [var 1, var 2, var 5])) (
skip)))))
theorem e_take_one (F : Call) : (sem F fuel).B (pg.ce f_take_one) f_take_one.body = b_take_one F := by kernel_rfl
noncomputable def b_signed (F : Call) : MS := seq (ifS (trimM (tst (op2 gtD (var 0) (ret (.int 2147483647)))))
(seq (retS (op2 subD (var 0) (op2 shlD (ret (.int 1)) (ret (.int 32))))) (skip))
(skip)) (
seq (retS (var 0)) (
skip))
theorem e_signed (F : Call) : (sem F fuel).B (pg.ce f_signed) f_signed.body = b_signed F := by kernel_rfl
noncomputable def b_put_values (F : Call) : MS := seq (ifS (trimM (tst (op2 eqD (var 2) (ret (.int 1)))))
(seq (retS (callP F i_put_dictionary [var 0, var 1])) (skip))
(skip)) (
seq (ifS (trimM (tst (op2 eqD (var 2) (ret (.int 2)))))
(seq (retS (callP F i_put_differences [var 1])) (skip))
(skip)) (
seq (retS (callP F i_put_plain [var 0, var 1])) (
skip)))
theorem e_put_values (F : Call) : (sem F fuel).B (pg.ce f_put_values) f_put_values.body = b_put_values F := by kernel_rfl
noncomputable def b_take_values (F : Call) : MS := seq (ifS (trimM (tst (op2 eqD (var 4) (ret (.int 1)))))
(seq (retS (callP F i_take_dictionary [var 0, var 1, var 2, var 3])) (skip))
(skip)) (
seq (ifS (trimM (tst (op2 eqD (var 4) (ret (.int 2)))))
(seq (retS (callP F i_take_differences [var 1, var 2, var 3])) (skip))
(skip)) (
seq (retS (callP F i_take_plain [var 0, var 1, var 2, var 3])) (
skip)))
theorem e_take_values (F : Call) : (sem F fuel).B (pg.ce f_take_values) f_take_values.body = b_take_values F := by kernel_rfl
noncomputable def b_put_plain (F : Call) : MS := seq (ifS (trimM (tst (op2 eqD (var 0) (ret (.str "bool")))))
(seq (retS (callP F i_pack [frzM (lcM [2] (bnd (var 1) fun x => lift (srcD x)) (.nm 2) (ret true) (frzM (opN (bltD .int) [var 2]))), ret (.int 1)])) (skip))
(skip)) (
seq (retS (lc2M [2, 3] (bnd (var 1) fun x => lift (srcD x)) (.nm 2) (bnd (frzM (callP F i_put_one [var 0, var 2])) fun x => lift (srcD x)) [3] (.nm 3) (var 3))) (
skip))
theorem e_put_plain (F : Call) : (sem F fuel).B (pg.ce f_put_plain) f_put_plain.body = b_put_plain F := by kernel_rfl
noncomputable def b_take_plain (F : Call) : MS := seq (ifS (trimM (tst (op2 eqD (var 0) (ret (.str "bool")))))
(seq (asg (.tp [4, 2]) (frzM (callP F i_unpack [var 1, var 2, var 3, ret (.int 1)]))) (seq (retS (opN tupM [lcM [8] (bnd (var 4) fun x => lift (srcD x)) (.nm 8) (ret true) (frzM (op2 eqD (var 8) (ret (.int 1)))), var 2])) (skip)))
(skip)) (
seq (asg (.nm 5) (opN lstM [])) (
seq (forS (bnd (var 3) fun x => lift (rng1 x)) (.nm 6)
(seq (asg (.tp [7, 2]) (frzM (callP F i_take_one [var 0, var 1, var 2]))) (seq (drop (frzM (mthM .append (var 5) [var 7]))) (skip)))) (
seq (retS (opN tupM [var 5, var 2])) (
skip))))
theorem e_take_plain (F : Call) : (sem F fuel).B (pg.ce f_take_plain) f_take_plain.body = b_take_plain F := by kernel_rfl
noncomputable def b_put_dictionary (F : Call) : MS := seq (asg (.nm 2) (lift (newOb (.dk [])))) (
seq (forS (bnd (var 1) fun x => lift (srcD x)) (.nm 3)
(seq (ifS (trimM (tst (op2 notInD (var 3) (var 2))))
  (seq (setS (var 2) (var 3) (frzM (opN (bltD .len) [var 2]))) (skip))
  (skip)) (skip))) (
seq (asg (.nm 4) (frzM (lcM [3] (bnd (var 1) fun x => lift (srcD x)) (.nm 3) (ret true) (frzM (op2 ixD (var 2) (var 3)))))) (
seq (retS (op2 addD (op2 addD (callP F i_put_number [frzM (opN (bltD .len) [var 2])]) (callP F i_put_plain [var 0, frzM (opN (bltD .list) [var 2])])) (callP F i_put_levels [var 4, frzM (callP F i_last_index [frzM (opN (bltD .len) [var 2])])]))) (
skip))))
theorem e_put_dictionary (F : Call) : (sem F fuel).B (pg.ce f_put_dictionary) f_put_dictionary.body = b_put_dictionary F := by kernel_rfl
noncomputable def b_take_dictionary (F : Call) : MS := seq (asg (.tp [4, 2]) (frzM (callP F i_take_number [var 1, var 2]))) (
seq (asg (.tp [5, 2]) (frzM (callP F i_take_plain [var 0, var 1, var 2, var 4]))) (
seq (asg (.tp [6, 2]) (frzM (callP F i_take_levels [var 1, var 2, var 3, frzM (callP F i_last_index [var 4])]))) (
seq (ifS (trimM (andT (tst (op2 eqD (var 4) (ret (.int 0)))) (tst (op2 gtD (var 3) (ret (.int 0))))))
(seq (raiS 0 (ret (.str "dictionary without values"))) (skip))
(skip)) (
seq (retS (opN tupM [lcM [7] (bnd (var 6) fun x => lift (srcD x)) (.nm 7) (ret true) (frzM (op2 ixD (var 5) (var 7))), var 2])) (
skip)))))
theorem e_take_dictionary (F : Call) : (sem F fuel).B (pg.ce f_take_dictionary) f_take_dictionary.body = b_take_dictionary F := by kernel_rfl
noncomputable def b_last_index (F : Call) : MS := seq (retS (opN (bltD .max) [op2 subD (var 0) (ret (.int 1)), ret (.int 0)])) (
skip)
theorem e_last_index (F : Call) : (sem F fuel).B (pg.ce f_last_index) f_last_index.body = b_last_index F := by kernel_rfl
noncomputable def b_put_differences (F : Call) : MS := seq (asg (.nm 1) (opN lstM [])) (
seq (asg (.nm 2) (ret (.int 0))) (
seq (forS (bnd (var 0) fun x => lift (srcD x)) (.nm 3)
(seq (drop (frzM (mthM .extend (var 1) [frzM (callP F i_put_number [frzM (callP F i_fold_sign [frzM (op2 subD (var 3) (var 2))])])]))) (seq (asg (.nm 2) (var 3)) (skip)))) (
seq (retS (var 1)) (
skip))))
theorem e_put_differences (F : Call) : (sem F fuel).B (pg.ce f_put_differences) f_put_differences.body = b_put_differences F := by kernel_rfl
noncomputable def b_take_differences (F : Call) : MS := seq (asg (.nm 3) (opN lstM [])) (
seq (asg (.nm 4) (ret (.int 0))) (
seq (forS (bnd (var 2) fun x => lift (rng1 x)) (.nm 5)
(seq (asg (.tp [6, 1]) (frzM (callP F i_take_number [var 0, var 1]))) (seq (augS augAdd 4 (callP F i_unfold_sign [var 6])) (seq (ifS (trimM (notT (tru truD (callP F i_is_value [ret (.str "int"), var 4]))))
  (seq (raiS 0 (ret (.str "difference out of range"))) (skip))
  (skip)) (seq (drop (frzM (mthM .append (var 3) [var 4]))) (skip)))))) (
seq (retS (opN tupM [var 3, var 1])) (
skip))))
theorem e_take_differences (F : Call) : (sem F fuel).B (pg.ce f_take_differences) f_take_differences.body = b_take_differences F := by kernel_rfl
noncomputable def b_put_page (F : Call) : MS := seq (asg (.tp [3, 4, 5, 6]) (var 0)) (
seq (asg (.nm 7) (frzM (lcM [10] (bnd (var 1) fun x => lift (srcD x)) (.nm 10) (ret true) (frzM (op2 ixD (var 10) (ret (.int 0))))))) (
seq (asg (.nm 8) (frzM (lcM [10] (bnd (var 1) fun x => lift (srcD x)) (.nm 10) (ret true) (frzM (op2 ixD (var 10) (ret (.int 1))))))) (
seq (asg (.nm 9) (frzM (op2 addD (callP F i_put_levels [var 7, var 6]) (callP F i_put_levels [var 8, var 5])))) (
seq (retS (op2 addD (op2 addD (callP F i_put_number [frzM (opN (bltD .len) [var 1])]) (var 9)) (callP F i_put_values [var 4, frzM (callP F i_values_of [var 0, var 1]), var 2]))) (
skip)))))
theorem e_put_page (F : Call) : (sem F fuel).B (pg.ce f_put_page) f_put_page.body = b_put_page F := by kernel_rfl
noncomputable def b_values_of (F : Call) : MS := seq (retS (lcM [2] (bnd (var 1) fun x => lift (srcD x)) (.nm 2) (trimM (tst (op2 eqD (op2 ixD (var 2) (ret (.int 1))) (op2 ixD (var 0) (ret (.int 2)))))) (frzM (op2 ixD (var 2) (ret (.int 2)))))) (
skip)
theorem e_values_of (F : Call) : (sem F fuel).B (pg.ce f_values_of) f_values_of.body = b_values_of F := by kernel_rfl
noncomputable def b_take_page (F : Call) : MS := seq (asg (.tp [3, 4, 5, 6]) (var 0)) (
seq (asg (.tp [7, 8]) (frzM (callP F i_take_number [var 1, ret (.int 0)]))) (
seq (ifS (trimM (tst (op2 gtD (var 7) (ret (.int 20000)))))
(seq (raiS 0 (ret (.str "too many entries"))) (skip))
(skip)) (
seq (asg (.tp [9, 8]) (frzM (callP F i_take_levels [var 1, var 8, var 7, var 6]))) (
seq (asg (.tp [10, 8]) (frzM (callP F i_take_levels [var 1, var 8, var 7, var 5]))) (
seq (asg (.tp [11, 8]) (frzM (callP F i_take_values [var 4, var 1, var 8, frzM (mthM .count (var 10) [var 5]), var 2]))) (
seq (ifS (trimM (tst (op2 neD (var 8) (opN (bltD .len) [var 1]))))
(seq (raiS 0 (ret (.str "bytes behind a page"))) (skip))
(skip)) (
seq (asg (.nm 12) (opN lstM [])) (
seq (asg (.nm 13) (ret (.int 0))) (
seq (forS (bnd (var 9) fun x => bnd (var 10) fun y => lift (zipD x y)) (.tp [14, 15])
(seq (ifS (trimM (tst (op2 eqD (var 15) (var 5))))
  (seq (drop (frzM (mthM .append (var 12) [frzM (opN tupM [var 14, var 15, op2 ixD (var 11) (var 13)])]))) (seq (augS augAdd 13 (ret (.int 1))) (skip)))
  (seq (drop (frzM (mthM .append (var 12) [frzM (opN tupM [var 14, var 15, ret .non])]))) (skip))) (skip))) (
seq (retS (var 12)) (
skip)))))))))))
theorem e_take_page (F : Call) : (sem F fuel).B (pg.ce f_take_page) f_take_page.body = b_take_page F := by kernel_rfl
noncomputable def b_mark_of (F : Call) : MS := seq (asg (.nm 2) (frzM (iteM (tst (op2 eqD (var 0) (ret (.str "text")))) (callP F i_text_number [var 1]) (opN (bltD .int) [var 1])))) (
seq (retS (op2 shrD (op2 andD (op2 mulD (var 2) (ret (.int 2654435761))) (ret (.int 4294967295))) (ret (.int 27)))) (
skip))
theorem e_mark_of (F : Call) : (sem F fuel).B (pg.ce f_mark_of) f_mark_of.body = b_mark_of F := by kernel_rfl
noncomputable def b_text_number (F : Call) : MS := seq (asg (.nm 1) (ret (.int 0))) (
seq (forS (bnd (var 0) fun x => lift (srcD x)) (.nm 2)
(seq (asg (.nm 1) (frzM (op2 andD (op2 addD (op2 mulD (ret (.int 31)) (var 1)) (opN (bltD .ord) [var 2])) (ret (.int 4294967295))))) (skip))) (
seq (retS (var 1)) (
skip)))
theorem e_text_number (F : Call) : (sem F fuel).B (pg.ce f_text_number) f_text_number.body = b_text_number F := by kernel_rfl
noncomputable def b_has_mark (F : Call) : MS := seq (retS (op2 eqD (op2 andD (op2 shrD (var 0) (var 1)) (ret (.int 1))) (ret (.int 1)))) (
skip)
theorem e_has_mark (F : Call) : (sem F fuel).B (pg.ce f_has_mark) f_has_mark.body = b_has_mark F := by kernel_rfl
noncomputable def b_told_of (F : Call) : MS := seq (asg (.nm 2) (frzM (callP F i_values_of [var 0, var 1]))) (
seq (ifS (trimM (tst (op2 eqD (opN (bltD .len) [var 2]) (ret (.int 0)))))
(seq (retS (ret (.kt [.int 0, .non, .non, .int 0]))) (skip))
(skip)) (
seq (asg (.nm 3) (frzM (iteM (tst (op2 eqD (opN (bltD .len) [var 2]) (opN (bltD .len) [var 1]))) (ret (.int 2)) (ret (.int 1))))) (
seq (asg (.nm 4) (ret (.int 0))) (
seq (forS (bnd (var 2) fun x => lift (srcD x)) (.nm 5)
(seq (augS augOr 4 (op2 shlD (ret (.int 1)) (callP F i_mark_of [frzM (op2 ixD (var 0) (ret (.int 1))), var 5]))) (skip))) (
seq (retS (opN tupM [var 3, opN (bltD .min) [var 2], opN (bltD .max) [var 2], var 4])) (
skip))))))
theorem e_told_of (F : Call) : (sem F fuel).B (pg.ce f_told_of) f_told_of.body = b_told_of F := by kernel_rfl
noncomputable def b_put_told (F : Call) : MS := seq (asg (.tp [2, 3, 4, 5]) (var 1)) (
seq (ifS (trimM (tst (op2 eqD (var 2) (ret (.int 0)))))
(seq (retS (opN lstM [var 2])) (skip))
(skip)) (
seq (retS (op2 addD (op2 addD (op2 addD (opN lstM [var 2]) (callP F i_put_one [frzM (op2 ixD (var 0) (ret (.int 1))), var 3])) (callP F i_put_one [frzM (op2 ixD (var 0) (ret (.int 1))), var 4])) (callP F i_put_word [var 5]))) (
skip)))
theorem e_put_told (F : Call) : (sem F fuel).B (pg.ce f_put_told) f_put_told.body = b_put_told F := by kernel_rfl
noncomputable def b_take_told (F : Call) : MS := seq (asg (.tp [3, 2]) (frzM (callP F i_take_byte [var 1, var 2]))) (
seq (ifS (trimM (tst (op2 gtD (var 3) (ret (.int 2)))))
(seq (raiS 0 (ret (.str "state above 2"))) (skip))
(skip)) (
seq (ifS (trimM (tst (op2 eqD (var 3) (ret (.int 0)))))
(seq (retS (opN tupM [ret (.kt [.int 0, .non, .non, .int 0]), var 2])) (skip))
(skip)) (
seq (asg (.tp [4, 2]) (frzM (callP F i_take_one [frzM (op2 ixD (var 0) (ret (.int 1))), var 1, var 2]))) (
seq (asg (.tp [5, 2]) (frzM (callP F i_take_one [frzM (op2 ixD (var 0) (ret (.int 1))), var 1, var 2]))) (
seq (asg (.tp [6, 2]) (frzM (callP F i_take_word [var 1, var 2]))) (
seq (retS (opN tupM [opN tupM [var 3, var 4, var 5, var 6], var 2])) (
skip)))))))
theorem e_take_told (F : Call) : (sem F fuel).B (pg.ce f_take_told) f_take_told.body = b_take_told F := by kernel_rfl
noncomputable def b_law_cell (F : Call) : MS := seq (ifS (trimM (tst (op2 ltD (var 1) (opN (bltD .len) [var 0]))))
(seq (retS (opN (bltD .int) [op2 ixD (var 0) (var 1)])) (skip))
(skip)) (
seq (retS (ret (.int 0))) (
skip))
theorem e_law_cell (F : Call) : (sem F fuel).B (pg.ce f_law_cell) f_law_cell.body = b_law_cell F := by kernel_rfl
noncomputable def b_law_numbers (F : Call) : MS := seq (asg (.nm 2) (opN lstM [])) (
seq (asg (.nm 3) (frzM (opN (bltD .abs) [var 0]))) (
seq (ifS (trimM (tst (op2 geD (var 3) (ret (.int 1000000000000000000)))))
(seq (forS (bnd (var 1) fun x => lift (rng1 x)) (.nm 4)
  (seq (drop (frzM (mthM .append (var 2) [frzM (op2 modD (opN (bltD .int) [var 3]) (ret (.int 1048576)))]))) (seq (asg (.nm 3) (frzM (op2 fdivD (var 3) (ret (.int 1048576))))) (skip)))) (seq (retS (var 2)) (skip)))
(skip)) (
seq (forS (bnd (var 1) fun x => lift (rng1 x)) (.nm 4)
(seq (asg (.nm 3) (frzM (op2 modD (opN (bltD .int) [op2 addD (op2 addD (op2 mulD (var 3) (ret (.int 48271))) (op2 mulD (var 4) (ret (.int 7919)))) (ret (.int 11))]) (ret (.int 2147483647))))) (seq (drop (frzM (mthM .append (var 2) [frzM (op2 modD (op2 modD (opN (bltD .int) [op2 mulD (var 3) (ret (.int 69621))]) (ret (.int 2147483629))) (ret (.int 1048576)))]))) (skip)))) (
seq (retS (var 2)) (
skip)))))
theorem e_law_numbers (F : Call) : (sem F fuel).B (pg.ce f_law_numbers) f_law_numbers.body = b_law_numbers F := by kernel_rfl
noncomputable def b_law_number (F : Call) : MS := seq (asg (.nm 1) (opN lstM [])) (
seq (forS (bnd (ret (.int 5)) fun x => lift (rng1 x)) (.nm 2)
(seq (ifS (trimM (tst (op2 geD (var 0) (ret (.int 128)))))
  (seq (drop (frzM (mthM .append (var 1) [frzM (op2 addD (op2 modD (opN (bltD .int) [var 0]) (ret (.int 128))) (ret (.int 128)))]))) (seq (asg (.nm 0) (frzM (op2 fdivD (var 0) (ret (.int 128))))) (skip)))
  (skip)) (skip))) (
seq (retS (op2 addD (var 1) (opN lstM [var 0]))) (
skip)))
theorem e_law_number (F : Call) : (sem F fuel).B (pg.ce f_law_number) f_law_number.body = b_law_number F := by kernel_rfl
noncomputable def b_law_word (F : Call) : MS := seq (asg (.nm 0) (frzM (op2 modD (opN (bltD .int) [var 0]) (ret (.int 4294967296))))) (
seq (retS (opN lstM [op2 modD (opN (bltD .int) [var 0]) (ret (.int 256)), op2 modD (opN (bltD .int) [op2 fdivD (var 0) (ret (.int 256))]) (ret (.int 256)), op2 modD (opN (bltD .int) [op2 fdivD (var 0) (ret (.int 65536))]) (ret (.int 256)), op2 fdivD (var 0) (ret (.int 16777216))])) (
skip))
theorem e_law_word (F : Call) : (sem F fuel).B (pg.ce f_law_word) f_law_word.body = b_law_word F := by kernel_rfl
noncomputable def b_law_width (F : Call) : MS := seq (asg (.nm 1) (ret (.int 0))) (
seq (forS (bnd (ret (.int 40)) fun x => lift (rng1 x)) (.nm 2)
(seq (ifS (trimM (tst (op2 gtD (var 0) (ret (.int 0)))))
  (seq (asg (.nm 1) (frzM (op2 addD (var 1) (ret (.int 1))))) (seq (asg (.nm 0) (frzM (op2 fdivD (var 0) (ret (.int 2))))) (skip)))
  (skip)) (skip))) (
seq (retS (var 1)) (
skip)))
theorem e_law_width (F : Call) : (sem F fuel).B (pg.ce f_law_width) f_law_width.body = b_law_width F := by kernel_rfl
noncomputable def b_law_pack (F : Call) : MS := seq (asg (.nm 2) (opN lstM [])) (
seq (forS (bnd (var 0) fun x => lift (srcD x)) (.nm 3)
(seq (forS (bnd (var 1) fun x => lift (rng1 x)) (.nm 4)
  (seq (drop (frzM (mthM .append (var 2) [frzM (op2 modD (opN (bltD .int) [var 3]) (ret (.int 2)))]))) (seq (asg (.nm 3) (frzM (op2 fdivD (var 3) (ret (.int 2))))) (skip)))) (skip))) (
seq (asg (.nm 5) (opN lstM [])) (
seq (forS (bnd (frzM (op2 fdivD (op2 addD (opN (bltD .len) [var 2]) (ret (.int 7))) (ret (.int 8)))) fun x => lift (rng1 x)) (.nm 4)
(seq (asg (.nm 6) (ret (.int 0))) (seq (forS (bnd (ret (.int 8)) fun x => lift (rng1 x)) (.nm 7)
  (seq (ifS (trimM (tst (op2 ltD (op2 subD (op2 addD (op2 mulD (ret (.int 8)) (var 4)) (ret (.int 7))) (var 7)) (opN (bltD .len) [var 2]))))
    (seq (asg (.nm 6) (frzM (op2 addD (op2 mulD (var 6) (ret (.int 2))) (op2 ixD (var 2) (op2 subD (op2 addD (op2 mulD (ret (.int 8)) (var 4)) (ret (.int 7))) (var 7)))))) (skip))
    (seq (asg (.nm 6) (frzM (op2 mulD (var 6) (ret (.int 2))))) (skip))) (skip))) (seq (drop (frzM (mthM .append (var 5) [var 6]))) (skip))))) (
seq (retS (var 5)) (
skip)))))
theorem e_law_pack (F : Call) : (sem F fuel).B (pg.ce f_law_pack) f_law_pack.body = b_law_pack F := by kernel_rfl
noncomputable def b_law_run (F : Call) : MS := seq (asg (.nm 3) (ret (.int 0))) (
seq (forS (bnd (var 1) fun x => bnd (frzM (opN (bltD .min) [opN (bltD .len) [var 0], op2 addD (var 1) (var 2)])) fun y => lift (rng2 x y)) (.nm 4)
(seq (ifS (trimM (tst (op2 neD (op2 ixD (var 0) (var 4)) (op2 ixD (var 0) (var 1)))))
  (seq (fun e h => some (.brk, e, h)) (skip))
  (skip)) (seq (asg (.nm 3) (frzM (op2 addD (var 3) (ret (.int 1))))) (skip)))) (
seq (retS (var 3)) (
skip)))
theorem e_law_run (F : Call) : (sem F fuel).B (pg.ce f_law_run) f_law_run.body = b_law_run F := by kernel_rfl
noncomputable def b_law_levels (F : Call) : MS := seq (asg (.nm 2) (frzM (callP F i_law_width [var 1]))) (
seq (asg (.nm 3) (opN lstM [])) (
seq (asg (.nm 4) (ret (.int 0))) (
seq (whileL (trimM (andT (tst (op2 ltD (var 4) (opN (bltD .len) [var 0]))) (tst (op2 gtD (var 2) (ret (.int 0))))))
(seq (asg (.nm 5) (frzM (callP F i_law_run [var 0, var 4, frzM (opN (bltD .len) [var 0])]))) (seq (ifS (trimM (tst (op2 geD (var 5) (ret (.int 4)))))
  (seq (asg (.nm 3) (frzM (op2 addD (op2 addD (var 3) (callP F i_law_number [frzM (op2 mulD (ret (.int 2)) (var 5))])) (callP F i_law_number [frzM (op2 ixD (var 0) (var 4))])))) (seq (asg (.nm 4) (frzM (op2 addD (var 4) (var 5)))) (skip)))
  (seq (asg (.nm 6) (frzM (op2 addD (var 4) (ret (.int 1))))) (seq (whileL (trimM (andT (tst (op2 ltD (var 6) (opN (bltD .len) [var 0]))) (andT (tst (op2 ltD (op2 subD (var 6) (var 4)) (ret (.int 32)))) (tst (op2 ltD (callP F i_law_run [var 0, var 6, ret (.int 4)]) (ret (.int 4)))))))
    (seq (asg (.nm 6) (frzM (op2 addD (var 6) (ret (.int 1))))) (skip)) whileFuel) (seq (asg (.nm 3) (frzM (op2 addD (op2 addD (var 3) (callP F i_law_number [frzM (op2 addD (op2 mulD (ret (.int 2)) (op2 subD (var 6) (var 4))) (ret (.int 1)))])) (callP F i_law_pack [frzM (sliceM (var 0) (intOf (var 4)) (intOf (var 6))), var 2])))) (seq (asg (.nm 4) (var 6)) (skip)))))) (skip))) whileFuel) (
seq (retS (var 3)) (
skip)))))
theorem e_law_levels (F : Call) : (sem F fuel).B (pg.ce f_law_levels) f_law_levels.body = b_law_levels F := by kernel_rfl
noncomputable def b_law_one (F : Call) : MS := seq (ifS (trimM (tst (op2 eqD (var 0) (ret (.str "int")))))
(seq (retS (callP F i_law_word [var 1])) (skip))
(skip)) (
seq (ifS (trimM (tst (op2 eqD (var 0) (ret (.str "bool")))))
(seq (retS (opN lstM [opN (bltD .int) [var 1]])) (skip))
(skip)) (
seq (retS (op2 addD (callP F i_law_number [frzM (opN (bltD .len) [var 1])]) (lcM [2] (bnd (var 1) fun x => lift (srcD x)) (.nm 2) (ret true) (frzM (opN (bltD .ord) [var 2]))))) (
skip)))
theorem e_law_one (F : Call) : (sem F fuel).B (pg.ce f_law_one) f_law_one.body = b_law_one F := by kernel_rfl
noncomputable def b_law_plain (F : Call) : MS := seq (ifS (trimM (tst (op2 eqD (var 0) (ret (.str "bool")))))
(seq (retS (callP F i_law_pack [frzM (lcM [3] (bnd (var 1) fun x => lift (srcD x)) (.nm 3) (ret true) (frzM (opN (bltD .int) [var 3]))), ret (.int 1)])) (skip))
(skip)) (
seq (asg (.nm 2) (opN lstM [])) (
seq (forS (bnd (var 1) fun x => lift (srcD x)) (.nm 3)
(seq (asg (.nm 2) (frzM (op2 addD (var 2) (callP F i_law_one [var 0, var 3])))) (skip))) (
seq (retS (var 2)) (
skip))))
theorem e_law_plain (F : Call) : (sem F fuel).B (pg.ce f_law_plain) f_law_plain.body = b_law_plain F := by kernel_rfl
noncomputable def b_law_encoded (F : Call) : MS := seq (ifS (trimM (tst (op2 eqD (var 2) (ret (.int 0)))))
(seq (retS (callP F i_law_plain [var 0, var 1])) (skip))
(skip)) (
seq (asg (.nm 3) (opN lstM [])) (
seq (ifS (trimM (tst (op2 eqD (var 2) (ret (.int 1)))))
(seq (asg (.nm 4) (opN lstM [])) (seq (forS (bnd (var 1) fun x => lift (srcD x)) (.nm 5)
  (seq (ifS (trimM (tst (op2 notInD (var 5) (var 4))))
    (seq (drop (frzM (mthM .append (var 4) [var 5]))) (skip))
    (skip)) (skip))) (seq (asg (.nm 3) (frzM (op2 addD (callP F i_law_number [frzM (opN (bltD .len) [var 4])]) (callP F i_law_plain [var 0, var 4])))) (seq (retS (op2 addD (var 3) (callP F i_law_levels [frzM (lcM [5] (bnd (var 1) fun x => lift (srcD x)) (.nm 5) (ret true) (frzM (mthM .index (var 4) [var 5]))), frzM (opN (bltD .max) [ret (.int 0), op2 subD (opN (bltD .len) [var 4]) (ret (.int 1))])]))) (skip)))))
(skip)) (
seq (asg (.nm 6) (ret (.int 0))) (
seq (forS (bnd (var 1) fun x => lift (srcD x)) (.nm 5)
(seq (asg (.nm 7) (frzM (op2 subD (var 5) (var 6)))) (seq (asg (.nm 6) (var 5)) (seq (ifS (trimM (tst (op2 ltD (var 7) (ret (.int 0)))))
  (seq (asg (.nm 3) (frzM (op2 addD (var 3) (callP F i_law_number [frzM (op2 subD (op2 subD (ret (.int 0)) (op2 mulD (ret (.int 2)) (var 7))) (ret (.int 1)))])))) (skip))
  (seq (asg (.nm 3) (frzM (op2 addD (var 3) (callP F i_law_number [frzM (op2 mulD (ret (.int 2)) (var 7))])))) (skip))) (skip))))) (
seq (retS (var 3)) (
skip))))))
theorem e_law_encoded (F : Call) : (sem F fuel).B (pg.ce f_law_encoded) f_law_encoded.body = b_law_encoded F := by kernel_rfl
noncomputable def b_law_page (F : Call) : MS := seq (asg (.tp [3, 4, 5, 6]) (var 0)) (
seq (asg (.nm 7) (frzM (lcM [9] (bnd (var 1) fun x => lift (srcD x)) (.nm 9) (trimM (tst (op2 isNotD (op2 ixD (var 9) (ret (.int 2))) (ret .non)))) (frzM (op2 ixD (var 9) (ret (.int 2))))))) (
seq (asg (.nm 8) (frzM (op2 addD (callP F i_law_number [frzM (opN (bltD .len) [var 1])]) (callP F i_law_levels [frzM (lcM [9] (bnd (var 1) fun x => lift (srcD x)) (.nm 9) (ret true) (frzM (op2 ixD (var 9) (ret (.int 0))))), var 6])))) (
seq (retS (op2 addD (op2 addD (var 8) (callP F i_law_levels [frzM (lcM [9] (bnd (var 1) fun x => lift (srcD x)) (.nm 9) (ret true) (frzM (op2 ixD (var 9) (ret (.int 1))))), var 5])) (callP F i_law_encoded [var 4, var 7, var 2]))) (
skip))))
theorem e_law_page (F : Call) : (sem F fuel).B (pg.ce f_law_page) f_law_page.body = b_law_page F := by kernel_rfl
noncomputable def b_law_mark (F : Call) : MS := seq (asg (.nm 2) (ret (.int 0))) (
seq (ifS (trimM (tst (op2 eqD (var 0) (ret (.str "text")))))
(seq (forS (bnd (var 1) fun x => lift (srcD x)) (.nm 3)
  (seq (asg (.nm 2) (frzM (op2 modD (opN (bltD .int) [op2 addD (op2 mulD (var 2) (ret (.int 31))) (opN (bltD .ord) [var 3])]) (ret (.int 4294967296))))) (skip))) (skip))
(seq (asg (.nm 2) (frzM (opN (bltD .int) [var 1]))) (skip))) (
seq (retS (op2 fdivD (op2 modD (opN (bltD .int) [op2 mulD (var 2) (ret (.int 2654435761))]) (ret (.int 4294967296))) (ret (.int 134217728)))) (
skip)))
theorem e_law_mark (F : Call) : (sem F fuel).B (pg.ce f_law_mark) f_law_mark.body = b_law_mark F := by kernel_rfl
noncomputable def b_law_told (F : Call) : MS := seq (asg (.nm 2) (frzM (op2 ixD (var 0) (ret (.int 1))))) (
seq (asg (.nm 3) (frzM (lcM [12] (bnd (var 1) fun x => lift (srcD x)) (.nm 12) (trimM (tst (op2 isNotD (op2 ixD (var 12) (ret (.int 2))) (ret .non)))) (frzM (op2 ixD (var 12) (ret (.int 2))))))) (
seq (ifS (trimM (tst (op2 eqD (opN (bltD .len) [var 3]) (ret (.int 0)))))
(seq (retS (opN tupM [ret (.int 0), ret .non, ret .non, ret (.int 0)])) (skip))
(skip)) (
seq (asg (.nm 4) (frzM (op2 ixD (var 3) (ret (.int 0))))) (
seq (asg (.nm 5) (frzM (op2 ixD (var 3) (ret (.int 0))))) (
seq (asg (.nm 6) (ret (.int 0))) (
seq (asg (.nm 7) (opN lstM [])) (
seq (forS (bnd (var 3) fun x => lift (srcD x)) (.nm 8)
(seq (ifS (trimM (tst (op2 ltD (var 8) (var 4))))
  (seq (asg (.nm 4) (var 8)) (skip))
  (skip)) (seq (ifS (trimM (tst (op2 gtD (var 8) (var 5))))
  (seq (asg (.nm 5) (var 8)) (skip))
  (skip)) (seq (asg (.nm 9) (frzM (callP F i_law_mark [var 2, var 8]))) (seq (ifS (trimM (tst (op2 notInD (var 9) (var 7))))
  (seq (drop (frzM (mthM .append (var 7) [var 9]))) (seq (asg (.nm 10) (ret (.int 1))) (seq (forS (bnd (var 9) fun x => lift (rng1 x)) (.nm 11)
    (seq (asg (.nm 10) (frzM (op2 mulD (var 10) (ret (.int 2))))) (skip))) (seq (asg (.nm 6) (frzM (op2 addD (var 6) (var 10)))) (skip)))))
  (skip)) (skip)))))) (
seq (retS (opN tupM [op2 addD (ret (.int 1)) (opN (bltD .int) [op2 eqD (opN (bltD .len) [var 3]) (opN (bltD .len) [var 1])]), var 4, var 5, var 6])) (
skip)))))))))
theorem e_law_told (F : Call) : (sem F fuel).B (pg.ce f_law_told) f_law_told.body = b_law_told F := by kernel_rfl
noncomputable def b_law_told_bytes (F : Call) : MS := seq (ifS (trimM (tst (op2 eqD (op2 ixD (var 1) (ret (.int 0))) (ret (.int 0)))))
(seq (retS (opN lstM [ret (.int 0)])) (skip))
(skip)) (
seq (retS (op2 addD (op2 addD (op2 addD (opN lstM [op2 ixD (var 1) (ret (.int 0))]) (callP F i_law_one [var 0, frzM (op2 ixD (var 1) (ret (.int 1)))])) (callP F i_law_one [var 0, frzM (op2 ixD (var 1) (ret (.int 2)))])) (callP F i_law_word [frzM (op2 ixD (var 1) (ret (.int 3)))]))) (
skip))
theorem e_law_told_bytes (F : Call) : (sem F fuel).B (pg.ce f_law_told_bytes) f_law_told_bytes.body = b_law_told_bytes F := by kernel_rfl
noncomputable def b_law_value (F : Call) : MS := seq (ifS (trimM (tst (op2 eqD (var 0) (ret (.str "int")))))
(seq (retS (op2 subD (op2 modD (opN (bltD .int) [var 1]) (var 2)) (op2 mulD (opN (bltD .int) [op2 fdivD (var 2) (ret (.int 2))]) (opN (bltD .int) [op2 gtD (var 2) (ret (.int 500))])))) (skip))
(skip)) (
seq (ifS (trimM (tst (op2 eqD (var 0) (ret (.str "bool")))))
(seq (retS (op2 eqD (op2 modD (opN (bltD .int) [var 1]) (ret (.int 2))) (ret (.int 1)))) (skip))
(skip)) (
seq (retS (op2 addD (op2 addD (ret (.str "t")) (sliceM (ret (.str "ab c")) (ret none) (intOf (op2 modD (opN (bltD .int) [var 1]) (ret (.int 5)))))) (opN (bltD .str) [op2 modD (opN (bltD .int) [var 1]) (var 2)]))) (
skip)))
theorem e_law_value (F : Call) : (sem F fuel).B (pg.ce f_law_value) f_law_value.body = b_law_value F := by kernel_rfl
noncomputable def b_law_entries (F : Call) : MS := seq (asg (.tp [3, 4, 5, 6]) (var 1)) (
seq (asg (.nm 7) (frzM (op2 ixD (opN lstM [ret (.int 1), ret (.int 2), ret (.int 9), ret (.int 400), ret (.int 4000000000)]) (op2 modD (opN (bltD .abs) [callP F i_law_cell [var 0, ret (.int 2)]]) (ret (.int 5)))))) (
seq (asg (.nm 8) (frzM (callP F i_law_numbers [frzM (callP F i_law_cell [var 0, ret (.int 3)]), ret (.int 200)]))) (
seq (asg (.nm 9) (opN lstM [])) (
seq (forS (bnd (var 2) fun x => lift (rng1 x)) (.nm 10)
(seq (asg (.nm 11) (frzM (op2 addD (op2 ixD (var 8) (op2 modD (opN (bltD .int) [op2 fdivD (var 10) (op2 ixD (opN lstM [ret (.int 1), ret (.int 2), ret (.int 4), ret (.int 7)]) (op2 modD (opN (bltD .abs) [callP F i_law_cell [var 0, ret (.int 2)]]) (ret (.int 4))))]) (ret (.int 200)))) (op2 mulD (ret (.int 7919)) (opN (bltD .int) [op2 fdivD (var 10) (ret (.int 200))]))))) (seq (asg (.nm 12) (var 5)) (seq (ifS (trimM (andT (tst (op2 eqD (op2 modD (opN (bltD .int) [op2 fdivD (var 11) (ret (.int 32))]) (ret (.int 4))) (ret (.int 0)))) (tst (op2 gtD (var 5) (ret (.int 0))))))
  (seq (asg (.nm 12) (frzM (op2 modD (opN (bltD .int) [op2 fdivD (var 11) (ret (.int 128))]) (var 5)))) (skip))
  (skip)) (seq (asg (.nm 13) (ret (.int 0))) (seq (ifS (trimM (andT (tst (op2 gtD (var 10) (ret (.int 0)))) (tst (op2 gtD (var 6) (ret (.int 0))))))
  (seq (asg (.nm 13) (frzM (op2 modD (opN (bltD .int) [op2 fdivD (var 11) (ret (.int 512))]) (op2 addD (var 6) (ret (.int 1)))))) (skip))
  (skip)) (seq (ifS (trimM (tst (op2 eqD (var 12) (var 5))))
  (seq (drop (frzM (mthM .append (var 9) [frzM (opN tupM [var 13, var 12, callP F i_law_value [var 4, frzM (op2 mulD (var 11) (ret (.int 2654435761))), var 7]])]))) (skip))
  (seq (drop (frzM (mthM .append (var 9) [frzM (opN tupM [var 13, var 12, ret .non])]))) (skip))) (skip)))))))) (
seq (retS (var 9)) (
skip))))))
theorem e_law_entries (F : Call) : (sem F fuel).B (pg.ce f_law_entries) f_law_entries.body = b_law_entries F := by kernel_rfl
noncomputable def b_law_refused (F : Call) : MS := seq (tryS (seq (ifS (trimM (tst (op2 eqD (var 0) (ret (.int 0)))))
  (seq (drop (frzM (callP F i_take_page [var 1, var 2, var 3]))) (skip))
  (seq (drop (frzM (callP F i_take_told [var 1, var 2, ret (.int 0)]))) (skip))) (skip)) 0 none
(seq (retS (ret (.bl true))) (skip))) (
seq (retS (ret (.bl false))) (
skip))
theorem e_law_refused (F : Call) : (sem F fuel).B (pg.ce f_law_refused) f_law_refused.body = b_law_refused F := by kernel_rfl
noncomputable def b_law (F : Call) : MS := seq (asg (.nm 1) (frzM (opN (bltD .abs) [callP F i_law_cell [var 0, ret (.int 0)]]))) (
seq (asg (.nm 2) (frzM (op2 ixD (opN lstM [ret (.str "int"), ret (.str "bool"), ret (.str "text")]) (op2 modD (var 1) (ret (.int 3)))))) (
seq (asg (.nm 3) (frzM (opN tupM [opN tupM [ret (.str "v")], var 2, op2 modD (opN (bltD .int) [op2 fdivD (var 1) (ret (.int 3))]) (ret (.int 4)), op2 modD (opN (bltD .int) [op2 fdivD (var 1) (ret (.int 12))]) (ret (.int 3))]))) (
seq (asg (.nm 4) (frzM (op2 ixD (opN lstM [ret (.int 0), ret (.int 1), ret (.int 3), ret (.int 17), ret (.int 90), ret (.int 600)]) (op2 modD (opN (bltD .abs) [callP F i_law_cell [var 0, ret (.int 1)]]) (ret (.int 6)))))) (
seq (asg (.nm 5) (frzM (callP F i_law_entries [var 0, var 3, var 4]))) (
seq (asg (.nm 6) (frzM (lcM [15] (bnd (var 5) fun x => lift (srcD x)) (.nm 15) (trimM (tst (op2 isNotD (op2 ixD (var 15) (ret (.int 2))) (ret .non)))) (frzM (op2 ixD (var 15) (ret (.int 2))))))) (
seq (asg (.nm 7) (frzM (op2 ixD (dispM [(ret (.str "int"), opN tupM [ret (.int 0), ret (.int 1), ret (.int 2)]), (ret (.str "bool"), opN tupM [ret (.int 0)]), (ret (.str "text"), opN tupM [ret (.int 0), ret (.int 1)])]) (var 2)))) (
seq (ifS (trimM (tst (op2 neD (callP F i_allowed [var 2]) (var 7))))
(seq (retS (ret (.bl false))) (skip))
(skip)) (
seq (forS (bnd (var 7) fun x => lift (srcD x)) (.nm 8)
(seq (asg (.nm 9) (frzM (callP F i_law_page [var 3, var 5, var 8]))) (seq (ifS (trimM (orT (tst (op2 neD (callP F i_put_page [var 3, frzM (opN (bltD .list) [var 5]), var 8]) (var 9))) (tst (op2 neD (opN (bltD .repr) [callP F i_take_page [var 3, frzM (opN (bltD .list) [var 9]), var 8]]) (opN (bltD .repr) [var 5])))))
  (seq (retS (ret (.bl false))) (skip))
  (skip)) (seq (ifS (trimM (orT (notT (tru truD (callP F i_law_refused [ret (.int 0), var 3, frzM (sliceM (var 9) (ret none) (intOf (op2 subD (opN (bltD .len) [var 9]) (ret (.int 1))))), var 8]))) (notT (tru truD (callP F i_law_refused [ret (.int 0), var 3, frzM (op2 addD (var 9) (opN lstM [ret (.int 0)])), var 8])))))
  (seq (retS (ret (.bl false))) (skip))
  (skip)) (seq (asg (.nm 10) (frzM (callP F i_law_encoded [var 2, var 6, var 8]))) (seq (ifS (trimM (tst (op2 neD (callP F i_put_values [var 2, var 6, var 8]) (var 10))))
  (seq (retS (ret (.bl false))) (skip))
  (skip)) (seq (ifS (trimM (tst (op2 neD (opN (bltD .repr) [callP F i_take_values [var 2, frzM (op2 addD (op2 addD (opN lstM [ret (.int 1)]) (var 10)) (opN lstM [ret (.int 2)])), ret (.int 1), frzM (opN (bltD .len) [var 6]), var 8]]) (opN (bltD .repr) [opN tupM [var 6, op2 addD (ret (.int 1)) (opN (bltD .len) [var 10])]]))))
  (seq (retS (ret (.bl false))) (skip))
  (skip)) (skip)))))))) (
seq (asg (.nm 11) (frzM (callP F i_law_told [var 3, var 5]))) (
seq (asg (.nm 12) (frzM (callP F i_law_told_bytes [var 2, var 11]))) (
seq (ifS (trimM (orT (tst (op2 neD (opN (bltD .repr) [callP F i_told_of [var 3, var 5]]) (opN (bltD .repr) [var 11]))) (tst (op2 neD (callP F i_put_told [var 3, var 11]) (var 12)))))
(seq (retS (ret (.bl false))) (skip))
(skip)) (
seq (ifS (trimM (orT (tst (op2 neD (opN (bltD .repr) [callP F i_take_told [var 3, frzM (op2 addD (var 12) (opN lstM [ret (.int 9)])), ret (.int 0)]]) (opN (bltD .repr) [opN tupM [var 11, opN (bltD .len) [var 12]]]))) (notT (tru truD (callP F i_law_refused [ret (.int 1), var 3, frzM (sliceM (var 12) (ret none) (intOf (op2 subD (opN (bltD .len) [var 12]) (ret (.int 1))))), ret (.int 0)])))))
(seq (retS (ret (.bl false))) (skip))
(skip)) (
seq (forS (bnd (frzM (sliceM (var 6) (ret none) (intOf (ret (.int 20))))) fun x => lift (srcD x)) (.nm 13)
(seq (asg (.nm 14) (frzM (callP F i_law_mark [var 2, var 13]))) (seq (ifS (trimM (orT (tst (op2 neD (callP F i_mark_of [var 2, var 13]) (var 14))) (orT (tst (op2 isNotD (callP F i_has_mark [frzM (op2 ixD (var 11) (ret (.int 3))), var 14]) (ret (.bl true)))) (tst (op2 neD (callP F i_put_one [var 2, var 13]) (callP F i_law_one [var 2, var 13]))))))
  (seq (retS (ret (.bl false))) (skip))
  (skip)) (seq (ifS (trimM (tst (op2 neD (opN (bltD .repr) [callP F i_take_one [var 2, frzM (op2 addD (op2 addD (opN lstM [ret (.int 7)]) (callP F i_law_one [var 2, var 13])) (opN lstM [ret (.int 7)])), ret (.int 1)]]) (opN (bltD .repr) [opN tupM [var 13, op2 addD (ret (.int 1)) (opN (bltD .len) [callP F i_law_one [var 2, var 13]])]]))))
  (seq (retS (ret (.bl false))) (skip))
  (skip)) (skip))))) (
seq (retS (andV (callP F i_law_refused [ret (.int 1), var 3, frzM (opN lstM [ret (.int 3)]), ret (.int 0)]) (andV (op2 isD (callP F i_has_mark [ret (.int 5), ret (.int 1)]) (ret (.bl false))) (op2 isD (callP F i_has_mark [ret (.int 5), ret (.int 2)]) (ret (.bl true)))))) (
skip)))))))))))))))
theorem e_law (F : Call) : (sem F fuel).B (pg.ce f_law) f_law.body = b_law F := by kernel_rfl
end Dk

set_option Elab.async false
set_option linter.all false
set_option maxRecDepth 100000
set_option maxHeartbeats 4000000
namespace Dk
open PySem PySem.Spec PyProof.Rows L2 Dd
def numB (n : Nat) : List Nat := if n < 128 then [n] else (n % 128 + 128) :: numB (n / 128)
termination_by n
decreasing_by omega
theorem numB_lt {n : Nat} (h : n < 128) : numB n = [n] := by rw [numB, if_pos h]
theorem numB_ge {n : Nat} (h : ¬ n < 128) : numB n = (n % 128 + 128) :: numB (n / 128) := by rw [numB, if_neg h]
def tk : Nat → Nat → List Nat → Option (Nat × Nat)
  | 0, _, _ => none
  | _ + 1, _, [] => none
  | r + 1, p, b :: bs => if b < 128 then (if b = 0 ∧ 0 < p then none else some (b, 1)) else (tk r (p + 1) bs).map fun x => (b % 128 + 128 * x.1, x.2 + 1)
def wordB (n : Nat) : List Nat := [n % 256, n / 256 % 256, n / 65536 % 256, n / 16777216]
def w32 (w : Int) : Nat := (w % 4294967296).toNat
theorem nat_of {w : Int} {n : Nat} (h : w = (n : Int)) : D.int w = D.int (n : Int) := by rw [h]
theorem wordB_eq (w : Int) : [D.int (w % 256), D.int (w / 256 % 256), D.int (w / 65536 % 256), D.int (w / 16777216 % 256)] = nD (wordB (w32 w)) := by
  show _ = [D.int _, D.int _, D.int _, D.int _]
  rw [nat_of (w := w % 256) (n := w32 w % 256) (by unfold w32; omega), nat_of (w := w / 256 % 256) (n := w32 w / 256 % 256) (by unfold w32; omega), nat_of (w := w / 65536 % 256) (n := w32 w / 65536 % 256) (by unfold w32; omega), nat_of (w := w / 16777216 % 256) (n := w32 w / 16777216) (by unfold w32; omega)]
def wordV (bs : List Nat) (k : Nat) : Nat := bs.getD k 0 + bs.getD (k + 1) 0 * 256 + bs.getD (k + 2) 0 * 65536 + bs.getD (k + 3) 0 * 16777216
theorem get_of {bs : List Nat} {k : Nat} (hk : k < bs.length) : bs[k] = bs.getD k 0 := by
  rw [List.getD_eq_getElem?_getD, List.getElem?_eq_getElem hk]; rfl
def foldI (i : Int) : Int := if i < 0 then -2 * i - 1 else 2 * i
def unfI (i : Int) : Int := if i % 2 = 1 then -(i / 2) - 1 else i / 2
theorem unf_fold (i : Int) : unfI (foldI i) = i := by unfold unfI foldI; split <;> split <;> omega
def bitsN (n : Nat) : Nat := if n = 0 then 0 else n.log2 + 1
theorem bits_half {m : Nat} (hm : 0 < m) : bitsN (m / 2) + 1 = bitsN m := by
  unfold bitsN
  by_cases c0 : m / 2 = 0
  · have : m = 1 := by omega
    subst this; rfl
  · rw [if_neg c0, if_neg (by omega)]
    conv => rhs; rw [Nat.log2_def]
    rw [if_pos (by omega)]
def valN (w : Nat) : List Nat → Nat
  | [] => 0
  | x :: xs => x + 2 ^ w * valN w xs
def bytesN : Nat → Nat → List Nat
  | 0, _ => []
  | k + 1, v => v % 256 :: bytesN k (v / 256)
def packB (w : Nat) (xs : List Nat) : List Nat := bytesN ((xs.length * w + 7) / 8) (valN w xs)
def digN (w : Nat) : Nat → Nat → List Nat
  | 0, _ => []
  | k + 1, v => v % 2 ^ w :: digN w k (v / 2 ^ w)
theorem bytesN_len (k v : Nat) : (bytesN k v).length = k := by
  induction k generalizing v with
  | zero => rfl
  | succ k ih => rw [bytesN, List.length_cons, ih]
theorem digN_len (w k v : Nat) : (digN w k v).length = k := by
  induction k generalizing v with
  | zero => rfl
  | succ k ih => rw [digN, List.length_cons, ih]
theorem bytesN_lt (k v : Nat) : ∀ b ∈ bytesN k v, b < 256 := by
  induction k generalizing v with
  | zero => intro b hb; cases hb
  | succ k ih =>
    intro b hb
    rcases List.mem_cons.mp hb with rfl | hb
    · omega
    · exact ih _ _ hb
theorem valN_lt {w : Nat} {xs : List Nat} (hx : ∀ x ∈ xs, x < 2 ^ w) : valN w xs < 2 ^ (w * xs.length) := by
  induction xs with
  | nil => exact Nat.one_pos
  | cons x xs ih =>
    have h1 := hx x List.mem_cons_self
    have h2 := ih fun y hy => hx y (List.mem_cons_of_mem _ hy)
    rw [valN, List.length_cons, Nat.mul_succ, Nat.pow_add, Nat.mul_comm (2 ^ (w * xs.length))]
    have h3 : 2 ^ w * (valN w xs + 1) ≤ 2 ^ w * 2 ^ (w * xs.length) := Nat.mul_le_mul_left _ h2
    rw [Nat.mul_add] at h3
    omega
theorem digN_valN {w : Nat} {xs : List Nat} (hx : ∀ x ∈ xs, x < 2 ^ w) : digN w xs.length (valN w xs) = xs := by
  induction xs with
  | nil => rfl
  | cons x xs ih =>
    have h1 := hx x List.mem_cons_self
    rw [valN, List.length_cons, digN, Nat.add_mul_mod_self_left, Nat.mod_eq_of_lt h1, Nat.add_mul_div_left _ _ (Nat.two_pow_pos _), Nat.div_eq_of_lt h1, Nat.zero_add, ih fun y hy => hx y (List.mem_cons_of_mem _ hy)]
theorem valN_bytesN (k v : Nat) : valN 8 (bytesN k v) = v % 256 ^ k := by
  induction k generalizing v with
  | zero => rw [bytesN, valN, Nat.pow_zero, Nat.mod_one]
  | succ k ih =>
    rw [bytesN, valN, ih, Nat.pow_succ 256 k, Nat.mul_comm (256 ^ k), Nat.mod_mul]
theorem valN_packB {w : Nat} {xs : List Nat} (hx : ∀ x ∈ xs, x < 2 ^ w) : valN 8 (packB w xs) = valN w xs := by
  unfold packB
  rw [valN_bytesN, Nat.mod_eq_of_lt]
  refine Nat.lt_of_lt_of_le (valN_lt hx) ?_
  rw [show 256 = 2 ^ 8 from rfl, ← Nat.pow_mul]
  refine Nat.pow_le_pow_right (by decide) ?_
  rw [Nat.mul_comm w]
  omega
theorem emit {a f v : Nat} (hf : 8 ≤ f) : (a + 2 ^ f * v) % 256 = a % 256 ∧ (a + 2 ^ f * v) / 256 = a / 256 + 2 ^ (f - 8) * v := by
  have e : 2 ^ f = 256 * 2 ^ (f - 8) := by rw [show (256 : Nat) = 2 ^ 8 from rfl, ← Nat.pow_add]; congr 1; omega
  rw [e, Nat.mul_assoc]
  omega
theorem emitW {a f v w : Nat} (hf : w ≤ f) : (a + 2 ^ f * v) % 2 ^ w = a % 2 ^ w ∧ (a + 2 ^ f * v) / 2 ^ w = a / 2 ^ w + 2 ^ (f - w) * v := by
  have e : 2 ^ f = 2 ^ w * 2 ^ (f - w) := by rw [← Nat.pow_add]; congr 1; omega
  rw [e, Nat.mul_assoc, Nat.add_mul_mod_self_left, Nat.add_mul_div_left _ _ (Nat.two_pow_pos _)]
  exact ⟨rfl, rfl⟩
theorem div_lt_pow {a f w : Nat} (hw : w ≤ f) (h : a < 2 ^ f) : a / 2 ^ w < 2 ^ (f - w) := by
  rw [show f = w + (f - w) from by omega, Nat.pow_add] at h
  exact Nat.div_lt_of_lt_mul h
def bitL : Nat → Nat → List Nat
  | 0, _ => []
  | n + 1, v => v % 2 :: bitL n (v / 2)
theorem bitL_len (n v : Nat) : (bitL n v).length = n := by
  induction n generalizing v with
  | zero => rfl
  | succ n ih => rw [bitL, List.length_cons, ih]
theorem bitL_get (n v j : Nat) (hj : j < n) : (bitL n v)[j]? = some (v / 2 ^ j % 2) := by
  induction n generalizing v j with
  | zero => omega
  | succ n ih =>
    cases j with
    | zero => simp [bitL]
    | succ j =>
      rw [bitL, List.getElem?_cons_succ, ih _ _ (by omega), Nat.div_div_eq_div_mul, Nat.pow_succ, Nat.mul_comm 2]
theorem bit_step (y j : Nat) : y % 2 ^ (j + 1) = 2 * (y / 2 % 2 ^ j) + y % 2 := by
  rw [Nat.pow_succ, Nat.mul_comm (2 ^ j), Nat.mod_mul, Nat.add_comm]
theorem cut_mid {α : Type} {xs : List α} {a b : Nat} (h : a ≤ b) (hb : b ≤ xs.length) : Dd.cutD xs (some (a : Int)) (some (b : Int)) = (xs.drop a).take (b - a) := by
  unfold Dd.cutD
  rw [HT.sIx_nat, HT.sIx_nat, Nat.min_eq_left hb, Nat.min_eq_left (by omega : a ≤ xs.length)]
theorem flat_rep (n : Nat) (x : D) : (List.replicate n [x]).flatten = List.replicate n x := by
  induction n with
  | zero => rfl
  | succ n ih => rw [List.replicate_succ, List.flatten_cons, ih, List.replicate_succ]; rfl
theorem digN_zero (n v : Nat) : nD (digN 0 n v) = List.replicate n (D.int 0) := by
  induction n generalizing v with
  | zero => rfl
  | succ n ih =>
    rw [digN, List.replicate_succ, ← ih (v / 2 ^ 0), Nat.pow_zero, Nat.mod_one]; rfl
def eqs (x : Nat) : List Nat → Nat
  | [] => 0
  | y :: ys => if y = x then eqs x ys + 1 else 0
def run : List Nat → Nat
  | [] => 0
  | x :: xs => eqs x xs + 1
theorem eqs_le (x : Nat) (ys : List Nat) : eqs x ys ≤ ys.length := by
  induction ys with
  | nil => exact Nat.le_refl _
  | cons y ys ih =>
    rw [eqs, List.length_cons]
    split <;> omega
theorem run_le (xs : List Nat) : run xs ≤ xs.length := by
  cases xs with
  | nil => exact Nat.le_refl _
  | cons x xs => have := eqs_le x xs; rw [run, List.length_cons]; omega
theorem eqs_get (x : Nat) (ys : List Nat) (j : Nat) (hj : j < eqs x ys) : ys[j]? = some x := by
  induction ys generalizing j with
  | nil => cases hj
  | cons y ys ih =>
    rw [eqs] at hj
    split at hj
    · rename_i hy
      cases j with
      | zero => rw [hy]; rfl
      | succ j => rw [List.getElem?_cons_succ]; exact ih j (by omega)
    · cases hj
theorem eqs_end (x : Nat) (ys : List Nat) : ys[eqs x ys]? ≠ some x := by
  induction ys with
  | nil => intro z; cases z
  | cons y ys ih =>
    rw [eqs]
    split
    · rw [List.getElem?_cons_succ]; exact ih
    · rename_i hy
      intro z
      cases z
      exact hy rfl
theorem run_spec {xs : List Nat} {k : Nat} (hk : k < xs.length) : 1 ≤ run (xs.drop k) ∧ k + run (xs.drop k) ≤ xs.length ∧ (∀ j, j < run (xs.drop k) → xs[k + j]? = some xs[k]) ∧ xs[k + run (xs.drop k)]? ≠ some xs[k] := by
  have dr : xs.drop k = xs[k] :: xs.drop (k + 1) := List.drop_eq_getElem_cons hk
  have le := run_le (xs.drop k)
  rw [List.length_drop] at le
  have rr : run (xs.drop k) = eqs xs[k] (xs.drop (k + 1)) + 1 := by rw [dr]; rfl
  refine ⟨by omega, by omega, fun j hj => ?_, ?_⟩
  · cases j with
    | zero => exact List.getElem?_eq_getElem hk
    | succ j =>
      have := eqs_get _ _ j (by omega : j < eqs xs[k] (xs.drop (k + 1)))
      rw [List.getElem?_drop] at this
      rw [← this]; congr 1; omega
  · rw [rr]
    have := eqs_end xs[k] (xs.drop (k + 1))
    rw [List.getElem?_drop] at this
    intro z
    apply this
    rw [← z]; congr 1; omega
theorem run_drop {xs : List Nat} {j : Nat} (hj : j < run xs) : run (xs.drop j) = run xs - j := by
  induction j generalizing xs with
  | zero => rfl
  | succ j ih =>
    cases xs with
    | nil => cases hj
    | cons x xs =>
      cases xs with
      | nil => rw [run, eqs] at hj; omega
      | cons y ys =>
        rw [List.drop_succ_cons]
        rw [run, eqs] at hj
        split at hj
        · rename_i hy
          have e : run (y :: ys) = eqs x ys + 1 := by rw [run, hy]
          rw [ih (by rw [e]; omega), e, run, eqs, if_pos hy]
          omega
        · omega
def pc (w : Nat) (s : List Nat) : List Nat := numB (2 * s.length + 1) ++ packB w s
def pieces (w : Nat) (s : List Nat) : List Nat := if s.length = 0 then [] else pc w (s.take 32) ++ pieces w (s.drop 32)
termination_by s.length
decreasing_by rw [List.length_drop]; omega
def pe (k : Nat) : List Nat → Nat
  | [] => k
  | y :: ys => if k < 32 ∧ run (y :: ys) < 4 then pe (k + 1) ys else k
theorem pe_ge (k : Nat) (ys : List Nat) : k ≤ pe k ys := by
  induction ys generalizing k with
  | nil => exact Nat.le_refl _
  | cons y ys ih =>
    rw [pe]
    split
    · have := ih (k + 1); omega
    · exact Nat.le_refl _
theorem pe_le (k : Nat) (ys : List Nat) : pe k ys ≤ k + ys.length := by
  induction ys generalizing k with
  | nil => exact Nat.le_refl _
  | cons y ys ih =>
    rw [pe]
    split
    · have := ih (k + 1); rw [List.length_cons]; omega
    · rw [List.length_cons]; omega
theorem pe_le32 (k : Nat) (ys : List Nat) (hk : k ≤ 32) : pe k ys ≤ 32 := by
  induction ys generalizing k with
  | nil => exact hk
  | cons y ys ih =>
    rw [pe]
    split
    · exact ih (k + 1) (by omega)
    · exact hk
def lawL (w : Nat) : List Nat → List Nat
  | [] => []
  | x :: xs => if 4 ≤ run (x :: xs) then numB (2 * run (x :: xs)) ++ numB x ++ lawL w ((x :: xs).drop (run (x :: xs)))
    else pc w ((x :: xs).take (pe 1 xs)) ++ lawL w ((x :: xs).drop (pe 1 xs))
termination_by xs => xs.length
decreasing_by
  · rw [List.length_drop, List.length_cons]; rename_i h; omega
  · have := pe_ge 1 xs; rw [List.length_drop, List.length_cons]; omega
theorem lawL_run {w : Nat} {x : Nat} {xs : List Nat} (h : 4 ≤ run (x :: xs)) : lawL w (x :: xs) = numB (2 * run (x :: xs)) ++ numB x ++ lawL w ((x :: xs).drop (run (x :: xs))) := by rw [lawL, if_pos h]
theorem lawL_piece {w : Nat} {x : Nat} {xs : List Nat} (h : ¬ 4 ≤ run (x :: xs)) : lawL w (x :: xs) = pc w ((x :: xs).take (pe 1 xs)) ++ lawL w ((x :: xs).drop (pe 1 xs)) := by rw [lawL, if_neg h]
theorem lawL_nil (w : Nat) : lawL w [] = [] := by rw [lawL]
def St (s t : List Nat) : Prop := ∀ i, i < s.length → run ((s ++ t).drop i) < 4
theorem pe_eq {s t : List Nat} {k : Nat} (hs : St s t) (ht : t = [] ∨ 4 ≤ run t) (hk : k ≤ 32) : pe k (s ++ t) = min 32 (k + s.length) := by
  induction s generalizing k with
  | nil =>
    rw [List.nil_append, List.length_nil, Nat.add_zero, Nat.min_eq_right hk]
    cases t with
    | nil => rfl
    | cons y ys =>
      rcases ht with ht | ht
      · cases ht
      · rw [pe, if_neg (by omega)]
  | cons y s ih =>
    have h0 := hs 0 (Nat.succ_pos _)
    rw [List.drop_zero, List.cons_append] at h0
    rw [List.cons_append, pe, List.length_cons]
    by_cases c : k < 32
    · rw [if_pos ⟨c, h0⟩, ih (fun i hi => hs (i + 1) (Nat.succ_lt_succ hi)) (by omega)]
      congr 1; omega
    · rw [if_neg (fun z => c z.1)]
      omega
theorem lawL_st {w : Nat} (n : Nat) {s t : List Nat} (hn : s.length ≤ n) (hs : St s t) (ht : t = [] ∨ 4 ≤ run t) : lawL w (s ++ t) = pieces w s ++ lawL w t := by
  induction n generalizing s with
  | zero =>
    have : s = [] := List.length_eq_zero_iff.mp (by omega)
    subst this
    rw [pieces, if_pos List.length_nil]; rfl
  | succ n ih =>
    cases s with
    | nil => rw [pieces, if_pos List.length_nil]; rfl
    | cons x s =>
      have h0 := hs 0 (Nat.succ_pos _)
      rw [List.drop_zero, List.cons_append] at h0
      rw [pieces, if_neg (by simp), List.cons_append, lawL_piece (by omega), pe_eq (fun i hi => hs (i + 1) (Nat.succ_lt_succ hi)) ht (by decide), ← List.cons_append]
      have l1 : 1 + s.length = (x :: s).length := by rw [List.length_cons, Nat.add_comm]
      rw [l1]
      have t1 : ((x :: s) ++ t).take (min 32 (x :: s).length) = (x :: s).take 32 := by
        rw [List.take_append_of_le_length (Nat.min_le_right _ _), Nat.min_comm, List.take_eq_take_iff]; omega
      have d1 : ((x :: s) ++ t).drop (min 32 (x :: s).length) = (x :: s).drop 32 ++ t := by
        rw [List.drop_append_of_le_length (Nat.min_le_right _ _)]
        congr 1
        by_cases c : 32 ≤ (x :: s).length
        · rw [Nat.min_eq_left c]
        · rw [Nat.min_eq_right (by omega), List.drop_eq_nil_of_le (Nat.le_refl _), List.drop_eq_nil_of_le (by omega)]
      rw [t1, d1, ih (by rw [List.length_drop]; omega) (fun i hi => ?_), List.append_assoc]
      rw [List.length_drop] at hi
      have := hs (32 + i) (by omega)
      rw [← List.drop_drop, List.drop_append_of_le_length (by omega)] at this
      exact this
theorem numB_len {n k : Nat} (h : n < 128 ^ (k + 1)) : (numB n).length ≤ k + 1 := by
  induction k generalizing n with
  | zero => rw [numB_lt (by omega)]; exact Nat.le_refl _
  | succ k ih =>
    by_cases c : n < 128
    · rw [numB_lt c]; exact Nat.succ_le_succ (Nat.zero_le _)
    · rw [numB_ge c, List.length_cons]
      have := ih (n := n / 128) (by
        rw [Nat.pow_succ] at h
        exact Nat.div_lt_of_lt_mul (by rw [Nat.mul_comm]; exact h))
      omega
theorem packB_len (w : Nat) (s : List Nat) : (packB w s).length = (s.length * w + 7) / 8 := bytesN_len _ _
theorem pc_len {w : Nat} {s : List Nat} (hw : w ≤ 64) (h0 : s ≠ []) (h1 : s.length ≤ 32) : (pc w s).length ≤ 14 * s.length := by
  have := numB_len (n := 2 * s.length + 1) (k := 0) (by omega)
  have h2 : s.length * w ≤ s.length * 64 := Nat.mul_le_mul_left _ hw
  have h3 : 1 ≤ s.length := List.length_pos_iff.mpr h0
  unfold pc
  rw [List.length_append, packB_len]
  omega
theorem pieces_len {w : Nat} (hw : w ≤ 64) (n : Nat) (s : List Nat) (hn : s.length ≤ n) : (pieces w s).length ≤ 14 * s.length := by
  induction n generalizing s with
  | zero =>
    rw [pieces, if_pos (by omega)]; exact Nat.zero_le _
  | succ n ih =>
    rw [pieces]
    split
    · exact Nat.zero_le _
    · rename_i h
      have h1 := pc_len (s := s.take 32) hw (by intro z; rw [List.take_eq_nil_iff] at z; rcases z with z | z; cases z; exact h (by rw [z]; rfl)) (by rw [List.length_take]; omega)
      have h2 := ih (s.drop 32) (by rw [List.length_drop]; omega)
      rw [List.length_take] at h1
      rw [List.length_drop] at h2
      rw [List.length_append]; omega
theorem lawL_len {w : Nat} (hw : w ≤ 64) (n : Nat) (s : List Nat) (hn : s.length ≤ n) (hz : n < 2 ^ 34) (hx : ∀ x ∈ s, x < 2 ^ 35) : (lawL w s).length ≤ 14 * s.length := by
  induction n generalizing s with
  | zero =>
    have : s = [] := List.length_eq_zero_iff.mp (by omega)
    subst this
    rw [lawL_nil]; exact Nat.zero_le _
  | succ n ih =>
    cases s with
    | nil => rw [lawL_nil]; exact Nat.zero_le _
    | cons x xs =>
      have rl := run_le (x :: xs)
      have xl := numB_len (n := x) (k := 4) (by have := hx x List.mem_cons_self; omega)
      by_cases c : 4 ≤ run (x :: xs)
      · rw [lawL_run c]
        have r2 := numB_len (n := 2 * run (x :: xs)) (k := 4) (by omega)
        have i2 := ih ((x :: xs).drop (run (x :: xs))) (by rw [List.length_drop]; omega) (by omega) fun y hy => hx y (List.mem_of_mem_drop hy)
        rw [List.length_drop] at i2
        simp only [List.length_append]; omega
      · rw [lawL_piece c]
        have p1 := pe_ge 1 xs
        have p2 := pe_le 1 xs
        have p3 := pe_le32 1 xs (by decide)
        have l1 : ((x :: xs).take (pe 1 xs)).length = pe 1 xs := by rw [List.length_take, List.length_cons]; omega
        have h1 := pc_len (w := w) (s := (x :: xs).take (pe 1 xs)) hw (by intro z; rw [z] at l1; rw [List.length_nil] at l1; omega) (by omega)
        have i2 := ih ((x :: xs).drop (pe 1 xs)) (by rw [List.length_drop]; omega) (by omega) fun y hy => hx y (List.mem_of_mem_drop hy)
        rw [l1] at h1
        rw [List.length_drop, List.length_cons] at i2
        rw [List.length_append, List.length_cons]; omega
theorem bits_lt (n : Nat) : n < 2 ^ bitsN n := by
  unfold bitsN
  split
  · rename_i h; rw [h]; decide
  · exact Nat.lt_log2_self
theorem bits_le {n k : Nat} (h : n < 2 ^ k) : bitsN n ≤ k := by
  unfold bitsN
  split
  · exact Nat.zero_le _
  · rename_i h0
    exact (Nat.log2_lt h0).mpr h
def levB (most : Nat) (xs : List Nat) : List Nat := if bitsN most = 0 then [] else lawL (bitsN most) xs
theorem st_of {xs : List Nat} {a b : Nat} (hab : a ≤ b) (hb : b ≤ xs.length) (h : ∀ j, a ≤ j → j < b → run (xs.drop j) < 4) : St ((xs.drop a).take (b - a)) (xs.drop b) ∧ (xs.drop a).take (b - a) ++ xs.drop b = xs.drop a := by
  have e : (xs.drop a).take (b - a) ++ xs.drop b = xs.drop a := by
    have := List.take_append_drop (b - a) (xs.drop a)
    rw [List.drop_drop, show a + (b - a) = b from by omega] at this
    exact this
  refine ⟨fun j hj => ?_, e⟩
  rw [List.length_take, List.length_drop] at hj
  rw [e, List.drop_drop]
  exact h (a + j) (by omega) (by omega)
theorem lawL_mid {w : Nat} {xs : List Nat} {a b : Nat} (hab : a ≤ b) (hb : b ≤ xs.length) (h : ∀ j, a ≤ j → j < b → run (xs.drop j) < 4) (ht : xs.drop b = [] ∨ 4 ≤ run (xs.drop b)) : lawL w (xs.drop a) = pieces w ((xs.drop a).take (b - a)) ++ lawL w (xs.drop b) := by
  obtain ⟨s1, s2⟩ := st_of hab hb h
  rw [← s2, lawL_st _ (Nat.le_refl _) s1 ht, s2]
theorem pe_nil (k : Nat) {t : List Nat} (h : t.length = 0) : pe k t = k := by
  rw [List.length_eq_zero_iff.mp h]; rfl
theorem pe_step {k : Nat} {xs : List Nat} {b : Nat} (hb : b < xs.length) : pe k (xs.drop b) = if k < 32 ∧ run (xs.drop b) < 4 then pe (k + 1) (xs.drop (b + 1)) else k := by
  have dr : xs.drop b = xs[b] :: xs.drop (b + 1) := List.drop_eq_getElem_cons hb
  conv => lhs; rw [dr]
  rw [pe, ← dr]
def unp (w k : Nat) (bs : List Nat) : Option (List Nat × Nat) := if (k * w + 7) / 8 ≤ bs.length ∧ valN 8 (bs.take ((k * w + 7) / 8)) < 2 ^ (w * k) then some (digN w k (valN 8 (bs.take ((k * w + 7) / 8))), (k * w + 7) / 8) else none
def piece (w head : Nat) (bs : List Nat) : Option (List Nat × Nat) := if head % 2 = 1 then unp w (head / 2) bs else (tk 5 0 bs).map fun x => (List.replicate (head / 2) x.1, x.2)
def tkL (w most : Nat) : Nat → Nat → List Nat → Option (List Nat × Nat)
  | 0, c, _ => if c = 0 then some ([], 0) else none
  | n + 1, c, bs => if c = 0 then some ([], 0) else match tk 5 0 bs with
    | none => none
    | some (head, l1) => if head / 2 = 0 ∨ c < head / 2 then none else match piece w head (bs.drop l1) with
      | none => none
      | some (p, l2) => if p.all (fun x => decide (x ≤ most)) then (tkL w most n (c - head / 2) (bs.drop (l1 + l2))).map fun x => (p ++ x.1, l1 + l2 + x.2) else none
def tkLev (most count : Nat) (bs : List Nat) : Option (List Nat × Nat) := if bitsN most = 0 then some (List.replicate count 0, 0) else tkL (bitsN most) most count count bs
theorem ints_nD (xs : List Nat) : intsD (nD xs) = some (xs.map fun x : Nat => (x : Int)) := by
  induction xs with
  | nil => rfl
  | cons x xs ih =>
    show (intsD (nD xs)).map _ = _
    rw [ih]; rfl
theorem maxL_go (xs : List Nat) (a : Nat) : ∃ m : Nat, (xs.map fun x : Nat => (x : Int)).foldl (fun a b => if ltI a b then b else a) (a : Int) = (m : Int) ∧ a ≤ m ∧ (∀ x ∈ xs, x ≤ m) ∧ (m = a ∨ m ∈ xs) := by
  induction xs generalizing a with
  | nil => exact ⟨a, rfl, Nat.le_refl _, fun _ z => (List.not_mem_nil z).elim, Or.inl rfl⟩
  | cons x xs ih =>
    rw [List.map_cons, List.foldl_cons, ltI_eq]
    by_cases c : a < x
    · rw [decide_eq_true (by omega : (a : Int) < (x : Int)), if_pos rfl]
      obtain ⟨m, h1, h2, h3, h4⟩ := ih x
      refine ⟨m, h1, by omega, fun y hy => ?_, ?_⟩
      · rcases List.mem_cons.mp hy with rfl | hy
        · exact h2
        · exact h3 y hy
      · rcases h4 with h4 | h4
        · exact .inr (by rw [h4]; exact List.mem_cons_self)
        · exact .inr (List.mem_cons_of_mem _ h4)
    · rw [decide_eq_false (by omega : ¬ (a : Int) < (x : Int)), if_neg (by decide)]
      obtain ⟨m, h1, h2, h3, h4⟩ := ih a
      refine ⟨m, h1, h2, fun y hy => ?_, ?_⟩
      · rcases List.mem_cons.mp hy with rfl | hy
        · omega
        · exact h3 y hy
      · rcases h4 with h4 | h4
        · exact .inl h4
        · exact .inr (List.mem_cons_of_mem _ h4)
theorem digN_nil {w k v : Nat} (hk : 0 < k) : digN w k v ≠ [] := by
  intro z
  have := digN_len w k v
  rw [z] at this; rw [List.length_nil] at this; omega
theorem numB_ne (n : Nat) : numB n ≠ [] := by
  by_cases h : n < 128
  · rw [numB_lt h]; exact List.cons_ne_nil _ _
  · rw [numB_ge h]; exact List.cons_ne_nil _ _
theorem numB_lt256 (n : Nat) : ∀ b ∈ numB n, b < 256 := by
  induction n using Nat.strongRecOn with
  | ind n ih =>
    intro b hb
    by_cases h : n < 128
    · rw [numB_lt h] at hb
      rw [List.mem_singleton.mp hb]; omega
    · rw [numB_ge h] at hb
      rcases List.mem_cons.mp hb with rfl | hb
      · omega
      · exact ih _ (by omega) b hb
theorem tk_numB {r p n : Nat} (rest : List Nat) (h : n < 128 ^ (r + 1)) (h0 : p = 0 ∨ n ≠ 0) : tk (r + 1) p (numB n ++ rest) = some (n, (numB n).length) := by
  induction r generalizing p n with
  | zero =>
    have c : n < 128 := by omega
    rw [numB_lt c, List.singleton_append, tk, if_pos c, if_neg (by omega)]; rfl
  | succ r ih =>
    by_cases c : n < 128
    · rw [numB_lt c, List.singleton_append, tk, if_pos c, if_neg (by omega)]; rfl
    · rw [numB_ge c, List.cons_append, tk, if_neg (by omega), ih (by rw [Nat.pow_succ] at h; exact Nat.div_lt_of_lt_mul (by rw [Nat.mul_comm]; exact h)) (.inr (by omega))]
      simp only [Option.map_some, List.length_cons, Option.some.injEq, Prod.mk.injEq]
      exact ⟨by omega, trivial⟩
theorem tk_cut {r p n : Nat} : tk r p (numB n).dropLast = none := by
  induction r generalizing p n with
  | zero => rfl
  | succ r ih =>
    by_cases c : n < 128
    · rw [numB_lt c]; rfl
    · rw [numB_ge c, List.dropLast_cons_of_ne_nil (numB_ne _), tk, if_neg (by omega), ih]; rfl
theorem unp_pack {w : Nat} {xs : List Nat} (rest : List Nat) (hx : ∀ x ∈ xs, x < 2 ^ w) : unp w xs.length (packB w xs ++ rest) = some (xs, (packB w xs).length) := by
  unfold unp
  have hl : (xs.length * w + 7) / 8 = (packB w xs).length := (packB_len w xs).symm
  rw [hl, List.take_left, valN_packB hx, if_pos ⟨by rw [List.length_append]; omega, valN_lt hx⟩, digN_valN hx]
theorem unp_short {w k : Nat} {bs : List Nat} (h : bs.length < (k * w + 7) / 8) : unp w k bs = none := by
  unfold unp
  rw [if_neg (by omega)]
theorem valN_app (w : Nat) (a b : List Nat) : valN w (a ++ b) = valN w a + 2 ^ (w * a.length) * valN w b := by
  induction a with
  | nil => simp [valN]
  | cons x a ih => rw [List.cons_append, valN, valN, ih, List.length_cons, Nat.mul_succ, Nat.pow_add, Nat.mul_add, Nat.add_assoc, Nat.mul_left_comm, ← Nat.mul_assoc, Nat.mul_assoc]
theorem unp_bits {w k : Nat} {bs : List Nat} (h : k * w % 8 > 0) (hl : bs.length + 1 = (k * w + 7) / 8) : unp w k (bs ++ [255]) = none := by
  unfold unp
  rw [if_neg]
  rintro ⟨-, z⟩
  rw [← hl, List.take_of_length_le (by rw [List.length_append]; exact Nat.le_refl _), valN_app] at z
  have h1 : 2 ^ (w * k) ≤ 2 ^ (8 * bs.length + 7) := Nat.pow_le_pow_right (by decide) (by rw [Nat.mul_comm w]; omega)
  rw [Nat.pow_add] at h1
  have h2 : 2 ^ (8 * bs.length) * 2 ^ 7 ≤ 2 ^ (8 * bs.length) * valN 8 [255] := Nat.mul_le_mul_left _ (by decide)
  omega
theorem run_rep (x : Nat) (xs : List Nat) : (x :: xs).take (run (x :: xs)) = List.replicate (run (x :: xs)) x := by
  have go : ∀ ys : List Nat, ys.take (eqs x ys) = List.replicate (eqs x ys) x := by
    intro ys
    induction ys with
    | nil => rfl
    | cons y ys ih =>
      rw [eqs]
      split
      · rename_i h
        rw [List.take_succ_cons, List.replicate_succ, ih, h]
      · rfl
  rw [run, List.take_succ_cons, List.replicate_succ, go]
theorem lawL_ne {w : Nat} {xs : List Nat} (h : xs ≠ []) : lawL w xs ≠ [] := by
  cases xs with
  | nil => exact absurd rfl h
  | cons x xs =>
    by_cases c : 4 ≤ run (x :: xs)
    · rw [lawL_run c]
      simp [numB_ne]
    · rw [lawL_piece c]
      unfold pc
      simp [numB_ne]
theorem tkL_law {w most : Nat} (hw : w ≤ 64) (w0 : w ≠ 0) (n : Nat) (xs rest : List Nat) (hn : xs.length ≤ n) (hz : n ≤ 1000000) (hm : most < 34359738368) (hx : ∀ x ∈ xs, x ≤ most ∧ x < 2 ^ w) : tkL w most n xs.length (lawL w xs ++ rest) = some (xs, (lawL w xs).length) ∧ (xs ≠ [] → tkL w most n xs.length (lawL w xs).dropLast = none) := by
  induction n generalizing xs with
  | zero =>
    have : xs = [] := List.length_eq_zero_iff.mp (by omega)
    subst this
    exact ⟨by rw [lawL_nil]; rfl, fun z => absurd rfl z⟩
  | succ n ih =>
    cases xs with
    | nil => exact ⟨by rw [lawL_nil]; rfl, fun z => absurd rfl z⟩
    | cons x xs =>
      have hx0 := hx x List.mem_cons_self
      have rl := run_le (x :: xs)
      have c0 : ¬ (x :: xs).length = 0 := by simp
      by_cases c : 4 ≤ run (x :: xs)
      · obtain ⟨r, hr⟩ : ∃ r, r = run (x :: xs) := ⟨_, rfl⟩
        have rep := run_rep x xs
        rw [lawL_run c]
        rw [← hr] at c rl rep ⊢
        have ih2 := ih ((x :: xs).drop r) (by rw [List.length_drop]; omega) (by omega) fun y hy => hx y (List.mem_of_mem_drop hy)
        have all : (List.replicate r x).all (fun y => decide (y ≤ most)) = true := by
          rw [List.all_eq_true]; intro y hy
          rw [(List.mem_replicate.mp hy).2, decide_eq_true_eq]; exact hx0.1
        have back : List.replicate r x ++ (x :: xs).drop r = x :: xs := by rw [← rep, List.take_append_drop]
        have step : ∀ t, tkL w most (n + 1) (x :: xs).length (numB (2 * r) ++ (numB x ++ t)) = (tkL w most n ((x :: xs).drop r).length t).map fun y => (List.replicate r x ++ y.1, (numB (2 * r)).length + (numB x).length + y.2) := fun t => by
          rw [tkL, if_neg c0, tk_numB _ (by omega) (.inl rfl)]
          dsimp only
          rw [show 2 * r / 2 = r from by omega, if_neg (by omega), List.drop_left]
          have pq : piece w (2 * r) (numB x ++ t) = some (List.replicate r x, (numB x).length) := by
            unfold piece
            rw [if_neg (by omega), tk_numB _ (by omega) (.inl rfl), show 2 * r / 2 = r from by omega]; rfl
          rw [pq]
          dsimp only
          rw [if_pos all, ← List.drop_drop, List.drop_left, List.drop_left, List.length_drop]
        refine ⟨?_, fun _ => ?_⟩
        · rw [List.append_assoc, List.append_assoc, step, ih2.1]
          simp only [Option.map_some, back, List.length_append, Nat.add_assoc]
        · by_cases c1 : (x :: xs).drop r = []
          · rw [c1, lawL_nil, List.append_nil, List.dropLast_append_of_ne_nil (numB_ne _)]
            rw [tkL, if_neg c0, tk_numB _ (by omega) (.inl rfl)]
            dsimp only
            rw [show 2 * r / 2 = r from by omega, if_neg (by omega), List.drop_left]
            have pq : piece w (2 * r) (numB x).dropLast = none := by
              unfold piece
              rw [if_neg (by omega), tk_cut]; rfl
            rw [pq]
          · rw [List.append_assoc, List.dropLast_append_of_ne_nil (by simp [numB_ne]), List.dropLast_append_of_ne_nil (lawL_ne c1), step, ih2.2 c1]; rfl
      · obtain ⟨e, he⟩ : ∃ e, e = pe 1 xs := ⟨_, rfl⟩
        have e1 := pe_ge 1 xs
        have e2 := pe_le 1 xs
        have e3 := pe_le32 1 xs (by decide)
        rw [lawL_piece c]
        rw [← he] at e1 e2 e3 ⊢
        have ih2 := ih ((x :: xs).drop e) (by rw [List.length_drop]; omega) (by omega) fun y hy => hx y (List.mem_of_mem_drop hy)
        obtain ⟨s, hs⟩ : ∃ s, s = (x :: xs).take e := ⟨_, rfl⟩
        have sl : s.length = e := by rw [hs, List.length_take, List.length_cons]; omega
        have all : s.all (fun y => decide (y ≤ most)) = true := by
          rw [List.all_eq_true]; intro y hy
          rw [decide_eq_true_eq]; exact (hx y (by rw [hs] at hy; exact List.mem_of_mem_take hy)).1
        have sx : ∀ y ∈ s, y < 2 ^ w := fun y hy => (hx y (by rw [hs] at hy; exact List.mem_of_mem_take hy)).2
        have back : s ++ (x :: xs).drop e = x :: xs := by rw [hs, List.take_append_drop]
        have el : e ≤ (x :: xs).length := by rw [List.length_cons]; omega
        rw [← hs]
        have step : ∀ t, tkL w most (n + 1) (x :: xs).length (numB (2 * s.length + 1) ++ (packB w s ++ t)) = (tkL w most n ((x :: xs).drop e).length t).map fun y => (s ++ y.1, (numB (2 * s.length + 1)).length + (packB w s).length + y.2) := fun t => by
          rw [tkL, if_neg c0, tk_numB _ (by omega) (.inl rfl)]
          dsimp only
          rw [show (2 * s.length + 1) / 2 = s.length from by omega, if_neg (by omega), List.drop_left]
          have pq : piece w (2 * s.length + 1) (packB w s ++ t) = some (s, (packB w s).length) := by
            unfold piece
            rw [if_pos (by omega), show (2 * s.length + 1) / 2 = s.length from by omega, unp_pack _ sx]
          rw [pq]
          dsimp only
          rw [if_pos all, ← List.drop_drop, List.drop_left, List.drop_left, List.length_drop, sl]
        unfold pc
        refine ⟨?_, fun _ => ?_⟩
        · rw [List.append_assoc, List.append_assoc, step, ih2.1]
          simp only [Option.map_some, back, List.length_append, Nat.add_assoc]
        · by_cases c1 : (x :: xs).drop e = []
          · rw [c1, lawL_nil, List.append_nil]
            have pz : (packB w s).length ≠ 0 := by
              rw [packB_len, sl]
              have : 0 < e * w := Nat.mul_pos e1 (Nat.pos_of_ne_zero w0)
              omega
            have pn : packB w s ≠ [] := fun z => pz (by rw [z]; rfl)
            rw [List.dropLast_append_of_ne_nil pn, tkL, if_neg c0, tk_numB _ (by omega) (.inl rfl)]
            dsimp only
            rw [show (2 * s.length + 1) / 2 = s.length from by omega, if_neg (by omega), List.drop_left]
            have pq : piece w (2 * s.length + 1) (packB w s).dropLast = none := by
              unfold piece
              rw [if_pos (by omega), show (2 * s.length + 1) / 2 = s.length from by omega]
              exact unp_short (by rw [List.length_dropLast, ← packB_len]; omega)
            rw [pq]
          · rw [List.append_assoc, List.dropLast_append_of_ne_nil (by simp [lawL_ne c1]), List.dropLast_append_of_ne_nil (lawL_ne c1), step, ih2.2 c1]; rfl
theorem tkL_more {w most n c : Nat} (hn : c < n) (hz : n ≤ 1000000) (c0 : c ≠ 0) : tkL w most c c (numB (2 * c + 2) ++ [0]) = none := by
  cases c with
  | zero => exact absurd rfl c0
  | succ c =>
    rw [tkL, if_neg (by omega), tk_numB _ (by omega) (.inl rfl)]
    dsimp only
    rw [if_pos (by omega)]
theorem packB_lt (w : Nat) (xs : List Nat) : ∀ b ∈ packB w xs, b < 256 := bytesN_lt _ _
theorem lawL_lt (w n : Nat) (xs : List Nat) (hn : xs.length ≤ n) : ∀ b ∈ lawL w xs, b < 256 := by
  induction n generalizing xs with
  | zero =>
    have : xs = [] := List.length_eq_zero_iff.mp (by omega)
    subst this
    rw [lawL_nil]; intro b hb; cases hb
  | succ n ih =>
    cases xs with
    | nil => rw [lawL_nil]; intro b hb; cases hb
    | cons x xs =>
      intro b hb
      by_cases c : 4 ≤ run (x :: xs)
      · rw [lawL_run c] at hb
        rcases List.mem_append.mp hb with hb | hb
        · rcases List.mem_append.mp hb with hb | hb
          · exact numB_lt256 _ b hb
          · exact numB_lt256 _ b hb
        · exact ih _ (by rw [List.length_drop]; omega) b hb
      · rw [lawL_piece c] at hb
        have := pe_ge 1 xs
        rcases List.mem_append.mp hb with hb | hb
        · rcases List.mem_append.mp hb with hb | hb
          · exact numB_lt256 _ b hb
          · exact packB_lt _ _ b hb
        · exact ih _ (by rw [List.length_drop]; omega) b hb
theorem levB_lt (most : Nat) (xs : List Nat) : ∀ b ∈ levB most xs, b < 256 := by
  unfold levB
  split
  · intro b hb; cases hb
  · exact lawL_lt _ _ _ (Nat.le_refl _)
theorem tkLev_levB {most : Nat} (xs rest : List Nat) (hm : most < 34359738368) (hx : ∀ x ∈ xs, x ≤ most) (hz : xs.length ≤ 999999) : tkLev most xs.length (levB most xs ++ rest) = some (xs, (levB most xs).length) := by
  unfold tkLev levB
  by_cases w0 : bitsN most = 0
  · rw [if_pos w0, if_pos w0]
    have : most = 0 := by
      unfold bitsN at w0
      split at w0
      · assumption
      · omega
    have : xs = List.replicate xs.length 0 := List.eq_replicate_iff.mpr ⟨rfl, fun b hb => by have := hx b hb; omega⟩
    rw [← this]; rfl
  · rw [if_neg w0, if_neg w0]
    exact (tkL_law (Nat.le_trans (bits_le (k := 35) hm) (by decide)) w0 _ xs rest (Nat.le_refl _) (by omega) hm fun x h => ⟨hx x h, Nat.lt_of_le_of_lt (hx x h) (bits_lt _)⟩).1
theorem tkLev_cut {most : Nat} (xs : List Nat) (hm : most < 34359738368) (hx : ∀ x ∈ xs, x ≤ most) (hz : xs.length ≤ 999999) (h0 : levB most xs ≠ []) : tkLev most xs.length (levB most xs).dropLast = none := by
  unfold tkLev levB at *
  by_cases w0 : bitsN most = 0
  · rw [if_pos w0] at h0; exact absurd rfl h0
  · rw [if_neg w0] at h0
    rw [if_neg w0, if_neg w0]
    refine (tkL_law (Nat.le_trans (bits_le (k := 35) hm) (by decide)) w0 _ xs [] (Nat.le_refl _) (by omega) hm fun x h => ⟨hx x h, Nat.lt_of_le_of_lt (hx x h) (bits_lt _)⟩).2 ?_
    intro z
    rw [z, lawL_nil] at h0
    exact h0 rfl
end Dk

set_option Elab.async false
set_option linter.all false
set_option maxRecDepth 100000
set_option maxHeartbeats 4000000
namespace Dk
open PySem PySem.Spec PyProof.Rows L2 Dd
theorem or128 (m : Nat) : PySem.Builtin.bitOr ((m : Int) % 128) 128 = ((m % 128 + 128 : Nat) : Int) := by
  have := or_add (a := m % 128) (b := 1) (k := 7) (by omega)
  rw [show ((1 * 2 ^ 7 : Nat) : Int) = 128 from rfl, show ((m % 128 : Nat) : Int) = (m : Int) % 128 from by omega] at this
  rw [this]
theorem nD_snoc (a : List Nat) (b : Nat) : nD a ++ [D.int (b : Int)] = nD (a ++ [b]) := (nD_app a [b]).symm
theorem nD_snoc' (a : List Nat) (i : Int) (b : Nat) (h : i = (b : Int)) : nD a ++ [D.int i] = nD (a ++ [b]) := by rw [h, nD_snoc]
theorem w_put_number (c n : Nat) (hn : n < 34359738368) : PC (pg.run (c + 1)) i_put_number [.int (n : Int)] (fun d => d = .vl (nD (numB n))) fun _ _ => False := by
  refine pc_of (f := f_put_number) rfl e_put_number rfl ?_
  simp [b_put_number, startD, f_put_number]
  refine wp_while (N := 4) (fun k e h => ∃ m acc, e = [some (.int ((m : Nat) : Int)), some (.ref 0)] ∧ h = [.lst (nD acc)] ∧ acc ++ numB m = numB n ∧ m < 128 ^ (k + 1) ∧ acc.length + k ≤ 4) (by decide) ⟨n, [], rfl, rfl, rfl, by omega, by decide⟩ ?_
  rintro k e h ⟨m, acc, rfl, rfl, q, hm, hk⟩
  by_cases c0 : m < 128
  · have c1 : ¬ (127 < (m : Int)) := by omega
    simp [c1, nD_snoc]
    exact ⟨by omega, by rw [← q, numB_lt c0]⟩
  · have c1 : 127 < (m : Int) := by omega
    obtain ⟨k, rfl⟩ : ∃ j, k = j + 1 := by
      cases k with
      | zero => omega
      | succ k => exact ⟨k, rfl⟩
    have hm2 : m / 128 < 128 ^ (k + 1) := by
      rw [Nat.pow_succ] at hm
      exact Nat.div_lt_of_lt_mul (by rw [Nat.mul_comm]; exact hm)
    simp [c1, m_127, or128]
    refine ⟨by omega, m / 128, by omega, acc ++ [m % 128 + 128], (nD_snoc' _ _ _ (by omega)), ?_, hm2, by rw [List.length_append]; show acc.length + 1 + k ≤ 4; omega⟩
    rw [← q, numB_ge c0, List.append_assoc]; rfl
theorem w_law_number (c n : Nat) (hn : n < 34359738368) : PC (pg.run (c + 1)) i_law_number [.int (n : Int)] (fun d => d = .vl (nD (numB n))) fun _ _ => False := by
  refine pc_of (f := f_law_number) rfl e_law_number rfl ?_
  simp [b_law_number, startD, f_law_number]
  refine for_rngS 5 (fun k e h => ∃ m acc x, e = [some (.int ((m : Nat) : Int)), some (.ref 0), x] ∧ h = [.lst (nD acc)] ∧ acc ++ numB m = numB n ∧ (m < 128 ∨ m < 128 ^ (5 - k)) ∧ acc.length ≤ k) (by simp) (by decide) ⟨n, [], none, rfl, rfl, rfl, .inr (by omega), Nat.le_refl _⟩ ?_ ?_
  · rintro e h ⟨m, acc, x, rfl, rfl, q, hm, hk⟩
    have c0 : m < 128 := by rcases hm with hm | hm <;> omega
    simp [nD_snoc]
    exact ⟨by omega, by rw [← q, numB_lt c0]⟩
  · rintro k e h hk ⟨m, acc, x, rfl, rfl, q, hm, hl⟩
    by_cases c0 : m < 128
    · have c1 : ¬ (128 ≤ (m : Int)) := by omega
      simp [c1]
      exact ⟨m, rfl, acc, rfl, q, .inl c0, by omega⟩
    · have c1 : 128 ≤ (m : Int) := by omega
      simp [c1]
      refine ⟨by omega, m / 128, by omega, acc ++ [m % 128 + 128], nD_snoc' _ _ _ (by omega), ?_, .inr ?_, by rw [List.length_append]; show acc.length + 1 ≤ k + 1; omega⟩
      · rw [← q, numB_ge c0, List.append_assoc]; rfl
      · rcases hm with hm | hm
        · exact absurd hm c0
        · rw [show 5 - k = (4 - k) + 1 from by omega, Nat.pow_succ] at hm
          exact Nat.div_lt_of_lt_mul (by rw [Nat.mul_comm]; exact hm)
theorem atD {bs : List Nat} {i : Int} {k : Nat} (hi : i = (k : Int)) (hk : k < bs.length) : L2.atI (nD bs) i = some (.int (bs[k] : Int)) := atI_of hi (by rw [nD_get, List.getElem?_eq_getElem hk]; rfl)
theorem shl_nat {a k : Nat} : (a : Int) * 2 ^ k = ((a * 2 ^ k : Nat) : Int) := by norm_cast

theorem w_take_number (c : Nat) (bs : List Nat) (at_ : Nat) (hb : ∀ b ∈ bs, b < 256) : PC (pg.run (c + 1)) i_take_number [.vl (nD bs), .int (at_ : Int)] (fun d => ∃ n l, tk 5 0 (bs.drop at_) = some (n, l) ∧ d = .tup [.int (n : Int), .int ((at_ + l : Nat) : Int)]) fun c p => c = 0 ∧ tk 5 0 (bs.drop at_) = none := by
  refine pc_of (f := f_take_number) rfl e_take_number rfl ?_
  simp [b_take_number, startD, f_take_number]
  refine for_rngS 5 (fun k e h => ∃ (m : Nat) (x y : Option D), e = [some (.vl (nD bs)), some (.int (at_ : Int)), some (.int (m : Int)), x, y] ∧ h = [] ∧ m < 2 ^ (7 * k) ∧ tk 5 0 (bs.drop at_) = (tk (5 - k) k (bs.drop (at_ + k))).map fun x => (m + 2 ^ (7 * k) * x.1, k + x.2)) (by simp) (by decide) ⟨0, none, none, rfl, rfl, by decide, by simp⟩ ?_ ?_
  · rintro e h ⟨m, x, y, rfl, rfl, hm, q⟩
    rw [q]
    simp [tk]
  · rintro k e h hk ⟨m, x, y, rfl, rfl, hm, q⟩
    obtain ⟨r, hr⟩ : ∃ r, 5 - k = r + 1 := ⟨4 - k, by omega⟩
    have r2 : 5 - (k + 1) = r := by omega
    rw [hr] at q
    rw [r2]
    by_cases c0 : at_ + k < bs.length
    · have c1 : ¬ ((bs.length : Int) ≤ (at_ : Int) + (k : Int)) := by omega
      have q1 := atD (i := (at_ : Int) + (k : Int)) (by omega) c0
      obtain ⟨b, hb'⟩ : ∃ b, b = bs[at_ + k] := ⟨_, rfl⟩
      have hb2 : b < 256 := by rw [hb']; exact hb _ (List.getElem_mem _)
      have dr : bs.drop (at_ + k) = b :: bs.drop (at_ + (k + 1)) := by rw [hb']; exact List.drop_eq_getElem_cons c0
      rw [← hb'] at q1
      rw [dr] at q
      simp only [tk] at q
      have v1 : PySem.Builtin.bitOr (m : Int) (PySem.Builtin.bitAnd (b : Int) 127 * 2 ^ (7 * (k : Int)).toNat) = ((m + b % 128 * 2 ^ (7 * k) : Nat) : Int) := by
        rw [m_127, show (7 * (k : Int)).toNat = 7 * k from by omega, show (b : Int) % 128 = ((b % 128 : Nat) : Int) from by omega, shl_nat, or_add hm]
      simp [w_ixl, c1, q1, v1]
      rw [m_127]
      refine ⟨⟨⟨by omega, by omega⟩, by omega, by omega⟩, ?_⟩
      by_cases c2 : b < 128
      · have bm : b % 128 = b := by omega
        refine .inr ⟨by omega, ?_⟩
        by_cases c4 : b = 0 ∧ 0 < k
        · rw [if_pos c2, if_pos c4] at q
          exact .inr ⟨c4.1, .inr ⟨c4.2, q⟩⟩
        · rw [if_pos c2, if_neg c4] at q
          have fin : ∃ n l, tk 5 0 (List.drop at_ bs) = some (n, l) ∧ (m : Int) + (b % 128 : Nat) * 2 ^ (7 * k) = (n : Int) ∧ (at_ : Int) + (k : Int) + 1 = (at_ : Int) + (l : Int) := ⟨_, _, q, by rw [bm, shl_nat, Nat.mul_comm b]; norm_cast, by omega⟩
          by_cases c5 : b = 0
          · exact .inr ⟨c5, .inl ⟨by omega, by simpa using fin⟩⟩
          · exact .inl ⟨c5, by simpa using fin⟩
      · refine .inl ⟨by omega, m + b % 128 * 2 ^ (7 * k), by norm_cast, ?_, ?_⟩
        · have hp : 2 ^ (7 * (k + 1)) = 128 * 2 ^ (7 * k) := by rw [Nat.mul_add, Nat.pow_add, Nat.mul_comm]
          have : (b % 128 + 1) * 2 ^ (7 * k) ≤ 128 * 2 ^ (7 * k) := Nat.mul_le_mul_right _ (by omega)
          rw [Nat.succ_mul] at this
          omega
        · rw [q, if_neg c2]
          cases tk r (k + 1) (List.drop (at_ + (k + 1)) bs) with
          | none => rfl
          | some x =>
            have hp : 2 ^ (7 * (k + 1)) = 2 ^ (7 * k) * 128 := by rw [Nat.mul_add, Nat.pow_add]
            simp only [Option.map_some, Option.some.injEq, Prod.mk.injEq]
            refine ⟨?_, by omega⟩
            rw [hp, Nat.mul_add, Nat.mul_comm (b % 128), Nat.add_assoc, Nat.mul_assoc]
    · have c1 : (bs.length : Int) ≤ (at_ : Int) + (k : Int) := by omega
      have dr : bs.drop (at_ + k) = [] := List.drop_eq_nil_iff.mpr (by omega)
      simp [c1]
      rw [q, dr]; rfl

theorem w_put_word (c : Nat) (w : Int) : PC (pg.run (c + 1)) i_put_word [.int w] (fun d => d = .vl (nD (wordB (w32 w)))) fun _ _ => False := by
  refine pc_of (f := f_put_word) rfl e_put_word rfl ?_
  rw [← wordB_eq]
  simp [b_put_word, startD, f_put_word, m_255]
theorem w_law_word (c : Nat) (w : Int) : PC (pg.run (c + 1)) i_law_word [.int w] (fun d => d = .vl (nD (wordB (w32 w)))) fun _ _ => False := by
  refine pc_of (f := f_law_word) rfl e_law_word rfl ?_
  rw [← wordB_eq]
  simp [b_law_word, startD, f_law_word]
  omega
theorem w_take_word (c : Nat) (bs : List Nat) (at_ : Nat) (hb : ∀ b ∈ bs, b < 256) : PC (pg.run (c + 1)) i_take_word [.vl (nD bs), .int (at_ : Int)] (fun d => at_ + 4 ≤ bs.length ∧ d = .tup [.int (wordV bs at_ : Int), .int ((at_ + 4 : Nat) : Int)]) fun c p => c = 0 ∧ bs.length < at_ + 4 := by
  refine pc_of (f := f_take_word) rfl e_take_word rfl ?_
  by_cases c0 : at_ + 4 ≤ bs.length
  · have c1 : ¬ ((bs.length : Int) < (at_ : Int) + 4) := by omega
    have gt : ∀ j, at_ + j < bs.length → ∃ b, b = bs.getD (at_ + j) 0 ∧ b < 256 ∧ ∀ k : Int, k = ((at_ + j : Nat) : Int) → L2.atI (nD bs) k = some (.int (b : Int)) := fun j hj =>
      ⟨_, rfl, by rw [← get_of hj]; exact hb _ (List.getElem_mem _), fun k hk => by rw [← get_of hj]; exact atD hk hj⟩
    obtain ⟨x0, g0, y0, z0⟩ := gt 0 (by omega)
    obtain ⟨x1, g1, y1, z1⟩ := gt 1 (by omega)
    obtain ⟨x2, g2, y2, z2⟩ := gt 2 (by omega)
    obtain ⟨x3, g3, y3, z3⟩ := gt 3 (by omega)
    have z0 := z0 (at_ : Int) rfl
    have z1 := z1 ((at_ : Int) + 1) rfl
    have z2 := z2 ((at_ : Int) + 2) rfl
    have z3 := z3 ((at_ : Int) + 3) rfl
    have r1 : PySem.Builtin.bitOr (x0 : Int) ((x1 : Int) * 2 ^ 8) = ((x0 + x1 * 2 ^ 8 : Nat) : Int) := by rw [shl_nat, or_add (by omega)]
    have r2 : PySem.Builtin.bitOr ((x0 + x1 * 2 ^ 8 : Nat) : Int) ((x2 : Int) * 2 ^ 16) = ((x0 + x1 * 2 ^ 8 + x2 * 2 ^ 16 : Nat) : Int) := by rw [shl_nat, or_add (by omega)]
    have r3 : PySem.Builtin.bitOr ((x0 + x1 * 2 ^ 8 + x2 * 2 ^ 16 : Nat) : Int) ((x3 : Int) * 2 ^ 24) = ((x0 + x1 * 2 ^ 8 + x2 * 2 ^ 16 + x3 * 2 ^ 24 : Nat) : Int) := by rw [shl_nat, or_add (by omega)]
    have fin : PySem.Builtin.bitOr (PySem.Builtin.bitOr (PySem.Builtin.bitOr (x0 : Int) ((x1 : Int) * 2 ^ 8)) ((x2 : Int) * 2 ^ 16)) ((x3 : Int) * 2 ^ 24) = (wordV bs at_ : Int) := by
      rw [r1, r2, r3]
      unfold wordV
      rw [show bs.getD at_ 0 = x0 from g0.symm, ← g1, ← g2, ← g3]
    obtain ⟨w, hw⟩ : ∃ w, w = wordV bs at_ := ⟨_, rfl⟩
    rw [← hw] at fin ⊢
    have r8 : (8 : Int).toNat = 8 := rfl
    have r16 : (16 : Int).toNat = 16 := rfl
    have r24 : (24 : Int).toNat = 24 := rfl
    simp [b_take_word, startD, f_take_word, c1, w_ixl, z0, z1, z2, z3, r8, r16, r24] at fin ⊢
    refine ⟨by omega, by omega, by omega, c0, fin⟩
  · have c1 : (bs.length : Int) < (at_ : Int) + 4 := by omega
    simp [b_take_word, startD, f_take_word, c1]
    omega
theorem w_take_byte (c : Nat) (bs : List Nat) (at_ : Nat) : PC (pg.run (c + 1)) i_take_byte [.vl (nD bs), .int (at_ : Int)] (fun d => ∃ b, bs[at_]? = some b ∧ d = .tup [.int (b : Int), .int ((at_ + 1 : Nat) : Int)]) fun c p => c = 0 ∧ bs.length ≤ at_ := by
  refine pc_of (f := f_take_byte) rfl e_take_byte rfl ?_
  by_cases c0 : at_ < bs.length
  · have c1 : ¬ (bs.length ≤ at_) := by omega
    have q := nD_get bs at_
    rw [List.getElem?_eq_getElem c0, Option.map_some] at q
    simp [b_take_byte, startD, f_take_byte, c1, q]
    exact ⟨_, List.getElem?_eq_getElem c0, rfl⟩
  · have c1 : bs.length ≤ at_ := by omega
    simp [b_take_byte, startD, f_take_byte, c1]
theorem w_fold_sign (c : Nat) (i : Int) : PC (pg.run (c + 1)) i_fold_sign [.int i] (fun d => d = .int (foldI i)) fun _ _ => False := by
  refine pc_of (f := f_fold_sign) rfl e_fold_sign rfl ?_
  unfold foldI
  by_cases c0 : i < 0
  · simp [b_fold_sign, startD, f_fold_sign, c0]
  · simp [b_fold_sign, startD, f_fold_sign, c0]
theorem w_unfold_sign (c : Nat) (i : Int) : PC (pg.run (c + 1)) i_unfold_sign [.int i] (fun d => d = .int (unfI i)) fun _ _ => False := by
  refine pc_of (f := f_unfold_sign) rfl e_unfold_sign rfl ?_
  unfold unfI
  by_cases c0 : i % 2 = 1
  · simp [b_unfold_sign, startD, f_unfold_sign, m_1, c0]
  · simp [b_unfold_sign, startD, f_unfold_sign, m_1, c0]
theorem w_width_of (c n : Nat) : PC (pg.run (c + 1)) i_width_of [.int (n : Int)] (fun d => d = .int (bitsN n : Int)) fun _ _ => False := by
  refine pc_of (f := f_width_of) rfl e_width_of rfl ?_
  have q : PySem.Builtin.Int.intBits (n : Int) = bitsN n := by
    unfold PySem.Builtin.Int.intBits bitsN
    by_cases c0 : n = 0
    · subst c0; rfl
    · rw [if_neg c0, if_neg (by simp; exact c0)]; rfl
  simp [b_width_of, startD, f_width_of, q]
theorem w_law_width (c n : Nat) (hn : n < 2 ^ 40) : PC (pg.run (c + 1)) i_law_width [.int (n : Int)] (fun d => d = .int (bitsN n : Int)) fun _ _ => False := by
  refine pc_of (f := f_law_width) rfl e_law_width rfl ?_
  simp [b_law_width, startD, f_law_width]
  refine for_rngS 40 (fun k e h => ∃ (m w : Nat) (x : Option D), e = [some (.int (m : Int)), some (.int (w : Int)), x] ∧ h = [] ∧ w + bitsN m = bitsN n ∧ m < 2 ^ (40 - k)) (by simp) (by decide) ⟨n, 0, none, rfl, rfl, Nat.zero_add _, hn⟩ ?_ ?_
  · rintro e h ⟨m, w, x, rfl, rfl, q, hm⟩
    have : m = 0 := by omega
    subst this
    simp
    exact congrArg _ q
  · rintro k e h hk ⟨m, w, x, rfl, rfl, q, hm⟩
    by_cases c0 : 0 < m
    · have c1 : (0 : Int) < (m : Int) := by omega
      have b1 := bits_half c0
      simp [c0]
      refine ⟨m / 2, w + 1, ⟨by omega, by omega⟩, by omega, ?_⟩
      rw [show 40 - k = (39 - k) + 1 from by omega, Nat.pow_succ] at hm
      omega
    · have : m = 0 := by omega
      subst this
      simp
      exact ⟨0, w, ⟨rfl, rfl⟩, q, Nat.two_pow_pos _⟩
end Dk

set_option Elab.async false
set_option linter.all false
set_option maxRecDepth 100000
set_option maxHeartbeats 4000000
namespace Dk
open PySem PySem.Spec PyProof.Rows L2 Dd
def P7 (w : Nat) (xs : List Nat) (k lo j : Nat) (e : DE) (h : DH) : Prop := ∃ (held filled : Nat) (acc : List Nat) (x : Option D), (e = [some (.vl (nD xs)), some (.int (w : Int)), some (.ref 0), some (.int (held : Int)), some (.int (filled : Int)), x] ∧ h = [.lst (nD acc)]) ∧
  held < 2 ^ filled ∧ filled < lo ∧ 8 * acc.length + filled = w * k ∧ acc ++ bytesN ((filled + w * (xs.length - k) + 7) / 8) (held + 2 ^ filled * valN w (xs.drop k)) = packB w xs ∧ filled ≤ j
theorem w_pack (c w : Nat) (xs : List Nat) (hx : ∀ x ∈ xs, x < 2 ^ w) (hw : w ≤ 64) (hz : w * xs.length ≤ 64000000) : PC (pg.run (c + 1)) i_pack [.vl (nD xs), .int (w : Int)] (fun d => d = .vl (nD (packB w xs))) fun _ _ => False := by
  refine pc_of (f := f_pack) rfl e_pack rfl ?_
  have zz : Z = 16777216 := rfl
  simp [b_pack, startD, f_pack]
  refine for_map xs (fun b : Nat => .int (b : Int)) (fun k e h => k ≤ xs.length ∧ P7 w xs k 8 8 e h) (by simp; rfl) ⟨Nat.zero_le _, 0, 0, [], none, ⟨rfl, rfl⟩, by decide, by decide, rfl, ?_, by decide⟩ ?_ ?_
  · show bytesN ((0 + w * (xs.length - 0) + 7) / 8) (0 + 2 ^ 0 * valN w xs) = packB w xs
    unfold packB
    rw [Nat.mul_comm w]; simp
  · rintro e h ⟨-, held, filled, acc, x, ⟨rfl, rfl⟩, q1, q2, q3, q4, -⟩
    have d0 : xs.drop xs.length = [] := List.drop_length
    rw [d0] at q4
    have e0 : filled + w * (xs.length - xs.length) + 7 = filled + 7 := by rw [Nat.sub_self]; rfl
    rw [e0, valN, Nat.mul_zero, Nat.add_zero] at q4
    by_cases c0 : filled = 0
    · subst c0
      simp
      rw [← q4]; simp [bytesN]
    · have c2 : 0 < filled := by omega
      simp [c2, m_255]
      refine ⟨by omega, ?_⟩
      rw [← q4, show (filled + 7) / 8 = 1 from by omega]
      exact nD_snoc' _ _ _ (by omega)
  · rintro k y e h hk ⟨-, held, filled, acc, x, ⟨rfl, rfl⟩, q1, q2, q3, q4, -⟩
    obtain ⟨hkl, hy⟩ := List.getElem?_eq_some_iff.mp hk
    have hy2 : y < 2 ^ w := by rw [← hy]; exact hx _ (List.getElem_mem _)
    have dr : xs.drop k = y :: xs.drop (k + 1) := by rw [← hy]; exact List.drop_eq_getElem_cons hkl
    refine ⟨_, rfl, ?_⟩
    have y64 : y < 2 ^ 64 := Nat.lt_of_lt_of_le hy2 (Nat.pow_le_pow_right (by decide) hw)
    have s1 : PySem.Builtin.bitOr (held : Int) ((y : Int) * 2 ^ filled) = ((held + y * 2 ^ filled : Nat) : Int) := by rw [shl_nat, or_add q1]
    obtain ⟨u, hu⟩ : ∃ u, u = held + y * 2 ^ filled := ⟨_, rfl⟩
    rw [← hu] at s1
    simp [s1]
    refine ⟨by omega, ?_⟩
    have hu2 : u < 2 ^ (filled + w) := by
      rw [hu, Nat.pow_add]
      have : 2 ^ filled * (y + 1) ≤ 2 ^ filled * 2 ^ w := Nat.mul_le_mul_left _ hy2
      rw [Nat.mul_add] at this
      rw [Nat.mul_comm y]; omega
    refine wp_while (N := filled + w) (fun n e h => P7 w xs (k + 1) 1000 n e h) (by omega) ⟨u, filled + w, acc, _, ⟨rfl, rfl⟩, hu2, by omega, by rw [Nat.mul_succ, ← q3]; omega, ?_, Nat.le_refl _⟩ ?_
    · rw [← q4, dr, valN, hu, show filled + w * (xs.length - k) + 7 = filled + w + w * (xs.length - (k + 1)) + 7 from by rw [show xs.length - k = (xs.length - (k + 1)) + 1 from by omega, Nat.mul_succ]; omega]
      rw [Nat.pow_add, Nat.mul_add, Nat.mul_comm y, Nat.mul_assoc]
      simp only [Nat.add_assoc]
    · rintro n e h ⟨held, filled, acc, x, ⟨rfl, rfl⟩, q1, q2, q3, q4, hn⟩
      have zl : 8 * acc.length + filled ≤ w * xs.length := by rw [q3]; exact Nat.mul_le_mul_left _ hkl
      by_cases c0 : 8 ≤ filled
      · obtain ⟨n, rfl⟩ : ∃ j, n = j + 1 := by
          cases n with
          | zero => omega
          | succ k => exact ⟨k, rfl⟩
        have c1 : (8 : Int) ≤ (filled : Int) := by omega
        have r8 : (8 : Int).toNat = 8 := rfl
        simp [c1, m_255, r8]
        refine ⟨by omega, held / 256, filled - 8, acc ++ [held % 256], _, ⟨by rw [show ((filled - 8 : Nat) : Int) = (filled : Int) - 8 from by omega]; norm_cast, by rw [nD_snoc' acc _ (held % 256) (by omega)]⟩, div_lt_pow (w := 8) c0 q1, by omega, by rw [List.length_append]; show 8 * (acc.length + 1) + (filled - 8) = _; omega, ?_, by omega⟩
        rw [← q4]
        obtain ⟨t, ht⟩ : ∃ t, (filled + w * (xs.length - (k + 1)) + 7) / 8 = t + 1 := ⟨(filled + w * (xs.length - (k + 1)) + 7) / 8 - 1, by omega⟩
        rw [ht, bytesN, (emit c0).1, (emit c0).2, show (filled - 8 + w * (xs.length - (k + 1)) + 7) / 8 = t from by omega, List.append_assoc]
        rfl
      · have c1 : ¬ (8 : Int) ≤ (filled : Int) := by omega
        simp [c1]
        exact ⟨hkl, held, filled, acc, _, ⟨rfl, rfl⟩, q1, by omega, q3, q4, by omega⟩
/-- bits: outer, inner -/
def A18 (w : Nat) (xs : List Nat) (k : Nat) (e : DE) (h : DH) : Prop := ∃ (acc : List Nat) (x y z u v : Option D), (e = [some (.vl (nD xs)), some (.int (w : Int)), some (.ref 0), x, y, z, u, v] ∧ h = [.lst (nD acc)]) ∧ acc.length = w * k ∧ acc ++ bitL (w * (xs.length - k)) (valN w (xs.drop k)) = bitL (w * xs.length) (valN w xs)
def B18 (w : Nat) (xs : List Nat) (k j : Nat) (e : DE) (h : DH) : Prop := ∃ (acc : List Nat) (m : Nat) (y z u v : Option D), (e = [some (.vl (nD xs)), some (.int (w : Int)), some (.ref 0), some (.int (m : Int)), y, z, u, v] ∧ h = [.lst (nD acc)]) ∧ acc.length = w * k + j ∧ m < 2 ^ (w - j) ∧ acc ++ bitL (w - j + w * (xs.length - (k + 1))) (m + 2 ^ (w - j) * valN w (xs.drop (k + 1))) = bitL (w * xs.length) (valN w xs)
def C18 (a b : D) (V n : Nat) (k : Nat) (e : DE) (h : DH) : Prop := ∃ (acc : List Nat) (x y z u : Option D), (e = [some a, some b, some (.ref 0), x, y, some (.ref 1), z, u] ∧ h = [.lst (nD (bitL n V)), .lst (nD acc)]) ∧ acc.length = k ∧ acc ++ bytesN ((n + 7) / 8 - k) (V / 256 ^ k) = bytesN ((n + 7) / 8) V
def D18 (a b : D) (hs : DH) (V : Nat) (k : Nat) (j : Nat) (e : DE) (h : DH) : Prop := ∃ (t : Nat) (x u : Option D), (e = [some a, some b, some (.ref 0), x, some (.int (k : Int)), some (.ref 1), some (.int (t : Int)), u] ∧ h = hs) ∧ t = V / 2 ^ (8 * k + 8 - j) % 2 ^ j
theorem w_law_pack (c w : Nat) (xs : List Nat) (hx : ∀ x ∈ xs, x < 2 ^ w) (hw : w ≤ 64) (hz : w * xs.length ≤ 16000000) : PC (pg.run (c + 1)) i_law_pack [.vl (nD xs), .int (w : Int)] (fun d => d = .vl (nD (packB w xs))) fun _ _ => False := by
  refine pc_of (f := f_law_pack) rfl e_law_pack rfl ?_
  have zz : Z = 16777216 := rfl
  have vlt := valN_lt hx
  obtain ⟨V, hV⟩ : ∃ V, V = valN w xs := ⟨_, rfl⟩
  obtain ⟨n, hn⟩ : ∃ n, n = w * xs.length := ⟨_, rfl⟩
  simp [b_law_pack, startD, f_law_pack]
  refine for_map xs (fun b : Nat => .int (b : Int)) (fun k e h => k ≤ xs.length ∧ A18 w xs k e h) (by simp; rfl) ⟨Nat.zero_le _, [], none, none, none, none, none, ⟨rfl, rfl⟩, rfl, rfl⟩ ?_ ?_
  · rintro e h ⟨-, acc, x, y, z, u, v, ⟨rfl, rfl⟩, q1, q2⟩
    rw [Nat.sub_self, Nat.mul_zero, bitL, List.append_nil] at q2
    rw [← hV, ← hn] at q2
    rw [← hn] at q1
    subst q2
    have pb : packB w xs = bytesN ((n + 7) / 8) V := by unfold packB; rw [hV, hn, Nat.mul_comm w]
    rw [pb]
    simp
    refine for_rngS ((n + 7) / 8) (C18 (.vl (nD xs)) (.int (w : Int)) V n) ?_ (by exact below_iff.mpr (by omega)) ⟨[], _, _, _, _, ⟨rfl, rfl⟩, rfl, by simp⟩ ?_ ?_
    · simp [bitL_len]
    · rintro e h ⟨acc, x, y, z, u, ⟨rfl, rfl⟩, q1, q2⟩
      simp
      rw [← q2, Nat.sub_self]; simp [bytesN]
    · rintro k e h hk ⟨acc, x, y, z, u, ⟨rfl, rfl⟩, q1, q2⟩
      refine ⟨_, rfl, ?_⟩
      simp
      refine for_rngS 8 (D18 (.vl (nD xs)) (.int (w : Int)) [.lst (nD (bitL n V)), .lst (nD acc)] V k) (by simp) (by decide) ⟨0, _, _, ⟨rfl, rfl⟩, by simp [Nat.mod_one]⟩ ?_ ?_
      · rintro e h ⟨t, x, u, ⟨rfl, rfl⟩, ht⟩
        simp
        obtain ⟨r, hr⟩ : ∃ r, (n + 7) / 8 - k = r + 1 := ⟨(n + 7) / 8 - k - 1, by omega⟩
        have p256 : V / 2 ^ (8 * k) = V / 256 ^ k := by rw [Nat.pow_mul]
        refine ⟨by omega, acc ++ [t], _, _, _, _, ⟨rfl, by rw [nD_snoc]⟩, by rw [List.length_append, q1]; rfl, ?_⟩
        rw [← q2, hr, bytesN, show (n + 7) / 8 - (k + 1) = r from by omega, List.append_assoc, ht, Nat.pow_succ 256 k, ← Nat.div_div_eq_div_mul, show 8 * k + 8 - 8 = 8 * k from by omega, p256]
        rfl
      · rintro j e h hj ⟨t, x, u, ⟨rfl, rfl⟩, ht⟩
        refine ⟨_, rfl, ?_⟩
        have st : V / 2 ^ (8 * k + 8 - (j + 1)) % 2 ^ (j + 1) = t * 2 + V / 2 ^ (8 * k + 8 - (j + 1)) % 2 := by
          rw [bit_step, ht, Nat.div_div_eq_div_mul, ← Nat.pow_succ, Nat.succ_eq_add_one, show 8 * k + 8 - (j + 1) + 1 = 8 * k + 8 - j from by omega]
          omega
        by_cases c0 : 8 * k + 8 - (j + 1) < n
        · have c1 : 8 * (k : Int) + 7 - (j : Int) < (n : Int) := by omega
          have ix : L2.atI (nD (bitL n V)) (8 * (k : Int) + 7 - (j : Int)) = some (.int ((V / 2 ^ (8 * k + 8 - (j + 1)) % 2 : Nat) : Int)) := by
            refine atI_of (k := 8 * k + 8 - (j + 1)) (by omega) ?_
            rw [nD_get, bitL_get _ _ _ c0]; rfl
          obtain ⟨bt, hbt⟩ : ∃ bt, bt = V / 2 ^ (8 * k + 8 - (j + 1)) % 2 := ⟨_, rfl⟩
          rw [← hbt] at ix st
          simp [bitL_len, c1, ix]
          exact ⟨t * 2 + bt, _, _, ⟨by norm_cast, rfl⟩, st.symm⟩
        · have c1 : ¬ 8 * (k : Int) + 7 - (j : Int) < (n : Int) := by omega
          have z0 : V / 2 ^ (8 * k + 8 - (j + 1)) = 0 := by
            refine Nat.div_eq_of_lt (Nat.lt_of_lt_of_le (by rw [hV]; exact vlt) (Nat.pow_le_pow_right (by decide) ?_))
            rw [← hn]; omega
          simp [bitL_len, c1]
          exact ⟨t * 2, _, _, ⟨by norm_cast, rfl⟩, by rw [st, z0]; rfl⟩
  · rintro k y0 e h hk ⟨-, acc, x, y, z, u, v, ⟨rfl, rfl⟩, q1, q2⟩
    obtain ⟨hkl, hy⟩ := List.getElem?_eq_some_iff.mp hk
    have hy2 : y0 < 2 ^ w := by rw [← hy]; exact hx _ (List.getElem_mem _)
    have dr : xs.drop k = y0 :: xs.drop (k + 1) := by rw [← hy]; exact List.drop_eq_getElem_cons hkl
    refine ⟨_, rfl, ?_⟩
    simp
    have sp : w * (xs.length - k) = w + w * (xs.length - (k + 1)) := by rw [show xs.length - k = (xs.length - (k + 1)) + 1 from by omega, Nat.mul_succ]; omega
    refine for_rngS w (B18 w xs k) (by simp) (by exact below_iff.mpr (by omega)) ⟨acc, y0, _, _, _, _, ⟨rfl, rfl⟩, q1, hy2, ?_⟩ ?_ ?_
    · rw [← q2, sp, dr]; rfl
    · rintro e h ⟨acc, m, y, z, u, v, ⟨rfl, rfl⟩, q1, hm, q2⟩
      simp
      rw [Nat.sub_self, Nat.pow_zero] at q2 hm
      have m0 : m = 0 := by omega
      rw [m0] at q2
      refine ⟨hkl, acc, _, _, _, _, _, ⟨rfl, rfl⟩, by rw [q1, Nat.mul_succ], ?_⟩
      rw [← q2]; simp
    · rintro j e h hj ⟨acc, m, y, z, u, v, ⟨rfl, rfl⟩, q1, hm, q2⟩
      refine ⟨_, rfl, ?_⟩
      have zl : acc.length < w * xs.length := by
        have := Nat.mul_le_mul_left w hkl
        rw [Nat.mul_succ] at this
        omega
      simp
      have hm' : m / 2 < 2 ^ (w - (j + 1)) := by
        rw [show w - j = (w - (j + 1)) + 1 from by omega, Nat.pow_succ] at hm
        omega
      refine ⟨by omega, acc ++ [m % 2], m / 2, _, _, _, _, ⟨by norm_cast, by rw [nD_snoc' acc _ (m % 2) (by omega)]⟩, by rw [List.length_append, q1]; rfl, hm', ?_⟩
      rw [← q2, show w - j = (w - (j + 1)) + 1 from by omega, show w - (j + 1) + 1 + w * (xs.length - (k + 1)) = w - (j + 1) + w * (xs.length - (k + 1)) + 1 from by omega, bitL, List.append_assoc]
      have ee := emitW (a := m) (v := valN w (xs.drop (k + 1))) (w := 1) (f := w - (j + 1) + 1) (by omega)
      rw [show (2 : Nat) ^ 1 = 2 from rfl, Nat.add_sub_cancel] at ee
      rw [ee.1, ee.2]; rfl
end Dk

set_option Elab.async false
set_option linter.all false
set_option maxRecDepth 100000
set_option maxHeartbeats 4000000
namespace Dk
open PySem PySem.Spec PyProof.Rows L2 Dd
def P8 (a e0 e1 : D) (at_ count w : Nat) (X : Nat) (bs : List Nat) (k j lo : Nat) (e : DE) (h : DH) : Prop := ∃ (held filled : Nat) (acc : List Nat) (x : Option D), (e = [some a, some (.int (at_ : Int)), some (.int (count : Int)), some (.int (w : Int)), some e0, some e1, some (.ref 0), some (.int (held : Int)), some (.int (filled : Int)), x] ∧ h = [.lst (nD acc)]) ∧
  held < 2 ^ filled ∧ (filled < lo ∨ acc.length = count) ∧ w * acc.length + filled = 8 * k ∧ acc.length ≤ count ∧ acc ++ digN w (count - acc.length) (held + 2 ^ filled * valN 8 (bs.drop k)) = digN w count X ∧ (held + 2 ^ filled * valN 8 (bs.drop k)) / 2 ^ (w * (count - acc.length)) = X / 2 ^ (w * count) ∧ filled ≤ j
theorem w_unpack (c : Nat) (data : List Nat) (at_ count w : Nat) (hb : ∀ x ∈ data, x < 256) (hd : data.length ≤ 1000000) (ha : at_ ≤ data.length) (w0 : w ≠ 0) (hw : w ≤ 64) : PC (pg.run (c + 1)) i_unpack [.vl (nD data), .int (at_ : Int), .int (count : Int), .int (w : Int)]
    (fun d => ∃ vs l, unp w count (data.drop at_) = some (vs, l) ∧ d = .tup [.vl (nD vs), .int ((at_ + l : Nat) : Int)]) fun c _ => c = 0 ∧ unp w count (data.drop at_) = none := by
  refine pc_of (f := f_unpack) rfl e_unpack rfl ?_
  have zz : Z = 16777216 := rfl
  have w1 : ¬ (w : Int) = 0 := by omega
  obtain ⟨nb, hnb⟩ : ∃ nb, nb = (count * w + 7) / 8 := ⟨_, rfl⟩
  obtain ⟨bs, hbs⟩ : ∃ bs, bs = (data.drop at_).take nb := ⟨_, rfl⟩
  obtain ⟨X, hX⟩ : ∃ X, X = valN 8 bs := ⟨_, rfl⟩
  have hun : unp w count (data.drop at_) = if nb ≤ data.length - at_ ∧ X < 2 ^ (w * count) then some (digN w count X, nb) else none := by
    unfold unp
    rw [← hnb, ← hbs, ← hX, List.length_drop]
  obtain ⟨o, ho⟩ : ∃ o, o = unp w count (data.drop at_) := ⟨_, rfl⟩
  rw [← ho] at hun ⊢
  obtain ⟨cw, hcw⟩ : ∃ v, v = count * w := ⟨_, rfl⟩
  have cwI : (count : Int) * (w : Int) = (cw : Int) := by rw [hcw]; norm_cast
  have e1 : ((cw : Int) + 7) / 8 = (nb : Int) := by rw [hnb, ← hcw]; norm_cast
  by_cases c0 : at_ + nb ≤ data.length
  · have c1 : ¬ ((data.length : Int) < (at_ : Int) + (nb : Int)) := by omega
    have bl : bs.length = nb := by rw [hbs, List.length_take, List.length_drop]; omega
    have hb2 : ∀ x ∈ bs, x < 256 := fun x hx => hb x (by rw [hbs] at hx; exact List.mem_of_mem_drop (List.mem_of_mem_take hx))
    have cz : count ≤ cw := by rw [hcw]; exact Nat.le_mul_of_pos_right _ (Nat.pos_of_ne_zero w0)
    have wv : w < 1000001 := by omega
    have slD : cutD (nD data) (some (at_ : Int)) (some ((at_ : Int) + (nb : Int))) = nD bs := by
      rw [show (at_ : Int) + (nb : Int) = ((at_ + nb : Nat) : Int) from by omega, cut_nat, nD_drop, nD_take, Nat.add_sub_cancel_left, hbs]
    simp [b_unpack, startD, f_unpack, w0, cwI, e1, c1]
    refine ⟨by omega, by omega, ?_⟩
    obtain ⟨v, hv⟩ : ∃ v : Int, v = 2 ^ w - 1 := ⟨_, rfl⟩
    rw [← hv]
    refine for_map bs (fun b : Nat => .int (b : Int)) (fun k e h => k ≤ nb ∧ P8 (.vl (nD data)) (.int ((at_ : Int) + (nb : Int))) (.int v) at_ count w X bs k 100 w e h) (by simp [slD]; rfl) ⟨Nat.zero_le _, 0, 0, [], none, ⟨rfl, rfl⟩, by decide, .inl (by omega), rfl, Nat.zero_le _, ?_, ?_, by decide⟩ ?_ ?_
    · rw [List.length_nil, Nat.sub_zero, List.drop_zero, Nat.pow_zero, Nat.zero_add, Nat.one_mul, ← hX]; rfl
    · rw [List.length_nil, Nat.sub_zero, List.drop_zero, Nat.pow_zero, Nat.zero_add, Nat.one_mul, ← hX]
    · rintro e h ⟨-, held, filled, acc, x, ⟨rfl, rfl⟩, q1, q2, q3, q4, q5, q6, -⟩
      rw [List.drop_length, valN, Nat.mul_zero, Nat.add_zero] at q5 q6
      rw [bl] at q3
      have full : acc.length = count := by
        rcases q2 with q2 | q2
        · refine Nat.le_antisymm q4 (Nat.le_of_not_lt fun lt => ?_)
          have h1 : w * (acc.length + 1) ≤ w * count := Nat.mul_le_mul_left _ lt
          rw [Nat.mul_succ] at h1
          have h2 : w * count = cw := by rw [hcw, Nat.mul_comm]
          omega
        · exact q2
      rw [full, Nat.sub_self, digN, List.append_nil] at q5
      rw [full, Nat.sub_self, Nat.mul_zero, Nat.pow_zero, Nat.div_one] at q6
      have hX2 : held = 0 ↔ X < 2 ^ (w * count) := by
        rw [q6, Nat.div_eq_zero_iff]
        have := Nat.two_pow_pos (w * count)
        constructor
        · rintro (z | z)
          · omega
          · exact z
        · exact .inr
      by_cases z0 : held = 0
      · have z1 := hX2.mp z0
        rw [if_pos ⟨by omega, z1⟩] at hun
        simp [z0]
        exact ⟨digN w count X, nb, hun, by rw [q5], rfl⟩
      · have z1 : ¬ X < 2 ^ (w * count) := fun z => z0 (hX2.mpr z)
        rw [if_neg fun z => z1 z.2] at hun
        simp [z0, hun]
    · rintro k y e h hk ⟨hk2, held, filled, acc, x, ⟨rfl, rfl⟩, q1, q2, q3, q4, q5, q6, hj⟩
      obtain ⟨hkl, hy⟩ := List.getElem?_eq_some_iff.mp hk
      have hy2 : y < 256 := by rw [← hy]; exact hb2 _ (List.getElem_mem _)
      have dr : bs.drop k = y :: bs.drop (k + 1) := by rw [← hy]; exact List.drop_eq_getElem_cons hkl
      refine ⟨_, rfl, ?_⟩
      have s1 : PySem.Builtin.bitOr (held : Int) ((y : Int) * 2 ^ filled) = ((held + y * 2 ^ filled : Nat) : Int) := by rw [shl_nat, or_add q1]
      obtain ⟨u, hu⟩ : ∃ u, u = held + y * 2 ^ filled := ⟨_, rfl⟩
      rw [← hu] at s1
      simp [s1]
      refine ⟨by omega, ?_⟩
      have hu2 : u < 2 ^ (filled + 8) := by
        rw [hu, Nat.pow_add]
        have : 2 ^ filled * (y + 1) ≤ 2 ^ filled * 2 ^ 8 := Nat.mul_le_mul_left _ hy2
        rw [Nat.mul_add] at this
        rw [Nat.mul_comm y]; omega
      have hX3 : held + 2 ^ filled * valN 8 (bs.drop k) = u + 2 ^ (filled + 8) * valN 8 (bs.drop (k + 1)) := by
        rw [dr, valN, hu, Nat.pow_add, Nat.mul_add, Nat.mul_comm y, Nat.mul_assoc]
        simp only [Nat.add_assoc]
      rw [hX3] at q5 q6
      refine wp_while (N := filled + 8) (fun n e h => P8 (.vl (nD data)) (.int ((at_ : Int) + (nb : Int))) (.int v) at_ count w X bs (k + 1) n 10000000 e h) (by omega) ⟨u, filled + 8, acc, _, ⟨rfl, rfl⟩, hu2, .inl (by omega), by omega, q4, q5, q6, Nat.le_refl _⟩ ?_
      clear q1 q2 q3 q4 q5 q6 hX3 hu2 s1
      rintro n e h ⟨held, filled, acc, x, ⟨rfl, rfl⟩, q1, q2, q3, q4, q5, q6, hj⟩
      by_cases d0 : w ≤ filled
      · have d1 : (w : Int) ≤ (filled : Int) := by omega
        by_cases d2 : acc.length < count
        · obtain ⟨n, rfl⟩ : ∃ j, n = j + 1 := by
            cases n with
            | zero => omega
            | succ k => exact ⟨k, rfl⟩
          have mk : PySem.Builtin.bitAnd (held : Int) v = ((held % 2 ^ w : Nat) : Int) := by rw [hv, m_mask]; norm_cast
          have sr : (held : Int) / 2 ^ w = ((held / 2 ^ w : Nat) : Int) := by norm_cast
          obtain ⟨m, hm⟩ : ∃ m, m = held % 2 ^ w := ⟨_, rfl⟩
          obtain ⟨q, hq⟩ : ∃ q, q = held / 2 ^ w := ⟨_, rfl⟩
          rw [← hm] at mk
          rw [← hq] at sr
          have d3 : ¬ count ≤ acc.length := by omega
          simp [d0, d1, d2, d3, mk, sr]
          obtain ⟨r, hr⟩ : ∃ r, count - acc.length = r + 1 := ⟨count - acc.length - 1, by omega⟩
          have hr' : count - (acc ++ [m]).length = r := by rw [List.length_append]; show count - (acc.length + 1) = r; omega
          have ee := emitW (a := held) (f := filled) (v := valN 8 (bs.drop (k + 1))) d0
          rw [hr] at q5 q6
          refine ⟨by omega, q, filled - w, acc ++ [m], _, ⟨by rw [show ((filled - w : Nat) : Int) = (filled : Int) - (w : Int) from by omega], by rw [nD_snoc]⟩, by rw [hq]; exact div_lt_pow d0 q1, .inl (by omega), ?_, ?_, ?_, ?_, by omega⟩
          · rw [List.length_append, ← q3]; show w * (acc.length + 1) + _ = _; rw [Nat.mul_succ]; omega
          · rw [List.length_append]; show acc.length + 1 ≤ count; omega
          · rw [← q5, hr', digN, ee.1, ee.2, hm, hq, List.append_assoc]; rfl
          · rw [← q6, hr', hq, ← ee.2, Nat.div_div_eq_div_mul, ← Nat.pow_add, Nat.mul_succ, Nat.add_comm w]
        · have full : acc.length = count := by omega
          have h2 : w * count = cw := by rw [hcw, Nat.mul_comm]
          have zf : filled < 100 := by rw [full] at q3; omega
          have q2' : filled < w ∨ acc.length = count := .inr full
          have d3 : count ≤ acc.length := by omega
          simp [d0, d1, d2, d3]
          exact ⟨by omega, held, filled, acc, x, ⟨rfl, rfl⟩, q1, q2', q3, q4, q5, q6, by omega⟩
      · have d1 : ¬ (w : Int) ≤ (filled : Int) := by omega
        simp [d0, d1]
        exact ⟨by omega, held, filled, acc, x, ⟨rfl, rfl⟩, q1, .inl (by omega), q3, q4, q5, q6, by omega⟩
  · have c1 : ((data.length : Int) < (at_ : Int) + (nb : Int)) := by omega
    rw [if_neg (by omega)] at hun
    simp [b_unpack, startD, f_unpack, w0, cwI, e1, c1, hun]
    omega
end Dk

set_option Elab.async false
set_option linter.all false
set_option maxRecDepth 100000
set_option maxHeartbeats 4000000
namespace Dk
open PySem PySem.Spec PyProof.Rows L2 Dd
theorem for_rng2S {a b' : M D} {t : Tg} {b : MS} {e : DE} {h : DH} {Q : Fl → DE → DH → Prop} (lo n : Nat) (hi : Int) (Inv : Nat → DE → DH → Prop)
    (w : WE a e h (fun d h1 => d = .int (lo : Int) ∧ h1 = h) fun _ _ _ => False) (w2 : WE b' e h (fun d h1 => d = .int hi ∧ h1 = h) fun _ _ _ => False) (hn : (hi - (lo : Int)).toNat = n) (hz : lo ≤ Z) (hz2 : n ≤ Z) (hz3 : 0 ≤ hi) (i0 : Inv 0 e h) (hd : ∀ e h, Inv n e h → Q .next e h)
    (step : ∀ k e h, k < n → Inv k e h → ∃ e1, t.put (.int ((lo + k : Nat) : Int)) h e = some e1 ∧ WP b e1 h (Turned Q (Inv (k + 1)))) : WP (forS (bnd a fun x => bnd b' fun y => lift (rng2 x y)) t b) e h Q := by
  have zz : Z = 16777216 := rfl
  refine wp_for ?_
  rw [we_bnd]
  refine w.mono (fun d h1 x => ?_) fun _ _ _ x => x.elim
  obtain ⟨rfl, rfl⟩ := x
  rw [we_bnd]
  refine w2.mono (fun d h1 x => ?_) fun _ _ _ x => x.elim
  obtain ⟨rfl, rfl⟩ := x
  rw [we_lift, wo_iff]
  have c : (in62 (lo : Int) && in62 hi) = true := by
    rw [Bool.and_eq_true]
    exact ⟨in62_nat hz, below_iff.mpr (by omega)⟩
  have z : rng2 (.int (lo : Int)) (.int hi) h1 = some (.items ((List.range n).map fun k => D.int ((lo : Int) + (k : Nat))), h1) := by
    unfold rng2
    dsimp only
    rw [if_pos c, hn]; rfl
  refine ⟨_, _, z, ?_⟩
  have len : ((List.range n).map fun k => D.int ((lo : Int) + (k : Nat))).length = n := by rw [List.length_map, List.length_range]
  refine ⟨_, rfl, Inv, i0, fun e h i => hd e h (by rw [len] at i; exact i), fun k d e h hk i => ?_⟩
  obtain ⟨rfl, hlt⟩ := rngs_turn hk
  obtain ⟨e1, p, q⟩ := step k e h hlt i
  exact ⟨e1, by rw [← p]; congr 2, q.mono fun f e h z => td_iff.mp z⟩
theorem for_rng3S {a b' c' : M D} {t : Tg} {b : MS} {e : DE} {h : DH} {Q : Fl → DE → DH → Prop} (n st : Nat) (hi : Nat) (Inv : Nat → DE → DH → Prop)
    (w : WE a e h (fun d h1 => d = .int 0 ∧ h1 = h) fun _ _ _ => False) (w2 : WE b' e h (fun d h1 => d = .int (hi : Int) ∧ h1 = h) fun _ _ _ => False) (w3 : WE c' e h (fun d h1 => d = .int (st : Int) ∧ h1 = h) fun _ _ _ => False) (hn : (hi + st - 1) / st = n) (hz : hi ≤ Z) (s0 : 0 < st) (s1 : st ≤ Z) (i0 : Inv 0 e h) (hd : ∀ e h, Inv n e h → Q .next e h)
    (step : ∀ k e h, k < n → Inv k e h → ∃ e1, t.put (.int ((k * st : Nat) : Int)) h e = some e1 ∧ WP b e1 h (Turned Q (Inv (k + 1)))) : WP (forS (bnd a fun x => bnd b' fun y => bnd c' fun z => lift (rng3 x y z)) t b) e h Q := by
  have zz : Z = 16777216 := rfl
  refine wp_for ?_
  rw [we_bnd]
  refine w.mono (fun d h1 x => ?_) fun _ _ _ x => x.elim
  obtain ⟨rfl, rfl⟩ := x
  rw [we_bnd]
  refine w2.mono (fun d h1 x => ?_) fun _ _ _ x => x.elim
  obtain ⟨rfl, rfl⟩ := x
  rw [we_bnd]
  refine w3.mono (fun d h1 x => ?_) fun _ _ _ x => x.elim
  obtain ⟨rfl, rfl⟩ := x
  rw [we_lift, wo_iff]
  have c : (leI 0 0 && leI 0 0 && leI 0 (hi : Int) && in62 (hi : Int) && leI 1 (st : Int) && below (st : Int) 1073741824) = true := by
    simp only [Bool.and_eq_true, leI_eq, decide_eq_true_eq]
    exact ⟨⟨⟨⟨⟨by decide, by decide⟩, by omega⟩, in62_nat hz⟩, by omega⟩, below_iff.mpr (by omega)⟩
  have z : rng3 (.int 0) (.int (hi : Int)) (.int (st : Int)) h1 = some (.items ((List.range n).map fun k => D.int ((k : Nat) * (st : Int))), h1) := by
    unfold rng3
    dsimp only
    rw [if_pos c, show (((hi : Int) + (st : Int) - 1) / (st : Int)).toNat = n from by
      rw [← hn, show (hi : Int) + (st : Int) - 1 = ((hi + st - 1 : Nat) : Int) from by omega]; norm_cast]
    rfl
  refine ⟨_, _, z, ?_⟩
  have len : ((List.range n).map fun k => D.int ((k : Nat) * (st : Int))).length = n := by rw [List.length_map, List.length_range]
  refine ⟨_, rfl, Inv, i0, fun e h i => hd e h (by rw [len] at i; exact i), fun k d e h hk i => ?_⟩
  rw [List.getElem?_map] at hk
  obtain ⟨j, e1, e2⟩ := Dd.map_some hk
  obtain ⟨h1, h2⟩ := List.getElem?_eq_some_iff.mp e1
  rw [List.length_range] at h1
  rw [List.getElem_range] at h2
  subst h2 e2
  obtain ⟨e1, p, q⟩ := step k e h h1 i
  exact ⟨e1, by rw [← p]; congr 2, q.mono fun f e h z => td_iff.mp z⟩

/-- d is a list of xs, named or not -/
def LV (h : DH) (d : D) (xs : List D) : Prop := d = .vl xs ∨ ∃ i, d = .ref i ∧ lstAt h i = some xs
theorem lv_ref {h : DH} {i : Nat} {xs : List D} (l : lstAt h i = some xs) : LV h (.ref i) xs := .inr ⟨i, rfl, l⟩
theorem lv_vl {h : DH} {xs : List D} : LV h (.vl xs) xs := .inl rfl
section
variable {h : DH} {d : D} {xs ys : List D} {Q : D → DH → Prop}
theorem lv_add (l : LV h d xs) : WO (addD d (.vl ys)) h Q ↔ xs.length + ys.length ≤ 16777216 ∧ Q (.ref h.length) (h ++ [.lst (xs ++ ys)]) := by
  rcases l with rfl | ⟨i, rfl, l⟩
  · exact w_addl
  · rw [w_addrl]
    exact ⟨fun ⟨zs, z, w⟩ => by rw [l] at z; cases z; exact w, fun w => ⟨_, l, w⟩⟩
theorem lv_deep (l : LV h d xs) (p : pureDs xs = true) {Q : D → Prop} : DeepB 0 h d Q ↔ Q (.vl xs) := by
  rcases l with rfl | ⟨i, rfl, l⟩
  · exact db_pure p
  · unfold lstAt at l
    split at l
    · rename_i ys e
      cases l
      exact db_lst (Nat.not_lt_zero _) e p
    · rename_i ys e
      cases l
      exact db_fl (Nat.not_lt_zero _) e p
    · cases l
end
@[simp] theorem db_r0 {xs : List D} {g : DH} (p : pureDs xs = true) {Q : D → Prop} : DeepB 0 (.lst xs :: g) (.ref 0) Q ↔ Q (.vl xs) := db_lst (Nat.not_lt_zero _) rfl p
@[simp] theorem db_r1 {a : Ob} {xs : List D} {g : DH} (p : pureDs xs = true) {Q : D → Prop} : DeepB 0 (a :: .lst xs :: g) (.ref 1) Q ↔ Q (.vl xs) := db_lst (Nat.not_lt_zero _) rfl p
@[simp] theorem db_r2 {a b : Ob} {xs : List D} {g : DH} (p : pureDs xs = true) {Q : D → Prop} : DeepB 0 (a :: b :: .lst xs :: g) (.ref 2) Q ↔ Q (.vl xs) := db_lst (Nat.not_lt_zero _) rfl p
@[simp] theorem nD_gete (a : List Nat) (k : Nat) (h : k < (nD a).length) : (nD a)[k] = .int ((a[k]'(by rw [nD_len] at h; exact h) : Nat) : Int) := by
  have := nD_get a k
  rw [List.getElem?_eq_getElem h, List.getElem?_eq_getElem (by rw [nD_len] at h; exact h)] at this
  exact Option.some.inj this
theorem pc_to {F : Call} {i : Nat} {ds : List D} {Q Q' : D → Prop} {X X' : Nat → D → Prop} (w : PC F i ds Q X) (q : ∀ d, Q d → Q' d) (x : ∀ c p, scalT p = true → X c p → X' c p) : PC F i ds Q' X' := by
  obtain ⟨r, a, b⟩ := w
  refine ⟨r, a, ?_⟩
  cases r with
  | ok d => exact q _ b
  | ex c p =>
    refine x _ _ ?_ b
    unfold pcall at a
    split at a
    · rename_i d h e
      cases hq : deep 0 h deepN d with
      | none => rw [hq] at a; cases a
      | some y => rw [hq] at a; cases a
    · rename_i c' p' h e
      split at a
      · rename_i hs
        cases a
        exact hs
      · cases a
    · cases a
@[simp] theorem p_rep {n : Nat} {d : D} (h : pureD d = true) : pureDs (List.replicate n d) = true := by
  rw [p_all]
  intro x hx
  rw [List.eq_of_mem_replicate hx]; exact h
theorem pn_ok {c n : Nat} {v : Int} (hv : v = (n : Int)) (hn : n < 34359738368) {Q : D → Prop} {X : Nat → D → Prop} : PC (pg.run (c + 1)) i_put_number [.int v] Q X ↔ Q (.vl (nD (numB n))) := by
  subst hv; exact pc_ok (w_put_number c n hn)
theorem ln_ok {c n : Nat} {v : Int} (hv : v = (n : Int)) (hn : n < 34359738368) {Q : D → Prop} {X : Nat → D → Prop} : PC (pg.run (c + 1)) i_law_number [.int v] Q X ↔ Q (.vl (nD (numB n))) := by
  subst hv; exact pc_ok (w_law_number c n hn)
theorem atD? {xs : List Nat} {i : Int} {k x : Nat} (hi : i = (k : Int)) (hk : xs[k]? = some x) : L2.atI (nD xs) i = some (.int (x : Int)) := atI_of hi (by rw [nD_get, hk]; rfl)
theorem w_end_of_equals (c : Nat) (xs : List Nat) (k : Nat) (hk : k < xs.length) (hz : xs.length ≤ 999999) : PC (pg.run (c + 1)) i_end_of_equals [.vl (nD xs), .int (k : Int)] (fun d => d = .int ((k + run (xs.drop k) : Nat) : Int)) fun _ _ => False := by
  refine pc_of (f := f_end_of_equals) rfl e_end_of_equals rfl ?_
  obtain ⟨r1, r2, r3, r4⟩ := run_spec hk
  obtain ⟨r, hr⟩ : ∃ r, r = run (xs.drop k) := ⟨_, rfl⟩
  rw [← hr] at r1 r2 r3 r4 ⊢
  obtain ⟨x, hx⟩ : ∃ x, x = xs[k] := ⟨_, rfl⟩
  rw [← hx] at r3 r4
  simp [b_end_of_equals, startD, f_end_of_equals]
  refine wp_while (N := r - 1) (fun n e hh => ∃ j, n + j = r ∧ 1 ≤ j ∧ e = [some (.vl (nD xs)), some (.int (k : Int)), some (.int ((k + j : Nat) : Int))] ∧ hh = []) (by omega) ⟨1, by omega, Nat.le_refl _, rfl, rfl⟩ ?_
  rintro n e h ⟨j, hj, j1, rfl, rfl⟩
  have ax : L2.atI (nD xs) (k : Int) = some (.int (x : Int)) := atD? rfl (r3 0 (by omega))
  by_cases c0 : j < r
  · have c1 : (k : Int) + (j : Int) < (xs.length : Int) := by omega
    have ay : L2.atI (nD xs) ((k : Int) + (j : Int)) = some (.int (x : Int)) := atD? (k := k + j) (by omega) (r3 j c0)
    simp [w_ixl, c1, ax, ay]
    exact ⟨n - 1, by omega, j + 1, by omega, by omega, by omega⟩
  · have jr : j = r := by omega
    subst jr
    by_cases c2 : k + j < xs.length
    · have c1 : (k : Int) + (j : Int) < (xs.length : Int) := by omega
      obtain ⟨y, hy⟩ : ∃ y, xs[k + j]? = some y := ⟨_, List.getElem?_eq_getElem c2⟩
      have ay : L2.atI (nD xs) ((k : Int) + (j : Int)) = some (.int (y : Int)) := atD? (k := k + j) (by omega) hy
      have ne : ¬ (y : Int) = (x : Int) := fun z => r4 (by rw [hy]; congr 1; omega)
      have ne2 : ¬ y = x := fun z => ne (by rw [z])
      simp [w_ixl, c1, ax, ay, ne, ne2]
    · have c1 : ¬ (k : Int) + (j : Int) < (xs.length : Int) := by omega
      simp [w_ixl, c1]
theorem w_law_run (c : Nat) (xs : List Nat) (k most : Nat) (hk : k < xs.length) (hz : xs.length ≤ 999999) (hm : most ≤ 999999) : PC (pg.run (c + 1)) i_law_run [.vl (nD xs), .int (k : Int), .int (most : Int)] (fun d => d = .int ((min (run (xs.drop k)) most : Nat) : Int)) fun _ _ => False := by
  refine pc_of (f := f_law_run) rfl e_law_run rfl ?_
  have zz : Z = 16777216 := rfl
  obtain ⟨r1, r2, r3, r4⟩ := run_spec hk
  obtain ⟨r, hr⟩ : ∃ r, r = run (xs.drop k) := ⟨_, rfl⟩
  rw [← hr] at r1 r2 r3 r4 ⊢
  obtain ⟨x, hx⟩ : ∃ x, x = xs[k] := ⟨_, rfl⟩
  rw [← hx] at r3 r4
  simp [b_law_run, startD, f_law_run]
  have ax : L2.atI (nD xs) (k : Int) = some (.int (x : Int)) := atD? rfl (r3 0 (by omega))
  obtain ⟨hi, hhi⟩ : ∃ hi : Int, hi = if (k : Int) + (most : Int) < (xs.length : Int) then (k : Int) + (most : Int) else (xs.length : Int) := ⟨_, rfl⟩
  refine for_rng2S k (min most (xs.length - k)) hi (fun j e hh => j ≤ r ∧ ∃ y, e = [some (.vl (nD xs)), some (.int (k : Int)), some (.int (most : Int)), some (.int (j : Int)), y] ∧ hh = []) ?_ ?_ (by rw [hhi]; split <;> omega) (by omega) (by omega) (by rw [hhi]; split <;> omega) ⟨by omega, _, rfl, rfl⟩ ?_ ?_
  · simp
  · simp [hhi]
  · rintro e h ⟨hj, y, rfl, rfl⟩
    simp
    omega
  · rintro j e h hj ⟨hjr, y, rfl, rfl⟩
    refine ⟨_, rfl, ?_⟩
    by_cases c0 : j < r
    · have ay : L2.atI (nD xs) ((k : Int) + (j : Int)) = some (.int (x : Int)) := atD? (k := k + j) (by omega) (r3 j c0)
      simp [w_ixl, ax, ay]
      omega
    · have jr : j = r := by omega
      subst jr
      have c2 : k + j < xs.length := by omega
      obtain ⟨y, hy⟩ : ∃ y, xs[k + j]? = some y := ⟨_, List.getElem?_eq_getElem c2⟩
      have ay : L2.atI (nD xs) ((k : Int) + (j : Int)) = some (.int (y : Int)) := atD? (k := k + j) (by omega) hy
      have ne : ¬ (y : Int) = (x : Int) := fun z => r4 (by rw [hy]; congr 1; omega)
      have ne2 : ¬ y = x := fun z => ne (by rw [z])
      simp [w_ixl, ax, ay, ne, ne2]
      omega
theorem cut_over {xs : List Nat} {a b : Nat} : Dd.cutD (nD xs) (some (a : Int)) (some (b : Int)) = nD ((xs.drop a).take (b - a)) := by rw [cut_nat, nD_drop, nD_take]
theorem w_put_pieces (c w : Nat) (xs : List Nat) (hx : ∀ x ∈ xs, x < 2 ^ w) (hw : w ≤ 64) (hz : xs.length ≤ 999999) : PC (pg.run (c + 2)) i_put_pieces [.vl (nD xs), .int (w : Int)] (fun d => d = .vl (nD (pieces w xs))) fun _ _ => False := by
  refine pc_of (f := f_put_pieces) rfl e_put_pieces rfl ?_
  have zz : Z = 16777216 := rfl
  have pl := pieces_len hw _ xs (Nat.le_refl _)
  simp [b_put_pieces, startD, f_put_pieces]
  refine for_rng3S ((xs.length + 32 - 1) / 32) 32 xs.length (fun k e h => ∃ (acc : List Nat) (x y : Option D), (e = [some (.vl (nD xs)), some (.int (w : Int)), some (.ref 0), x, y] ∧ h = [.lst (nD acc)]) ∧ acc ++ pieces w (xs.drop (k * 32)) = pieces w xs) ?_ ?_ ?_ rfl (by omega) (by decide) (by omega) ⟨[], _, _, ⟨rfl, rfl⟩, by rw [Nat.zero_mul]; rfl⟩ ?_ ?_
  · simp
  · simp
  · simp
  · rintro e h ⟨acc, x, y, ⟨rfl, rfl⟩, q⟩
    rw [List.drop_eq_nil_of_le (by omega), pieces, if_pos List.length_nil, List.append_nil] at q
    simp [q]
  · rintro k e h hk ⟨acc, x, y, ⟨rfl, rfl⟩, q⟩
    refine ⟨_, rfl, ?_⟩
    obtain ⟨s, hs⟩ : ∃ s, s = (xs.drop (k * 32)).take 32 := ⟨_, rfl⟩
    have cut : cutD (nD xs) (some ((k : Int) * 32)) (some ((k : Int) * 32 + 32)) = nD s := by
      rw [show (k : Int) * 32 = ((k * 32 : Nat) : Int) from by omega, show ((k * 32 : Nat) : Int) + 32 = ((k * 32 + 32 : Nat) : Int) from by omega, cut_over, Nat.add_sub_cancel_left, hs]
    have sl : s.length ≤ 32 := by rw [hs, List.length_take]; omega
    have dl : ¬ (xs.drop (k * 32)).length = 0 := by rw [List.length_drop]; omega
    rw [pieces, if_neg dl, ← hs, List.drop_drop] at q
    have ql := congrArg List.length q
    simp only [List.length_append] at ql
    have pcl : (numB (2 * s.length + 1)).length + (packB w s).length = (pc w s).length := by unfold pc; rw [List.length_append]
    simp [cut]
    refine (pn_ok (n := 2 * s.length + 1) (by omega) (by omega)).mpr ?_
    refine (pc_ok (w_pack c w s (fun y hy => hx y (by rw [hs] at hy; exact List.mem_of_mem_drop (List.mem_of_mem_take hy))) hw (by have := Nat.mul_le_mul hw sl; omega))).mpr ?_
    simp
    refine ⟨by omega, by omega, acc ++ pc w s, ?_, ?_⟩
    · simp only [pc, nD_app]
    · rw [← q, List.append_assoc, show (k + 1) * 32 = k * 32 + 32 from by omega]
end Dk

set_option Elab.async false
set_option linter.all false
set_option maxRecDepth 100000
set_option maxHeartbeats 4000000
namespace Dk
open PySem PySem.Spec PyProof.Rows L2 Dd
def P9 (a : D) (w : Nat) (most : Int) (xs : List Nat) (n : Nat) (e : DE) (h : DH) : Prop := ∃ (acc : List Nat) (k b : Nat) (x : Option D), (e = [some a, some (.int most), some (.int (w : Int)), some (.ref 0), some (.int (k : Int)), some (.int (b : Int)), x] ∧ h = [.lst (nD acc)]) ∧ k ≤ b ∧ (b ≤ xs.length ∧ xs.length ≤ b + n) ∧ acc ++ lawL w (xs.drop k) = lawL w xs ∧ ∀ j, k ≤ j → j < b → run (xs.drop j) < 4
theorem w_put_levels (c most : Nat) (xs : List Nat) (hx : ∀ x ∈ xs, x ≤ most) (hw : most < 34359738368) (hz : xs.length ≤ 999999) : PC (pg.run (c + 3)) i_put_levels [.vl (nD xs), .int (most : Int)] (fun d => d = .vl (nD (levB most xs))) fun _ _ => False := by
  refine pc_of (f := f_put_levels) rfl e_put_levels rfl ?_
  have zz : Z = 16777216 := rfl
  have wle : bitsN most ≤ 64 := Nat.le_trans (bits_le (k := 35) hw) (by decide)
  have pl := lawL_len wle _ xs (Nat.le_refl _) (by omega) fun x m => by have := hx x m; omega
  unfold levB
  simp [b_put_levels, startD, f_put_levels]
  refine (pc_ok (w_width_of (c + 1) most)).mpr ?_
  by_cases w0 : bitsN most = 0
  · simp [w0]; rfl
  simp [w0]
  obtain ⟨w, hw'⟩ : ∃ w, w = bitsN most := ⟨_, rfl⟩
  rw [← hw'] at wle pl w0 ⊢
  have hx2 : ∀ x ∈ xs, x < 2 ^ w := fun x m => by rw [hw']; exact Nat.lt_of_le_of_lt (hx x m) (bits_lt most)
  refine wp_while (N := xs.length) (P9 (.vl (nD xs)) w (most : Int) xs) (by omega) ⟨[], 0, 0, _, ⟨rfl, rfl⟩, Nat.le_refl _, ⟨Nat.zero_le _, by omega⟩, by rw [List.drop_zero]; rfl, fun j _ z => by omega⟩ ?_
  rintro n e h ⟨acc, a, b, x, ⟨rfl, rfl⟩, hab, hb, q, hs⟩
  have ql := congrArg List.length q
  simp only [List.length_append] at ql
  by_cases c0 : b < xs.length
  · have c1 : (b : Int) < (xs.length : Int) := by omega
    obtain ⟨n, rfl⟩ : ∃ j, n = j + 1 := by
      cases n with
      | zero => omega
      | succ k => exact ⟨k, rfl⟩
    simp [c0, c1]
    refine (pc_ok (w_end_of_equals (c + 1) xs b c0 hz)).mpr ?_
    obtain ⟨r1, r2, r3, r4⟩ := run_spec c0
    have rd : ∀ j, j < run (xs.drop b) → run (xs.drop (b + j)) = run (xs.drop b) - j := fun j hj => by rw [← List.drop_drop]; exact run_drop hj
    obtain ⟨y, hy⟩ : ∃ y, y = xs[b] := ⟨_, rfl⟩
    have hy2 : y ≤ most := by rw [hy]; exact hx _ (List.getElem_mem _)
    have dr : xs.drop b = y :: xs.drop (b + 1) := by rw [hy]; exact List.drop_eq_getElem_cons c0
    rw [← hy] at r3 r4
    obtain ⟨r, hr⟩ : ∃ r, r = run (xs.drop b) := ⟨_, rfl⟩
    have ay : (nD xs)[b]? = some (.int (y : Int)) := by rw [nD_get, List.getElem?_eq_getElem c0, ← hy]; rfl
    rw [← hr] at r1 r2 r3 r4 rd ⊢
    by_cases c2 : 4 ≤ r
    · have c4 : (4 : Int) ≤ (b : Int) + (r : Int) - (b : Int) := by omega
      obtain ⟨s, hs'⟩ : ∃ s, s = (xs.drop a).take (b - a) := ⟨_, rfl⟩
      have cut : cutD (nD xs) (some (a : Int)) (some (b : Int)) = nD s := by rw [cut_over, hs']
      have mid := lawL_mid (w := w) hab (Nat.le_of_lt c0) hs (.inr (by omega))
      rw [← hs'] at mid
      have lr : lawL w (xs.drop b) = numB (2 * r) ++ numB y ++ lawL w (xs.drop (b + r)) := by
        have dd : xs.drop (b + r) = (y :: xs.drop (b + 1)).drop r := by rw [← dr, List.drop_drop]
        rw [dr] at hr ⊢
        rw [lawL_run (by omega), ← hr, dd]
      have q' := q
      rw [mid, lr] at q'
      have ql2 := congrArg List.length q'
      simp only [List.length_append] at ql2
      have sl : s.length ≤ xs.length := by rw [hs', List.length_take, List.length_drop]; omega
      simp [c4, cut, ← hy]
      refine (pc_ok (w_put_pieces c w s (fun y hy => hx2 y (by rw [hs'] at hy; exact List.mem_of_mem_drop (List.mem_of_mem_take hy))) wle (by omega))).mpr ?_
      simp
      refine ⟨by omega, ?_⟩
      refine (pn_ok (n := 2 * r) (by omega) (by omega)).mpr ?_
      refine (pn_ok (n := y) rfl (by omega)).mpr ?_
      simp
      refine ⟨by omega, by omega, acc ++ pieces w s ++ (numB (2 * r) ++ numB y), b + r, b + r, _, ⟨by norm_cast, by simp only [nD_app, List.append_assoc]⟩, Nat.le_refl _, by omega, by rw [← q']; simp only [List.append_assoc], fun j _ z => by omega⟩
    · have c4 : ¬ (4 : Int) ≤ (b : Int) + (r : Int) - (b : Int) := by omega
      simp [c4]
      refine ⟨acc, a, b + r, _, ⟨by norm_cast, rfl⟩, by omega, by omega, q, fun j j1 j2 => ?_⟩
      by_cases j3 : j < b
      · exact hs j j1 j3
      · have := rd (j - b) (by omega)
        rw [show b + (j - b) = j from by omega] at this
        omega
  · have c1 : ¬ (b : Int) < (xs.length : Int) := by omega
    have bl : b = xs.length := by omega
    obtain ⟨s, hs'⟩ : ∃ s, s = xs.drop a := ⟨_, rfl⟩
    have mid := lawL_mid (w := w) hab (by omega) hs (.inl (List.drop_eq_nil_of_le (by omega)))
    rw [List.take_of_length_le (by rw [List.length_drop]; omega), List.drop_eq_nil_of_le (by omega : xs.length ≤ b), lawL_nil, List.append_nil, ← hs'] at mid
    have q' := q
    rw [← hs', mid] at q'
    have ql2 := congrArg List.length q'
    simp only [List.length_append] at ql2
    have sl : s.length ≤ xs.length := by rw [hs', List.length_drop]; omega
    have cut : cutD (nD xs) (some (a : Int)) none = nD s := by rw [cut_from, nD_drop, hs']
    simp [c0, c1, cut]
    refine (pc_ok (w_put_pieces c w s (fun y hy => hx2 y (by rw [hs'] at hy; exact List.mem_of_mem_drop hy)) wle (by omega))).mpr ?_
    simp
    exact ⟨by omega, by rw [← q', nD_app]⟩
def P20 (v : D) (w : Nat) (most : Int) (xs : List Nat) (n : Nat) (e : DE) (h : DH) : Prop := ∃ (acc : List Nat) (d : D) (b : Nat) (x y : Option D), (e = [some v, some (.int most), some (.int (w : Int)), some d, some (.int (b : Int)), x, y] ∧ h = [.lst []]) ∧ LV [.lst []] d (nD acc) ∧ (b ≤ xs.length ∧ xs.length ≤ b + n) ∧ acc ++ lawL w (xs.drop b) = lawL w xs ∧ (w = 0 → acc = [])
def Q20 (v : D) (w : Nat) (most : Int) (d : D) (b : Nat) (x : Option D) (xs : List Nat) (n : Nat) (e : DE) (h : DH) : Prop := ∃ (j : Nat), (e = [some v, some (.int most), some (.int (w : Int)), some d, some (.int (b : Int)), x, some (.int ((b + j : Nat) : Int))] ∧ h = [.lst []]) ∧ 1 ≤ j ∧ j + n = 32 ∧ b + j ≤ xs.length ∧ pe j (xs.drop (b + j)) = pe 1 (xs.drop (b + 1))
theorem w_law_levels (c most : Nat) (xs : List Nat) (hx : ∀ x ∈ xs, x ≤ most) (hw : most < 34359738368) (hz : xs.length ≤ 999999) : PC (pg.run (c + 2)) i_law_levels [.vl (nD xs), .int (most : Int)] (fun d => d = .vl (nD (levB most xs))) fun _ _ => False := by
  refine pc_of (f := f_law_levels) rfl e_law_levels rfl ?_
  have zz : Z = 16777216 := rfl
  have wle : bitsN most ≤ 64 := Nat.le_trans (bits_le (k := 35) hw) (by decide)
  have pl := lawL_len wle _ xs (Nat.le_refl _) (by omega) fun x m => by have := hx x m; omega
  unfold levB
  simp [b_law_levels, startD, f_law_levels]
  refine (pc_ok (w_law_width c most (by omega))).mpr ?_
  obtain ⟨w, hw'⟩ : ∃ w, w = bitsN most := ⟨_, rfl⟩
  rw [← hw'] at wle pl ⊢
  have hx2 : ∀ x ∈ xs, x < 2 ^ w := fun x m => by rw [hw']; exact Nat.lt_of_le_of_lt (hx x m) (bits_lt most)
  refine wp_while (N := xs.length) (P20 (.vl (nD xs)) w (most : Int) xs) (by omega) ⟨[], .ref 0, 0, _, _, ⟨rfl, rfl⟩, lv_ref rfl, ⟨Nat.zero_le _, by omega⟩, by rw [List.drop_zero]; rfl, fun _ => rfl⟩ ?_
  rintro n e h ⟨acc, d, b, x, y, ⟨rfl, rfl⟩, ld, hb, q, qw⟩
  have ql := congrArg List.length q
  simp only [List.length_append] at ql
  have dd : ∀ Q : D → Prop, DeepB 0 [.lst []] d Q ↔ Q (.vl (nD acc)) := fun Q => lv_deep ld (nD_pure acc)
  by_cases w0 : w = 0
  · subst w0
    have qw := qw rfl
    subst qw
    by_cases c0 : b < xs.length
    · simp [c0, dd]
    · simp [c0, dd]
  have w1 : 0 < w := by omega
  by_cases c0 : b < xs.length
  · have c1 : (b : Int) < (xs.length : Int) := by omega
    obtain ⟨n, rfl⟩ : ∃ j, n = j + 1 := by
      cases n with
      | zero => omega
      | succ k => exact ⟨k, rfl⟩
    simp [c0, c1, w1]
    refine (pc_ok (w_law_run c xs b xs.length c0 hz hz)).mpr ?_
    obtain ⟨r1, r2, r3, r4⟩ := run_spec c0
    obtain ⟨y, hy⟩ : ∃ y, y = xs[b] := ⟨_, rfl⟩
    have hy2 : y ≤ most := by rw [hy]; exact hx _ (List.getElem_mem _)
    have dr : xs.drop b = y :: xs.drop (b + 1) := by rw [hy]; exact List.drop_eq_getElem_cons c0
    rw [← hy] at r3 r4
    obtain ⟨r, hr⟩ : ∃ r, r = run (xs.drop b) := ⟨_, rfl⟩
    have ay : (nD xs)[b]? = some (.int (y : Int)) := by rw [nD_get, List.getElem?_eq_getElem c0, ← hy]; rfl
    rw [← hr] at r1 r2 r3 r4 ⊢
    rw [show min r xs.length = r from by omega]
    by_cases c2 : 4 ≤ r
    · have c3 : (4 : Int) ≤ (r : Int) := by omega
      have lr : lawL w (xs.drop b) = numB (2 * r) ++ numB y ++ lawL w (xs.drop (b + r)) := by
        have dd : xs.drop (b + r) = (y :: xs.drop (b + 1)).drop r := by rw [← dr, List.drop_drop]
        rw [dr] at hr ⊢
        rw [lawL_run (by omega), ← hr, dd]
      rw [lr] at q
      have ql2 := congrArg List.length q
      simp only [List.length_append] at ql2
      simp [c3]
      refine (ln_ok (n := 2 * r) (by omega) (by omega)).mpr ?_
      simp [lv_add ld, ← hy]
      refine ⟨by omega, ?_⟩
      refine (ln_ok (n := y) rfl (by omega)).mpr ?_
      simp
      refine ⟨by omega, acc ++ numB (2 * r) ++ numB y, _, b + r, _, _, ⟨by norm_cast, rfl⟩, ?_, by omega, by rw [← q]; simp only [List.append_assoc], fun z => absurd z w0⟩
      simp only [nD_app, List.append_assoc]
      exact lv_vl
    · have c3 : ¬ (4 : Int) ≤ (r : Int) := by omega
      simp [c3]
      have lp : lawL w (xs.drop b) = pc w ((y :: xs.drop (b + 1)).take (pe 1 (xs.drop (b + 1)))) ++ lawL w ((y :: xs.drop (b + 1)).drop (pe 1 (xs.drop (b + 1)))) := by
        rw [dr] at hr ⊢
        rw [lawL_piece (by omega)]
      refine wp_while (N := 31) (Q20 (.vl (nD xs)) w (most : Int) d b (some (.int (r : Int))) xs) (by decide) ⟨1, ⟨rfl, rfl⟩, Nat.le_refl _, rfl, by omega, rfl⟩ ?_
      rintro m e h ⟨j, ⟨rfl, rfl⟩, j1, jn, jl, qj⟩
      -- the end of the inner loop
      have fin : pe 1 (xs.drop (b + 1)) = j → ∀ Q : Prop, (∀ acc2 : List Nat, acc2 = acc ++ pc w ((xs.drop b).take j) → P20 (.vl (nD xs)) w (most : Int) xs n [some (.vl (nD xs)), some (.int (most : Int)), some (.int (w : Int)), some (.vl (nD acc2)), some (.int ((b : Int) + (j : Int))), some (.int (r : Int)), some (.int ((b : Int) + (j : Int)))] [.lst []]) := fun hp Q acc2 e2 => by
        refine ⟨acc2, _, b + j, _, _, ⟨by norm_cast, rfl⟩, lv_vl, by omega, ?_, fun z => absurd z w0⟩
        rw [e2, ← q, lp, hp, List.append_assoc, ← List.drop_drop, dr]
      have gz : pe 1 (xs.drop (b + 1)) = j → acc.length + (pc w ((xs.drop b).take j)).length ≤ Z := fun hp => by
        rw [lp, hp] at ql
        rw [List.length_append, ← dr] at ql
        omega
      obtain ⟨s, hs⟩ : ∃ s, s = (xs.drop b).take j := ⟨_, rfl⟩
      have sl : s.length = j := by rw [hs, List.length_take, List.length_drop]; omega
      have cut : cutD (nD xs) (some (b : Int)) (some ((b : Int) + (j : Int))) = nD s := by
        rw [show (b : Int) + (j : Int) = ((b + j : Nat) : Int) from by omega, cut_over, hs, Nat.add_sub_cancel_left]
      rw [← hs] at gz fin
      have pcl : (numB (2 * s.length + 1)).length + (packB w s).length = (pc w s).length := by unfold pc; rw [List.length_append]
      have hsx : ∀ y ∈ s, y < 2 ^ w := fun y hy => hx2 y (by rw [hs] at hy; exact List.mem_of_mem_drop (List.mem_of_mem_take hy))
      by_cases d0 : b + j < xs.length
      · have d1 : (b : Int) + (j : Int) < (xs.length : Int) := by omega
        rw [pe_step d0] at qj
        by_cases d2 : j < 32
        · have d3 : (b : Int) + (j : Int) - (b : Int) < 32 := by omega
          obtain ⟨m, rfl⟩ : ∃ j, m = j + 1 := by
            cases m with
            | zero => omega
            | succ k => exact ⟨k, rfl⟩
          simp [d0, d1, d2, d3]
          have lr := w_law_run c xs (b + j) 4 d0 hz (by decide)
          rw [show ((b + j : Nat) : Int) = (b : Int) + (j : Int) from by omega] at lr
          obtain ⟨M, hM⟩ : ∃ M, M = min (run (xs.drop (b + j))) 4 := ⟨_, rfl⟩
          rw [← hM] at lr
          refine (pc_ok lr).mpr ?_
          by_cases d5 : run (xs.drop (b + j)) < 4
          · have d6 : M < 4 := by omega
            have d7 : (M : Int) < 4 := by omega
            have d8 : ¬ (4 : Int) ≤ M := by omega
            rw [if_pos ⟨d2, d5⟩] at qj
            simp [d6, d7, d8]
            exact ⟨j + 1, ⟨by norm_cast, rfl⟩, by omega, by omega, by omega, qj⟩
          · have d6 : ¬ M < 4 := by omega
            have d7 : ¬ (M : Int) < 4 := by omega
            have d8 : (4 : Int) ≤ M := by omega
            rw [if_neg (fun z => d5 z.2)] at qj
            simp [d6, d7, d8]
            refine (ln_ok (n := 2 * s.length + 1) (by omega) (by omega)).mpr ?_
            simp [lv_add ld, cut]
            refine ⟨by omega, ?_⟩
            refine (pc_ok (w_law_pack c w s hsx wle (by have := Nat.mul_le_mul wle (show s.length ≤ 32 by omega); omega))).mpr ?_
            simp
            refine ⟨by omega, ?_⟩
            have z := fin qj.symm True _ rfl
            simp only [pc, nD_app, List.append_assoc] at z ⊢
            exact z
        · have d3 : ¬ (b : Int) + (j : Int) - (b : Int) < 32 := by omega
          rw [if_neg (fun z => d2 z.1)] at qj
          simp [d0, d1, d2, d3]
          refine (ln_ok (n := 2 * s.length + 1) (by omega) (by omega)).mpr ?_
          simp [lv_add ld, cut]
          refine ⟨by omega, ?_⟩
          refine (pc_ok (w_law_pack c w s hsx wle (by have := Nat.mul_le_mul wle (show s.length ≤ 32 by omega); omega))).mpr ?_
          simp
          refine ⟨by omega, ?_⟩
          have z := fin qj.symm True _ rfl
          simp only [pc, nD_app, List.append_assoc] at z ⊢
          exact z
      · have d1 : ¬ (b : Int) + (j : Int) < (xs.length : Int) := by omega
        rw [pe_nil j (by rw [List.length_drop]; omega)] at qj
        simp [d0, d1]
        refine (ln_ok (n := 2 * s.length + 1) (by omega) (by omega)).mpr ?_
        simp [lv_add ld, cut]
        refine ⟨by omega, ?_⟩
        refine (pc_ok (w_law_pack c w s hsx wle (by have := Nat.mul_le_mul wle (show s.length ≤ 32 by omega); omega))).mpr ?_
        simp
        refine ⟨by omega, ?_⟩
        have z := fin qj.symm True _ rfl
        simp only [pc, nD_app, List.append_assoc] at z ⊢
        exact z
  · have c1 : ¬ (b : Int) < (xs.length : Int) := by omega
    have bl : b = xs.length := by omega
    rw [List.drop_eq_nil_of_le (by omega), lawL_nil, List.append_nil] at q
    simp [c0, c1, w0, dd, q]
end Dk

set_option Elab.async false
set_option linter.all false
set_option maxRecDepth 100000
set_option maxHeartbeats 4000000
namespace Dk
open PySem PySem.Spec PyProof.Rows L2 Dd
theorem kind_nD (xs : List Nat) (x : Nat) : homD (.int (x : Int) :: nD xs) = true := by
  show (Nat.blt 0 1 && (nD xs).all fun y => kindN y == 1) = true
  rw [show Nat.blt 0 1 = true from rfl, Bool.true_and, List.all_eq_true]
  intro y hy
  obtain ⟨z, -, rfl⟩ := List.mem_map.mp hy
  rfl
theorem max_of {xs : List Nat} (h0 : xs ≠ []) : ∃ m : Nat, extremeD true (nD xs) = some (.int (m : Int)) ∧ ∀ k, m ≤ k ↔ xs.all (fun x => decide (x ≤ k)) = true := by
  cases xs with
  | nil => exact absurd rfl h0
  | cons x xs =>
    have go : ∀ (xs : List Nat) (a : Nat), ∃ m : Nat, (nD xs).foldl (fun a b => if ltB a b then b else a) (.int (a : Int)) = .int (m : Int) ∧ a ≤ m ∧ (∀ x ∈ xs, x ≤ m) ∧ (m = a ∨ m ∈ xs) := by
      intro xs
      induction xs with
      | nil => exact fun a => ⟨a, rfl, Nat.le_refl _, fun _ z => (List.not_mem_nil z).elim, Or.inl rfl⟩
      | cons x xs ih =>
        intro a
        rw [nD_cons, List.foldl_cons, show ltB (.int (a : Int)) (.int (x : Int)) = decide ((a : Int) < (x : Int)) from ltI_eq _ _]
        by_cases c : a < x
        · rw [decide_eq_true (by omega : (a : Int) < (x : Int)), if_pos rfl]
          obtain ⟨m, h1, h2, h3, h4⟩ := ih x
          refine ⟨m, h1, by omega, fun y hy => ?_, ?_⟩
          · rcases List.mem_cons.mp hy with rfl | hy
            · exact h2
            · exact h3 y hy
          · rcases h4 with h4 | h4
            · exact .inr (by rw [h4]; exact List.mem_cons_self)
            · exact .inr (List.mem_cons_of_mem _ h4)
        · rw [decide_eq_false (by omega : ¬ (a : Int) < (x : Int)), if_neg (by decide)]
          obtain ⟨m, h1, h2, h3, h4⟩ := ih a
          refine ⟨m, h1, h2, fun y hy => ?_, ?_⟩
          · rcases List.mem_cons.mp hy with rfl | hy
            · omega
            · exact h3 y hy
          · rcases h4 with h4 | h4
            · exact .inl h4
            · exact .inr (List.mem_cons_of_mem _ h4)
    obtain ⟨m, h1, h2, h3, h4⟩ := go xs x
    refine ⟨m, ?_, fun k => ?_⟩
    · rw [nD_cons]
      show (if homD (.int (x : Int) :: nD xs) = true then _ else _) = _
      rw [kind_nD, if_pos rfl]
      exact congrArg some h1
    · rw [List.all_eq_true]
      constructor
      · intro hm y hy
        rw [decide_eq_true_eq]
        rcases List.mem_cons.mp hy with rfl | hy
        · omega
        · have := h3 y hy; omega
      · intro hy
        rcases h4 with h4 | h4
        · have := hy x List.mem_cons_self; rw [decide_eq_true_eq] at this; omega
        · have := hy m (List.mem_cons_of_mem _ h4); rw [decide_eq_true_eq] at this; exact this
theorem tk_le {r p : Nat} {bs : List Nat} {n l : Nat} (h : tk r p bs = some (n, l)) : l ≤ bs.length := by
  induction r generalizing p bs n l with
  | zero => cases h
  | succ r ih =>
    cases bs with
    | nil => cases h
    | cons b bs =>
      rw [tk] at h
      split at h
      · split at h
        · cases h
        · cases h; exact Nat.succ_le_succ (Nat.zero_le _)
      · cases hq : tk r (p + 1) bs with
        | none => rw [hq] at h; cases h
        | some x =>
          rw [hq] at h
          cases h
          exact Nat.succ_le_succ (ih (n := x.1) (l := x.2) hq)
theorem unp_le {w k : Nat} {bs vs : List Nat} {l : Nat} (h : unp w k bs = some (vs, l)) : l ≤ bs.length ∧ vs.length = k := by
  unfold unp at h
  split at h
  · rename_i c
    cases h
    exact ⟨c.1, digN_len _ _ _⟩
  · cases h
theorem nD_rep (n x : Nat) : nD (List.replicate n x) = List.replicate n (D.int (x : Int)) := List.map_replicate
def P12 (w most : Nat) (bs : List Nat) (a0 count : Nat) (n : Nat) (e : DE) (h : DH) : Prop := ∃ (acc : List Nat) (a : Nat) (x y z u : Option D), (e = [some (.vl (nD bs)), some (.int (a : Int)), some (.int (count : Int)), some (.int (most : Int)), some (.int (w : Int)), some (.ref 0), x, y, z, u] ∧ h = [.lst (nD acc)]) ∧ acc.length ≤ count ∧ count ≤ acc.length + n ∧ (a0 ≤ a ∧ a ≤ bs.length) ∧
  tkL w most count count (bs.drop a0) = (tkL w most n (count - acc.length) (bs.drop a)).map fun x => (acc ++ x.1, a - a0 + x.2)
theorem w_take_levels (c a0 count most : Nat) (bs : List Nat) (hb : ∀ x ∈ bs, x < 256) (hd : bs.length ≤ 1000000) (ha0 : a0 ≤ bs.length) (hw : most < 34359738368) (hz : count ≤ 999999) : PC (pg.run (c + 2)) i_take_levels [.vl (nD bs), .int (a0 : Int), .int (count : Int), .int (most : Int)]
    (fun d => ∃ vs l, tkLev most count (bs.drop a0) = some (vs, l) ∧ d = .tup [.vl (nD vs), .int ((a0 + l : Nat) : Int)])
    fun c _ => c = 0 ∧ tkLev most count (bs.drop a0) = none := by
  refine pc_of (f := f_take_levels) rfl e_take_levels rfl ?_
  have zz : Z = 16777216 := rfl
  have wle : bitsN most ≤ 64 := Nat.le_trans (bits_le (k := 35) hw) (by decide)
  unfold tkLev
  simp [b_take_levels, startD, f_take_levels]
  refine (pc_ok (w_width_of c most)).mpr ?_
  by_cases w0 : bitsN most = 0
  · have bl : below (count : Int) 9223372036854775808 = true := below_iff.mpr (by omega)
    simp [w0, bl, flat_rep]
    exact ⟨by omega, _, _, ⟨rfl, rfl⟩, (nD_rep count 0).symm, by omega⟩
  simp [w0]
  obtain ⟨w, hw'⟩ : ∃ w, w = bitsN most := ⟨_, rfl⟩
  rw [← hw'] at wle w0 ⊢
  obtain ⟨o, ho⟩ : ∃ o, o = tkL w most count count (bs.drop a0) := ⟨_, rfl⟩
  rw [← ho]
  refine wp_while (N := count) (P12 w most bs a0 count) (by omega) ⟨[], a0, _, _, _, _, ⟨rfl, rfl⟩, Nat.zero_le _, by omega, ⟨Nat.le_refl _, ha0⟩, by simp⟩ ?_
  rintro n e h ⟨acc, a, x, y, z, u, ⟨rfl, rfl⟩, hc, hn, ha, q⟩
  rw [← ho] at q
  by_cases c0 : acc.length < count
  · have c1 : (acc.length : Int) < (count : Int) := by omega
    obtain ⟨m, rfl⟩ : ∃ j, n = j + 1 := by
      cases n with
      | zero => omega
      | succ k => exact ⟨k, rfl⟩
    rw [tkL, if_neg (by omega)] at q
    simp [c0, c1]
    refine pc_to (w_take_number c bs a hb) ?_ ?_
    · rintro d ⟨head, n1, qt, rfl⟩
      have le1 := tk_le qt
      rw [List.length_drop] at le1
      rw [qt] at q
      dsimp only at q
      obtain ⟨L, hL⟩ : ∃ L, L = head / 2 := ⟨_, rfl⟩
      have fd : (head : Int) / 2 = (L : Int) := by omega
      rw [← hL, List.drop_drop] at q
      by_cases c2 : L = 0 ∨ count - acc.length < L
      · rw [if_pos c2] at q
        by_cases c3 : L = 0
        · simp [fd, c3]
          exact q
        · have c4 : (count : Int) - (acc.length : Int) < (L : Int) := by omega
          have c4b : ¬ (L : Int) ≤ (count : Int) - (acc.length : Int) := by omega
          simp [fd, c3, c4, c4b]
          exact q
      · rw [if_neg c2] at q
        have c3 : ¬ L = 0 := fun z => c2 (.inl z)
        have c4 : ¬ (count : Int) - (acc.length : Int) < (L : Int) := by omega
        have c4b : (L : Int) ≤ (count : Int) - (acc.length : Int) := by omega
        have al : acc.length + L ≤ count := by omega
        by_cases c5 : head % 2 = 1
        · have c6 : (head : Int) % 2 = 1 := by omega
          simp [fd, c3, c4, c4b, m_1, c6]
          have un := w_unpack c bs (a + n1) L w hb hd (by omega) w0 wle
          rw [show ((a + n1 : Nat) : Int) = (a : Int) + (n1 : Int) from by omega] at un
          refine pc_to un ?_ ?_
          · rintro d ⟨ps, l2, qp, rfl⟩
            obtain ⟨le2, pl⟩ := unp_le qp
            rw [List.length_drop] at le2
            have qp' : piece w head (bs.drop (a + n1)) = some (ps, l2) := by unfold piece; rw [if_pos c5, ← hL]; exact qp
            rw [qp'] at q
            dsimp only at q
            obtain ⟨mx, e1, e2⟩ := max_of (xs := ps) (by intro z; rw [z] at pl; rw [List.length_nil] at pl; omega)
            by_cases c6 : ps.all (fun x => decide (x ≤ most)) = true
            · rw [if_pos c6] at q
              have c7 : ¬ (most : Int) < (mx : Int) := by have := (e2 most).mpr c6; omega
              have c8 : ¬ most < mx := by omega
              simp [e1, c7, c8]
              refine ⟨by omega, acc ++ ps, a + n1 + l2, _, _, _, _, ⟨by norm_cast, by rw [nD_app]⟩, by rw [List.length_append]; omega, by rw [List.length_append]; omega, by omega, ?_⟩
              rw [← ho, q, List.drop_drop, List.length_append, pl, Nat.sub_sub, Nat.add_assoc]
              cases tkL w most m (count - (acc.length + L)) (bs.drop (a + (n1 + l2))) with
              | none => rfl
              | some x =>
                simp only [Option.map_some, List.append_assoc, Option.some.injEq, Prod.mk.injEq]
                exact ⟨trivial, by omega⟩
            · rw [if_neg c6] at q
              have c8 : most < mx := Nat.lt_of_not_le fun z => c6 ((e2 most).mp z)
              have c7 : (most : Int) < (mx : Int) := Int.ofNat_lt.mpr c8
              simp [e1, c7, c8]
              exact q
          · rintro c p sp ⟨rfl, qp⟩
            have qp' : piece w head (bs.drop (a + n1)) = none := by unfold piece; rw [if_pos c5, ← hL]; exact qp
            rw [qp'] at q
            simp [sp]
            exact q
        · have c6 : ¬ (head : Int) % 2 = 1 := by omega
          simp [fd, c3, c4, c4b, m_1, c6]
          have tn := w_take_number c bs (a + n1) hb
          rw [show ((a + n1 : Nat) : Int) = (a : Int) + (n1 : Int) from by omega] at tn
          refine pc_to tn ?_ ?_
          · rintro d ⟨v, l2, qp, rfl⟩
            have le2 := tk_le qp
            rw [List.length_drop] at le2
            have qp' : piece w head (bs.drop (a + n1)) = some (List.replicate L v, l2) := by unfold piece; rw [if_neg c5, ← hL, qp]; rfl
            rw [qp'] at q
            dsimp only at q
            have bl : below (L : Int) 9223372036854775808 = true := below_iff.mpr (by omega)
            obtain ⟨mx, e1, e2⟩ := max_of (xs := List.replicate L v) (by intro z; have := congrArg List.length z; rw [List.length_replicate, List.length_nil] at this; omega)
            rw [nD_rep] at e1
            by_cases c6 : (List.replicate L v).all (fun x => decide (x ≤ most)) = true
            · rw [if_pos c6] at q
              have c7 : ¬ (most : Int) < (mx : Int) := by have := (e2 most).mpr c6; omega
              have c8 : ¬ most < mx := by omega
              simp [bl, flat_rep, e1, c7, c8]
              refine ⟨by omega, by omega, acc ++ List.replicate L v, a + n1 + l2, _, _, _, _, ⟨by norm_cast, by rw [nD_app, nD_rep]⟩, by rw [List.length_append, List.length_replicate]; omega, by rw [List.length_append, List.length_replicate]; omega, by omega, ?_⟩
              rw [← ho, q, List.drop_drop, List.length_append, List.length_replicate, Nat.sub_sub, Nat.add_assoc]
              cases tkL w most m (count - (acc.length + L)) (bs.drop (a + (n1 + l2))) with
              | none => rfl
              | some x =>
                simp only [Option.map_some, List.append_assoc, Option.some.injEq, Prod.mk.injEq]
                exact ⟨trivial, by omega⟩
            · rw [if_neg c6] at q
              have c8 : most < mx := Nat.lt_of_not_le fun z => c6 ((e2 most).mp z)
              have c7 : (most : Int) < (mx : Int) := Int.ofNat_lt.mpr c8
              simp [bl, flat_rep, e1, c7, c8]
              exact ⟨by omega, q⟩
          · rintro c p sp ⟨rfl, qp⟩
            have qp' : piece w head (bs.drop (a + n1)) = none := by unfold piece; rw [if_neg c5, qp]; rfl
            rw [qp'] at q
            simp [sp]
            exact q
    · rintro c p sp ⟨rfl, qt⟩
      rw [qt] at q
      simp [sp]
      exact q
  · have full : count - acc.length = 0 := by omega
    have c1 : ¬ (acc.length : Int) < (count : Int) := by omega
    have q2 : o = some (acc, a - a0) := by
      rw [q, full]
      cases n with
      | zero => rw [tkL, if_pos rfl]; simp
      | succ n => rw [tkL, if_pos rfl]; simp
    simp [c0, c1]
    exact ⟨_, _, q2, rfl, by omega⟩
end Dk

set_option Elab.async false
set_option linter.all false
set_option maxRecDepth 100000
set_option maxHeartbeats 4000000
namespace Dk
open PySem PySem.Spec PyProof.Rows L2 Dd
/-! ### plain data that can be shown and compared -/
structure SmY (dp wt : Nat) (y : PyData) : Prop where
  sh : y.showable = true
  nd : y.hasDict = false
  dp : y.depth ≤ dp
  ls : y.leavesShort 24 = true
  wt : y.weight ≤ wt
  cl : y.canLay0 = true
structure SmL (dp wt : Nat) (ys : List PyData) : Prop where
  sh : PyData.showableAll ys = true
  nd : PyData.hasDictAll ys = false
  dp : PyData.depthAll ys ≤ dp
  ls : PyData.leavesShortAll 24 ys = true
  wt : PyData.weightAll ys ≤ (wt + 1) * ys.length
  cl : PyData.canLayAll0 ys = true
def Sm (dp wt : Nat) (d : D) : Prop := ∃ y, (∀ h n, toPy h (dp + 1 + n) d = some y) ∧ SmY dp wt y
theorem Sm.mono {dp wt dp' wt' : Nat} {d : D} (s : Sm dp wt d) (h1 : dp ≤ dp') (h2 : wt ≤ wt') : Sm dp' wt' d := by
  obtain ⟨y, e, s⟩ := s
  refine ⟨y, fun h n => ?_, s.sh, s.nd, Nat.le_trans s.dp h1, s.ls, Nat.le_trans s.wt h2, s.cl⟩
  have := e h (dp' - dp + n)
  rwa [show dp + 1 + (dp' - dp + n) = dp' + 1 + n from by omega] at this
theorem sm_non : Sm 0 0 .non := ⟨.none, fun h n => by rw [Nat.add_comm]; rfl, rfl, rfl, Nat.le_refl _, rfl, Nat.le_refl _, rfl⟩
theorem sm_bl (b : Bool) : Sm 0 0 (.bl b) := ⟨.bool b, fun h n => by rw [Nat.add_comm]; rfl, rfl, rfl, Nat.le_refl _, rfl, Nat.le_refl _, rfl⟩
theorem sm_int {i : Int} (h : i.natAbs < 10 ^ 20) : Sm 0 70 (.int i) := by
  have hl : i.natAbs.log2 < 70 := by
    by_cases c : i.natAbs = 0
    · rw [c]; decide
    · exact (Nat.log2_lt c).mpr (Nat.lt_of_lt_of_le h (by decide))
  refine ⟨.int i, fun h n => by rw [Nat.add_comm]; rfl, ?_, rfl, Nat.le_refl _, ?_, ?_, rfl⟩
  · exact decide_eq_true (by omega)
  · refine decide_eq_true ?_
    have e := int_text_length_le10 (a := i) (k := 20) (by decide) h
    have e2 : (PyData.shown (.int i)).length = (toString i).length := by
      show (Str.ofString (toString i)).length = _
      rw [PySem.ofString_length]
    omega
  · show (if i == 0 then 0 else i.natAbs.log2 + 1) ≤ 70
    split <;> omega
theorem sm_str {x : Str} (h : ∀ c ∈ x.cps.toList, c < 1114112) : Sm 0 x.length (.str x) := by
  refine ⟨.str x, fun h n => by rw [Nat.add_comm]; rfl, rfl, rfl, Nat.le_refl _, ?_, Nat.le_refl _, ?_⟩
  · show (x.cps.toList.all fun c => decide (c < 16 ^ 8)) = true
    rw [List.all_eq_true]
    exact fun c hc => decide_eq_true (Nat.lt_of_lt_of_le (h c hc) (by decide))
  · show x.cps.all (· < 0x110000) = true
    rw [Array.all_eq_true_iff_forall_mem]
    exact fun c hc => decide_eq_true (h c (Array.mem_toList_iff.mpr hc))
theorem sm_all {dp wt : Nat} : ∀ {xs : List D}, (∀ d ∈ xs, Sm dp wt d) → ∃ ys, (∀ h n, xs.mapM (toPy h (dp + 1 + n)) = some ys) ∧ ys.length = xs.length ∧ SmL dp wt ys
  | [], _ => ⟨[], fun h n => rfl, rfl, rfl, rfl, Nat.zero_le _, rfl, Nat.zero_le _, rfl⟩
  | d :: xs, a => by
    obtain ⟨y, e, s⟩ := a d List.mem_cons_self
    obtain ⟨ys, es, l, ss⟩ := sm_all fun x hx => a x (List.mem_cons_of_mem _ hx)
    refine ⟨y :: ys, fun h n => by rw [List.mapM_cons, e h n, es h n]; rfl, congrArg Nat.succ l, ?_, ?_, ?_, ?_, ?_, ?_⟩
    · simp only [PyData.showableAll, s.sh, ss.sh, Bool.and_self]
    · simp only [PyData.hasDictAll, s.nd, ss.nd, Bool.or_self]
    · have := s.dp
      have := ss.dp
      simp only [PyData.depthAll]; omega
    · simp only [PyData.leavesShortAll, s.ls, ss.ls, Bool.and_self]
    · have := s.wt
      have := ss.wt
      simp only [PyData.weightAll, List.length_cons, Nat.mul_succ]; omega
    · simp only [PyData.canLayAll0, s.cl, ss.cl, Bool.and_self]
theorem sm_vl {dp wt : Nat} {xs : List D} (a : ∀ d ∈ xs, Sm dp wt d) : Sm (dp + 1) ((wt + 1) * xs.length) (.vl xs) := by
  obtain ⟨ys, e, l, s⟩ := sm_all a
  refine ⟨.list ys, fun h n => ?_, s.sh, s.nd, ?_, s.ls, by rw [← l]; exact s.wt, s.cl⟩
  · rw [show dp + 1 + 1 + n = (dp + 1 + n) + 1 from by omega]
    show (xs.mapM (toPy h (dp + 1 + n))).map PyData.list = _
    rw [e]; rfl
  · have := s.dp
    simp only [PyData.depth]; omega
theorem sm_tup {dp wt : Nat} {xs : List D} (a : ∀ d ∈ xs, Sm dp wt d) : Sm (dp + 1) ((wt + 1) * xs.length) (.tup xs) := by
  obtain ⟨ys, e, l, s⟩ := sm_all a
  refine ⟨.tuple ys, fun h n => ?_, s.sh, s.nd, ?_, s.ls, by rw [← l]; exact s.wt, s.cl⟩
  · rw [show dp + 1 + 1 + n = (dp + 1 + n) + 1 from by omega]
    show (xs.mapM (toPy h (dp + 1 + n))).map PyData.tuple = _
    rw [e]; rfl
  · have := s.dp
    simp only [PyData.depth]; omega
theorem sm_kt {dp wt : Nat} {xs : List D} (a : ∀ d ∈ xs, Sm dp wt d) : Sm (dp + 1) ((wt + 1) * xs.length) (.kt xs) := by
  obtain ⟨ys, e, l, s⟩ := sm_all a
  refine ⟨.tuple ys, fun h n => ?_, s.sh, s.nd, ?_, s.ls, by rw [← l]; exact s.wt, s.cl⟩
  · rw [show dp + 1 + 1 + n = (dp + 1 + n) + 1 from by omega]
    show (xs.mapM (toPy h (dp + 1 + n))).map PyData.tuple = _
    rw [e]; rfl
  · have := s.dp
    simp only [PyData.depth]; omega
theorem sm_nD {xs : List Nat} (h : ∀ x ∈ xs, x < 10 ^ 20) : Sm 1 (71 * xs.length) (.vl (nD xs)) := by
  have := sm_vl (dp := 0) (wt := 70) (xs := nD xs) fun d hd => by
    obtain ⟨b, hb, rfl⟩ := List.mem_map.mp hd
    exact sm_int (h b hb)
  rwa [nD_len] at this
/-! its text, and that it is the same as itself -/
def showD (d : D) : Str := match toPy [] 20 d with | some y => y.shown | none => ""
theorem w_repr {dp wt : Nat} {d : D} {h : DH} {Q : D → DH → Prop} (s : Sm dp wt d) (h1 : dp ≤ 19) (h2 : wt ≤ 640000) (h3 : isRf d = true) : WO (bltD .repr [d]) h Q ↔ Q (.str (showD d)) h := by
  obtain ⟨y, e, s⟩ := s
  have e2 : ∀ h, toPy h 20 d = some y := fun h => by
    have := e h (19 - dp)
    rwa [show dp + 1 + (19 - dp) = 20 from by omega] at this
  have sl := PyData.shown_le 24 (by decide) y s.ls
  have zz : Z = 16777216 := rfl
  have ok : reprOk y = true := by
    have l : y.shown.length + 64 ≤ Z := by
      have := s.wt
      have : (24 + 2) * y.weight ≤ 26 * 640000 := Nat.mul_le_mul_left _ (by omega)
      omega
    have dp : y.depth ≤ 60 := by have := s.dp; omega
    unfold reprOk
    rw [decide_eq_true l, decide_eq_true dp, s.sh, s.nd]; rfl
  unfold showD
  rw [e2]
  refine wo_eq ?_
  show (match toPy h 20 d with | some x => if reprOk x && isRf d then some (D.str x.shown, h) else none | none => none) = _
  rw [e2]
  dsimp only
  rw [ok, h3]; rfl
theorem eqB_self {dp wt : Nat} {d : D} {h : DH} (s : Sm dp wt d) (h1 : dp ≤ 19) : scalD d d = some true ∨ (scalD d d = none ∧ eqB d d h = some true) := by
  obtain ⟨y, e, s⟩ := s
  have e2 : ∀ h, toPy h 20 d = some y := fun h => by
    have := e h (19 - dp)
    rwa [show dp + 1 + (19 - dp) = 20 from by omega] at this
  cases hs : scalD d d with
  | some r =>
    refine .inl ?_
    cases d <;> cases hs <;> simp
  | none =>
    refine .inr ⟨rfl, ?_⟩
    have sh : SeqAt.shaped y = true := by
      unfold SeqAt.shaped
      rw [s.cl, decide_eq_true (by have := s.dp; omega)]; rfl
    unfold eqB
    rw [hs, e2]
    dsimp only
    rw [sh]
    simp [SeqAt.eqv_refl y s.cl]
theorem eqB_same {dp wt : Nat} {d : D} {h : DH} (s : Sm dp wt d) (h1 : dp ≤ 19) : eqB d d h = some true := by
  rcases eqB_self (h := h) s h1 with z | z
  · unfold eqB; rw [z]
  · exact z.2
theorem w_ne {dp wt : Nat} {d : D} {h : DH} {Q : D → DH → Prop} (s : Sm dp wt d) (h1 : dp ≤ 19) : WO (neD d d) h Q ↔ Q (.bl false) h := wo_eq (by unfold neD; rw [eqB_same s h1]; rfl)
theorem w_eq {dp wt : Nat} {d : D} {h : DH} {Q : D → DH → Prop} (s : Sm dp wt d) (h1 : dp ≤ 19) : WO (eqD d d) h Q ↔ Q (.bl true) h := wo_eq (by unfold eqD; rw [eqB_same s h1]; rfl)
end Dk

set_option Elab.async false
set_option linter.all false
set_option maxRecDepth 100000
set_option maxHeartbeats 4000000
namespace Dk
open PySem PySem.Spec PyProof.Rows L2 Dd
/-! ### bytes that go on as they should, or end too early -/
theorem tk_ext {r p : Nat} {bs u : List Nat} {n l : Nat} (h : tk r p bs = some (n, l)) : tk r p (bs ++ u) = some (n, l) := by
  induction r generalizing p bs n l with
  | zero => cases h
  | succ r ih =>
    cases bs with
    | nil => cases h
    | cons b bs =>
      rw [List.cons_append, tk]
      rw [tk] at h
      split at h
      · rename_i c
        rw [if_pos c]; exact h
      · rename_i c
        rw [if_neg c]
        cases hq : tk r (p + 1) bs with
        | none => rw [hq] at h; cases h
        | some x =>
          rw [hq] at h
          rw [ih (n := x.1) (l := x.2) hq]
          exact h
theorem unp_ext {w k : Nat} {bs u vs : List Nat} {l : Nat} (h : unp w k bs = some (vs, l)) : unp w k (bs ++ u) = some (vs, l) := by
  unfold unp at h ⊢
  split at h
  · rename_i c
    rw [List.take_append_of_le_length c.1, if_pos ⟨by rw [List.length_append]; omega, c.2⟩]; exact h
  · cases h
theorem piece_le {w head : Nat} {bs vs : List Nat} {l : Nat} (h : piece w head bs = some (vs, l)) : l ≤ bs.length := by
  unfold piece at h
  split at h
  · exact (unp_le h).1
  · cases hq : tk 5 0 bs with
    | none => rw [hq] at h; cases h
    | some x => rw [hq] at h; cases h; exact tk_le (n := x.1) hq
theorem piece_ext {w head : Nat} {bs u vs : List Nat} {l : Nat} (h : piece w head bs = some (vs, l)) : piece w head (bs ++ u) = some (vs, l) := by
  unfold piece at h ⊢
  split at h
  · rename_i c
    rw [if_pos c]; exact unp_ext h
  · rename_i c
    rw [if_neg c]
    cases hq : tk 5 0 bs with
    | none => rw [hq] at h; cases h
    | some x => rw [hq] at h; rw [tk_ext (n := x.1) (l := x.2) hq]; exact h
theorem tkL_ext {w most : Nat} : ∀ {n c : Nat} {bs u vs : List Nat} {l : Nat}, tkL w most n c bs = some (vs, l) → l ≤ bs.length ∧ tkL w most n c (bs ++ u) = some (vs, l)
  | 0, c, bs, u, vs, l, h => by
    rw [tkL] at h ⊢
    split at h
    · rename_i c0
      cases h
      exact ⟨Nat.zero_le _, if_pos c0⟩
    · cases h
  | n + 1, c, bs, u, vs, l, h => by
    rw [tkL] at h ⊢
    split at h
    · rename_i c0
      cases h
      exact ⟨Nat.zero_le _, if_pos c0⟩
    · rename_i c0
      rw [if_neg c0]
      split at h
      · cases h
      · rename_i head l1 e1
        rw [tk_ext e1]
        dsimp only
        have le1 := tk_le e1
        split at h
        · cases h
        · rename_i c1
          rw [if_neg c1, List.drop_append_of_le_length le1]
          split at h
          · cases h
          · rename_i p l2 e2
            rw [piece_ext e2]
            dsimp only
            have le2 := piece_le e2
            rw [List.length_drop] at le2
            split at h
            · rename_i c2
              rw [if_pos c2, List.drop_append_of_le_length (by omega)]
              cases hq : tkL w most n (c - head / 2) (bs.drop (l1 + l2)) with
              | none => rw [hq] at h; cases h
              | some x =>
                rw [hq] at h
                obtain ⟨z1, z2⟩ := tkL_ext (u := u) (vs := x.1) (l := x.2) hq
                rw [z2]
                rw [List.length_drop] at z1
                cases h
                exact ⟨by omega, rfl⟩
            · cases h
theorem tkLev_ext {most count : Nat} {bs u vs : List Nat} {l : Nat} (h : tkLev most count bs = some (vs, l)) : l ≤ bs.length ∧ tkLev most count (bs ++ u) = some (vs, l) := by
  unfold tkLev at h ⊢
  split at h
  · rename_i c
    cases h
    exact ⟨Nat.zero_le _, if_pos c⟩
  · rename_i c
    rw [if_neg c]; exact tkL_ext h
/-- t begins with B, or ends within it -/
def Cmp (t B : List Nat) : Prop := B <+: t ∨ (t <+: B ∧ t.length < B.length)
theorem cmp_self (t r : List Nat) : Cmp (t ++ r) t := .inl (List.prefix_append _ _)
theorem cmp_take {B : List Nat} (k : Nat) : Cmp (B.take k) B := by
  by_cases h : k < B.length
  · exact .inr ⟨List.take_prefix _ _, by rw [List.length_take]; omega⟩
  · rw [List.take_of_length_le (by omega)]; exact .inl (List.prefix_refl _)
theorem cmp_nil (t : List Nat) : Cmp t [] := .inl List.nil_prefix
theorem cmp_left {t A B : List Nat} (h : Cmp t (A ++ B)) : Cmp t A := by
  rcases h with h | ⟨⟨u, e⟩, h2⟩
  · exact .inl ((List.prefix_append A B).trans h)
  · by_cases c : A.length ≤ t.length
    · exact .inl (List.prefix_of_prefix_length_le (List.prefix_append A B) ⟨u, e⟩ c)
    · exact .inr ⟨List.prefix_of_prefix_length_le ⟨u, e⟩ (List.prefix_append A B) (by omega), by omega⟩
theorem cmp_right {t A B : List Nat} (h : Cmp t (A ++ B)) (a : A <+: t) : Cmp (t.drop A.length) B ∧ (A ++ B <+: t ↔ B <+: t.drop A.length) := by
  obtain ⟨s, rfl⟩ := a
  rw [List.drop_left]
  have e : A ++ B <+: A ++ s ↔ B <+: s := List.prefix_append_right_inj A
  refine ⟨?_, e⟩
  rcases h with h | ⟨h, h2⟩
  · exact .inl (e.mp h)
  · refine .inr ⟨(List.prefix_append_right_inj A).mp h, ?_⟩
    rw [List.length_append, List.length_append] at h2
    omega
theorem not_left {t A B : List Nat} (h : ¬ A <+: t) : ¬ A ++ B <+: t := fun z => h ((List.prefix_append A B).trans z)
theorem not_cut {t B : List Nat} (h : t.length < B.length) : ¬ B <+: t := fun z => by have := z.length_le; omega
/-- a reader that takes just B from what begins with B takes nothing from what ends within it -/
theorem cut_none {α : Type} {f : List Nat → Option (α × Nat)} {t B : List Nat} {v : α} (h : Cmp t B) (hB : ∀ r, f (B ++ r) = some (v, B.length)) (ext : ∀ bs u v l, f bs = some (v, l) → l ≤ bs.length ∧ f (bs ++ u) = some (v, l)) :
    (B <+: t ∧ f t = some (v, B.length)) ∨ (¬ B <+: t ∧ f t = none) := by
  rcases h with ⟨s, rfl⟩ | ⟨⟨u, e⟩, h2⟩
  · exact .inl ⟨List.prefix_append _ _, hB s⟩
  · refine .inr ⟨not_cut h2, ?_⟩
    cases hf : f t with
    | none => rfl
    | some x =>
      obtain ⟨z1, z2⟩ := ext t u x.1 x.2 hf
      rw [e] at z2
      have := hB []
      rw [List.append_nil, z2] at this
      have := congrArg Prod.snd (Option.some.inj this)
      dsimp only at this
      omega
/-- reading: what is to come out -/
def Took (t B : List Nat) (v : D) (at_ : Nat) : D → Prop := fun d => B <+: t ∧ d = .tup [v, .int ((at_ + B.length : Nat) : Int)]
def Lost (t B : List Nat) : Nat → D → Prop := fun c _ => c = 0 ∧ ¬ B <+: t
theorem r_number (c : Nat) (bs : List Nat) (at_ n : Nat) (v : Int) (hv : v = (at_ : Int)) (hb : ∀ b ∈ bs, b < 256) (hn : n < 34359738368) (h : Cmp (bs.drop at_) (numB n)) : PC (pg.run (c + 1)) i_take_number [.vl (nD bs), .int v] (Took (bs.drop at_) (numB n) (.int (n : Int)) at_) (Lost (bs.drop at_) (numB n)) := by
  subst hv
  have cn := cut_none (f := tk 5 0) (v := n) h (fun r => tk_numB (r := 4) r hn (.inl rfl)) fun bs u v l e => ⟨tk_le e, tk_ext e⟩
  refine (w_take_number c bs at_ hb).mono ?_ ?_
  · rintro d ⟨m, l, e, rfl⟩
    rcases cn with ⟨z1, z2⟩ | ⟨-, z2⟩
    · rw [z2] at e; cases e; exact ⟨z1, rfl⟩
    · rw [z2] at e; cases e
  · rintro c p ⟨rfl, e⟩
    rcases cn with ⟨z1, z2⟩ | ⟨z1, -⟩
    · rw [z2] at e; cases e
    · exact ⟨rfl, z1⟩
theorem r_levels (c : Nat) (bs : List Nat) (at_ most : Nat) (xs : List Nat) (v k : Int) (hv : v = (at_ : Int)) (hk : k = (xs.length : Int)) (hb : ∀ b ∈ bs, b < 256) (hd : bs.length ≤ 1000000) (ha : at_ ≤ bs.length) (hm : most < 34359738368) (hx : ∀ x ∈ xs, x ≤ most) (hz : xs.length ≤ 999999) (h : Cmp (bs.drop at_) (levB most xs)) :
    PC (pg.run (c + 2)) i_take_levels [.vl (nD bs), .int v, .int k, .int (most : Int)] (Took (bs.drop at_) (levB most xs) (.vl (nD xs)) at_) (Lost (bs.drop at_) (levB most xs)) := by
  subst hv hk
  have cn := cut_none (f := tkLev most xs.length) (v := xs) h (fun r => tkLev_levB xs r hm hx hz) fun bs u v l e => tkLev_ext e
  refine (w_take_levels c at_ xs.length most bs hb hd ha hm hz).mono ?_ ?_
  · rintro d ⟨m, l, e, rfl⟩
    rcases cn with ⟨z1, z2⟩ | ⟨-, z2⟩
    · rw [z2] at e; cases e; exact ⟨z1, rfl⟩
    · rw [z2] at e; cases e
  · rintro c p ⟨rfl, e⟩
    rcases cn with ⟨z1, z2⟩ | ⟨z1, -⟩
    · rw [z2] at e; cases e
    · exact ⟨rfl, z1⟩
theorem r_pack (c : Nat) (bs : List Nat) (at_ w : Nat) (xs : List Nat) (v k : Int) (hv : v = (at_ : Int)) (hk : k = (xs.length : Int)) (hb : ∀ b ∈ bs, b < 256) (hd : bs.length ≤ 1000000) (ha : at_ ≤ bs.length) (w0 : w ≠ 0) (hw : w ≤ 64) (hx : ∀ x ∈ xs, x < 2 ^ w) (h : Cmp (bs.drop at_) (packB w xs)) :
    PC (pg.run (c + 1)) i_unpack [.vl (nD bs), .int v, .int k, .int (w : Int)] (Took (bs.drop at_) (packB w xs) (.vl (nD xs)) at_) (Lost (bs.drop at_) (packB w xs)) := by
  subst hv hk
  have cn := cut_none (f := unp w xs.length) (v := xs) h (fun r => unp_pack r hx) fun bs u v l e => ⟨(unp_le e).1, unp_ext e⟩
  refine (w_unpack c bs at_ xs.length w hb hd ha w0 hw).mono ?_ ?_
  · rintro d ⟨m, l, e, rfl⟩
    rcases cn with ⟨z1, z2⟩ | ⟨-, z2⟩
    · rw [z2] at e; cases e; exact ⟨z1, rfl⟩
    · rw [z2] at e; cases e
  · rintro c p ⟨rfl, e⟩
    rcases cn with ⟨z1, z2⟩ | ⟨z1, -⟩
    · rw [z2] at e; cases e
    · exact ⟨rfl, z1⟩
end Dk

set_option Elab.async false
set_option linter.all false
set_option maxRecDepth 100000
set_option maxHeartbeats 4000000
namespace Dk
open PySem PySem.Spec PyProof.Rows L2 Dd
inductive Kd where | i | b | t
def Kd.s : Kd → Str | .i => "int" | .b => "bool" | .t => "text"
theorem k_ib : (decide (("int" : Str) = "bool")) = false := by decide +kernel
theorem k_bi : (decide (("bool" : Str) = "int")) = false := by decide +kernel
theorem k_ti : (decide (("text" : Str) = "int")) = false := by decide +kernel
theorem k_tb : (decide (("text" : Str) = "bool")) = false := by decide +kernel
theorem n_ib : ¬ (("int" : Str) = "bool") := of_decide_eq_false k_ib
theorem n_bi : ¬ (("bool" : Str) = "int") := of_decide_eq_false k_bi
theorem n_ti : ¬ (("text" : Str) = "int") := of_decide_eq_false k_ti
theorem n_tb : ¬ (("text" : Str) = "bool") := of_decide_eq_false k_tb
theorem n_it : ¬ (("int" : Str) = "text") := fun z => n_ti z.symm
theorem n_bt : ¬ (("bool" : Str) = "text") := fun z => n_tb z.symm
def okC (c : Nat) : Prop := 32 ≤ c ∧ c ≤ 126 ∧ c ≠ 37
def VOk : Kd → D → Prop
  | .i, d => ∃ n : Int, d = .int n ∧ -2147483648 ≤ n ∧ n ≤ 2147483647
  | .b, d => ∃ u : Bool, d = .bl u
  | .t, d => ∃ x : Str, d = .str x ∧ x.length ≤ 60 ∧ ∀ c ∈ x.cps.toList, okC c
def oneB : D → List Nat
  | .int n => wordB (w32 n)
  | .bl u => [b2n u]
  | .str x => numB x.length ++ x.cps.toList
  | _ => []
theorem vok_pure {k : Kd} {d : D} (h : VOk k d) : pureD d = true := by
  cases k with
  | i => obtain ⟨n, rfl, -⟩ := h; rfl
  | b => obtain ⟨u, rfl⟩ := h; rfl
  | t => obtain ⟨x, rfl, -⟩ := h; rfl
theorem strlen (x : Str) : x.cps.toList.length = x.length := Array.length_toList
theorem signs_eq (x : Str) : Dd.signs x = x.cps.toList.map fun c => D.str ⟨#[c]⟩ := rfl
@[simp] theorem sz_len (x : Str) : x.cps.size = x.length := rfl
theorem one1 (c : Nat) : (⟨#[c]⟩ : Str).length = 1 := rfl
theorem cp0 (c : Nat) : (⟨#[c]⟩ : Str).cps.getD 0 0 = c := rfl
theorem w_put_signs (c : Nat) (x : Str) (hx : x.length ≤ 1000000) : PC (pg.run (c + 1)) i_put_signs [.str x] (fun d => d = .vl (nD x.cps.toList)) fun _ _ => False := by
  refine pc_of (f := f_put_signs) rfl e_put_signs rfl ?_
  simp [b_put_signs, startD, f_put_signs]
  refine lc_map x.cps.toList (fun c => D.str ⟨#[c]⟩) (fun c => .int (c : Int)) (by rw [strlen]; have : Z = 16777216 := rfl; omega) ?_ ?_ ?_
  · simp [signs_eq]
  · intro a ha
    refine ⟨_, fun h => rfl, fun acc => ?_⟩
    simp [one1]
  · simp [p_map]
    rfl
def lowS : Str := " !\"#$"
def highS : Str := "&'()*+,-./0123456789:;<=>?@ABCDEFGHIJKLMNOPQRSTUVWXYZ[\\]^_`abcdefghijklmnopqrstuvwxyz{|}~"
theorem low_eq : lowS.cps.toList = (List.range 5).map (· + 32) := by decide +kernel
theorem high_eq : highS.cps.toList = (List.range 89).map (· + 38) := by decide +kernel
theorem low_len : lowS.length = 5 := by rw [← strlen, low_eq]; rfl
theorem high_len : highS.length = 89 := by rw [← strlen, high_eq]; simp
theorem w_sign_of (c n : Nat) (h : okC n) : PC (pg.run (c + 1)) i_sign_of [.int (n : Int)] (fun d => d = .str ⟨#[n]⟩) fun _ _ => False := by
  refine pc_of (f := f_sign_of) rfl e_sign_of rfl ?_
  obtain ⟨h1, h2, h3⟩ := h
  have el : (" !\"#$" : Str) = lowS := rfl
  have eh : ("&'()*+,-./0123456789:;<=>?@ABCDEFGHIJKLMNOPQRSTUVWXYZ[\\]^_`abcdefghijklmnopqrstuvwxyz{|}~" : Str) = highS := rfl
  by_cases c0 : n < 37
  · have a1 : (0 : Int) ≤ (n : Int) - 32 := by omega
    have a2 : (n : Int) - 32 < 5 := by omega
    have st : Dd.strAt lowS ((n : Int) - 32) = some n := by
      unfold Dd.strAt
      rw [if_pos (by rw [low_len]; decide), low_eq]
      refine atI_of (k := n - 32) (by omega) ?_
      rw [List.getElem?_map, List.getElem?_range (by omega)]
      exact congrArg some (show n - 32 + 32 = n by omega)
    simp [b_sign_of, startD, f_sign_of, el, eh, low_len, a1, a2, st]
    exact .inr (by omega)
  · have a1 : (0 : Int) ≤ (n : Int) - 32 := by omega
    have a2 : ¬ (n : Int) - 32 < 5 := by omega
    have a3 : (0 : Int) ≤ (n : Int) - 38 := by omega
    have a4 : (n : Int) - 38 < 89 := by omega
    have st : Dd.strAt highS ((n : Int) - 38) = some n := by
      unfold Dd.strAt
      rw [if_pos (by rw [high_len]; decide), high_eq]
      refine atI_of (k := n - 38) (by omega) ?_
      rw [List.getElem?_map, List.getElem?_range (by omega)]
      exact congrArg some (show n - 38 + 38 = n by omega)
    simp [b_sign_of, startD, f_sign_of, el, eh, low_len, high_len, a1, a2, a3, a4, st]
    exact .inr ⟨by omega, by omega⟩
theorem txts_ok (cs : List Nat) : txts (cs.map fun c => D.str ⟨#[c]⟩) = some (cs.map fun c => ⟨#[c]⟩) := by
  induction cs with
  | nil => rfl
  | cons c cs ih => show (txts _).map _ = _; rw [ih]; rfl
theorem join_ok (x : Str) : PySem.Str.join "" (x.cps.toList.map fun c => (⟨#[c]⟩ : Str)) = x := by
  have := PyProof.Rows.join_nil_signs x
  exact this
theorem w_take_signs (c : Nat) (bs : List Nat) (at_ : Nat) (x : Str) (v k : Int) (hv : v = (at_ : Int)) (hk : k = (x.length : Int)) (hd : bs.length ≤ 1000000) (ha : at_ ≤ bs.length) (hx : ∀ c ∈ x.cps.toList, okC c) (h : Cmp (bs.drop at_) x.cps.toList) :
    PC (pg.run (c + 2)) i_take_signs [.vl (nD bs), .int v, .int k] (Took (bs.drop at_) x.cps.toList (.str x) at_) (Lost (bs.drop at_) x.cps.toList) := by
  subst hv hk
  refine pc_of (f := f_take_signs) rfl e_take_signs rfl ?_
  have zz : Z = 16777216 := rfl
  unfold Took Lost
  rw [strlen]
  by_cases c0 : at_ + x.length ≤ bs.length
  · have c1 : ¬ (bs.length : Int) < (at_ : Int) + (x.length : Int) := by omega
    have pf : x.cps.toList <+: bs.drop at_ := by
      rcases h with h | ⟨-, h⟩
      · exact h
      · rw [strlen, List.length_drop] at h; omega
    have cut : cutD (nD bs) (some (at_ : Int)) (some ((at_ : Int) + (x.length : Int))) = nD x.cps.toList := by
      rw [show (at_ : Int) + (x.length : Int) = ((at_ + x.length : Nat) : Int) from by omega, cut_over, Nat.add_sub_cancel_left]
      congr 1
      rw [← strlen]
      exact (List.prefix_iff_eq_take.mp pf).symm
    simp [b_take_signs, startD, f_take_signs, c1, cut]
    refine lc_map x.cps.toList (fun c => D.int (c : Int)) (fun c => D.str ⟨#[c]⟩) (by rw [strlen]; omega) ?_ ?_ ?_
    · simp [cut]; rfl
    · intro a ha
      refine ⟨_, fun h => rfl, fun acc => ?_⟩
      simp
      refine (pc_ok (w_sign_of c a (hx a ha))).mpr ?_
      simp
    · simp [p_map]
      refine ⟨_, txts_ok _, ?_, pf, join_ok x⟩
      unfold joinLen
      have sm : ∀ cs : List Nat, ((cs.map fun c => (⟨#[c]⟩ : Str)).map fun y : Str => y.length).sum = cs.length := by
        intro cs
        induction cs with
        | nil => rfl
        | cons c cs ih => rw [List.map_cons, List.map_cons, List.sum_cons, ih, one1, List.length_cons, Nat.add_comm]
      rw [sm, strlen, show (PySem.Str.ofString "").length = 0 from rfl, Nat.mul_zero]
      omega
  · have c1 : (bs.length : Int) < (at_ : Int) + (x.length : Int) := by omega
    have pf : ¬ x.cps.toList <+: bs.drop at_ := fun z => by
      have := z.length_le
      rw [strlen, List.length_drop] at this; omega
    simp [b_take_signs, startD, f_take_signs, c1, pf]
end Dk

set_option Elab.async false
set_option linter.all false
set_option maxRecDepth 100000
set_option maxHeartbeats 4000000
namespace Dk
open PySem PySem.Spec PyProof.Rows L2 Dd
theorem w32_lt (n : Int) : w32 n < 4294967296 := by unfold w32; omega
theorem wordB_len (n : Nat) : (wordB n).length = 4 := rfl
theorem wordB_lt {n : Nat} (h : n < 4294967296) : ∀ b ∈ wordB n, b < 256 := by
  intro b hb
  simp only [wordB, List.mem_cons, List.not_mem_nil, or_false] at hb
  omega
theorem wordV_of {bs : List Nat} {at_ n : Nat} (h : wordB n <+: bs.drop at_) (hn : n < 4294967296) : wordV bs at_ = n := by
  obtain ⟨s, e⟩ := h
  have g : ∀ j, bs.getD (at_ + j) 0 = (wordB n ++ s).getD j 0 := fun j => by rw [e, List.getD_eq_getElem?_getD, List.getD_eq_getElem?_getD, List.getElem?_drop]
  have g0 := g 0
  unfold wordV
  rw [Nat.add_zero] at g0
  rw [g0, g 1, g 2, g 3]
  show n % 256 + n / 256 % 256 * 256 + n / 65536 % 256 * 65536 + n / 16777216 * 16777216 = n
  omega
theorem r_word (c : Nat) (bs : List Nat) (at_ n : Nat) (v : Int) (hv : v = (at_ : Int)) (hb : ∀ b ∈ bs, b < 256) (ha : at_ ≤ bs.length) (hn : n < 4294967296) (h : Cmp (bs.drop at_) (wordB n)) : PC (pg.run (c + 1)) i_take_word [.vl (nD bs), .int v] (Took (bs.drop at_) (wordB n) (.int (n : Int)) at_) (Lost (bs.drop at_) (wordB n)) := by
  subst hv
  refine (w_take_word c bs at_ hb).mono ?_ ?_
  · rintro d ⟨hl, rfl⟩
    have pf : wordB n <+: bs.drop at_ := by
      rcases h with h | ⟨-, h⟩
      · exact h
      · rw [wordB_len, List.length_drop] at h; omega
    exact ⟨pf, by rw [wordV_of pf hn, wordB_len]⟩
  · rintro c p ⟨rfl, hl⟩
    exact ⟨rfl, not_cut (by rw [wordB_len, List.length_drop]; omega)⟩
theorem r_byte (c : Nat) (bs : List Nat) (at_ n : Nat) (v : Int) (hv : v = (at_ : Int)) (h : Cmp (bs.drop at_) [n]) : PC (pg.run (c + 1)) i_take_byte [.vl (nD bs), .int v] (Took (bs.drop at_) [n] (.int (n : Int)) at_) (Lost (bs.drop at_) [n]) := by
  subst hv
  refine (w_take_byte c bs at_).mono ?_ ?_
  · rintro d ⟨b, hb, rfl⟩
    have hl := (List.getElem?_eq_some_iff.mp hb).1
    have pf : [n] <+: bs.drop at_ := by
      rcases h with h | ⟨-, h⟩
      · exact h
      · rw [List.length_drop] at h; have : [n].length = 1 := rfl; omega
    obtain ⟨s, e⟩ := pf
    have : b = n := by
      have z : (bs.drop at_)[0]? = some b := by rw [List.getElem?_drop, Nat.add_zero]; exact hb
      rw [← e] at z
      cases z; rfl
    subst this
    exact ⟨⟨s, e⟩, rfl⟩
  · rintro c p ⟨rfl, hl⟩
    exact ⟨rfl, not_cut (by rw [List.length_drop]; show _ < 1; omega)⟩
theorem w_signed (c : Nat) (n : Int) (h : -2147483648 ≤ n ∧ n ≤ 2147483647) : PC (pg.run (c + 1)) i_signed [.int ((w32 n : Nat) : Int)] (fun d => d = .int n) fun _ _ => False := by
  refine pc_of (f := f_signed) rfl e_signed rfl ?_
  have r32 : (32 : Int).toNat = 32 := rfl
  by_cases c0 : n < 0
  · have c1 : (2147483647 : Int) < ((w32 n : Nat) : Int) := by unfold w32; omega
    simp [b_signed, startD, f_signed, c1, r32]
    unfold w32; omega
  · have c1 : ¬ (2147483647 : Int) < ((w32 n : Nat) : Int) := by unfold w32; omega
    simp [b_signed, startD, f_signed, c1]
    unfold w32; omega
theorem num60 {n : Nat} (h : n ≤ 60) : numB n = [n] := numB_lt (by omega)
theorem oneB_len {k : Kd} {d : D} (h : VOk k d) : 1 ≤ (oneB d).length ∧ (oneB d).length ≤ 61 := by
  cases k with
  | i => obtain ⟨n, rfl, -⟩ := h; exact ⟨by rw [oneB, wordB_len]; decide, by rw [oneB, wordB_len]; decide⟩
  | b => obtain ⟨u, rfl⟩ := h; exact ⟨Nat.le_refl 1, by show 1 ≤ 61; decide⟩
  | t =>
    obtain ⟨x, rfl, h1, -⟩ := h
    rw [oneB, num60 h1, List.length_append, strlen]
    show 1 ≤ 1 + x.length ∧ 1 + x.length ≤ 61
    omega
theorem oneB_lt {k : Kd} {d : D} (h : VOk k d) : ∀ b ∈ oneB d, b < 256 := by
  intro b hb
  cases k with
  | i => obtain ⟨n, rfl, -⟩ := h; exact wordB_lt (w32_lt n) b hb
  | b =>
    obtain ⟨u, rfl⟩ := h
    rw [oneB, List.mem_singleton] at hb
    rw [hb]; cases u <;> decide
  | t =>
    obtain ⟨x, rfl, h1, h2⟩ := h
    rw [oneB] at hb
    rcases List.mem_append.mp hb with hb | hb
    · exact numB_lt256 _ _ hb
    · have := h2 b hb
      unfold okC at this; omega
theorem w_put_one (c : Nat) (k : Kd) (d : D) (h : VOk k d) : PC (pg.run (c + 2)) i_put_one [.str k.s, d] (fun r => r = .vl (nD (oneB d))) fun _ _ => False := by
  refine pc_of (f := f_put_one) rfl e_put_one rfl ?_
  cases k with
  | i =>
    obtain ⟨n, rfl, -⟩ := h
    simp [b_put_one, startD, f_put_one, Kd.s]
    refine (pc_ok (w_put_word c n)).mpr ?_
    simp [oneB]
  | b =>
    obtain ⟨u, rfl⟩ := h
    simp [b_put_one, startD, f_put_one, Kd.s, n_bi]
    cases u <;> rfl
  | t =>
    obtain ⟨x, rfl, h1, h2⟩ := h
    simp [b_put_one, startD, f_put_one, Kd.s, n_ti, n_tb]
    refine ⟨by omega, ?_⟩
    refine (pn_ok (n := x.length) rfl (by omega)).mpr ?_
    refine (pc_ok (w_put_signs c x (by omega))).mpr ?_
    simp [num60 h1, oneB, nD_app]
    exact ⟨by omega, rfl⟩
theorem w_law_one (c : Nat) (k : Kd) (d : D) (h : VOk k d) : PC (pg.run (c + 2)) i_law_one [.str k.s, d] (fun r => r = .vl (nD (oneB d))) fun _ _ => False := by
  refine pc_of (f := f_law_one) rfl e_law_one rfl ?_
  have zz : Z = 16777216 := rfl
  cases k with
  | i =>
    obtain ⟨n, rfl, -⟩ := h
    simp [b_law_one, startD, f_law_one, Kd.s]
    refine (pc_ok (w_law_word c n)).mpr ?_
    simp [oneB]
  | b =>
    obtain ⟨u, rfl⟩ := h
    simp [b_law_one, startD, f_law_one, Kd.s, n_bi]
    cases u <;> rfl
  | t =>
    obtain ⟨x, rfl, h1, h2⟩ := h
    simp [b_law_one, startD, f_law_one, Kd.s, n_ti, n_tb]
    refine ⟨by omega, ?_⟩
    refine (ln_ok (n := x.length) rfl (by omega)).mpr ?_
    refine lc_map x.cps.toList (fun c => D.str ⟨#[c]⟩) (fun c => .int (c : Int)) (by rw [strlen]; omega) ?_ ?_ ?_
    · simp [signs_eq]
    · intro a ha
      refine ⟨_, fun h => rfl, fun acc => ?_⟩
      simp [one1]
    · simp [num60 h1]
      have e : List.map (fun c : Nat => D.int (c : Int)) x.cps.toList = nD x.cps.toList := rfl
      rw [e]
      simp [oneB, nD_app, num60 h1]
      exact ⟨by omega, rfl⟩
theorem drop_le {bs B : List Nat} {at_ : Nat} (h : B <+: bs.drop at_) : at_ ≤ bs.length → at_ + B.length ≤ bs.length := fun ha => by
  have := h.length_le
  rw [List.length_drop] at this; omega
theorem r_one (c : Nat) (k : Kd) (d : D) (bs : List Nat) (at_ : Nat) (v : Int) (hv : v = (at_ : Int)) (hb : ∀ b ∈ bs, b < 256) (hd : bs.length ≤ 1000000) (ha : at_ ≤ bs.length) (h : VOk k d) (hc : Cmp (bs.drop at_) (oneB d)) :
    PC (pg.run (c + 3)) i_take_one [.str k.s, .vl (nD bs), .int v] (Took (bs.drop at_) (oneB d) d at_) (Lost (bs.drop at_) (oneB d)) := by
  subst hv
  refine pc_of (f := f_take_one) rfl e_take_one rfl ?_
  cases k with
  | i =>
    obtain ⟨n, rfl, h1, h2⟩ := h
    simp [b_take_one, startD, f_take_one, Kd.s]
    refine pc_to (r_word (c + 1) bs at_ (w32 n) _ rfl hb ha (w32_lt n) hc) ?_ ?_
    · rintro d ⟨pf, rfl⟩
      simp
      refine (pc_ok (w_signed (c + 1) n ⟨h1, h2⟩)).mpr ?_
      simp
      exact ⟨pf, rfl⟩
    · rintro c p sp ⟨rfl, pf⟩
      simp [sp]
      exact ⟨rfl, pf⟩
  | b =>
    obtain ⟨u, rfl⟩ := h
    simp [b_take_one, startD, f_take_one, Kd.s, n_bi]
    refine pc_to (r_byte (c + 1) bs at_ (b2n u) _ rfl hc) ?_ ?_
    · rintro d ⟨pf, rfl⟩
      cases u
      · simp [b2n]
        exact ⟨pf, rfl⟩
      · simp [b2n]
        exact ⟨pf, rfl⟩
    · rintro c p sp ⟨rfl, pf⟩
      simp [sp]
      exact ⟨rfl, pf⟩
  | t =>
    obtain ⟨x, rfl, h1, h2⟩ := h
    rw [oneB] at hc ⊢
    simp [b_take_one, startD, f_take_one, Kd.s, n_ti, n_tb]
    refine pc_to (r_number (c + 1) bs at_ x.length _ rfl hb (by omega) (cmp_left hc)) ?_ ?_
    · rintro d ⟨pf, rfl⟩
      obtain ⟨c1, c2⟩ := cmp_right hc pf
      rw [List.drop_drop] at c1 c2
      have c3 : ¬ (60 : Int) < (x.length : Int) := by omega
      have c4 : ¬ 60 < x.length := by omega
      simp [c3, c4]
      refine pc_to (w_take_signs c bs (at_ + (numB x.length).length) x _ _ (by norm_cast) rfl hd (drop_le pf ha) h2 c1) ?_ ?_
      · rintro d ⟨pf2, rfl⟩
        simp
        exact ⟨c2.mpr pf2, by simp; omega⟩
      · rintro c p sp ⟨rfl, pf2⟩
        simp [sp]
        exact ⟨rfl, fun z => pf2 (c2.mp z)⟩
    · rintro c p sp ⟨rfl, pf⟩
      simp [sp]
      exact ⟨rfl, not_left pf⟩
end Dk

set_option Elab.async false
set_option linter.all false
set_option maxRecDepth 100000
set_option maxHeartbeats 4000000
namespace Dk
open PySem PySem.Spec PyProof.Rows L2 Dd
def bitD : D → Nat | .bl u => b2n u | _ => 0
def plainB : Kd → List D → List Nat
  | .b, vs => packB 1 (vs.map bitD)
  | _, vs => vs.flatMap oneB
theorem flat_len {k : Kd} {vs : List D} (h : ∀ d ∈ vs, VOk k d) : (vs.flatMap oneB).length ≤ 61 * vs.length := by
  induction vs with
  | nil => exact Nat.le_refl _
  | cons d vs ih =>
    have := ih fun x hx => h x (List.mem_cons_of_mem _ hx)
    have := oneB_len (h d List.mem_cons_self)
    rw [List.flatMap_cons, List.length_append, List.length_cons]; omega
theorem plain_len {k : Kd} {vs : List D} (h : ∀ d ∈ vs, VOk k d) : (plainB k vs).length ≤ 61 * vs.length := by
  cases k with
  | i => exact flat_len h
  | t => exact flat_len h
  | b =>
    show (packB 1 _).length ≤ _
    rw [packB_len, List.length_map]; omega
theorem flat_lt {k : Kd} {vs : List D} (h : ∀ d ∈ vs, VOk k d) : ∀ b ∈ vs.flatMap oneB, b < 256 := by
  intro b hb
  obtain ⟨d, hd, hb⟩ := List.mem_flatMap.mp hb
  exact oneB_lt (h d hd) b hb
theorem plain_lt {k : Kd} {vs : List D} (h : ∀ d ∈ vs, VOk k d) : ∀ b ∈ plainB k vs, b < 256 := by
  cases k with
  | i => exact flat_lt h
  | t => exact flat_lt h
  | b => exact packB_lt _ _
theorem bits_ok (vs : List D) : ∀ x ∈ vs.map bitD, x < 2 ^ 1 := by
  intro x hx
  obtain ⟨d, -, rfl⟩ := List.mem_map.mp hx
  cases d with
  | bl u => cases u <;> decide
  | _ => exact Nat.zero_lt_two
theorem vs_pure {k : Kd} {vs : List D} (h : ∀ d ∈ vs, VOk k d) : pureDs vs = true := p_all.mpr fun d hd => vok_pure (h d hd)
theorem bit_int {vs : List D} (h : ∀ d ∈ vs, VOk .b d) : vs.map (fun d => D.int (bitD d : Int)) = nD (vs.map bitD) := by
  rw [nD, List.map_map]; rfl
theorem w_put_plain (c : Nat) (k : Kd) (vs : List D) (h : ∀ d ∈ vs, VOk k d) (hz : vs.length ≤ 100000) : PC (pg.run (c + 3)) i_put_plain [.str k.s, .vl vs] (fun r => r = .vl (nD (plainB k vs))) fun _ _ => False := by
  refine pc_of (f := f_put_plain) rfl e_put_plain rfl ?_
  have zz : Z = 16777216 := rfl
  have pu := vs_pure h
  have nb : ∀ k' : Kd, k' ≠ .b → k = k' → WP (b_put_plain (pg.run (c + 2))) (startD f_put_plain.N [.str k.s, .vl vs]) [] (EndP (fun r => r = .vl (nD (plainB k vs))) fun _ _ => False) := by
    rintro k' hk rfl
    have kb : ¬ k.s = ("bool" : Str) := by cases k <;> first | exact n_ib | exact n_tb | exact absurd rfl hk
    have pb : plainB k vs = vs.flatMap oneB := by cases k <;> first | rfl | exact absurd rfl hk
    rw [pb]
    have fl := flat_len h
    simp [b_put_plain, startD, f_put_plain, kb]
    refine lc2_map vs id oneB (fun b : Nat => D.int (b : Int)) (fun b : Nat => D.int (b : Int)) (by omega) (by simp) ?_ ?_
    · intro d hd
      have pd := vok_pure (h d hd)
      refine ⟨_, fun h => rfl, fun acc => ⟨?_, ?_⟩⟩
      · simp [pd]
        refine (pc_ok (w_put_one c k d (h d hd))).mpr ?_
        simp
        rfl
      · intro b hb
        refine ⟨_, fun h => rfl, fun acc => ?_⟩
        simp
    · simp [p_map]
      rfl
  cases k with
  | i => exact nb .i (fun z => nomatch z) rfl
  | t => exact nb .t (fun z => nomatch z) rfl
  | b =>
    simp [b_put_plain, startD, f_put_plain, Kd.s]
    refine lc_map vs id (fun d => D.int (bitD d : Int)) (by omega) (by simp) ?_ ?_
    · intro d hd
      obtain ⟨u, rfl⟩ := h d hd
      refine ⟨_, fun h => rfl, fun acc => ?_⟩
      cases u <;> simp [bitD, b2n]
    · rw [bit_int h]
      simp
      refine (pc_ok (w_pack (c + 1) 1 (vs.map bitD) (bits_ok vs) (by decide) (by rw [List.length_map]; omega))).mpr ?_
      simp [plainB]
theorem w_law_plain (c : Nat) (k : Kd) (vs : List D) (h : ∀ d ∈ vs, VOk k d) (hz : vs.length ≤ 100000) : PC (pg.run (c + 3)) i_law_plain [.str k.s, .vl vs] (fun r => r = .vl (nD (plainB k vs))) fun _ _ => False := by
  refine pc_of (f := f_law_plain) rfl e_law_plain rfl ?_
  have zz : Z = 16777216 := rfl
  have pu := vs_pure h
  have nb : ∀ k' : Kd, k' ≠ .b → k = k' → WP (b_law_plain (pg.run (c + 2))) (startD f_law_plain.N [.str k.s, .vl vs]) [] (EndP (fun r => r = .vl (nD (plainB k vs))) fun _ _ => False) := by
    rintro k' hk rfl
    have kb : ¬ k.s = ("bool" : Str) := by cases k <;> first | exact n_ib | exact n_tb | exact absurd rfl hk
    have pb : plainB k vs = vs.flatMap oneB := by cases k <;> first | rfl | exact absurd rfl hk
    rw [pb]
    simp [b_law_plain, startD, f_law_plain, kb]
    refine for_map vs id (fun j e hh => ∃ d x, (e = [some (.str k.s), some (.vl vs), some d, x] ∧ hh = [.lst []]) ∧ LV [.lst []] d (nD ((vs.take j).flatMap oneB))) (by simp) ⟨.ref 0, none, ⟨rfl, rfl⟩, lv_ref rfl⟩ ?_ ?_
    · rintro e hh ⟨d, x, ⟨rfl, rfl⟩, ld⟩
      rw [List.take_length] at ld
      simp [lv_deep ld (nD_pure _)]
    · rintro j a e hh hj ⟨d, x, ⟨rfl, rfl⟩, ld⟩
      obtain ⟨hjl, ha⟩ := List.getElem?_eq_some_iff.mp hj
      have hm : a ∈ vs := List.mem_of_getElem? hj
      have pa := vok_pure (h a hm)
      have tk : vs.take (j + 1) = vs.take j ++ [a] := by rw [List.take_succ, hj]; rfl
      have l1 := flat_len (k := k) (vs := vs.take j) fun x hx => h x (List.mem_of_mem_take hx)
      rw [List.length_take] at l1
      have l2 := oneB_len (h a hm)
      have nx : (vs.take (j + 1)).flatMap oneB = (vs.take j).flatMap oneB ++ oneB a := by rw [tk, List.flatMap_append, List.flatMap_cons, List.flatMap_nil, List.append_nil]
      rw [nx]
      obtain ⟨acc, hacc⟩ : ∃ acc, acc = (vs.take j).flatMap oneB := ⟨_, rfl⟩
      rw [← hacc] at ld l1 ⊢
      refine ⟨_, rfl, ?_⟩
      simp [pa]
      refine (pc_ok (w_law_one c k a (h a hm))).mpr ?_
      simp [lv_add ld]
      refine ⟨by omega, ?_⟩
      rw [nD_app]
      exact lv_vl
  cases k with
  | i => exact nb .i (fun z => nomatch z) rfl
  | t => exact nb .t (fun z => nomatch z) rfl
  | b =>
    simp [b_law_plain, startD, f_law_plain, Kd.s]
    refine lc_map vs id (fun d => D.int (bitD d : Int)) (by omega) (by simp) ?_ ?_
    · intro d hd
      obtain ⟨u, rfl⟩ := h d hd
      refine ⟨_, fun h => rfl, fun acc => ?_⟩
      cases u <;> simp [bitD, b2n]
    · rw [bit_int h]
      simp
      refine (pc_ok (w_law_pack (c + 1) 1 (vs.map bitD) (bits_ok vs) (by decide) (by rw [List.length_map]; omega))).mpr ?_
      simp [plainB]
end Dk

set_option Elab.async false
set_option linter.all false
set_option maxRecDepth 100000
set_option maxHeartbeats 4000000
namespace Dk
open PySem PySem.Spec PyProof.Rows L2 Dd
def P26 (k : Kd) (bs : List Nat) (at_ : Nat) (vs : List D) (j : Nat) (e : DE) (hh : DH) : Prop := ∃ (a : Nat) (x y : Option D), (e = [some (.str k.s), some (.vl (nD bs)), some (.int (a : Int)), some (.int (vs.length : Int)), none, some (.ref 0), x, y, none] ∧ hh = [.lst (vs.take j)]) ∧ (at_ ≤ a ∧ a ≤ bs.length) ∧ Cmp (bs.drop a) ((vs.drop j).flatMap oneB) ∧ (vs.flatMap oneB <+: bs.drop at_ ↔ (vs.drop j).flatMap oneB <+: bs.drop a) ∧ a + ((vs.drop j).flatMap oneB).length = at_ + (vs.flatMap oneB).length
theorem r_plain (c : Nat) (k : Kd) (vs : List D) (bs : List Nat) (at_ : Nat) (v n : Int) (hv : v = (at_ : Int)) (hn : n = (vs.length : Int)) (hb : ∀ b ∈ bs, b < 256) (hd : bs.length ≤ 1000000) (ha : at_ ≤ bs.length) (h : ∀ d ∈ vs, VOk k d) (hz : vs.length ≤ 100000) (hc : Cmp (bs.drop at_) (plainB k vs)) :
    PC (pg.run (c + 4)) i_take_plain [.str k.s, .vl (nD bs), .int v, .int n] (Took (bs.drop at_) (plainB k vs) (.vl vs) at_) (Lost (bs.drop at_) (plainB k vs)) := by
  subst hv hn
  refine pc_of (f := f_take_plain) rfl e_take_plain rfl ?_
  have zz : Z = 16777216 := rfl
  have pu := vs_pure h
  have nb : ∀ k' : Kd, k' ≠ .b → k = k' → WP (b_take_plain (pg.run (c + 3))) (startD f_take_plain.N [.str k.s, .vl (nD bs), .int (at_ : Int), .int (vs.length : Int)]) [] (EndP (Took (bs.drop at_) (plainB k vs) (.vl vs) at_) (Lost (bs.drop at_) (plainB k vs))) := by
    rintro k' hk rfl
    have kb : ¬ k.s = ("bool" : Str) := by cases k <;> first | exact n_ib | exact n_tb | exact absurd rfl hk
    have pb : plainB k vs = vs.flatMap oneB := by cases k <;> first | rfl | exact absurd rfl hk
    rw [pb] at hc ⊢
    simp [b_take_plain, startD, f_take_plain, kb]
    refine for_rngS vs.length (P26 k bs at_ vs) (by simp) (below_iff.mpr (by omega)) ⟨at_, none, none, ⟨rfl, rfl⟩, ⟨Nat.le_refl _, ha⟩, hc, Iff.rfl, rfl⟩ ?_ ?_
    · rintro e hh ⟨a, x, y, ⟨rfl, rfl⟩, ha, hc, pf, hl⟩
      rw [List.drop_length, List.flatMap_nil] at pf hl
      simp only [List.take_length]
      simp [pu]
      exact ⟨pf.mpr List.nil_prefix, by rw [List.length_nil] at hl; rw [← hl]; rfl⟩
    · rintro j e hh hj ⟨a, x, y, ⟨rfl, rfl⟩, ha, hc, pf, hl⟩
      have dr : vs.drop j = vs[j] :: vs.drop (j + 1) := List.drop_eq_getElem_cons hj
      have hm : vs[j] ∈ vs := List.getElem_mem _
      have tk : vs.take (j + 1) = vs.take j ++ [vs[j]] := by rw [List.take_succ, List.getElem?_eq_getElem hj]; rfl
      have fm : (vs.drop j).flatMap oneB = oneB vs[j] ++ (vs.drop (j + 1)).flatMap oneB := by rw [dr, List.flatMap_cons]
      rw [fm] at hc pf hl
      rw [List.length_append] at hl
      obtain ⟨d, hd'⟩ : ∃ d, d = vs[j] := ⟨_, rfl⟩
      rw [← hd'] at hc pf hl hm tk
      have tl : (vs.take j).length < 16777216 := by rw [List.length_take]; omega
      obtain ⟨acc, hacc⟩ : ∃ acc, acc = vs.take j := ⟨_, rfl⟩
      rw [← hacc] at tl tk ⊢
      refine ⟨_, rfl, ?_⟩
      simp
      refine pc_to (r_one c k d bs a _ rfl hb hd ha.2 (h d hm) (cmp_left hc)) ?_ ?_
      · rintro r ⟨p1, rfl⟩
        obtain ⟨c1, c2⟩ := cmp_right hc p1
        rw [List.drop_drop] at c1 c2
        have := drop_le p1 ha.2
        simp
        refine ⟨by omega, a + (oneB d).length, _, _, ⟨by norm_cast, by rw [tk]⟩, ⟨by omega, by omega⟩, c1, pf.trans c2, by omega⟩
      · rintro e p sp ⟨rfl, p1⟩
        simp [sp]
        exact ⟨rfl, fun z => p1 ((List.prefix_append _ _).trans (pf.mp z))⟩
  cases k with
  | i => exact nb .i (fun z => nomatch z) rfl
  | t => exact nb .t (fun z => nomatch z) rfl
  | b =>
    simp [b_take_plain, startD, f_take_plain, Kd.s]
    have rp := r_pack (c + 2) bs at_ 1 (vs.map bitD) (at_ : Int) (vs.length : Int) rfl (by rw [List.length_map]) hb hd ha (by decide) (by decide) (bits_ok vs) hc
    refine pc_to rp ?_ ?_
    · rintro r ⟨p1, rfl⟩
      simp
      refine lc_map (vs.map bitD) (fun b : Nat => D.int (b : Int)) (fun b : Nat => D.bl (decide (b = 1))) (by rw [List.length_map]; omega) (by simp [nD]) ?_ ?_
      · intro x hx
        refine ⟨_, fun h => rfl, fun acc => ?_⟩
        simp
        omega
      · have e : (vs.map bitD).map (fun b : Nat => D.bl (decide (b = 1))) = vs := by
          rw [List.map_map]
          conv => rhs; rw [← List.map_id vs]
          refine List.map_congr_left fun d hd => ?_
          obtain ⟨u, rfl⟩ := h d hd
          cases u <;> rfl
        rw [e]
        simp [pu]
        exact ⟨p1, rfl⟩
    · rintro e p sp ⟨rfl, p1⟩
      simp [sp]
      exact ⟨rfl, p1⟩
theorem w_is_int (c : Nat) (n : Int) (h : -2147483648 ≤ n ∧ n ≤ 2147483647) : PC (pg.run (c + 1)) i_is_int [.int n] (fun d => d = .bl true) fun _ _ => False := by
  refine pc_of (f := f_is_int) rfl e_is_int rfl ?_
  have t1 : isTy "int" "int" = true := by decide +kernel
  have t2 : isTy "bool" "int" = false := by decide +kernel
  simp [b_is_int, startD, f_is_int, t1, t2, h.1, h.2]
theorem w_is_valueI (c : Nat) (n : Int) (h : -2147483648 ≤ n ∧ n ≤ 2147483647) : PC (pg.run (c + 2)) i_is_value [.str "int", .int n] (fun d => d = .bl true) fun _ _ => False := by
  refine pc_of (f := f_is_value) rfl e_is_value rfl ?_
  simp [b_is_value, startD, f_is_value]
  refine (pc_ok (w_is_int c n h)).mpr ?_
  simp
end Dk

set_option Elab.async false
set_option linter.all false
set_option maxRecDepth 100000
set_option maxHeartbeats 4000000
namespace Dk
open PySem PySem.Spec PyProof.Rows L2 Dd
/-! ### differences -/
def foldN (i : Int) : Nat := (foldI i).toNat
theorem foldN_int (i : Int) : ((foldN i : Nat) : Int) = foldI i := by unfold foldN foldI; split <;> omega
def diffB (p : Int) : List Int → List Nat
  | [] => []
  | n :: ns => numB (foldN (n - p)) ++ diffB n ns
def IOk (n : Int) : Prop := -2147483648 ≤ n ∧ n ≤ 2147483647
theorem foldN_lt {n p : Int} (h : IOk n) (hp : IOk p) : foldN (n - p) < 8589934592 := by
  unfold IOk at h hp
  unfold foldN foldI
  split <;> omega
theorem num5 {n : Nat} (h : n < 34359738368) : (numB n).length ≤ 5 := numB_len (k := 4) (by omega)
theorem diff_len {p : Int} {ns : List Int} (hp : IOk p) (h : ∀ n ∈ ns, IOk n) : (diffB p ns).length ≤ 5 * ns.length := by
  induction ns generalizing p with
  | nil => exact Nat.le_refl _
  | cons n ns ih =>
    have := ih (h n List.mem_cons_self) fun x hx => h x (List.mem_cons_of_mem _ hx)
    have := num5 (n := foldN (n - p)) (by have := foldN_lt (h n List.mem_cons_self) hp; omega)
    rw [diffB, List.length_append, List.length_cons]; omega
theorem diff_lt {p : Int} {ns : List Int} : ∀ b ∈ diffB p ns, b < 256 := by
  induction ns generalizing p with
  | nil => exact fun b hb => nomatch hb
  | cons n ns ih =>
    intro b hb
    rw [diffB] at hb
    rcases List.mem_append.mp hb with hb | hb
    · exact numB_lt256 _ _ hb
    · exact ih b hb
def P31 (vs : D) (ns : List Int) (j : Nat) (e : DE) (h : DH) : Prop := ∃ (acc : List Nat) (p : Int) (x : Option D), (e = [some vs, some (.ref 0), some (.int p), x] ∧ h = [.lst (nD acc)]) ∧ IOk p ∧ acc ++ diffB p (ns.drop j) = diffB 0 ns
theorem ok0 : IOk 0 := by unfold IOk; omega
theorem ints_pure (ns : List Int) : pureDs (ns.map D.int) = true := p_map fun _ _ => rfl
theorem w_put_differences (c : Nat) (ns : List Int) (h : ∀ n ∈ ns, IOk n) (hz : ns.length ≤ 100000) : PC (pg.run (c + 2)) i_put_differences [.vl (ns.map .int)] (fun r => r = .vl (nD (diffB 0 ns))) fun _ _ => False := by
  refine pc_of (f := f_put_differences) rfl e_put_differences rfl ?_
  have zz : Z = 16777216 := rfl
  have dl := diff_len ok0 h
  simp [b_put_differences, startD, f_put_differences]
  refine for_map ns D.int (P31 (.vl (ns.map .int)) ns) (by simp) ⟨[], 0, none, ⟨rfl, rfl⟩, ok0, rfl⟩ ?_ ?_
  · rintro e hh ⟨acc, p, x, ⟨rfl, rfl⟩, hp, q⟩
    rw [List.drop_length, diffB, List.append_nil] at q
    simp [q]
  · rintro j n e hh hj ⟨acc, p, x, ⟨rfl, rfl⟩, hp, q⟩
    obtain ⟨hjl, hn⟩ := List.getElem?_eq_some_iff.mp hj
    have on := h n (List.mem_of_getElem? hj)
    have dr : ns.drop j = n :: ns.drop (j + 1) := by rw [← hn]; exact List.drop_eq_getElem_cons hjl
    rw [dr, diffB] at q
    have lt := foldN_lt on hp
    have ql := congrArg List.length q
    simp only [List.length_append] at ql
    refine ⟨_, rfl, ?_⟩
    simp
    refine (pc_ok (w_fold_sign c (n - p))).mpr ?_
    simp
    refine (pn_ok (n := foldN (n - p)) (foldN_int _).symm (by omega)).mpr ?_
    simp
    exact ⟨by omega, acc ++ numB (foldN (n - p)), n, _, ⟨rfl, by rw [nD_app]⟩, on, by rw [List.append_assoc, q]⟩
def P32 (bs : List Nat) (at_ : Nat) (ns : List Int) (j : Nat) (e : DE) (hh : DH) : Prop := ∃ (a : Nat) (p : Int) (x y : Option D), (e = [some (.vl (nD bs)), some (.int (a : Int)), some (.int (ns.length : Int)), some (.ref 0), some (.int p), x, y] ∧ hh = [.lst ((ns.take j).map .int)]) ∧ IOk p ∧ (at_ ≤ a ∧ a ≤ bs.length) ∧ Cmp (bs.drop a) (diffB p (ns.drop j)) ∧ (diffB 0 ns <+: bs.drop at_ ↔ diffB p (ns.drop j) <+: bs.drop a) ∧ a + (diffB p (ns.drop j)).length = at_ + (diffB 0 ns).length
theorem r_differences (c : Nat) (ns : List Int) (bs : List Nat) (at_ : Nat) (v n : Int) (hv : v = (at_ : Int)) (hn : n = (ns.length : Int)) (hb : ∀ b ∈ bs, b < 256) (ha : at_ ≤ bs.length) (h : ∀ d ∈ ns, IOk d) (hz : ns.length ≤ 100000) (hc : Cmp (bs.drop at_) (diffB 0 ns)) :
    PC (pg.run (c + 3)) i_take_differences [.vl (nD bs), .int v, .int n] (Took (bs.drop at_) (diffB 0 ns) (.vl (ns.map .int)) at_) (Lost (bs.drop at_) (diffB 0 ns)) := by
  subst hv hn
  refine pc_of (f := f_take_differences) rfl e_take_differences rfl ?_
  have zz : Z = 16777216 := rfl
  simp [b_take_differences, startD, f_take_differences]
  refine for_rngS ns.length (P32 bs at_ ns) (by simp) (below_iff.mpr (by omega)) ⟨at_, 0, none, none, ⟨rfl, rfl⟩, ok0, ⟨Nat.le_refl _, ha⟩, hc, Iff.rfl, rfl⟩ ?_ ?_
  · rintro e hh ⟨a, p, x, y, ⟨rfl, rfl⟩, hp, ha, hc, pf, hl⟩
    rw [List.drop_length, diffB] at pf hl
    simp only [List.take_length]
    simp [ints_pure]
    exact ⟨pf.mpr List.nil_prefix, by rw [List.length_nil] at hl; rw [← hl]; rfl⟩
  · rintro j e hh hj ⟨a, p, x, y, ⟨rfl, rfl⟩, hp, ha, hc, pf, hl⟩
    have dr : ns.drop j = ns[j] :: ns.drop (j + 1) := List.drop_eq_getElem_cons hj
    have on := h ns[j] (List.getElem_mem _)
    have tk : (ns.take (j + 1)).map D.int = (ns.take j).map D.int ++ [.int ns[j]] := by rw [List.take_succ, List.getElem?_eq_getElem hj, List.map_append]; rfl
    rw [dr, diffB] at hc pf hl
    rw [List.length_append] at hl
    obtain ⟨n, hn⟩ : ∃ n, n = ns[j] := ⟨_, rfl⟩
    rw [← hn] at hc pf hl on tk
    have lt := foldN_lt on hp
    have tl : ((ns.take j).map D.int).length < 16777216 := by rw [List.length_map, List.length_take]; omega
    obtain ⟨acc, hacc⟩ : ∃ acc, acc = (ns.take j).map D.int := ⟨_, rfl⟩
    rw [← hacc] at tl tk ⊢
    refine ⟨_, rfl, ?_⟩
    simp
    refine pc_to (r_number (c + 1) bs a (foldN (n - p)) _ rfl hb (by omega) (cmp_left hc)) ?_ ?_
    · rintro r ⟨p1, rfl⟩
      obtain ⟨c1, c2⟩ := cmp_right hc p1
      rw [List.drop_drop] at c1 c2
      have := drop_le p1 ha.2
      simp
      refine (pc_ok (w_unfold_sign (c + 1) _)).mpr ?_
      rw [foldN_int, unf_fold, w_aadd, show p + (n - p) = n from by omega]
      simp
      refine (pc_ok (w_is_valueI c n on)).mpr ?_
      simp
      refine ⟨by omega, a + (numB (foldN (n - p))).length, n, _, _, ⟨by norm_cast, by rw [tk]⟩, on, ⟨by omega, by omega⟩, c1, pf.trans c2, by omega⟩
    · rintro e p sp ⟨rfl, p1⟩
      simp [sp]
      exact ⟨rfl, fun z => p1 ((List.prefix_append _ _).trans (pf.mp z))⟩
end Dk

set_option Elab.async false
set_option linter.all false
set_option maxRecDepth 100000
set_option maxHeartbeats 4000000
namespace Dk
open PySem PySem.Spec PyProof.Rows L2 Dd
/-! ### dictionaries -/
instance (priority := 2000) keyBEq : BEq Key := ⟨fun a b => decide (a = b)⟩
instance (priority := 2000) keyLaw : LawfulBEq Key where
  eq_of_beq h := of_decide_eq_true h
  rfl := decide_eq_true rfl
theorem keyD_V (x : Key) : keyD (keyV x) = some x := by cases x <;> rfl
theorem keyV_pure (x : Key) : pureD (keyV x) = true := by cases x <;> rfl
theorem keyV_flat (x : Key) : flatD (keyV x) = true := by cases x <;> rfl
theorem scal_key (x y : Key) : scalD (keyV x) (keyV y) = some (decide (x = y)) := by
  cases x <;> cases y <;> simp [keyV, scalD]
theorem keys_pure (a : List Key) : pureDs (a.map keyV) = true := p_map fun x _ => keyV_pure x
theorem keys_flat (a : List Key) : (a.map keyV).all flatD = true := by
  rw [List.all_eq_true]
  intro d hd
  obtain ⟨x, -, rfl⟩ := List.mem_map.mp hd
  exact keyV_flat x
theorem anyEq_keys (x : Key) (h : DH) (a : List Key) : anyEq (keyV x) h (a.map keyV) = some (decide (x ∈ a)) := by
  induction a with
  | nil => rfl
  | cons y a ih =>
    rw [List.map_cons]
    unfold anyEq
    rw [scal_key, ih]
    dsimp only
    rw [Option.map_some]
    congr 1
    rw [Bool.eq_iff_iff]
    simp only [Bool.or_eq_true, decide_eq_true_eq, List.mem_cons]
    exact or_congr eq_comm Iff.rfl
theorem place_keys (x : Key) (a : List Key) (n : Nat) (hx : x ∈ a) : placeD (keyV x) (a.map keyV) n = some (n + a.idxOf x) := by
  induction a generalizing n with
  | nil => cases hx
  | cons y a ih =>
    rw [List.map_cons]
    unfold placeD
    rw [scal_key, List.idxOf_cons]
    by_cases c : y = x
    · subst c
      simp
    · have hx2 : x ∈ a := by
        rcases List.mem_cons.mp hx with z | z
        · exact absurd z.symm c
        · exact z
      have c2 : (y == x) = false := beq_eq_false_iff_ne.mpr c
      rw [decide_eq_false c, c2]
      dsimp only
      rw [ih (n + 1) hx2]
      simp
      omega
section
variable {h : DH} {i : Nat} {a : List Key} {x : Key} {Q : D → DH → Prop}
theorem w_notin_lst (l : lstAt h i = some (a.map keyV)) : WO (notInD (keyV x) (.ref i)) h Q ↔ Q (.bl (!decide (x ∈ a))) h := by
  refine wo_eq ?_
  show (inB (keyV x) (.ref i) h).map _ = _
  have e : inB (keyV x) (.ref i) h = some (decide (x ∈ a)) := by
    show (match seqD (.ref i) h with | some xs => if flatD (keyV x) && xs.all flatD then anyEq (keyV x) h xs else none | none => (dGet (.ref i) (keyV x) h).map Option.isSome) = _
    rw [show seqD (.ref i) h = lstAt h i from rfl, l]
    dsimp only
    rw [keyV_flat, keys_flat, anyEq_keys]; rfl
  rw [e]; rfl
theorem w_index (l : lstAt h i = some (a.map keyV)) (hx : x ∈ a) : WO (mthG .index (.ref i) [keyV x]) h Q ↔ Q (.int ((a.idxOf x : Nat) : Int)) h := by
  refine wo_eq ?_
  have e0 : mthG .index (.ref i) [keyV x] h = (match lstAt h i with
      | some ds => if flatD (keyV x) && ds.all flatD then (placeD (keyV x) ds 0).map fun j => (.int (j : Nat), h) else none
      | none => none) := by
    simp only [mthG, ok_ixr, l, Option.isSome, if_true, mthD, seqD]
  rw [e0, l]
  dsimp only
  rw [keyV_flat, keys_flat, place_keys x a 0 hx]
  simp
end
/-! a dict that is being written -/
def mkP (n : Nat) : List Key → List (Key × D)
  | [] => []
  | k :: r => (k, .int (n : Int)) :: mkP (n + 1) r
theorem mkP_len (n : Nat) (a : List Key) : (mkP n a).length = a.length := by
  induction a generalizing n with
  | nil => rfl
  | cons k a ih => rw [mkP, List.length_cons, ih, List.length_cons]
theorem mkP_keys (n : Nat) (a : List Key) : (mkP n a).map (fun p => keyV p.1) = a.map keyV := by
  induction a generalizing n with
  | nil => rfl
  | cons k a ih => rw [mkP, List.map_cons, ih, List.map_cons]
theorem mkP_look (n : Nat) (a : List Key) (x : Key) : lookD (mkP n a) x = if x ∈ a then some (.int ((n + a.idxOf x : Nat) : Int)) else none := by
  induction a generalizing n with
  | nil => rfl
  | cons y a ih =>
    rw [mkP, List.idxOf_cons]
    unfold lookD at ih ⊢
    rw [List.find?_cons]
    by_cases c : y = x
    · subst c
      simp
    · have c2 : (y == x) = false := beq_eq_false_iff_ne.mpr c
      have c3 : ¬ x = y := fun z => c z.symm
      simp only [decide_eq_false c, c2]
      rw [ih (n + 1)]
      simp only [List.mem_cons, c3, false_or]
      split
      · simp
        omega
      · rfl
theorem mkP_any (n : Nat) (a : List Key) (x : Key) : ((mkP n a).any fun p => decide (p.1 = x)) = decide (x ∈ a) := by
  induction a generalizing n with
  | nil => rfl
  | cons y a ih =>
    rw [mkP, List.any_cons, ih, Bool.eq_iff_iff]
    simp only [Bool.or_eq_true, decide_eq_true_eq, List.mem_cons]
    exact or_congr eq_comm Iff.rfl
theorem mkP_app (n : Nat) (a : List Key) (x : Key) : mkP n (a ++ [x]) = mkP n a ++ [(x, .int ((n + a.length : Nat) : Int))] := by
  induction a generalizing n with
  | nil => rfl
  | cons y a ih =>
    rw [List.cons_append, mkP, mkP, ih, List.length_cons, List.cons_append, show n + 1 + a.length = n + (a.length + 1) from by omega]
theorem mkP_put (a : List Key) (x : Key) (hx : x ∉ a) : putD (mkP 0 a) x (.int (a.length : Int)) = mkP 0 (a ++ [x]) := by
  unfold putD
  rw [mkP_any, decide_eq_false hx, if_neg (by decide), mkP_app, Nat.zero_add]
section
variable {g : DH} {kvs : List (Key × D)} {x : Key} {Q : D → DH → Prop} {v : D}
theorem w_notin_dk : WO (notInD (keyV x) (.ref 0)) (.dk kvs :: g) Q ↔ Q (.bl (!(lookD kvs x).isSome)) (.dk kvs :: g) := by
  refine wo_eq ?_
  show (inB (keyV x) (.ref 0) (.dk kvs :: g)).map _ = _
  have e : inB (keyV x) (.ref 0) (.dk kvs :: g) = some (lookD kvs x).isSome := by
    show (dGet (.ref 0) (keyV x) (.dk kvs :: g)).map Option.isSome = _
    show ((keyD (keyV x)).map (lookD kvs)).map Option.isSome = _
    rw [keyD_V]; rfl
  rw [e]; rfl
theorem w_len_dk : WO (bltD .len [.ref 0]) (.dk kvs :: g) Q ↔ Q (.int (kvs.length : Int)) (.dk kvs :: g) := wo_eq rfl
theorem w_list_dk : WO (bltD .list [.ref 0]) (.dk kvs :: g) Q ↔ Q (.ref (g.length + 1)) (.dk kvs :: (g ++ [.lst (kvs.map fun p => keyV p.1)])) := wo_eq rfl
theorem w_ix_dk : WO (ixD (.ref 0) (keyV x)) (.dk kvs :: g) Q ↔ ∃ d, lookD kvs x = some d ∧ Q d (.dk kvs :: g) := by
  have e : ixD (.ref 0) (keyV x) (.dk kvs :: g) = (lookD kvs x).map fun d => (d, .dk kvs :: g) := by
    show (match dGet (.ref 0) (keyV x) (.dk kvs :: g) with | some (some d) => some (d, Ob.dk kvs :: g) | _ => none) = _
    rw [show dGet (.ref 0) (keyV x) (.dk kvs :: g) = (keyD (keyV x)).map (lookD kvs) from rfl, keyD_V, Option.map_some]
    cases lookD kvs x <;> rfl
  exact wo_opt (g := id) e
theorem put_dk (hz : kvs.length < 16777216) : putAt (.ref 0) (keyV x) v (.dk kvs :: g) = some (.dk (putD kvs x v) :: g) := by
  show (match keyD (keyV x) with | some kk => if kvs.length < Z then some ((Ob.dk kvs :: g).set 0 (.dk (putD kvs kk v))) else none | none => none) = _
  rw [keyD_V]
  exact if_pos hz
end
/-! what is known -/
def addK (a : List Key) (x : Key) : List Key := if x ∈ a then a else a ++ [x]
def known (ks : List Key) : List Key := ks.foldl addK []
theorem known_take {ks : List Key} {j : Nat} {x : Key} (h : ks[j]? = some x) : known (ks.take (j + 1)) = addK (known (ks.take j)) x := by
  unfold known
  rw [List.take_succ, h]
  exact List.foldl_append
theorem addK_len (a : List Key) (x : Key) : (addK a x).length ≤ a.length + 1 := by
  unfold addK
  split
  · omega
  · rw [List.length_append]; exact Nat.le_refl _
theorem fold_len (ks a : List Key) : (ks.foldl addK a).length ≤ a.length + ks.length := by
  induction ks generalizing a with
  | nil => exact Nat.le_refl _
  | cons k ks ih =>
    have := ih (addK a k)
    have := addK_len a k
    rw [List.foldl_cons, List.length_cons]; omega
theorem known_len (ks : List Key) : (known ks).length ≤ ks.length := by
  have := fold_len ks []
  rw [List.length_nil] at this
  unfold known; omega
theorem fold_mem (ks a : List Key) (x : Key) : x ∈ ks.foldl addK a ↔ x ∈ a ∨ x ∈ ks := by
  induction ks generalizing a with
  | nil => simp
  | cons k ks ih =>
    rw [List.foldl_cons, ih, List.mem_cons]
    unfold addK
    split
    · rename_i hk
      constructor
      · rintro (z | z)
        · exact .inl z
        · exact .inr (.inr z)
      · rintro (z | rfl | z)
        · exact .inl z
        · exact .inl hk
        · exact .inr z
    · rw [List.mem_append, List.mem_singleton, or_assoc]
theorem known_mem (ks : List Key) (x : Key) : x ∈ known ks ↔ x ∈ ks := by
  unfold known
  rw [fold_mem]; simp
def idxs (ks : List Key) : List Nat := ks.map fun x => (known ks).idxOf x
def dictB (k : Kd) (ks : List Key) : List Nat := numB (known ks).length ++ plainB k ((known ks).map keyV) ++ levB ((known ks).length - 1) (idxs ks)
theorem idx_lt {ks : List Key} {x : Key} (h : x ∈ ks) : (known ks).idxOf x < (known ks).length := List.idxOf_lt_length_of_mem ((known_mem ks x).mpr h)
theorem idxs_le (ks : List Key) : ∀ i ∈ idxs ks, i ≤ (known ks).length - 1 := by
  intro i hi
  obtain ⟨x, hx, rfl⟩ := List.mem_map.mp hi
  have := idx_lt hx
  omega
theorem known_ok {k : Kd} {ks : List Key} (h : ∀ d ∈ ks.map keyV, VOk k d) : ∀ d ∈ (known ks).map keyV, VOk k d := by
  intro d hd
  obtain ⟨x, hx, rfl⟩ := List.mem_map.mp hd
  exact h _ (List.mem_map_of_mem ((known_mem ks x).mp hx))
theorem w_last_index (c n : Nat) (v : Int) (hv : v = (n : Int)) : PC (pg.run (c + 1)) i_last_index [.int v] (fun d => d = .int ((n - 1 : Nat) : Int)) fun _ _ => False := by
  subst hv
  refine pc_of (f := f_last_index) rfl e_last_index rfl ?_
  simp [b_last_index, startD, f_last_index]
  split <;> omega
theorem levB_len {most : Nat} {xs : List Nat} (hm : most < 34359738368) (hx : ∀ x ∈ xs, x ≤ most) (hz : xs.length ≤ 999999) : (levB most xs).length ≤ 14 * xs.length := by
  unfold levB
  split
  · exact Nat.zero_le _
  · exact lawL_len (Nat.le_trans (bits_le (k := 35) hm) (by decide)) _ xs (Nat.le_refl _) (by omega) fun x m => by have := hx x m; omega
end Dk

set_option Elab.async false
set_option linter.all false
set_option maxRecDepth 100000
set_option maxHeartbeats 4000000
namespace Dk
open PySem PySem.Spec PyProof.Rows L2 Dd
@[simp] theorem dk_0 {kvs : List (Key × D)} {g : DH} : dkD (.ref 0) (.dk kvs :: g) = some kvs := rfl
theorem w_len_ref {h : DH} {i : Nat} {xs : List D} {Q : D → DH → Prop} (l : lstAt h i = some xs) : WO (bltD .len [.ref i]) h Q ↔ Q (.int (xs.length : Int)) h := by rw [w_lenr, l]
theorem dict_len {k : Kd} {ks : List Key} (h : ∀ d ∈ ks.map keyV, VOk k d) (hz : ks.length ≤ 20000) : (dictB k ks).length ≤ 5 + 75 * ks.length := by
  have l1 := known_len ks
  have l2 := num5 (n := (known ks).length) (by omega)
  have l3 := plain_len (known_ok h)
  have l4 := levB_len (most := (known ks).length - 1) (xs := idxs ks) (by omega) (idxs_le ks) (by unfold idxs; rw [List.length_map]; omega)
  unfold dictB
  rw [List.length_map] at l3
  have : (idxs ks).length = ks.length := List.length_map _
  rw [List.length_append, List.length_append]; omega
theorem or_pick {a b W R : Prop} (w : W) (hb : a → b) : (¬ a ∧ W) ∨ (a ∧ ((b ∧ W) ∨ R)) := by
  by_cases h : a
  · exact .inr ⟨h, .inl ⟨hb h, w⟩⟩
  · exact .inl ⟨h, w⟩
theorem idx_get {K : List Key} {x : Key} (h : x ∈ K) : (K.map keyV)[K.idxOf x]? = some (keyV x) := by
  have hl := List.idxOf_lt_length_of_mem h
  rw [List.getElem?_map, List.getElem?_eq_getElem hl, List.getElem_idxOf hl]; rfl
def P28 (k : Kd) (ks : List Key) (j : Nat) (e : DE) (h : DH) : Prop := ∃ x, e = [some (.str k.s), some (.vl (ks.map keyV)), some (.ref 0), x, none] ∧ h = [.dk (mkP 0 (known (ks.take j)))]
theorem w_put_dictionary (c : Nat) (k : Kd) (ks : List Key) (h : ∀ d ∈ ks.map keyV, VOk k d) (hz : ks.length ≤ 20000) : PC (pg.run (c + 4)) i_put_dictionary [.str k.s, .vl (ks.map keyV)] (fun r => r = .vl (nD (dictB k ks))) fun _ _ => False := by
  refine pc_of (f := f_put_dictionary) rfl e_put_dictionary rfl ?_
  have zz : Z = 16777216 := rfl
  have kl := known_len ks
  have dl := dict_len h hz
  simp [b_put_dictionary, startD, f_put_dictionary]
  refine for_map ks keyV (P28 k ks) (by simp) ⟨none, rfl, rfl⟩ ?_ ?_
  · rintro e hh ⟨x, rfl, rfl⟩
    rw [List.take_length]
    obtain ⟨K, hK⟩ : ∃ K, K = known ks := ⟨_, rfl⟩
    rw [← hK] at kl ⊢
    simp
    refine lc_map ks keyV (fun x => D.int (((known ks).idxOf x : Nat) : Int)) (by omega) (by simp) ?_ ?_
    · intro a ha
      refine ⟨_, fun h => rfl, fun acc => ?_⟩
      have lk : lookD (mkP 0 K) a = some (.int (((known ks).idxOf a : Nat) : Int)) := by
        rw [hK, mkP_look, if_pos ((known_mem ks a).mpr ha), Nat.zero_add]
      simp [w_ix_dk, lk]
    · have e1 : ks.map (fun x => D.int (((known ks).idxOf x : Nat) : Int)) = nD (idxs ks) := by unfold idxs nD; rw [List.map_map]; rfl
      rw [e1]
      have il := idxs_le ks
      have il2 : (idxs ks).length = ks.length := List.length_map _
      unfold dictB at dl ⊢
      rw [← hK] at dl il ⊢
      rw [List.length_append, List.length_append] at dl
      simp [w_len_dk, w_list_dk, mkP_len, mkP_keys]
      refine (pn_ok (n := K.length) rfl (by omega)).mpr ?_
      simp [keys_pure]
      have kok := known_ok h
      rw [← hK] at kok
      refine (pc_ok (w_put_plain c k (K.map keyV) kok (by rw [List.length_map]; omega))).mpr ?_
      simp [w_len_dk, mkP_len]
      refine ⟨by omega, ?_⟩
      refine (pc_ok (w_last_index (c + 2) K.length _ rfl)).mpr ?_
      simp
      refine (pc_ok (w_put_levels c (K.length - 1) (idxs ks) il (by omega) (by omega))).mpr ?_
      simp [nD_app]
      omega
  · rintro j a e hh hj ⟨x, rfl, rfl⟩
    have tkn := known_take hj
    have l1 := known_len (ks.take j)
    rw [List.length_take] at l1
    unfold P28
    rw [tkn]
    obtain ⟨A, hA⟩ : ∃ A, A = known (ks.take j) := ⟨_, rfl⟩
    rw [← hA] at l1 ⊢
    refine ⟨_, rfl, ?_⟩
    by_cases c0 : a ∈ A
    · have lk : lookD (mkP 0 A) a = some (.int ((0 + A.idxOf a : Nat) : Int)) := by rw [mkP_look, if_pos c0]
      simp [w_notin_dk, lk, addK, c0]
    · have lk : lookD (mkP 0 A) a = none := by rw [mkP_look, if_neg c0]
      simp [w_notin_dk, lk, addK, c0, w_len_dk, mkP_len]
      rw [put_dk (by rw [mkP_len]; omega), mkP_put A a c0]

def encB (k : Kd) (vs : List D) (ks : List Key) (ns : List Int) (enc : Nat) : List Nat := if enc = 0 then plainB k vs else if enc = 1 then dictB k ks else diffB 0 ns
/-- an encoding with what it is to hold -/
def EncOk (k : Kd) (vs : List D) (ks : List Key) (ns : List Int) (enc : Nat) : Prop := enc = 0 ∨ (enc = 1 ∧ k ≠ .b ∧ vs = ks.map keyV) ∨ (enc = 2 ∧ k = .i ∧ vs = ns.map .int)
theorem ints_ok {ns : List Int} (h : ∀ d ∈ ns.map D.int, VOk .i d) : ∀ n ∈ ns, IOk n := by
  intro n hn
  obtain ⟨m, e, h1, h2⟩ := h _ (List.mem_map_of_mem hn)
  cases e
  exact ⟨h1, h2⟩
theorem enc_len {k : Kd} {vs : List D} {ks : List Key} {ns : List Int} {enc : Nat} (ok : EncOk k vs ks ns enc) (h : ∀ d ∈ vs, VOk k d) (hz : vs.length ≤ 20000) : (encB k vs ks ns enc).length ≤ 5 + 75 * vs.length := by
  unfold encB
  rcases ok with rfl | ⟨rfl, h0, rfl⟩ | ⟨rfl, rfl, rfl⟩
  · have := plain_len h
    rw [if_pos rfl]; omega
  · rw [List.length_map] at hz ⊢
    exact dict_len h hz
  · have := diff_len ok0 (ints_ok h)
    rw [if_neg (by decide), if_neg (by decide), List.length_map]; omega
theorem w_put_values (c : Nat) (k : Kd) (vs : List D) (ks : List Key) (ns : List Int) (enc : Nat) (ok : EncOk k vs ks ns enc) (h : ∀ d ∈ vs, VOk k d) (hz : vs.length ≤ 20000) : PC (pg.run (c + 5)) i_put_values [.str k.s, .vl vs, .int (enc : Int)] (fun r => r = .vl (nD (encB k vs ks ns enc))) fun _ _ => False := by
  refine pc_of (f := f_put_values) rfl e_put_values rfl ?_
  have pu := vs_pure h
  unfold encB
  rcases ok with rfl | ⟨rfl, h0, rfl⟩ | ⟨rfl, rfl, rfl⟩
  · simp [b_put_values, startD, f_put_values, pu]
    refine (pc_ok (w_put_plain (c + 1) k vs h (by omega))).mpr ?_
    simp
  · rw [List.length_map] at hz
    simp [b_put_values, startD, f_put_values, pu]
    refine (pc_ok (w_put_dictionary c k ks h hz)).mpr ?_
    simp
  · rw [List.length_map] at hz
    simp [b_put_values, startD, f_put_values, pu]
    refine (pc_ok (w_put_differences (c + 2) ns (ints_ok h) (by omega))).mpr ?_
    simp
theorem r_dictionary (c : Nat) (k : Kd) (ks : List Key) (bs : List Nat) (at_ : Nat) (v n : Int) (hv : v = (at_ : Int)) (hn : n = (ks.length : Int)) (hb : ∀ b ∈ bs, b < 256) (hd : bs.length ≤ 1000000) (ha : at_ ≤ bs.length) (h : ∀ d ∈ ks.map keyV, VOk k d) (hz : ks.length ≤ 20000) (hc : Cmp (bs.drop at_) (dictB k ks)) :
    PC (pg.run (c + 5)) i_take_dictionary [.str k.s, .vl (nD bs), .int v, .int n] (Took (bs.drop at_) (dictB k ks) (.vl (ks.map keyV)) at_) (Lost (bs.drop at_) (dictB k ks)) := by
  subst hv hn
  refine pc_of (f := f_take_dictionary) rfl e_take_dictionary rfl ?_
  have zz : Z = 16777216 := rfl
  have kl := known_len ks
  have kok := known_ok h
  have il := idxs_le ks
  have il2 : (idxs ks).length = ks.length := List.length_map _
  unfold dictB at hc ⊢
  obtain ⟨K, hK⟩ : ∃ K, K = known ks := ⟨_, rfl⟩
  rw [← hK] at kl kok hc il ⊢
  rw [List.append_assoc] at hc ⊢
  simp [b_take_dictionary, startD, f_take_dictionary]
  refine pc_to (r_number (c + 3) bs at_ K.length _ rfl hb (by omega) (cmp_left hc)) ?_ ?_
  · rintro r ⟨p1, rfl⟩
    obtain ⟨c1, c2⟩ := cmp_right hc p1
    rw [List.drop_drop] at c1 c2
    have a1 := drop_le p1 ha
    simp
    refine pc_to (r_plain c k (K.map keyV) bs (at_ + (numB K.length).length) _ _ (by norm_cast) (by rw [List.length_map]) hb hd a1 kok (by rw [List.length_map]; omega) (cmp_left c1)) ?_ ?_
    · rintro r ⟨p2, rfl⟩
      obtain ⟨c3, c4⟩ := cmp_right c1 p2
      rw [List.drop_drop] at c3 c4
      have a2 := drop_le p2 a1
      simp [keys_pure]
      refine (pc_ok (w_last_index (c + 3) K.length _ rfl)).mpr ?_
      simp
      refine pc_to (r_levels (c + 2) bs (at_ + (numB K.length).length + (plainB k (K.map keyV)).length) (K.length - 1) (idxs ks) _ _ (by norm_cast) (by rw [il2]) hb hd a2 (by omega) il (by omega) c3) ?_ ?_
      · rintro r ⟨p3, rfl⟩
        have c5 : ¬ (K = [] ∧ 0 < ks.length) := by
          rintro ⟨z, z2⟩
          have : ks[0] ∈ K := by rw [hK, known_mem]; exact List.getElem_mem z2
          rw [z] at this
          cases this
        simp
        refine or_pick ?_ fun z => List.length_eq_zero_iff.mp (by have := c5; by_cases y : 0 < ks.length; exact absurd ⟨z, y⟩ c5; omega)
        refine lc_map ks (fun x => D.int ((K.idxOf x : Nat) : Int)) keyV (by omega) ?_ ?_ ?_
        · simp
          unfold idxs nD
          rw [List.map_map, hK]; rfl
        · intro x hx
          refine ⟨_, fun h => rfl, fun acc => ?_⟩
          have ig := idx_get (K := K) (x := x) (by rw [hK, known_mem]; exact hx)
          have gl := (List.getElem?_eq_some_iff.mp ig).1
          have gg := (List.getElem?_eq_some_iff.mp ig).2
          rw [List.getElem_map] at gg
          rw [List.length_map] at gl
          simp [gl, gg]
        · simp [keys_pure]
          refine ⟨c2.mpr (c4.mpr p3), ?_⟩
          simp
          omega
      · rintro e p sp ⟨rfl, p3⟩
        simp [sp]
        exact ⟨rfl, fun z => p3 (c4.mp (c2.mp z))⟩
    · rintro e p sp ⟨rfl, p2⟩
      simp [sp]
      exact ⟨rfl, fun z => p2 ((List.prefix_append _ _).trans (c2.mp z))⟩
  · rintro e p sp ⟨rfl, p1⟩
    simp [sp]
    exact ⟨rfl, not_left p1⟩
end Dk

set_option Elab.async false
set_option linter.all false
set_option maxRecDepth 100000
set_option maxHeartbeats 4000000
namespace Dk
open PySem PySem.Spec PyProof.Rows L2 Dd
theorem r_values (c : Nat) (k : Kd) (vs : List D) (ks : List Key) (ns : List Int) (enc : Nat) (ok : EncOk k vs ks ns enc) (bs : List Nat) (at_ : Nat) (v n : Int) (hv : v = (at_ : Int)) (hn : n = (vs.length : Int)) (hb : ∀ b ∈ bs, b < 256) (hd : bs.length ≤ 1000000) (ha : at_ ≤ bs.length) (h : ∀ d ∈ vs, VOk k d) (hz : vs.length ≤ 20000) (hc : Cmp (bs.drop at_) (encB k vs ks ns enc)) :
    PC (pg.run (c + 6)) i_take_values [.str k.s, .vl (nD bs), .int v, .int n, .int (enc : Int)] (Took (bs.drop at_) (encB k vs ks ns enc) (.vl vs) at_) (Lost (bs.drop at_) (encB k vs ks ns enc)) := by
  subst hv hn
  refine pc_of (f := f_take_values) rfl e_take_values rfl ?_
  have pu := vs_pure h
  unfold encB at hc ⊢
  rcases ok with rfl | ⟨rfl, h0, rfl⟩ | ⟨rfl, rfl, rfl⟩
  · rw [if_pos rfl] at hc
    simp [b_take_values, startD, f_take_values]
    refine pc_to (r_plain (c + 1) k vs bs at_ _ _ rfl rfl hb hd ha h (by omega) hc) ?_ ?_
    · rintro d ⟨p1, rfl⟩
      simp [pu]
      exact ⟨p1, rfl⟩
    · rintro e p sp ⟨rfl, p1⟩
      simp [sp]
      exact ⟨rfl, p1⟩
  · rw [List.length_map] at hz
    rw [if_neg (by decide), if_pos rfl] at hc
    simp [b_take_values, startD, f_take_values]
    refine pc_to (r_dictionary c k ks bs at_ _ _ rfl rfl hb hd ha h hz hc) ?_ ?_
    · rintro d ⟨p1, rfl⟩
      simp [pu]
      exact ⟨p1, rfl⟩
    · rintro e p sp ⟨rfl, p1⟩
      simp [sp]
      exact ⟨rfl, p1⟩
  · rw [List.length_map] at hz
    rw [if_neg (by decide), if_neg (by decide)] at hc
    simp [b_take_values, startD, f_take_values]
    refine pc_to (r_differences (c + 2) ns bs at_ _ _ rfl rfl hb ha (ints_ok h) (by omega) hc) ?_ ?_
    · rintro d ⟨p1, rfl⟩
      simp [pu]
      exact ⟨p1, rfl⟩
    · rintro e p sp ⟨rfl, p1⟩
      simp [sp]
      exact ⟨rfl, p1⟩
theorem bel_keys (n : Nat) (a : List Key) : belDs n (a.map keyV) = true := by
  induction a with
  | nil => rfl
  | cons x a ih =>
    rw [List.map_cons]
    show (belD n (keyV x) && belDs n (a.map keyV)) = true
    rw [ih]
    cases x <;> rfl
@[simp] theorem sc_vl {xs : List D} : scalT (.vl xs) = false := id rfl
theorem fz_2s {a b b' o : Ob} {g : DH} {d : D} {Q : D → DH → Prop} (ob : obBel 2 b' = true) : Frz [a, b] (a :: b' :: o :: g) d Q ↔ DeepB 2 (a :: b' :: o :: g) d fun d' => Q d' [a, b'] := by
  refine fz_clean (by simp) ⟨by simp, fun i hi => ?_⟩
  match i, hi with
  | 0, _ => exact .inl rfl
  | 1, _ => exact .inr ⟨b', rfl, ob⟩
  | n + 2, hi => exact absurd hi (by simp)
def P52 (k : Kd) (ks : List Key) (j : Nat) (e : DE) (h : DH) : Prop := ∃ x, e = [some (.str k.s), some (.vl (ks.map keyV)), some (.int 1), some (.ref 0), some (.ref 1), x, none, none] ∧ h = [.lst [], .lst ((known (ks.take j)).map keyV)]
def Q52 (vs : D) (ns : List Int) (j : Nat) (e : DE) (h : DH) : Prop := ∃ (d : D) (acc : List Nat) (p : Int) (x y : Option D), (e = [some (.str "int"), some vs, some (.int 2), some d, none, x, some (.int p), y] ∧ h = [.lst []]) ∧ LV [.lst []] d (nD acc) ∧ IOk p ∧ acc ++ diffB p (ns.drop j) = diffB 0 ns
theorem w_law_encoded (c : Nat) (k : Kd) (vs : List D) (ks : List Key) (ns : List Int) (enc : Nat) (ok : EncOk k vs ks ns enc) (h : ∀ d ∈ vs, VOk k d) (hz : vs.length ≤ 20000) : PC (pg.run (c + 4)) i_law_encoded [.str k.s, .vl vs, .int (enc : Int)] (fun r => r = .vl (nD (encB k vs ks ns enc))) fun _ _ => False := by
  refine pc_of (f := f_law_encoded) rfl e_law_encoded rfl ?_
  have zz : Z = 16777216 := rfl
  have pu := vs_pure h
  unfold encB
  rcases ok with rfl | ⟨rfl, h0, rfl⟩ | ⟨rfl, rfl, rfl⟩
  · simp [b_law_encoded, startD, f_law_encoded, pu]
    refine (pc_ok (w_law_plain c k vs h (by omega))).mpr ?_
    simp
  · rw [List.length_map] at hz
    have kl := known_len ks
    have kok := known_ok h
    have il := idxs_le ks
    have il2 : (idxs ks).length = ks.length := List.length_map _
    have dl := dict_len h hz
    unfold dictB at dl ⊢
    rw [if_neg (by decide), if_pos rfl]
    simp [b_law_encoded, startD, f_law_encoded, pu]
    refine for_map ks keyV (P52 k ks) (by simp) ⟨none, rfl, rfl⟩ ?_ ?_
    · rintro e hh ⟨x, rfl, rfl⟩
      rw [List.take_length]
      obtain ⟨K, hK⟩ : ∃ K, K = known ks := ⟨_, rfl⟩
      rw [← hK] at kl kok il dl ⊢
      rw [List.length_append, List.length_append] at dl
      simp
      refine (ln_ok (n := K.length) rfl (by omega)).mpr ?_
      refine pch_raw (ys := [.str k.s, .vl (K.map keyV)]) (h2 := [.lst [], .fl (K.map keyV)]) ?_ ?_ ?_
      · rw [List.mapM_cons, deep_pure rfl, List.mapM_cons, show deepN = 5 + 1 from rfl, deep_ref (ob := .lst (K.map keyV)) (Nat.not_lt_zero _) rfl (keys_pure K)]; rfl
      · rw [List.flatMap_cons, reach_pure rfl, List.flatMap_cons, show deepN = 5 + 1 from rfl, reach_ref (ob := .lst (K.map keyV)) rfl (keys_pure K)]; rfl
      refine (pc_ok (w_law_plain c k (K.map keyV) kok (by rw [List.length_map]; omega))).mpr ?_
      simp
      refine ⟨by omega, ?_⟩
      rw [fz_2s (show obBel 2 (.fl (K.map keyV)) = true from bel_keys 2 K)]
      simp
      refine lc_map ks keyV (fun x => D.int ((K.idxOf x : Nat) : Int)) (by omega) (by simp) ?_ ?_
      · intro y hy
        refine ⟨_, fun h => rfl, fun acc => ?_⟩
        have wi : ∀ Q, WO (mthG .index (.ref 1) [keyV y]) [.lst [], .fl (K.map keyV), .lst acc] Q ↔ Q (.int ((K.idxOf y : Nat) : Int)) [.lst [], .fl (K.map keyV), .lst acc] := fun Q => w_index (by rfl) (by rw [hK, known_mem]; exact hy)
        simp [wi]
      · have e1 : ks.map (fun x => D.int ((K.idxOf x : Nat) : Int)) = nD (idxs ks) := by unfold idxs nD; rw [List.map_map, hK]; rfl
        rw [e1]
        have mx : (if 1 < (K.length : Int) then (K.length : Int) - 1 else 0) = ((K.length - 1 : Nat) : Int) := by split <;> omega
        simp [mx]
        refine (pc_ok (w_law_levels (c + 1) (K.length - 1) (idxs ks) il (by omega) (by omega))).mpr ?_
        simp [nD_app]
        omega
    · rintro j a e hh hj ⟨x, rfl, rfl⟩
      have tkn := known_take hj
      have l1 := known_len (ks.take j)
      rw [List.length_take] at l1
      unfold P52
      rw [tkn]
      obtain ⟨A, hA⟩ : ∃ A, A = known (ks.take j) := ⟨_, rfl⟩
      rw [← hA] at l1 ⊢
      refine ⟨_, rfl, ?_⟩
      have wn : ∀ Q, WO (notInD (keyV a) (.ref 1)) [.lst [], .lst (A.map keyV)] Q ↔ Q (.bl (!decide (a ∈ A))) [.lst [], .lst (A.map keyV)] := fun Q => w_notin_lst rfl
      by_cases c0 : a ∈ A
      · simp [wn, addK, c0]
      · simp [wn, addK, c0]
        omega
  · rw [List.length_map] at hz
    have oi := ints_ok h
    have dl := diff_len ok0 oi
    rw [if_neg (by decide), if_neg (by decide)]
    simp [b_law_encoded, startD, f_law_encoded, Kd.s]
    refine for_map ns D.int (Q52 (.vl (ns.map .int)) ns) (by simp) ⟨.ref 0, [], 0, none, none, ⟨rfl, rfl⟩, lv_ref rfl, ok0, rfl⟩ ?_ ?_
    · rintro e hh ⟨d, acc, p, x, y, ⟨rfl, rfl⟩, ld, hp, q⟩
      rw [List.drop_length, diffB, List.append_nil] at q
      rw [← q]
      simp [lv_deep ld (nD_pure acc)]
    · rintro j n e hh hj ⟨d, acc, p, x, y, ⟨rfl, rfl⟩, ld, hp, q⟩
      obtain ⟨hjl, hn⟩ := List.getElem?_eq_some_iff.mp hj
      have on := oi n (List.mem_of_getElem? hj)
      have dr : ns.drop j = n :: ns.drop (j + 1) := by rw [← hn]; exact List.drop_eq_getElem_cons hjl
      rw [dr, diffB] at q
      have lt := foldN_lt on hp
      have ql := congrArg List.length q
      simp only [List.length_append] at ql
      refine ⟨_, rfl, ?_⟩
      by_cases c0 : n - p < 0
      · have e1 : 0 - 2 * (n - p) - 1 = ((foldN (n - p) : Nat) : Int) := by rw [foldN_int]; unfold foldI; rw [if_pos c0]; omega
        simp [c0]
        refine (ln_ok (n := foldN (n - p)) (by rw [← e1]; omega) (by omega)).mpr ?_
        simp [lv_add ld]
        exact ⟨by omega, _, acc ++ numB (foldN (n - p)), n, _, _, ⟨rfl, rfl⟩, by rw [nD_app]; exact lv_vl, on, by rw [List.append_assoc, q]⟩
      · have e1 : 2 * (n - p) = ((foldN (n - p) : Nat) : Int) := by rw [foldN_int]; unfold foldI; rw [if_neg c0]
        simp [c0]
        refine (ln_ok (n := foldN (n - p)) e1 (by omega)).mpr ?_
        simp [lv_add ld]
        exact ⟨by omega, _, acc ++ numB (foldN (n - p)), n, _, _, ⟨rfl, rfl⟩, by rw [nD_app]; exact lv_vl, on, by rw [List.append_assoc, q]⟩
end Dk

set_option Elab.async false
set_option linter.all false
set_option maxRecDepth 100000
set_option maxHeartbeats 4000000
namespace Dk
open PySem PySem.Spec PyProof.Rows L2 Dd
/-! ### pages -/
abbrev Ent := Nat × Nat × D
def entD (e : Ent) : D := .tup [.int (e.1 : Int), .int (e.2.1 : Int), e.2.2]
def EOk (k : Kd) (md mr : Nat) (e : Ent) : Prop := e.1 ≤ mr ∧ e.2.1 ≤ md ∧ (e.2.1 = md → VOk k e.2.2) ∧ (e.2.1 ≠ md → e.2.2 = .non)
def vals (md : Nat) (es : List Ent) : List D := (es.filter fun e => decide (e.2.1 = md)).map fun e => e.2.2
def col (p : D) (k : Kd) (md mr : Nat) : D := .tup [p, .str k.s, .int (md : Int), .int (mr : Int)]
def pageB (k : Kd) (md mr : Nat) (es : List Ent) (ks : List Key) (ns : List Int) (enc : Nat) : List Nat := numB es.length ++ (levB mr (es.map fun e => e.1) ++ (levB md (es.map fun e => e.2.1) ++ encB k (vals md es) ks ns enc))
section
variable {k : Kd} {md mr : Nat} {es : List Ent}
theorem ent_pure (h : ∀ e ∈ es, EOk k md mr e) : pureDs (es.map entD) = true := p_map fun e he => by
  have := (h e he).2.2
  have pv : pureD e.2.2 = true := by
    by_cases c : e.2.1 = md
    · exact vok_pure (this.1 c)
    · rw [this.2 c]; rfl
  show (true && (true && (pureD e.2.2 && true))) = true
  rw [pv]; rfl
theorem vals_ok (h : ∀ e ∈ es, EOk k md mr e) : ∀ d ∈ vals md es, VOk k d := by
  intro d hd
  obtain ⟨e, he, rfl⟩ := List.mem_map.mp hd
  obtain ⟨h1, h2⟩ := List.mem_filter.mp he
  exact (h e h1).2.2.1 (of_decide_eq_true h2)
theorem vals_len (md : Nat) (es : List Ent) : (vals md es).length ≤ es.length := by
  unfold vals
  rw [List.length_map]; exact List.length_filter_le _ _
theorem vok_non {d : D} (h : VOk k d) : isNonD d = false := by
  cases k with
  | i => obtain ⟨n, rfl, -⟩ := h; rfl
  | b => obtain ⟨u, rfl⟩ := h; rfl
  | t => obtain ⟨x, rfl, -⟩ := h; rfl
theorem vals_non (h : ∀ e ∈ es, EOk k md mr e) : vals md es = (es.filter fun e => !isNonD e.2.2).map fun e => e.2.2 := by
  unfold vals
  congr 1
  refine List.filter_congr fun e he => ?_
  by_cases c : e.2.1 = md
  · rw [decide_eq_true c, vok_non ((h e he).2.2.1 c)]; rfl
  · rw [decide_eq_false c, (h e he).2.2.2 c]; rfl
theorem reps_ok (h : ∀ e ∈ es, EOk k md mr e) : ∀ x ∈ es.map (fun e => e.1), x ≤ mr := by
  intro x hx
  obtain ⟨e, he, rfl⟩ := List.mem_map.mp hx
  exact (h e he).1
theorem defs_ok (h : ∀ e ∈ es, EOk k md mr e) : ∀ x ∈ es.map (fun e => e.2.1), x ≤ md := by
  intro x hx
  obtain ⟨e, he, rfl⟩ := List.mem_map.mp hx
  exact (h e he).2.1
end
theorem w_values_of (c : Nat) (p : D) (pp : pureD p = true) (k : Kd) (md mr : Nat) (es : List Ent) (h : ∀ e ∈ es, EOk k md mr e) (hz : es.length ≤ 20000) : PC (pg.run (c + 1)) i_values_of [col p k md mr, .vl (es.map entD)] (fun r => r = .vl (vals md es)) fun _ _ => False := by
  refine pc_of (f := f_values_of) rfl e_values_of rfl ?_
  have zz : Z = 16777216 := rfl
  have pv := vs_pure (vals_ok h)
  simp [b_values_of, startD, f_values_of]
  refine lc_filt es entD (fun e => e.2.2) (fun e => decide (e.2.1 = md)) (by omega) (by simp) ?_ ?_
  · intro e he
    refine ⟨_, fun h => rfl, fun acc => ⟨?_, fun _ => ?_⟩⟩
    · simp [entD, col]
      omega
    · simp [entD]
  · show DeepB 0 _ _ _
    simp only [List.nil_append, List.length_nil]
    rw [show (es.filter fun e => decide (e.2.1 = md)).map (fun e => e.2.2) = vals md es from rfl]
    simp [pv]
theorem col_pure {p : D} (pp : pureD p = true) (k : Kd) (md mr : Nat) : pureD (col p k md mr) = true := by
  show (pureD p && (pureD (.str _) && (pureD (.int _) && (pureD (.int _) && true)))) = true
  rw [pp]; rfl
section
variable {e0 : DE} {h0 : DH}
theorem m_nat (es : List Ent) (f : Ent → Nat) : es.map (fun e => D.int ((f e : Nat) : Int)) = nD (es.map f) := by unfold nD; rw [List.map_map]; rfl
end
theorem page_len {k : Kd} {md mr : Nat} {es : List Ent} {ks : List Key} {ns : List Int} {enc : Nat} (h : ∀ e ∈ es, EOk k md mr e) (hz : es.length ≤ 20000) (hd : md < 1000000) (hr : mr < 1000000) (ok : EncOk k (vals md es) ks ns enc) :
    (numB es.length).length ≤ 5 ∧ (levB mr (es.map fun e => e.1)).length ≤ 14 * es.length ∧ (levB md (es.map fun e => e.2.1)).length ≤ 14 * es.length ∧ (encB k (vals md es) ks ns enc).length ≤ 5 + 75 * es.length := by
  have l1 := num5 (n := es.length) (by omega)
  have l2 := levB_len (most := mr) (xs := es.map fun e => e.1) (by omega) (reps_ok h) (by rw [List.length_map]; omega)
  have l3 := levB_len (most := md) (xs := es.map fun e => e.2.1) (by omega) (defs_ok h) (by rw [List.length_map]; omega)
  have vl := vals_len md es
  have l4 := enc_len ok (vals_ok h) (by omega)
  rw [List.length_map] at l2 l3
  omega
theorem w_put_page (c : Nat) (p : D) (pp : pureD p = true) (k : Kd) (md mr : Nat) (es : List Ent) (ks : List Key) (ns : List Int) (enc : Nat) (h : ∀ e ∈ es, EOk k md mr e) (hz : es.length ≤ 20000) (hd : md < 1000000) (hr : mr < 1000000) (ok : EncOk k (vals md es) ks ns enc) :
    PC (pg.run (c + 6)) i_put_page [col p k md mr, .vl (es.map entD), .int (enc : Int)] (fun r => r = .vl (nD (pageB k md mr es ks ns enc))) fun _ _ => False := by
  refine pc_of (f := f_put_page) rfl e_put_page rfl ?_
  have zz : Z = 16777216 := rfl
  have vl := vals_len md es
  have pe := ent_pure h
  have pc1 := col_pure pp k md mr
  obtain ⟨l1, l2, l3, l4⟩ := page_len h hz hd hr ok
  unfold pageB
  simp [b_put_page, startD, f_put_page]
  unfold col at pc1 ⊢
  simp
  refine lc_map es entD (fun e => D.int ((e.1 : Nat) : Int)) (by omega) (by simp) ?_ ?_
  · intro e he
    refine ⟨_, fun h => rfl, fun acc => ?_⟩
    simp [entD]
  rw [m_nat]
  simp
  refine lc_map es entD (fun e => D.int ((e.2.1 : Nat) : Int)) (by omega) (by simp) ?_ ?_
  · intro e he
    refine ⟨_, fun h => rfl, fun acc => ?_⟩
    simp [entD]
  rw [m_nat es fun e => e.2.1]
  simp
  refine (pc_ok (w_put_levels (c + 2) mr _ (reps_ok h) (by omega) (by rw [List.length_map]; omega))).mpr ?_
  refine (pc_ok (w_put_levels (c + 2) md _ (defs_ok h) (by omega) (by rw [List.length_map]; omega))).mpr ?_
  simp
  refine ⟨by omega, ?_⟩
  refine (pn_ok (n := es.length) rfl (by omega)).mpr ?_
  simp at pc1
  simp [pc1, pe]
  refine ⟨by omega, ?_⟩
  refine (pc_ok (w_values_of (c + 4) p pp k md mr es h hz)).mpr ?_
  simp [vs_pure (vals_ok h)]
  refine (pc_ok (w_put_values c k (vals md es) ks ns enc ok (vals_ok h) (by omega))).mpr ?_
  simp [nD_app]
  omega
theorem w_law_page (c : Nat) (p : D) (pp : pureD p = true) (k : Kd) (md mr : Nat) (es : List Ent) (ks : List Key) (ns : List Int) (enc : Nat) (h : ∀ e ∈ es, EOk k md mr e) (hz : es.length ≤ 20000) (hd : md < 1000000) (hr : mr < 1000000) (ok : EncOk k (vals md es) ks ns enc) :
    PC (pg.run (c + 5)) i_law_page [col p k md mr, .vl (es.map entD), .int (enc : Int)] (fun r => r = .vl (nD (pageB k md mr es ks ns enc))) fun _ _ => False := by
  refine pc_of (f := f_law_page) rfl e_law_page rfl ?_
  have zz : Z = 16777216 := rfl
  have vl := vals_len md es
  have pe := ent_pure h
  obtain ⟨l1, l2, l3, l4⟩ := page_len h hz hd hr ok
  unfold pageB col
  simp [b_law_page, startD, f_law_page]
  refine lc_filt es entD (fun e => e.2.2) (fun e => !isNonD e.2.2) (by omega) (by simp) ?_ ?_
  · intro e he
    refine ⟨_, fun h => rfl, fun acc => ⟨?_, fun _ => ?_⟩⟩
    · simp [entD]
    · simp [entD]
  rw [← vals_non h]
  simp [vs_pure (vals_ok h)]
  refine (ln_ok (n := es.length) rfl (by omega)).mpr ?_
  refine lc_map es entD (fun e => D.int ((e.1 : Nat) : Int)) (by omega) (by simp) ?_ ?_
  · intro e he
    refine ⟨_, fun h => rfl, fun acc => ?_⟩
    simp [entD]
  rw [m_nat]
  simp
  refine (pc_ok (w_law_levels (c + 2) mr _ (reps_ok h) (by omega) (by rw [List.length_map]; omega))).mpr ?_
  simp
  refine ⟨by omega, ?_⟩
  refine lc_map es entD (fun e => D.int ((e.2.1 : Nat) : Int)) (by omega) (by simp) ?_ ?_
  · intro e he
    refine ⟨_, fun h => rfl, fun acc => ?_⟩
    simp [entD]
  rw [m_nat es fun e => e.2.1]
  simp
  refine (pc_ok (w_law_levels (c + 2) md _ (defs_ok h) (by omega) (by rw [List.length_map]; omega))).mpr ?_
  simp
  refine ⟨by omega, ?_⟩
  refine (pc_ok (w_law_encoded c k (vals md es) ks ns enc ok (vals_ok h) (by omega))).mpr ?_
  simp [nD_app]
  omega
end Dk

set_option Elab.async false
set_option linter.all false
set_option maxRecDepth 100000
set_option maxHeartbeats 4000000
namespace Dk
open PySem PySem.Spec PyProof.Rows L2 Dd
theorem count_defs (md : Nat) (es : List Ent) : ((es.map fun e => e.2.1).map fun x : Nat => (x : Int)).count (md : Int) = (vals md es).length := by
  unfold vals
  rw [List.length_map, List.count_eq_countP, List.countP_map, List.countP_map, List.countP_eq_length_filter]
  congr 1
  refine List.filter_congr fun e _ => ?_
  show (((e.2.1 : Nat) : Int) == ((md : Nat) : Int)) = decide (e.2.1 = md)
  by_cases c : e.2.1 = md
  · rw [c]; simp
  · rw [decide_eq_false c]
    exact beq_eq_false_iff_ne.mpr (by omega)
theorem zip_es (es : List Ent) : ((nD (es.map fun e => e.1)).zip (nD (es.map fun e => e.2.1))).map (fun p => D.tup [p.1, p.2]) = es.map fun e => D.tup [.int ((e.1 : Nat) : Int), .int ((e.2.1 : Nat) : Int)] := by
  unfold nD
  rw [List.map_map, List.map_map, List.zip_map', List.map_map]; rfl
def P35 (col_ : D) (bs : List Nat) (enc : Int) (p : D) (k : Kd) (md mr : Nat) (es : List Ent) (c a : D) (r1 r2 r3 : D) (j : Nat) (e : DE) (h : DH) : Prop := ∃ x y, e = [some col_, some (.vl (nD bs)), some (.int enc), some p, some (.str k.s), some (.int (md : Int)), some (.int (mr : Int)), some c, some a, some r1, some r2, some r3, some (.ref 0), some (.int (((vals md (es.take j)).length : Nat) : Int)), x, y] ∧ h = [.lst ((es.take j).map entD)]
theorem r_page (c : Nat) (p : D) (pp : pureD p = true) (k : Kd) (md mr : Nat) (es : List Ent) (ks : List Key) (ns : List Int) (enc : Nat) (bs : List Nat) (h : ∀ e ∈ es, EOk k md mr e) (hz : es.length ≤ 20000) (hm : md < 1000000) (hr : mr < 1000000) (ok : EncOk k (vals md es) ks ns enc) (hb : ∀ b ∈ bs, b < 256) (hd : bs.length ≤ 1000000) (hc : Cmp bs (pageB k md mr es ks ns enc)) :
    PC (pg.run (c + 7)) i_take_page [col p k md mr, .vl (nD bs), .int (enc : Int)] (fun d => bs = pageB k md mr es ks ns enc ∧ d = .vl (es.map entD)) fun c _ => c = 0 ∧ bs ≠ pageB k md mr es ks ns enc := by
  refine pc_of (f := f_take_page) rfl e_take_page rfl ?_
  have zz : Z = 16777216 := rfl
  have vl := vals_len md es
  have pe := ent_pure h
  have pv := vs_pure (vals_ok h)
  obtain ⟨B, hB⟩ : ∃ B, B = pageB k md mr es ks ns enc := ⟨_, rfl⟩
  rw [← hB]
  have neB : ¬ B <+: bs → bs ≠ B := fun z y => z (by rw [y]; exact List.prefix_refl _)
  rw [← hB] at hc
  unfold pageB at hB
  have hc0 := hc
  rw [hB] at hc
  have hcd : Cmp (bs.drop 0) (numB es.length ++ (levB mr (es.map fun e => e.1) ++ (levB md (es.map fun e => e.2.1) ++ encB k (vals md es) ks ns enc))) := by rw [List.drop_zero]; exact hc
  unfold col
  simp [b_take_page, startD, f_take_page]
  refine pc_to (r_number (c + 5) bs 0 es.length _ rfl hb (by omega) (cmp_left hcd)) ?_ ?_
  rotate_left
  · rintro e p sp ⟨rfl, p1⟩
    simp [sp]
    exact neB (by rw [hB]; intro z; exact p1 (by rw [List.drop_zero]; exact (List.prefix_append _ _).trans z))
  rintro r ⟨p1, rfl⟩
  obtain ⟨c1, c2⟩ := cmp_right hcd p1
  rw [List.drop_drop] at c1 c2
  have a1 := drop_le p1 (Nat.zero_le _)
  have g1 : ¬ (20000 : Int) < (es.length : Int) := by omega
  have g2 : ¬ 20000 < es.length := by omega
  simp [g1, g2]
  refine pc_to (r_levels (c + 4) bs (0 + (numB es.length).length) mr (es.map fun e => e.1) _ _ (by simp) (by rw [List.length_map]) hb hd a1 (by omega) (reps_ok h) (by rw [List.length_map]; omega) (cmp_left c1)) ?_ ?_
  rotate_left
  · rintro e p sp ⟨rfl, p2⟩
    simp [sp]
    exact neB (by rw [hB]; intro z; exact p2 ((List.prefix_append _ _).trans (c2.mp (by rw [List.drop_zero]; exact z))))
  rintro r ⟨p2, rfl⟩
  obtain ⟨c3, c4⟩ := cmp_right c1 p2
  rw [List.drop_drop] at c3 c4
  have a2 := drop_le p2 a1
  simp
  refine pc_to (r_levels (c + 4) bs (0 + (numB es.length).length + (levB mr (es.map fun e => e.1)).length) md (es.map fun e => e.2.1) _ _ (by simp) (by rw [List.length_map]) hb hd a2 (by omega) (defs_ok h) (by rw [List.length_map]; omega) (cmp_left c3)) ?_ ?_
  rotate_left
  · rintro e p sp ⟨rfl, p3⟩
    simp [sp]
    exact neB (by rw [hB]; intro z; exact p3 ((List.prefix_append _ _).trans (c4.mp (c2.mp (by rw [List.drop_zero]; exact z)))))
  rintro r ⟨p3, rfl⟩
  obtain ⟨c5, c6⟩ := cmp_right c3 p3
  rw [List.drop_drop] at c5 c6
  have a3 := drop_le p3 a2
  simp [ints_nD]
  have cd := count_defs md es
  rw [List.map_map] at cd
  refine pc_to (r_values c k (vals md es) ks ns enc ok bs (0 + (numB es.length).length + (levB mr (es.map fun e => e.1)).length + (levB md (es.map fun e => e.2.1)).length) _ _ (by simp) (congrArg (fun n : Nat => (n : Int)) cd) hb hd a3 (vals_ok h) (by omega) c5) ?_ ?_
  rotate_left
  · rintro e p sp ⟨rfl, p4⟩
    simp [sp]
    exact neB (by rw [hB]; intro z; exact p4 (c6.mp (c4.mp (c2.mp (by rw [List.drop_zero]; exact z)))))
  rintro r ⟨p4, rfl⟩
  have pB : B <+: bs := by
    rw [hB]
    have := c2.mpr (c4.mpr (c6.mpr p4))
    rwa [List.drop_zero] at this
  have lB : B.length = (numB es.length).length + ((levB mr (es.map fun e => e.1)).length + ((levB md (es.map fun e => e.2.1)).length + (encB k (vals md es) ks ns enc).length)) := by rw [hB, List.length_append, List.length_append, List.length_append]
  by_cases hl : B.length = bs.length
  · have hbB : bs = B := (List.IsPrefix.eq_of_length pB hl).symm
    have hl2 : ((numB es.length).length : Int) + ((levB mr (es.map fun e => e.1)).length : Int) + ((levB md (es.map fun e => e.2.1)).length : Int) + ((encB k (vals md es) ks ns enc).length : Int) = (bs.length : Int) := by omega
    obtain ⟨at4, h4⟩ : ∃ at4 : Int, at4 = ((numB es.length).length : Int) + ((levB mr (es.map fun e => e.1)).length : Int) + ((levB md (es.map fun e => e.2.1)).length : Int) + ((encB k (vals md es) ks ns enc).length : Int) := ⟨_, rfl⟩
    rw [← h4] at hl2
    simp [← h4, hl2]
    refine for_any es (fun e => D.tup [.int ((e.1 : Nat) : Int), .int ((e.2.1 : Nat) : Int)]) (P35 (.tup [p, .str k.s, .int (md : Int), .int (mr : Int)]) bs (enc : Int) p k md mr es (.int (es.length : Int)) (.int (bs.length : Int)) (.vl (nD (es.map fun e => e.1))) (.vl (nD (es.map fun e => e.2.1))) (.vl (vals md es))) ?_ ⟨none, none, rfl, rfl⟩ ?_ ?_
    · simp
      exact zip_es es
    · rintro e hh ⟨x, y, rfl, rfl⟩
      rw [List.take_length]
      simp [pe]
      exact hbB
    · rintro j e e0 hh hj ⟨x, y, rfl, rfl⟩
      have hm' := List.mem_of_getElem? hj
      obtain ⟨e1, e2, e3, e4⟩ := h e hm'
      have tk : es.take (j + 1) = es.take j ++ [e] := by rw [List.take_succ, hj]; rfl
      have tl : (es.take j).length < 16777216 := by rw [List.length_take]; omega
      have spl : es = es.take j ++ e :: es.drop (j + 1) := by
        obtain ⟨hjl, hje⟩ := List.getElem?_eq_some_iff.mp hj
        have := List.take_append_drop j es
        rw [List.drop_eq_getElem_cons hjl, hje] at this
        exact this.symm
      unfold P35
      rw [tk]
      have va : vals md (es.take j ++ [e]) = vals md (es.take j) ++ vals md [e] := by unfold vals; rw [List.filter_append, List.map_append]
      rw [va, List.map_append]
      have vg : vals md es = vals md (es.take j) ++ (vals md [e] ++ vals md (es.drop (j + 1))) := by
        conv => lhs; rw [spl]
        unfold vals
        rw [List.filter_append, List.map_append, show e :: es.drop (j + 1) = [e] ++ es.drop (j + 1) from rfl, List.filter_append, List.map_append]
      obtain ⟨V, hV⟩ : ∃ V, V = vals md (es.take j) := ⟨_, rfl⟩
      obtain ⟨T, hT⟩ : ∃ T, T = (es.take j).map entD := ⟨_, rfl⟩
      have tl2 : T.length < 16777216 := by rw [hT, List.length_map]; exact tl
      rw [← hV] at vg
      rw [← hV, ← hT]
      by_cases c0 : e.2.1 = md
      · have v1 : vals md [e] = [e.2.2] := by unfold vals; rw [List.filter_cons, if_pos (decide_eq_true c0)]; rfl
        have pe3 := vok_pure (e3 c0)
        have gv : (vals md es)[V.length]? = some e.2.2 := by rw [vg, v1]; simp
        obtain ⟨gl, gg⟩ := List.getElem?_eq_some_iff.mp gv
        rw [v1]
        refine ⟨_, rfl, ?_⟩
        simp [c0, gl, gg, pe3, entD]
        exact tl2
      · have v1 : vals md [e] = [] := by unfold vals; rw [List.filter_cons, if_neg (by rw [decide_eq_false c0]; decide)]; rfl
        have c1 : ¬ ((e.2.1 : Nat) : Int) = (md : Int) := by omega
        rw [v1]
        refine ⟨_, rfl, ?_⟩
        simp [c0, c1, e4 c0, entD]
        exact tl2
  · have hbB : bs ≠ B := fun z => hl (by rw [z])
    have hl2 : ¬ ((numB es.length).length : Int) + ((levB mr (es.map fun e => e.1)).length : Int) + ((levB md (es.map fun e => e.2.1)).length : Int) + ((encB k (vals md es) ks ns enc).length : Int) = (bs.length : Int) := by omega
    simp [hl2]
    exact hbB
end Dk

set_option Elab.async false
set_option linter.all false
set_option maxRecDepth 100000
set_option maxHeartbeats 4000000
namespace Dk
open PySem PySem.Spec PyProof.Rows L2 Dd
/-! ### marks -/
theorem or_pow {a m : Nat} (h : a.testBit m = false) : a ||| 2 ^ m = a + 2 ^ m := by
  rw [Nat.testBit_eq_decide_div_mod_eq, decide_eq_false_iff_not] at h
  obtain ⟨q, hq⟩ : ∃ q, a / 2 ^ m = 2 * q := ⟨a / 2 ^ m / 2, by omega⟩
  have ea := Nat.div_add_mod a (2 ^ m)
  rw [hq] at ea
  have r0 : a % 2 ^ m < 2 ^ m := Nat.mod_lt _ (Nat.two_pow_pos _)
  obtain ⟨r, hr⟩ : ∃ r, r = a % 2 ^ m := ⟨_, rfl⟩
  rw [← hr] at ea r0
  have e1 := Nat.two_pow_add_eq_or_of_lt r0 (2 * q)
  have e2 := Nat.two_pow_add_eq_or_of_lt r0 (2 * q + 1)
  have e3 := Nat.two_pow_add_eq_or_of_lt (i := m + 1) (b := 2 ^ m) (by rw [Nat.pow_succ]; have := Nat.two_pow_pos m; omega) q
  have e4 : 2 ^ (m + 1) * q = 2 ^ m * (2 * q) := by rw [Nat.pow_succ, Nat.mul_assoc]
  rw [e4] at e3
  have e5 : 2 ^ m * (2 * q + 1) = 2 ^ m * (2 * q) + 2 ^ m := by rw [Nat.mul_add, Nat.mul_one]
  rw [e5, e3] at e2
  calc a ||| 2 ^ m = (2 ^ m * (2 * q) ||| r) ||| 2 ^ m := by rw [← e1, ea]
    _ = (2 ^ m * (2 * q) ||| 2 ^ m) ||| r := by rw [Nat.or_assoc, Nat.or_comm r, ← Nat.or_assoc]
    _ = 2 ^ m * (2 * q) + 2 ^ m + r := by rw [← e2, e3]
    _ = a + 2 ^ m := by omega
theorem m_word (i : Int) : PySem.Builtin.bitAnd i 4294967295 = i % 4294967296 := m_mask i 32
def stepT (n : Int) (c : Nat) : Int := (31 * n + (c : Int)) % 4294967296
def txtN (cs : List Nat) : Int := cs.foldl stepT 0
def valI : D → Int
  | .int n => n
  | .bl u => if u then 1 else 0
  | .str x => txtN x.cps.toList
  | _ => 0
def markN (d : D) : Nat := (valI d * 2654435761 % 4294967296 / 134217728).toNat
theorem mark_int (d : D) : valI d * 2654435761 % 4294967296 / 134217728 = ((markN d : Nat) : Int) := by unfold markN; omega
theorem mark_lt (d : D) : markN d < 32 := by unfold markN; omega
theorem w_text_number (c : Nat) (x : Str) : PC (pg.run (c + 1)) i_text_number [.str x] (fun d => d = .int (txtN x.cps.toList)) fun _ _ => False := by
  refine pc_of (f := f_text_number) rfl e_text_number rfl ?_
  simp [b_text_number, startD, f_text_number]
  obtain ⟨cs, hcs⟩ : ∃ cs, cs = x.cps.toList := ⟨_, rfl⟩
  refine for_fold cs (fun c => D.str ⟨#[c]⟩) (fun n e h => ∃ y, e = [some (.str x), some (.int n), y] ∧ h = []) stepT 0 (by simp [signs_eq, hcs]) ⟨none, rfl, rfl⟩ ?_ ?_
  · rintro e h ⟨y, rfl, rfl⟩
    rw [← hcs]
    simp
    rfl
  · rintro n c e h hc ⟨y, rfl, rfl⟩
    refine ⟨_, rfl, ?_⟩
    simp [one1, m_word, stepT]
theorem w_mark_of (c : Nat) (k : Kd) (d : D) (h : VOk k d) : PC (pg.run (c + 2)) i_mark_of [.str k.s, d] (fun r => r = .int (markN d : Int)) fun _ _ => False := by
  refine pc_of (f := f_mark_of) rfl e_mark_of rfl ?_
  have r27 : (27 : Int).toNat = 27 := rfl
  have mi := mark_int d
  have e27 : (2 : Int) ^ 27 = 134217728 := by decide
  cases k with
  | i =>
    obtain ⟨n, rfl, -⟩ := h
    simp [b_mark_of, startD, f_mark_of, Kd.s, n_it, m_word, r27, e27]
    exact mi
  | b =>
    obtain ⟨u, rfl⟩ := h
    simp [b_mark_of, startD, f_mark_of, Kd.s, n_bt, m_word, r27, e27]
    exact mi
  | t =>
    obtain ⟨x, rfl, -⟩ := h
    simp [b_mark_of, startD, f_mark_of, Kd.s]
    refine (pc_ok (w_text_number c x)).mpr ?_
    simp [m_word, r27, e27]
    exact mi
theorem w_law_mark (c : Nat) (k : Kd) (d : D) (h : VOk k d) : PC (pg.run (c + 1)) i_law_mark [.str k.s, d] (fun r => r = .int (markN d : Int)) fun _ _ => False := by
  refine pc_of (f := f_law_mark) rfl e_law_mark rfl ?_
  have mi := mark_int d
  cases k with
  | i =>
    obtain ⟨n, rfl, -⟩ := h
    simp [b_law_mark, startD, f_law_mark, Kd.s, n_it]
    exact mi
  | b =>
    obtain ⟨u, rfl⟩ := h
    simp [b_law_mark, startD, f_law_mark, Kd.s, n_bt]
    exact mi
  | t =>
    obtain ⟨x, rfl, -⟩ := h
    simp [b_law_mark, startD, f_law_mark, Kd.s]
    obtain ⟨cs, hcs⟩ : ∃ cs, cs = x.cps.toList := ⟨_, rfl⟩
    refine for_fold cs (fun c => D.str ⟨#[c]⟩) (fun n e h => ∃ y, e = [some (.str "text"), some (.str x), some (.int n), y] ∧ h = []) stepT 0 (by simp [signs_eq, hcs]) ⟨none, rfl, rfl⟩ ?_ ?_
    · rintro e h ⟨y, rfl, rfl⟩
      have mi : txtN x.cps.toList * 2654435761 % 4294967296 / 134217728 = ((markN (.str x) : Nat) : Int) := mi
      rw [← hcs] at mi
      simp
      exact mi
    · rintro n c e h hc ⟨y, rfl, rfl⟩
      refine ⟨_, rfl, ?_⟩
      simp [one1, stepT, Int.mul_comm]
theorem w_has_mark (c s m : Nat) (v : Int) (hv : v = (s : Int)) : PC (pg.run (c + 1)) i_has_mark [.int v, .int (m : Int)] (fun d => d = .bl (s.testBit m)) fun _ _ => False := by
  subst hv
  refine pc_of (f := f_has_mark) rfl e_has_mark rfl ?_
  have e : ((s : Int) / 2 ^ m) = ((s / 2 ^ m : Nat) : Int) := by norm_cast
  simp [b_has_mark, startD, f_has_mark, m_1]
  rw [Nat.testBit_eq_decide_div_mod_eq]
  congr 1
  simp only [eq_iff_iff]
  omega
end Dk

set_option Elab.async false
set_option linter.all false
set_option maxRecDepth 100000
set_option maxHeartbeats 4000000
namespace Dk
open PySem PySem.Spec PyProof.Rows L2 Dd
/-! ### what is told -/
def sieveS (s : Nat) (d : D) : Nat := s ||| 2 ^ markN d
def sieveN (vs : List D) : Nat := vs.foldl sieveS 0
theorem sieve_bit (vs : List D) (s m : Nat) : (vs.foldl sieveS s).testBit m = (s.testBit m || decide (m ∈ vs.map markN)) := by
  induction vs generalizing s with
  | nil => simp
  | cons d vs ih =>
    rw [List.foldl_cons, ih, sieveS, Nat.testBit_or, Nat.testBit_two_pow, List.map_cons, Bool.or_assoc]
    congr 1
    rw [Bool.eq_iff_iff]
    simp only [Bool.or_eq_true, decide_eq_true_eq, List.mem_cons]
    exact or_congr eq_comm Iff.rfl
theorem sieve_mem {vs : List D} {d : D} (h : d ∈ vs) : (sieveN vs).testBit (markN d) = true := by
  unfold sieveN
  rw [sieve_bit, decide_eq_true (List.mem_map_of_mem h), Bool.or_true]
theorem sieve_lt (vs : List D) (s : Nat) (h : s < 4294967296) : vs.foldl sieveS s < 4294967296 := by
  induction vs generalizing s with
  | nil => exact h
  | cons d vs ih =>
    rw [List.foldl_cons]
    refine ih _ ?_
    unfold sieveS
    exact Nat.or_lt_two_pow (n := 32) h (Nat.pow_lt_pow_right (by decide) (mark_lt d))
/-- less and greater, of values of one kind -/
theorem w_ltV {k : Kd} {a b : D} {h : DH} {Q : D → DH → Prop} (ha : VOk k a) (hb : VOk k b) : WO (ltD a b) h Q ↔ Q (.bl (ltB a b)) h := by
  cases k with
  | i => obtain ⟨n, rfl, -⟩ := ha; obtain ⟨m, rfl, -⟩ := hb; exact wo_eq rfl
  | b => obtain ⟨n, rfl⟩ := ha; obtain ⟨m, rfl⟩ := hb; exact wo_eq rfl
  | t => obtain ⟨n, rfl, -⟩ := ha; obtain ⟨m, rfl, -⟩ := hb; exact wo_eq rfl
theorem w_gtV {k : Kd} {a b : D} {h : DH} {Q : D → DH → Prop} (ha : VOk k a) (hb : VOk k b) : WO (gtD a b) h Q ↔ Q (.bl (ltB b a)) h := by
  cases k with
  | i => obtain ⟨n, rfl, -⟩ := ha; obtain ⟨m, rfl, -⟩ := hb; exact wo_eq rfl
  | b => obtain ⟨n, rfl⟩ := ha; obtain ⟨m, rfl⟩ := hb; exact wo_eq rfl
  | t => obtain ⟨n, rfl, -⟩ := ha; obtain ⟨m, rfl, -⟩ := hb; exact wo_eq rfl
theorem ltB_self {k : Kd} {a : D} (h : VOk k a) : ltB a a = false := by
  cases k with
  | i => obtain ⟨n, rfl, -⟩ := h; show ltI n n = false; rw [ltI_eq]; exact decide_eq_false (Int.lt_irrefl n)
  | b => obtain ⟨u, rfl⟩ := h; cases u <;> rfl
  | t => obtain ⟨x, rfl, -⟩ := h; exact decide_eq_false (List.lt_irrefl _)
theorem kindN_of {k : Kd} {a b : D} (ha : VOk k a) (hb : VOk k b) : kindN a = kindN b ∧ Nat.blt 0 (kindN a) = true := by
  cases k with
  | i => obtain ⟨n, rfl, -⟩ := ha; obtain ⟨m, rfl, -⟩ := hb; exact ⟨rfl, rfl⟩
  | b => obtain ⟨n, rfl⟩ := ha; obtain ⟨m, rfl⟩ := hb; exact ⟨rfl, rfl⟩
  | t => obtain ⟨n, rfl, -⟩ := ha; obtain ⟨m, rfl, -⟩ := hb; exact ⟨rfl, rfl⟩
theorem hom_of {k : Kd} {x : D} {r : List D} (h : ∀ d ∈ x :: r, VOk k d) : homD (x :: r) = true := by
  show (Nat.blt 0 (kindN x) && r.all fun y => kindN y == kindN x) = true
  have hx := h x List.mem_cons_self
  rw [(kindN_of hx hx).2, Bool.true_and, List.all_eq_true]
  intro y hy
  exact beq_iff_eq.mpr (kindN_of (h y (List.mem_cons_of_mem _ hy)) hx).1
def minS (a b : D) : D := if ltB b a then b else a
def maxS (a b : D) : D := if ltB a b then b else a
theorem ext_min {k : Kd} {x : D} {r : List D} (h : ∀ d ∈ x :: r, VOk k d) : extremeD false (x :: r) = some (r.foldl minS x) := by
  show (if homD (x :: r) = true then _ else _) = _
  rw [hom_of h, if_pos rfl]; rfl
theorem ext_max {k : Kd} {x : D} {r : List D} (h : ∀ d ∈ x :: r, VOk k d) : extremeD true (x :: r) = some (r.foldl maxS x) := by
  show (if homD (x :: r) = true then _ else _) = _
  rw [hom_of h, if_pos rfl]; rfl
theorem minS_ok {k : Kd} {a b : D} (ha : VOk k a) (hb : VOk k b) : VOk k (minS a b) := by unfold minS; split <;> assumption
theorem maxS_ok {k : Kd} {a b : D} (ha : VOk k a) (hb : VOk k b) : VOk k (maxS a b) := by unfold maxS; split <;> assumption
theorem fold_ok {k : Kd} {f : D → D → D} (hf : ∀ a b, VOk k a → VOk k b → VOk k (f a b)) {r : List D} {x : D} (hx : VOk k x) (h : ∀ d ∈ r, VOk k d) : VOk k (r.foldl f x) := by
  induction r generalizing x with
  | nil => exact hx
  | cons d r ih => rw [List.foldl_cons]; exact ih (hf _ _ hx (h d List.mem_cons_self)) fun y hy => h y (List.mem_cons_of_mem _ hy)
def leastV : List D → D | [] => .non | x :: r => r.foldl minS x
def greatV : List D → D | [] => .non | x :: r => r.foldl maxS x
def stateN (vs : List D) (n : Nat) : Nat := if vs.length = n then 2 else 1
/-- what is told, as a list of four -/
def toldL (vs : List D) (n : Nat) : List D := if vs = [] then [.int 0, .non, .non, .int 0] else [.int (stateN vs n : Int), leastV vs, greatV vs, .int (sieveN vs : Int)]
theorem w_told_of (c : Nat) (p : D) (pp : pureD p = true) (k : Kd) (md mr : Nat) (es : List Ent) (h : ∀ e ∈ es, EOk k md mr e) (hz : es.length ≤ 20000) :
    PC (pg.run (c + 3)) i_told_of [col p k md mr, .vl (es.map entD)] (fun r => r = if vals md es = [] then .kt (toldL (vals md es) es.length) else .tup (toldL (vals md es) es.length)) fun _ _ => False := by
  refine pc_of (f := f_told_of) rfl e_told_of rfl ?_
  have zz : Z = 16777216 := rfl
  have pe := ent_pure h
  have pcl := col_pure pp k md mr
  have vo := vals_ok h
  have vl := vals_len md es
  obtain ⟨vs, hvs⟩ : ∃ vs, vs = vals md es := ⟨_, rfl⟩
  have wv := w_values_of (c + 1) p pp k md mr es h hz
  rw [← hvs] at vo vl wv ⊢
  have pv := vs_pure vo
  simp [b_told_of, startD, f_told_of, pcl, pe]
  refine (pc_ok wv).mpr ?_
  cases vs with
  | nil =>
    simp [toldL]
  | cons x r =>
    have hx := vo x List.mem_cons_self
    have emin := ext_min vo
    have emax := ext_max vo
    obtain ⟨vs, hv2⟩ : ∃ vs, vs = x :: r := ⟨_, rfl⟩
    have ne : vs ≠ [] := by rw [hv2]; exact List.cons_ne_nil _ _
    rw [← hv2] at pv vo emin emax hvs vl ⊢
    have mino : VOk k (r.foldl minS x) := fold_ok (fun a b => minS_ok) hx fun d hd => vo d (by rw [hv2]; exact List.mem_cons_of_mem _ hd)
    have maxo : VOk k (r.foldl maxS x) := fold_ok (fun a b => maxS_ok) hx fun d hd => vo d (by rw [hv2]; exact List.mem_cons_of_mem _ hd)
    by_cases cl : vs.length = es.length
    · have cl2 : (vs.length : Int) = (es.length : Int) := by omega
      simp [pv, ne, cl2]
      refine ⟨fun z => ne (List.length_eq_zero_iff.mp (by rw [cl, z]; rfl)), ?_⟩
      have sn : stateN vs es.length = 2 := by unfold stateN; rw [if_pos cl]
      refine for_fold vs id (fun s e h => ∃ x, (e = [some (col p k md mr), some (.vl (es.map entD)), some (.vl vs), some (.int 2), some (.int ((s : Nat) : Int)), x] ∧ h = []) ∧ s < 4294967296) sieveS 0 (by simp) ⟨none, ⟨rfl, rfl⟩, by decide⟩ ?_ ?_
      · rintro e h ⟨y, ⟨rfl, rfl⟩, hs⟩
        simp [emin, emax, vok_pure mino, vok_pure maxo]
        unfold toldL
        rw [if_neg ne, sn, hv2]; rfl
      · rintro s d e h hd ⟨y, ⟨rfl, rfl⟩, hs⟩
        refine ⟨_, rfl, ?_⟩
        have pd := vok_pure (vo d hd)
        have ml := mark_lt d
        have ob : PySem.Builtin.bitOr (s : Int) (2 ^ markN d) = ((sieveS s d : Nat) : Int) := by
          rw [show (2 : Int) ^ markN d = ((2 ^ markN d : Nat) : Int) from by norm_cast, bitOr_nn (Int.natCast_nonneg _) (Int.natCast_nonneg _)]; rfl
        have so : sieveS s d < 4294967296 := Nat.or_lt_two_pow (n := 32) hs (Nat.pow_lt_pow_right (by decide) ml)
        simp [col, pd]
        refine (pc_ok (w_mark_of c k d (vo d hd))).mpr ?_
        simp [ob]
        exact ⟨by omega, so⟩
    · have cl2 : ¬ (vs.length : Int) = (es.length : Int) := by omega
      simp [pv, ne, cl2]
      have sn : stateN vs es.length = 1 := by unfold stateN; rw [if_neg cl]
      refine for_fold vs id (fun s e h => ∃ x, (e = [some (col p k md mr), some (.vl (es.map entD)), some (.vl vs), some (.int 1), some (.int ((s : Nat) : Int)), x] ∧ h = []) ∧ s < 4294967296) sieveS 0 (by simp) ⟨none, ⟨rfl, rfl⟩, by decide⟩ ?_ ?_
      · rintro e h ⟨y, ⟨rfl, rfl⟩, hs⟩
        simp [emin, emax, vok_pure mino, vok_pure maxo]
        unfold toldL
        rw [if_neg ne, sn, hv2]; rfl
      · rintro s d e h hd ⟨y, ⟨rfl, rfl⟩, hs⟩
        refine ⟨_, rfl, ?_⟩
        have pd := vok_pure (vo d hd)
        have ml := mark_lt d
        have ob : PySem.Builtin.bitOr (s : Int) (2 ^ markN d) = ((sieveS s d : Nat) : Int) := by
          rw [show (2 : Int) ^ markN d = ((2 ^ markN d : Nat) : Int) from by norm_cast, bitOr_nn (Int.natCast_nonneg _) (Int.natCast_nonneg _)]; rfl
        have so : sieveS s d < 4294967296 := Nat.or_lt_two_pow (n := 32) hs (Nat.pow_lt_pow_right (by decide) ml)
        simp [col, pd]
        refine (pc_ok (w_mark_of c k d (vo d hd))).mpr ?_
        simp [ob]
        exact ⟨by omega, so⟩
end Dk

set_option Elab.async false
set_option linter.all false
set_option maxRecDepth 100000
set_option maxHeartbeats 4000000
namespace Dk
open PySem PySem.Spec PyProof.Rows L2 Dd
def mk1 (ms : List Nat) : List Key := ms.map fun m => Sum.inl ((m : Nat) : Int)
theorem mk1_D (ms : List Nat) : (mk1 ms).map keyV = nD ms := by unfold mk1 nD; rw [List.map_map]; rfl
theorem mk1_mem (ms : List Nat) (m : Nat) : (Sum.inl ((m : Nat) : Int) : Key) ∈ mk1 ms ↔ m ∈ ms := by
  unfold mk1
  rw [List.mem_map]
  constructor
  · rintro ⟨x, hx, e⟩
    have : (x : Int) = (m : Int) := Sum.inl.inj e
    rw [show m = x from by omega]; exact hx
  · exact fun h => ⟨m, h, rfl⟩
theorem w_notin_nat {h : DH} {i m : Nat} {ms : List Nat} {Q : D → DH → Prop} (l : lstAt h i = some (nD ms)) : WO (notInD (.int (m : Int)) (.ref i)) h Q ↔ Q (.bl (!decide (m ∈ ms))) h := by
  have := w_notin_lst (x := Sum.inl ((m : Nat) : Int)) (a := mk1 ms) (Q := Q) (by rw [mk1_D]; exact l)
  have e : decide ((Sum.inl ((m : Nat) : Int) : Key) ∈ mk1 ms) = decide (m ∈ ms) := by
    rw [Bool.eq_iff_iff]
    simp only [decide_eq_true_eq]
    exact mk1_mem ms m
  rw [e] at this
  exact this
def P55 (C es : D) (k : Kd) (x : D) (vs : List D) (j : Nat) (e : DE) (h : DH) : Prop := ∃ (ms : List Nat) (a b c d : Option D), (e = [some C, some es, some (.str k.s), some (.vl vs), some ((vs.take j).foldl minS x), some ((vs.take j).foldl maxS x), some (.int (((vs.take j).foldl sieveS 0 : Nat) : Int)), some (.ref 0), a, b, c, d, none] ∧ h = [.lst (nD ms)]) ∧ (∀ i, i ∈ ms ↔ ((vs.take j).foldl sieveS 0).testBit i = true) ∧ ms.length ≤ j
theorem fold_next {α : Type} {f : α → D → α} {vs : List D} {j : Nat} {d : D} {a : α} (h : vs[j]? = some d) : (vs.take (j + 1)).foldl f a = f ((vs.take j).foldl f a) d := by
  rw [List.take_succ, h]
  exact List.foldl_append
theorem or_same {s m : Nat} (h : s.testBit m = true) : s ||| 2 ^ m = s := by
  apply Nat.eq_of_testBit_eq
  intro i
  rw [Nat.testBit_or, Nat.testBit_two_pow]
  by_cases c : m = i
  · subst c; rw [h]; rfl
  · rw [decide_eq_false c, Bool.or_false]
theorem w_law_told (c : Nat) (p : D) (pp : pureD p = true) (k : Kd) (md mr : Nat) (es : List Ent) (h : ∀ e ∈ es, EOk k md mr e) (hz : es.length ≤ 20000) :
    PC (pg.run (c + 2)) i_law_told [col p k md mr, .vl (es.map entD)] (fun r => r = .tup (toldL (vals md es) es.length)) fun _ _ => False := by
  refine pc_of (f := f_law_told) rfl e_law_told rfl ?_
  have zz : Z = 16777216 := rfl
  have pe := ent_pure h
  have vo := vals_ok h
  have vl := vals_len md es
  have vn := vals_non h
  obtain ⟨vs, hvs⟩ : ∃ vs, vs = vals md es := ⟨_, rfl⟩
  rw [← hvs] at vo vl vn ⊢
  have pv := vs_pure vo
  unfold col
  simp [b_law_told, startD, f_law_told]
  refine lc_filt es entD (fun e => e.2.2) (fun e => !isNonD e.2.2) (by omega) (by simp) ?_ ?_
  · intro e he
    refine ⟨_, fun h => rfl, fun acc => ⟨?_, fun _ => ?_⟩⟩
    · simp [entD]
    · simp [entD]
  rw [← vn]
  cases vs with
  | nil =>
    simp [toldL]
  | cons x r =>
    have hx := vo x List.mem_cons_self
    have gx : (x :: r)[0]? = some x := rfl
    obtain ⟨vs, hv2⟩ : ∃ vs, vs = x :: r := ⟨_, rfl⟩
    have ne : vs ≠ [] := by rw [hv2]; exact List.cons_ne_nil _ _
    rw [← hv2] at pv vo hvs vl vn gx ⊢
    obtain ⟨gl, gg⟩ := List.getElem?_eq_some_iff.mp gx
    simp [pv, ne, gx, gl, gg]
    refine for_map vs id (P55 (.tup [p, .str k.s, .int (md : Int), .int (mr : Int)]) (.vl (es.map entD)) k x vs) (by simp) ⟨[], none, none, none, none, ⟨rfl, rfl⟩, fun i => by simp, Nat.le_refl _⟩ ?_ ?_
    · rintro e hh ⟨ms, a, b, c, d, ⟨rfl, rfl⟩, hm, hl⟩
      rw [List.take_length]
      have m1 : vs.foldl minS x = leastV vs := by rw [hv2]; show r.foldl minS (minS x x) = _; rw [show minS x x = x from by unfold minS; rw [ltB_self hx]; rfl]; rfl
      have m2 : vs.foldl maxS x = greatV vs := by rw [hv2]; show r.foldl maxS (maxS x x) = _; rw [show maxS x x = x from by unfold maxS; rw [ltB_self hx]; rfl]; rfl
      have p1 : pureD (leastV vs) = true := by rw [← m1]; exact vok_pure (fold_ok (fun a b => minS_ok) hx vo)
      have p2 : pureD (greatV vs) = true := by rw [← m2]; exact vok_pure (fold_ok (fun a b => maxS_ok) hx vo)
      rw [m1, m2]
      obtain ⟨L, hL⟩ : ∃ L, L = leastV vs := ⟨_, rfl⟩
      obtain ⟨G, hG⟩ : ∃ G, G = greatV vs := ⟨_, rfl⟩
      obtain ⟨S, hS⟩ : ∃ S, S = vs.foldl sieveS 0 := ⟨_, rfl⟩
      unfold toldL stateN sieveN
      rw [← hL] at p1
      rw [← hG] at p2
      rw [← hL, ← hG, ← hS, if_neg ne]
      by_cases cl : vs.length = es.length
      · have cl2 : (vs.length : Int) = (es.length : Int) := by omega
        simp [p1, p2, cl, cl2]
      · have cl2 : ¬ (vs.length : Int) = (es.length : Int) := by omega
        simp [p1, p2, cl, cl2]
    · rintro j d e hh hj ⟨ms, a, b, c', d', ⟨rfl, rfl⟩, hm, hl⟩
      obtain ⟨hjl, -⟩ := List.getElem?_eq_some_iff.mp hj
      have od := vo d (List.mem_of_getElem? hj)
      have ol : VOk k ((vs.take j).foldl minS x) := fold_ok (fun a b => minS_ok) hx fun y hy => vo y (List.mem_of_mem_take hy)
      have og : VOk k ((vs.take j).foldl maxS x) := fold_ok (fun a b => maxS_ok) hx fun y hy => vo y (List.mem_of_mem_take hy)
      have f1 := fold_next (f := minS) (a := x) hj
      have f2 := fold_next (f := maxS) (a := x) hj
      have f3 := fold_next (f := sieveS) (a := 0) hj
      obtain ⟨l, hl'⟩ : ∃ l, l = (vs.take j).foldl minS x := ⟨_, rfl⟩
      obtain ⟨g, hg'⟩ : ∃ g, g = (vs.take j).foldl maxS x := ⟨_, rfl⟩
      obtain ⟨s, hs'⟩ : ∃ s, s = (vs.take j).foldl sieveS 0 := ⟨_, rfl⟩
      rw [← hl'] at ol f1 ⊢
      rw [← hg'] at og f2 ⊢
      rw [← hs'] at hm f3 ⊢
      have pd := vok_pure od
      have ml := mark_lt d
      have lm := w_law_mark c k d od
      have bt : ∀ i, i ∈ ms ∨ i = markN d ↔ (sieveS s d).testBit i = true := by
        intro i
        unfold sieveS
        rw [Nat.testBit_or, Nat.testBit_two_pow, Bool.or_eq_true, decide_eq_true_eq, hm i]
        exact or_congr Iff.rfl eq_comm
      have wn : ∀ Q : D → DH → Prop, WO (notInD (.int (markN d : Int)) (.ref 0)) [.lst (nD ms)] Q ↔ Q (.bl (!decide (markN d ∈ ms))) [.lst (nD ms)] := fun Q => w_notin_nat rfl
      refine ⟨_, rfl, ?_⟩
      by_cases c3 : markN d ∈ ms
      · cases c1 : ltB d l <;> cases c2 : ltB g d
        all_goals
          simp [w_ltV od ol, w_gtV od og, c1, c2, pd]
          refine (pc_ok lm).mpr ?_
          simp [wn, c3]
          refine ⟨ms, some d, some (.int (markN d : Int)), c', d', ⟨?_, rfl⟩, ?_, by omega⟩
          · rw [f1, f2, f3]
            simp [minS, maxS, c1, c2, sieveS, or_same ((hm _).mp c3)]
          · intro i
            rw [f3, ← bt]
            constructor
            · exact .inl
            · rintro (z | rfl)
              · exact z
              · exact c3
      · cases c1 : ltB d l <;> cases c2 : ltB g d
        all_goals
          simp [w_ltV od ol, w_gtV od og, c1, c2, pd]
          refine (pc_ok lm).mpr ?_
          simp [wn, c3]
          refine ⟨by omega, ?_⟩
          refine for_rngS (markN d) (fun i e h => ∃ y, e = [some (.tup [p, .str k.s, .int (md : Int), .int (mr : Int)]), some (.vl (es.map entD)), some (.str k.s), some (.vl vs), some (minS l d), some (maxS g d), some (.int (s : Int)), some (.ref 0), some d, some (.int (markN d : Int)), some (.int (2 ^ i)), y, none] ∧ h = [.lst (nD (ms ++ [markN d]))]) (by simp) (below_iff.mpr (by omega)) ⟨d', by simp [minS, maxS, c1, c2], by rw [nD_app]; rfl⟩ ?_ ?_
          · rintro e h ⟨y, rfl, rfl⟩
            simp
            refine ⟨ms ++ [markN d], some d, some (.int (markN d : Int)), some (.int (2 ^ markN d)), y, ⟨?_, rfl⟩, ?_, by rw [List.length_append]; show ms.length + 1 ≤ j + 1; omega⟩
            · rw [f1, f2, f3]
              have nb : s.testBit (markN d) = false := by
                cases hb : s.testBit (markN d) with
                | false => rfl
                | true => exact absurd ((hm _).mpr hb) c3
              simp [sieveS, or_pow nb]
            · intro i
              rw [f3, ← bt, List.mem_append, List.mem_singleton]
          · rintro i e h hi ⟨y, rfl, rfl⟩
            refine ⟨_, rfl, ?_⟩
            simp [Int.pow_succ]
end Dk

set_option Elab.async false
set_option linter.all false
set_option maxRecDepth 100000
set_option maxHeartbeats 4000000
namespace Dk
open PySem PySem.Spec PyProof.Rows L2 Dd
def toldB (vs : List D) (n : Nat) : List Nat := if vs = [] then [0] else stateN vs n :: (oneB (leastV vs) ++ (oneB (greatV vs) ++ wordB (sieveN vs)))
theorem state_12 (vs : List D) (n : Nat) : stateN vs n = 1 ∨ stateN vs n = 2 := by unfold stateN; split <;> simp
theorem sieveN_lt (vs : List D) : sieveN vs < 4294967296 := sieve_lt vs 0 (by decide)
theorem least_ok {k : Kd} {vs : List D} (h : ∀ d ∈ vs, VOk k d) (ne : vs ≠ []) : VOk k (leastV vs) ∧ VOk k (greatV vs) := by
  cases vs with
  | nil => exact absurd rfl ne
  | cons x r =>
    have hx := h x List.mem_cons_self
    have hr : ∀ d ∈ r, VOk k d := fun d hd => h d (List.mem_cons_of_mem _ hd)
    exact ⟨fold_ok (fun a b => minS_ok) hx hr, fold_ok (fun a b => maxS_ok) hx hr⟩
theorem w32_of {n : Nat} (h : n < 4294967296) : w32 (n : Int) = n := by unfold w32; omega
theorem toldL_pure {k : Kd} {vs : List D} {n : Nat} (h : ∀ d ∈ vs, VOk k d) : pureDs (toldL vs n) = true := by
  unfold toldL
  by_cases ne : vs = []
  · rw [if_pos ne]; rfl
  · rw [if_neg ne]
    obtain ⟨l1, l2⟩ := least_ok h ne
    simp [vok_pure l1, vok_pure l2]
theorem toldB_lt {k : Kd} {vs : List D} {n : Nat} (h : ∀ d ∈ vs, VOk k d) : ∀ b ∈ toldB vs n, b < 256 := by
  intro b hb
  unfold toldB at hb
  by_cases ne : vs = []
  · rw [if_pos ne, List.mem_singleton] at hb
    omega
  · rw [if_neg ne] at hb
    obtain ⟨l1, l2⟩ := least_ok h ne
    rcases List.mem_cons.mp hb with hb | hb
    · have := state_12 vs n; omega
    rcases List.mem_append.mp hb with hb | hb
    · exact oneB_lt l1 b hb
    rcases List.mem_append.mp hb with hb | hb
    · exact oneB_lt l2 b hb
    · exact wordB_lt (sieveN_lt vs) b hb
theorem toldB_len {k : Kd} {vs : List D} {n : Nat} (h : ∀ d ∈ vs, VOk k d) : 1 ≤ (toldB vs n).length ∧ (toldB vs n).length ≤ 127 := by
  unfold toldB
  by_cases ne : vs = []
  · rw [if_pos ne]; exact ⟨Nat.le_refl 1, by show 1 ≤ 127; decide⟩
  · rw [if_neg ne]
    obtain ⟨l1, l2⟩ := least_ok h ne
    have := oneB_len l1
    have := oneB_len l2
    simp only [List.length_cons, List.length_append, wordB_len]
    omega
theorem w_law_told_bytes (c : Nat) (k : Kd) (vs : List D) (n : Nat) (h : ∀ d ∈ vs, VOk k d) : PC (pg.run (c + 3)) i_law_told_bytes [.str k.s, .tup (toldL vs n)] (fun r => r = .vl (nD (toldB vs n))) fun _ _ => False := by
  refine pc_of (f := f_law_told_bytes) rfl e_law_told_bytes rfl ?_
  unfold toldL toldB
  by_cases ne : vs = []
  · simp [b_law_told_bytes, startD, f_law_told_bytes, ne]
    rfl
  · obtain ⟨l1, l2⟩ := least_ok h ne
    have ol1 := oneB_len l1
    have ol2 := oneB_len l2
    have s0 : stateN vs n ≠ 0 := by have := state_12 vs n; omega
    obtain ⟨L, hL⟩ : ∃ L, L = leastV vs := ⟨_, rfl⟩
    obtain ⟨G, hG⟩ : ∃ G, G = greatV vs := ⟨_, rfl⟩
    rw [← hL] at l1 ol1 ⊢
    rw [← hG] at l2 ol2 ⊢
    have pl := vok_pure l1
    have pg' := vok_pure l2
    simp [b_law_told_bytes, startD, f_law_told_bytes, ne, s0, pl, pg']
    refine (pc_ok (w_law_one c k L l1)).mpr ?_
    simp [pl, pg']
    refine ⟨by omega, ?_⟩
    refine (pc_ok (w_law_one c k G l2)).mpr ?_
    simp [pl, pg']
    refine ⟨by omega, ?_⟩
    refine (pc_ok (w_law_word (c + 1) _)).mpr ?_
    rw [w32_of (sieveN_lt vs)]
    simp [wordB_len, nD_app, nD_cons]
    omega
theorem w_put_told (c : Nat) (p : D) (pp : pureD p = true) (k : Kd) (md mr : Nat) (vs : List D) (n : Nat) (h : ∀ d ∈ vs, VOk k d) : PC (pg.run (c + 3)) i_put_told [col p k md mr, .tup (toldL vs n)] (fun r => r = .vl (nD (toldB vs n))) fun _ _ => False := by
  refine pc_of (f := f_put_told) rfl e_put_told rfl ?_
  unfold toldL toldB col
  by_cases ne : vs = []
  · simp [b_put_told, startD, f_put_told, ne]
    rfl
  · obtain ⟨l1, l2⟩ := least_ok h ne
    have ol1 := oneB_len l1
    have ol2 := oneB_len l2
    have s0 : stateN vs n ≠ 0 := by have := state_12 vs n; omega
    obtain ⟨L, hL⟩ : ∃ L, L = leastV vs := ⟨_, rfl⟩
    obtain ⟨G, hG⟩ : ∃ G, G = greatV vs := ⟨_, rfl⟩
    rw [← hL] at l1 ol1 ⊢
    rw [← hG] at l2 ol2 ⊢
    have pl := vok_pure l1
    have pg' := vok_pure l2
    simp [b_put_told, startD, f_put_told, ne, s0, pl, pg']
    refine (pc_ok (w_put_one c k L l1)).mpr ?_
    simp [pl, pg']
    refine ⟨by omega, ?_⟩
    refine (pc_ok (w_put_one c k G l2)).mpr ?_
    simp [pl, pg']
    refine ⟨by omega, ?_⟩
    refine (pc_ok (w_put_word (c + 1) _)).mpr ?_
    rw [w32_of (sieveN_lt vs)]
    simp [wordB_len, nD_app, nD_cons]
    omega
theorem r_told (c : Nat) (p : D) (pp : pureD p = true) (k : Kd) (md mr : Nat) (vs : List D) (n : Nat) (bs : List Nat) (h : ∀ d ∈ vs, VOk k d) (hb : ∀ b ∈ bs, b < 256) (hd : bs.length ≤ 1000000) (hc : Cmp bs (toldB vs n)) :
    PC (pg.run (c + 4)) i_take_told [col p k md mr, .vl (nD bs), .int 0] (fun d => toldB vs n <+: bs ∧ d = .tup [if vs = [] then .kt (toldL vs n) else .tup (toldL vs n), .int ((toldB vs n).length : Int)]) fun c _ => c = 0 ∧ ¬ toldB vs n <+: bs := by
  refine pc_of (f := f_take_told) rfl e_take_told rfl ?_
  have hc0 : Cmp (bs.drop 0) (toldB vs n) := by rw [List.drop_zero]; exact hc
  have d0 : bs.drop 0 = bs := List.drop_zero
  unfold toldB at hc0 ⊢
  unfold toldL col
  by_cases ne : vs = []
  · rw [if_pos ne] at hc0
    simp [b_take_told, startD, f_take_told, ne]
    refine pc_to (r_byte (c + 2) bs 0 0 0 rfl hc0) ?_ ?_
    · rintro d ⟨p1, rfl⟩
      rw [d0] at p1
      simp
      exact p1
    · rintro e p sp ⟨rfl, p1⟩
      rw [d0] at p1
      simp [sp]
      exact p1
  · rw [if_neg ne] at hc0
    obtain ⟨l1, l2⟩ := least_ok h ne
    have sl := sieveN_lt vs
    obtain ⟨st, hst⟩ : ∃ st, st = stateN vs n := ⟨_, rfl⟩
    have s12 : st = 1 ∨ st = 2 := by rw [hst]; exact state_12 vs n
    obtain ⟨L, hL⟩ : ∃ L, L = leastV vs := ⟨_, rfl⟩
    obtain ⟨G, hG⟩ : ∃ G, G = greatV vs := ⟨_, rfl⟩
    obtain ⟨S, hS⟩ : ∃ S, S = sieveN vs := ⟨_, rfl⟩
    rw [← hL] at l1 hc0 ⊢
    rw [← hG] at l2 hc0 ⊢
    rw [← hst] at hc0 ⊢
    rw [← hS] at sl hc0 ⊢
    have pl := vok_pure l1
    have pg' := vok_pure l2
    rw [if_neg ne]
    rw [show st :: (oneB L ++ (oneB G ++ wordB S)) = [st] ++ (oneB L ++ (oneB G ++ wordB S)) from rfl] at hc0 ⊢
    obtain ⟨B, hB⟩ : ∃ B, B = [st] ++ (oneB L ++ (oneB G ++ wordB S)) := ⟨_, rfl⟩
    rw [← hB]
    have nB : ∀ A R, B = A ++ R → ¬ A <+: bs → ¬ B <+: bs := fun A R e z y => z (by rw [e] at y; exact (List.prefix_append _ _).trans y)
    simp [b_take_told, startD, f_take_told, ne]
    refine pc_to (r_byte (c + 2) bs 0 st 0 rfl (cmp_left hc0)) ?_ ?_
    rotate_left
    · rintro e p sp ⟨rfl, p1⟩
      rw [d0] at p1
      simp [sp]
      exact nB _ _ hB p1
    rintro d ⟨p1, rfl⟩
    obtain ⟨c1, c2⟩ := cmp_right hc0 p1
    rw [List.drop_drop] at c1 c2
    have a1 := drop_le p1 (Nat.zero_le _)
    have g1 : ¬ 2 < st := by omega
    have g2 : ¬ (2 : Int) < (st : Int) := by omega
    have g3 : ¬ st = 0 := by omega
    simp [g1, g2, g3]
    refine pc_to (r_one c k L bs (0 + [st].length) 1 (by simp) hb hd a1 l1 (cmp_left c1)) ?_ ?_
    rotate_left
    · rintro e p sp ⟨rfl, p2⟩
      simp [sp]
      intro z
      rw [hB] at z
      exact p2 ((List.prefix_append _ _).trans (c2.mp (by rw [d0]; exact z)))
    rintro d ⟨p2, rfl⟩
    obtain ⟨c3, c4⟩ := cmp_right c1 p2
    rw [List.drop_drop] at c3 c4
    have a2 := drop_le p2 a1
    simp [pl]
    refine pc_to (r_one c k G bs (0 + [st].length + (oneB L).length) _ (by simp) hb hd a2 l2 (cmp_left c3)) ?_ ?_
    rotate_left
    · rintro e p sp ⟨rfl, p3⟩
      simp [sp]
      intro z
      rw [hB] at z
      exact p3 ((List.prefix_append _ _).trans (c4.mp (c2.mp (by rw [d0]; exact z))))
    rintro d ⟨p3, rfl⟩
    obtain ⟨c5, c6⟩ := cmp_right c3 p3
    rw [List.drop_drop] at c5 c6
    have a3 := drop_le p3 a2
    simp [pg']
    refine pc_to (r_word (c + 2) bs (0 + [st].length + (oneB L).length + (oneB G).length) S _ (by simp) hb a3 sl c5) ?_ ?_
    rotate_left
    · rintro e p sp ⟨rfl, p4⟩
      simp [sp]
      intro z
      rw [hB] at z
      exact p4 (c6.mp (c4.mp (c2.mp (by rw [d0]; exact z))))
    rintro d ⟨p4, rfl⟩
    simp [pl, pg']
    refine ⟨?_, ?_⟩
    · rw [hB]
      have := c2.mpr (c4.mpr (c6.mpr p4))
      rwa [d0] at this
    · rw [hB]
      simp
      omega
end Dk

set_option Elab.async false
set_option linter.all false
set_option maxRecDepth 100000
set_option maxHeartbeats 4000000
namespace Dk
open PySem PySem.Spec PyProof.Rows L2 Dd
def cellN (ns : List Int) (k : Nat) : Int := ns.getD k 0
theorem w_law_cell (c : Nat) (ns : List Int) (k : Nat) : PC (pg.run (c + 1)) i_law_cell [.frz ns, .int (k : Int)] (fun d => d = .int (cellN ns k)) fun _ _ => False := by
  refine pc_of (f := f_law_cell) rfl e_law_cell rfl ?_
  unfold cellN
  by_cases hl : k < ns.length
  · have ha : L2.atI ns (k : Int) = some ns[k] := atI_of rfl (List.getElem?_eq_getElem hl)
    simp [b_law_cell, startD, f_law_cell, hl, ha]
  · simp [b_law_cell, startD, f_law_cell, hl]
def P43 (c : Int) (many k : Nat) (e : DE) (h : DH) : Prop := ∃ (rest : Int) (x : Option D) (ns : List Nat), (e = [some (.int c), some (.int (many : Int)), some (.ref 0), some (.int rest), x] ∧ h = [.lst (nD ns)]) ∧ 0 ≤ rest ∧ ns.length = k ∧ ∀ x ∈ ns, x < 1048576
theorem num_more {ns : List Nat} {v : Int} (l3 : ∀ x ∈ ns, x < 1048576) (h0 : 0 ≤ v) (h1 : v < 1048576) : ∀ x ∈ ns ++ [v.toNat], x < 1048576 := by
  intro x hx
  rcases List.mem_append.mp hx with hx | hx
  · exact l3 x hx
  · rw [List.mem_singleton.mp hx]; omega
theorem w_law_numbers (n : Nat) (c : Int) (many : Nat) (hm : many ≤ 10000) : PC (pg.run (n + 1)) i_law_numbers [.int c, .int (many : Int)] (fun d => ∃ ns : List Nat, d = .vl (nD ns) ∧ ns.length = many ∧ ∀ x ∈ ns, x < 1048576) fun _ _ => False := by
  refine pc_of (f := f_law_numbers) rfl e_law_numbers rfl ?_
  obtain ⟨r, hr⟩ : ∃ r, r = if c < 0 then -c else c := ⟨_, rfl⟩
  have hr0 : 0 ≤ r := by rw [hr]; split <;> omega
  have fin : ∀ e h, P43 c many many e h → ∃ (rest : Int) (x : Option D) (ns : List Nat), (e = [some (.int c), some (.int (many : Int)), some (.ref 0), some (.int rest), x] ∧ h = [.lst (nD ns)]) ∧ 0 ≤ rest ∧ ns.length = many ∧ ∀ x ∈ ns, x < 1048576 := fun e h z => z
  by_cases hb : (1000000000000000000 : Int) ≤ r
  · simp [b_law_numbers, startD, f_law_numbers, ← hr, hb]
    refine for_rngS many (P43 c many) (by simp) (below_iff.mpr (by omega)) ⟨r, none, [], ⟨rfl, rfl⟩, hr0, rfl, fun _ z => nomatch z⟩ ?_ ?_
    · rintro e h ⟨rest, x, ns, ⟨rfl, rfl⟩, h0, l1, l2⟩
      simp
      exact ⟨ns, rfl, l1, l2⟩
    · rintro k e h hk ⟨rest, x, ns, ⟨rfl, rfl⟩, h0, l1, l2⟩
      refine ⟨_, rfl, ?_⟩
      simp
      refine ⟨by omega, rest / 1048576, _, ns ++ [(rest % 1048576).toNat], ⟨rfl, by rw [nD_snoc' ns _ (rest % 1048576).toNat (by omega)]⟩, by omega, by rw [List.length_append, l1]; rfl, num_more l2 (by omega) (by omega)⟩
  · simp [b_law_numbers, startD, f_law_numbers, ← hr, hb]
    refine for_rngS many (P43 c many) (by simp) (below_iff.mpr (by omega)) ⟨r, none, [], ⟨rfl, rfl⟩, hr0, rfl, fun _ z => nomatch z⟩ ?_ ?_
    · rintro e h ⟨rest, x, ns, ⟨rfl, rfl⟩, h0, l1, l2⟩
      simp
      exact ⟨ns, rfl, l1, l2⟩
    · rintro k e h hk ⟨rest, x, ns, ⟨rfl, rfl⟩, h0, l1, l2⟩
      refine ⟨_, rfl, ?_⟩
      simp
      obtain ⟨rs, hrs⟩ : ∃ rs, rs = (rest * 48271 + (k : Int) * 7919 + 11) % 2147483647 := ⟨_, rfl⟩
      rw [← hrs]
      obtain ⟨v, hv⟩ : ∃ v, v = rs * 69621 % 2147483629 % 1048576 := ⟨_, rfl⟩
      rw [← hv]
      refine ⟨by omega, rs, _, ns ++ [v.toNat], ⟨rfl, by rw [nD_snoc' ns _ v.toNat (by omega)]⟩, by omega, by rw [List.length_append, l1]; rfl, num_more l2 (by omega) (by omega)⟩
theorem digits_ok (m : Nat) : ∀ c ∈ (PySem.Str.ofString (toString ((m : Nat) : Int))).cps.toList, okC c := by
  intro c hc
  rw [PySem.W.KIN.signs_num] at hc
  obtain ⟨ch, h1, rfl⟩ := List.mem_map.mp hc
  have := PyProof.Rows.digit_range (Nat.isDigit_of_mem_toDigits (by decide) (by decide) h1)
  unfold okC; omega
theorem digits_ok' (m : Nat) : ∀ c ∈ (PySem.Str.ofString (Int.repr ((m : Nat) : Int))).cps.toList, okC c := digits_ok m
theorem digits_len {m : Nat} (h : m < 10 ^ 12) : (PySem.Str.ofString (Int.repr ((m : Nat) : Int))).length ≤ 13 := by
  have := int_text_length_le10 (a := (m : Int)) (k := 12) (by decide) (by rw [Int.natAbs_natCast]; exact h)
  rw [PySem.ofString_length]; exact Nat.le_trans this (Nat.le_refl 13)
theorem cut_ab : ∀ m : Nat, m < 5 → ((cutS "ab c" none (some (m : Int))).cps.toList.all fun c => decide (32 ≤ c ∧ c ≤ 126 ∧ c ≠ 37)) = true ∧ (cutS "ab c" none (some (m : Int))).length ≤ 4 := by decide +kernel
theorem app_cps (x y : Str) : (x ++ y).cps.toList = x.cps.toList ++ y.cps.toList := Array.toList_append
theorem app_len (x y : Str) : (x ++ y).length = x.length + y.length := by rw [← strlen, app_cps, List.length_append, strlen, strlen]
theorem w_law_value (c : Nat) (k : Kd) (n s : Nat) (v : Int) (hv : v = (n : Int)) (hs : s = 1 ∨ s = 2 ∨ s = 9 ∨ s = 400 ∨ s = 4000000000) : PC (pg.run (c + 1)) i_law_value [.str k.s, .int v, .int (s : Int)] (fun d => VOk k d) fun _ _ => False := by
  subst hv
  refine pc_of (f := f_law_value) rfl e_law_value rfl ?_
  have s0 : (0 : Int) < (s : Int) := by omega
  have m0 : 0 ≤ (n : Int) % (s : Int) := Int.emod_nonneg _ (by omega)
  have m1 : (n : Int) % (s : Int) < (s : Int) := Int.emod_lt_of_pos _ s0
  cases k with
  | i =>
    by_cases c0 : 500 < s
    · have c1 : (500 : Int) < (s : Int) := by omega
      simp [b_law_value, startD, f_law_value, Kd.s, c0, c1, s0]
      obtain ⟨w, hw⟩ : ∃ w, w = (n : Int) % (s : Int) := ⟨_, rfl⟩
      rw [← hw] at m0 m1 ⊢
      refine ⟨by omega, _, rfl, ?_⟩
      omega
    · have c1 : ¬ (500 : Int) < (s : Int) := by omega
      simp [b_law_value, startD, f_law_value, Kd.s, c0, c1, s0]
      obtain ⟨w, hw⟩ : ∃ w, w = (n : Int) % (s : Int) := ⟨_, rfl⟩
      rw [← hw] at m0 m1 ⊢
      refine ⟨by omega, _, rfl, ?_⟩
      omega
  | b =>
    simp [b_law_value, startD, f_law_value, Kd.s, n_bi]
    exact ⟨_, rfl⟩
  | t =>
    obtain ⟨m, hm⟩ : ∃ m : Nat, m = n % s := ⟨_, rfl⟩
    have hmI : (n : Int) % (s : Int) = (m : Int) := by rw [hm]; norm_cast
    obtain ⟨q, hq⟩ : ∃ q : Nat, q = n % 5 := ⟨_, rfl⟩
    have hqI : (n : Int) % 5 = (q : Int) := by omega
    rw [hmI] at m1
    obtain ⟨ca, cl⟩ := cut_ab q (by omega)
    have dl := digits_len (m := m) (by omega)
    have dk := digits_ok' m
    have lg : (m : Nat).log2 < 1920 := by
      by_cases z : m = 0
      · rw [z]; decide
      · exact (Nat.log2_lt z).mpr (Nat.lt_trans (show m < 2 ^ 40 by omega) (Nat.pow_lt_pow_right (by decide) (show 40 < 1920 by decide)))
    obtain ⟨X, hX⟩ : ∃ X, X = cutS "ab c" none (some (q : Int)) := ⟨_, rfl⟩
    obtain ⟨Y, hY⟩ : ∃ Y, Y = PySem.Str.ofString (Int.repr ((m : Nat) : Int)) := ⟨_, rfl⟩
    rw [← hX] at ca cl
    rw [← hY] at dl dk
    have e1 : ("ab c" : Str).length ≤ 16777216 := by decide +kernel
    have lt : ("t" : Str).length = 1 := by decide +kernel
    simp [b_law_value, startD, f_law_value, Kd.s, n_ti, n_tb, s0, hmI, hqI, e1, ← hX, lg]
    rw [← hY]
    obtain ⟨t, ht⟩ : ∃ t : Str, t = "t" := ⟨_, rfl⟩
    have tk : t.cps.toList = [116] := by rw [ht]; decide +kernel
    rw [← ht] at lt ⊢
    have l1 := app_len t X
    refine ⟨by omega, by omega, by omega, _, rfl, ?_, ?_⟩
    · rw [app_len]; omega
    · intro c hc
      rw [app_cps, app_cps, tk] at hc
      rcases List.mem_append.mp hc with hc | hc
      · rcases List.mem_append.mp hc with hc | hc
        · rw [List.mem_singleton.mp hc]; unfold okC; omega
        · have z : 32 ≤ c ∧ c ≤ 126 ∧ c ≠ 37 := of_decide_eq_true (List.all_eq_true.mp ca c hc)
          exact z
      · exact dk c hc
end Dk

set_option Elab.async false
set_option linter.all false
set_option maxRecDepth 100000
set_option maxHeartbeats 4000000
namespace Dk
open PySem PySem.Spec PyProof.Rows L2 Dd
def P58 (ns : List Int) (C : D) (count : Nat) (p : D) (k : Kd) (md mr : Nat) (s : Nat) (nums : List Nat) (j : Nat) (e : DE) (h : DH) : Prop := ∃ (es : List Ent) (a b c d : Option D), (e = [some (.frz ns), some C, some (.int (count : Int)), some p, some (.str k.s), some (.int (md : Int)), some (.int (mr : Int)), some (.int (s : Int)), some (.vl (nD nums)), some (.ref 0), a, b, c, d] ∧ h = [.lst (es.map entD)]) ∧ es.length = j ∧ ∀ e ∈ es, EOk k md mr e
theorem w_law_entries (c : Nat) (ns : List Int) (p : D) (pp : pureD p = true) (k : Kd) (md mr count : Nat) (hmd : md < 1000) (hmr : mr < 1000) (hc : count ≤ 20000) :
    PC (pg.run (c + 2)) i_law_entries [.frz ns, col p k md mr, .int (count : Int)] (fun r => ∃ es : List Ent, r = .vl (es.map entD) ∧ es.length = count ∧ ∀ e ∈ es, EOk k md mr e) fun _ _ => False := by
  refine pc_of (f := f_law_entries) rfl e_law_entries rfl ?_
  have zz : Z = 16777216 := rfl
  have lc : ∀ (i : Nat) (Q : D → Prop) (X : Nat → D → Prop), PC (pg.run (c + 1)) i_law_cell [.frz ns, .int (i : Int)] Q X ↔ Q (.int (cellN ns i)) := fun i Q X => pc_ok (w_law_cell c ns i)
  have lc2 : ∀ (Q : D → Prop) (X : Nat → D → Prop), PC (pg.run (c + 1)) i_law_cell [.frz ns, .int 2] Q X ↔ Q (.int (cellN ns 2)) := fun Q X => lc 2 Q X
  have lc3 : ∀ (Q : D → Prop) (X : Nat → D → Prop), PC (pg.run (c + 1)) i_law_cell [.frz ns, .int 3] Q X ↔ Q (.int (cellN ns 3)) := fun Q X => lc 3 Q X
  obtain ⟨r, hr⟩ : ∃ r, r = if cellN ns 2 < 0 then -cellN ns 2 else cellN ns 2 := ⟨_, rfl⟩
  have hr0 : 0 ≤ r := by rw [hr]; split <;> omega
  obtain ⟨s, hs, ix5⟩ : ∃ s : Nat, (s = 1 ∨ s = 2 ∨ s = 9 ∨ s = 400 ∨ s = 4000000000) ∧ L2.atI [D.int 1, D.int 2, D.int 9, D.int 400, D.int 4000000000] (r % 5) = some (.int (s : Int)) := by
    have : r % 5 = 0 ∨ r % 5 = 1 ∨ r % 5 = 2 ∨ r % 5 = 3 ∨ r % 5 = 4 := by omega
    rcases this with e | e | e | e | e <;> rw [e]
    · exact ⟨1, by simp, rfl⟩
    · exact ⟨2, by simp, rfl⟩
    · exact ⟨9, by simp, rfl⟩
    · exact ⟨400, by simp, rfl⟩
    · exact ⟨4000000000, by simp, rfl⟩
  obtain ⟨t, ht, ix4⟩ : ∃ t : Nat, 0 < t ∧ t < 8 ∧ L2.atI [D.int 1, D.int 2, D.int 4, D.int 7] (r % 4) = some (.int (t : Int)) := by
    have : r % 4 = 0 ∨ r % 4 = 1 ∨ r % 4 = 2 ∨ r % 4 = 3 := by omega
    rcases this with e | e | e | e <;> rw [e]
    · exact ⟨1, by omega, by omega, rfl⟩
    · exact ⟨2, by omega, by omega, rfl⟩
    · exact ⟨4, by omega, by omega, rfl⟩
    · exact ⟨7, by omega, by omega, rfl⟩
  obtain ⟨ht8, ix4⟩ := ix4
  unfold col
  simp [b_law_entries, startD, f_law_entries, lc2, lc3, ← hr, ix5]
  refine (w_law_numbers c (cellN ns 3) 200 (by decide)).mono ?_ fun _ _ z => z.elim
  rintro d ⟨nums, rfl, nl, nlt⟩
  refine for_rngS count (P58 ns (.tup [p, .str k.s, .int (md : Int), .int (mr : Int)]) count p k md mr s nums) (by simp) (below_iff.mpr (by omega)) ⟨[], none, none, none, none, ⟨rfl, rfl⟩, rfl, fun _ z => nomatch z⟩ ?_ ?_
  · rintro e h ⟨es, a, b, c', d, ⟨rfl, rfl⟩, l1, l2⟩
    simp [ent_pure l2]
    exact ⟨es, rfl, l1, fun a b c h => l2 (a, b, c) h⟩
  · rintro j e h hj ⟨es, a, b, c', d, ⟨rfl, rfl⟩, l1, l2⟩
    refine ⟨_, rfl, ?_⟩
    have il : j / t % 200 < nums.length := by rw [nl]; omega
    obtain ⟨x, hx⟩ : ∃ x, x = nums[j / t % 200] := ⟨_, rfl⟩
    have ixn : L2.atI (nD nums) ((j : Int) / (t : Int) % 200) = some (.int (x : Int)) := by
      rw [hx]
      refine atD (k := j / t % 200) ?_ il
      norm_cast
    obtain ⟨N, hN⟩ : ∃ N : Nat, N = x + 7919 * (j / 200) := ⟨_, rfl⟩
    have hNI : (x : Int) + 7919 * ((j : Int) / 200) = (N : Int) := by omega
    have t0 : (0 : Int) < (t : Int) := by omega
    have tb : (t : Int) < 1073741824 := by omega
    obtain ⟨f, hf⟩ : ∃ f, f = N / 512 % (mr + 1) := ⟨_, rfl⟩
    have fI : (N : Int) / 512 % ((mr : Int) + 1) = (f : Int) := by rw [hf, Int.natCast_emod, Int.natCast_ediv, Int.natCast_add]; rfl
    have fle : f ≤ mr := by rw [hf]; exact Nat.le_of_lt_succ (Nat.mod_lt _ (Nat.succ_pos mr))
    obtain ⟨g, hg⟩ : ∃ g, g = N / 128 % md := ⟨_, rfl⟩
    have gI : (N : Int) / 128 % (md : Int) = (g : Int) := by rw [hg, Int.natCast_emod, Int.natCast_ediv]; rfl
    have el : es.length < 16777216 := by omega
    have tail : ∀ (f lv : Nat) (v : D) (x1 x2 x3 x4 : Option D), EOk k md mr (f, lv, v) → P58 ns (.tup [p, .str k.s, .int (md : Int), .int (mr : Int)]) count p k md mr s nums (j + 1)
        [some (.frz ns), some (.tup [p, .str k.s, .int (md : Int), .int (mr : Int)]), some (.int (count : Int)), some p, some (.str k.s), some (.int (md : Int)), some (.int (mr : Int)), some (.int (s : Int)), some (.vl (nD nums)), some (.ref 0), x1, x2, x3, x4] [.lst (es.map entD ++ [.tup [.int (f : Int), .int (lv : Int), v]])] := by
      intro f lv v x1 x2 x3 x4 ok
      refine ⟨es ++ [(f, lv, v)], x1, x2, x3, x4, ⟨rfl, by rw [List.map_append]; rfl⟩, by rw [List.length_append, l1]; rfl, fun e he => ?_⟩
      rcases List.mem_append.mp he with he | he
      · exact l2 e he
      · rw [List.mem_singleton.mp he]; exact ok
    have val : ∀ (Q : D → Prop), (∀ d, VOk k d → Q d) → PC (pg.run (c + 1)) i_law_value [.str k.s, .int ((N : Int) * 2654435761), .int (s : Int)] Q fun _ _ => False := fun Q q => (w_law_value c k (N * 2654435761) s _ (by omega) hs).mono q fun _ _ z => z
    have full : ∀ (f : Nat) (x1 x2 x3 x4 : Option D), f ≤ mr → PC (pg.run (c + 1)) i_law_value [.str k.s, .int ((N : Int) * 2654435761), .int (s : Int)] (fun d => es.length < 16777216 ∧ P58 ns (.tup [p, .str k.s, .int (md : Int), .int (mr : Int)]) count p k md mr s nums (j + 1)
        [some (.frz ns), some (.tup [p, .str k.s, .int (md : Int), .int (mr : Int)]), some (.int (count : Int)), some p, some (.str k.s), some (.int (md : Int)), some (.int (mr : Int)), some (.int (s : Int)), some (.vl (nD nums)), some (.ref 0), x1, x2, x3, x4] [.lst (es.map entD ++ [.tup [.int (f : Int), .int (md : Int), d]])]) fun _ _ => False := fun f x1 x2 x3 x4 hf =>
      val _ fun d hd => ⟨el, tail f md d x1 x2 x3 x4 ⟨hf, Nat.le_refl _, fun _ => hd, fun z => absurd rfl z⟩⟩
    have full0 := fun x1 x2 x3 x4 => full 0 x1 x2 x3 x4 (Nat.zero_le _)
    have tail0 := fun lv v x1 x2 x3 x4 => tail 0 lv v x1 x2 x3 x4
    by_cases cA : (N : Int) / 32 % 4 = 0
    · by_cases cB : 0 < md
      · have gl : g < md := by rw [hg]; exact Nat.mod_lt _ cB
        have g1 : ¬ g = md := by omega
        have g2 : ¬ (g : Int) = (md : Int) := by omega
        have b1 : (md = 0) ↔ False := by constructor <;> intro z <;> first | omega | exact z.elim
        have ok : ∀ f, f ≤ mr → EOk k md mr (f, g, .non) := fun f hf => ⟨hf, Nat.le_of_lt gl, fun z => absurd z g1, fun _ => rfl⟩
        by_cases cC : 0 < j
        · have c1 : (j = 0) ↔ False := by constructor <;> intro z <;> first | omega | exact z.elim
          by_cases cD : 0 < mr
          · have d1 : (mr = 0) ↔ False := by constructor <;> intro z <;> first | omega | exact z.elim
            simp [lc2, ← hr, ix4, w_ixl, ixn, hNI, ht, tb, cA, cB, b1, gI, g1, g2, cC, c1, cD, d1, fI]
            exact ⟨el, tail f g .non _ _ _ _ (ok f fle)⟩
          · have d1 : (mr = 0) ↔ True := by constructor <;> intro z <;> first | omega | trivial
            simp [lc2, ← hr, ix4, w_ixl, ixn, hNI, ht, tb, cA, cB, b1, gI, g1, g2, cC, c1, cD, d1]
            exact ⟨el, tail 0 g .non _ _ _ _ (ok 0 (Nat.zero_le _))⟩
        · have c1 : (j = 0) ↔ True := by constructor <;> intro z <;> first | omega | trivial
          simp [lc2, ← hr, ix4, w_ixl, ixn, hNI, ht, tb, cA, cB, b1, gI, g1, g2, cC, c1]
          exact ⟨el, tail 0 g .non _ _ _ _ (ok 0 (Nat.zero_le _))⟩
      · have b1 : (md = 0) ↔ True := by constructor <;> intro z <;> first | omega | trivial
        by_cases cC : 0 < j
        · have c1 : (j = 0) ↔ False := by constructor <;> intro z <;> first | omega | exact z.elim
          by_cases cD : 0 < mr
          · have d1 : (mr = 0) ↔ False := by constructor <;> intro z <;> first | omega | exact z.elim
            simp [lc2, ← hr, ix4, w_ixl, ixn, hNI, ht, tb, cA, cB, b1, cC, c1, cD, d1, fI]
            exact full f _ _ _ _ fle
          · have d1 : (mr = 0) ↔ True := by constructor <;> intro z <;> first | omega | trivial
            simp [lc2, ← hr, ix4, w_ixl, ixn, hNI, ht, tb, cA, cB, b1, cC, c1, cD, d1]
            exact full 0 _ _ _ _ (Nat.zero_le _)
        · have c1 : (j = 0) ↔ True := by constructor <;> intro z <;> first | omega | trivial
          simp [lc2, ← hr, ix4, w_ixl, ixn, hNI, ht, tb, cA, cB, b1, cC, c1]
          exact full 0 _ _ _ _ (Nat.zero_le _)
    · have a1 : ((N : Int) / 32 % 4 = 0) ↔ False := iff_false_intro cA
      by_cases cC : 0 < j
      · have c1 : (j = 0) ↔ False := by constructor <;> intro z <;> first | omega | exact z.elim
        by_cases cD : 0 < mr
        · have d1 : (mr = 0) ↔ False := by constructor <;> intro z <;> first | omega | exact z.elim
          simp [lc2, ← hr, ix4, w_ixl, ixn, hNI, ht, tb, a1, cC, c1, cD, d1, fI]
          exact full f _ _ _ _ fle
        · have d1 : (mr = 0) ↔ True := by constructor <;> intro z <;> first | omega | trivial
          simp [lc2, ← hr, ix4, w_ixl, ixn, hNI, ht, tb, a1, cC, c1, cD, d1]
          exact full 0 _ _ _ _ (Nat.zero_le _)
      · have c1 : (j = 0) ↔ True := by constructor <;> intro z <;> first | omega | trivial
        simp [lc2, ← hr, ix4, w_ixl, ixn, hNI, ht, tb, a1, cC, c1]
        exact full 0 _ _ _ _ (Nat.zero_le _)
end Dk

set_option Elab.async false
set_option linter.all false
set_option maxRecDepth 100000
set_option maxHeartbeats 4000000
namespace Dk
open PySem PySem.Spec PyProof.Rows L2 Dd
def codesN : Kd → List Nat | .i => [0, 1, 2] | .b => [0] | .t => [0, 1]
theorem w_allowed (c : Nat) (k : Kd) : PC (pg.run (c + 1)) i_allowed [.str k.s] (fun d => d = .kt ((codesN k).map fun n : Nat => .int (n : Int))) fun _ _ => False := by
  refine pc_of (f := f_allowed) rfl e_allowed rfl ?_
  cases k with
  | i =>
    have e : List.lookup ("int" : Str) [(("int" : Str), D.kt [.int 0, .int 1, .int 2]), ("bool", .kt [.int 0]), ("text", .kt [.int 0, .int 1])] = some (.kt [.int 0, .int 1, .int 2]) := by rfl
    simp [b_allowed, startD, f_allowed, Kd.s, e, codesN]
  | b =>
    have e : List.lookup ("bool" : Str) [(("int" : Str), D.kt [.int 0, .int 1, .int 2]), ("bool", .kt [.int 0]), ("text", .kt [.int 0, .int 1])] = some (.kt [.int 0]) := by rfl
    simp [b_allowed, startD, f_allowed, Kd.s, e, codesN]
  | t =>
    have e : List.lookup ("text" : Str) [(("int" : Str), D.kt [.int 0, .int 1, .int 2]), ("bool", .kt [.int 0]), ("text", .kt [.int 0, .int 1])] = some (.kt [.int 0, .int 1]) := by rfl
    simp [b_allowed, startD, f_allowed, Kd.s, e, codesN]
theorem w_refused0 (c : Nat) (C data e : D) (h1 : pureD C = true) (h2 : pureD data = true) (h3 : pureD e = true) (hp : PC (pg.run c) i_take_page [C, data, e] (fun _ => False) fun x _ => x = 0) : PC (pg.run (c + 1)) i_law_refused [.int 0, C, data, e] (fun d => d = .bl true) fun _ _ => False := by
  refine pc_of (f := f_law_refused) rfl e_law_refused rfl ?_
  unfold b_law_refused
  rw [wp_seq]
  refine wp_try0 ?_
  simp [startD, f_law_refused, h1, h2, h3]
  refine hp.mono (fun _ z => z.elim) fun x p hx => ?_
  subst hx
  simp
theorem w_refused1 (c : Nat) (C data e : D) (h1 : pureD C = true) (h2 : pureD data = true) (h3 : pureD e = true) (hp : PC (pg.run c) i_take_told [C, data, .int 0] (fun _ => False) fun x _ => x = 0) : PC (pg.run (c + 1)) i_law_refused [.int 1, C, data, e] (fun d => d = .bl true) fun _ _ => False := by
  refine pc_of (f := f_law_refused) rfl e_law_refused rfl ?_
  unfold b_law_refused
  rw [wp_seq]
  refine wp_try0 ?_
  simp [startD, f_law_refused, h1, h2, h3]
  refine hp.mono (fun _ z => z.elim) fun x p hx => ?_
  subst hx
  simp
theorem toPy_kt (h : DH) (n : Nat) (xs : List D) : toPy h n (.kt xs) = toPy h n (.tup xs) := by cases n <;> rfl
theorem show_kt (xs : List D) : showD (.kt xs) = showD (.tup xs) := rfl
theorem w_ne_kt {dp wt : Nat} {xs : List D} {h : DH} {Q : D → DH → Prop} (s : Sm dp wt (.tup xs)) (h1 : dp ≤ 19) : WO (neD (.kt xs) (.tup xs)) h Q ↔ Q (.bl false) h := by
  refine wo_eq ?_
  have e := eqB_same (h := h) s h1
  have e2 : eqB (.kt xs) (.tup xs) h = eqB (.tup xs) (.tup xs) h := by
    show (match toPy h 20 (.kt xs), toPy h 20 (.tup xs) with | some x, some y => if SeqAt.shaped x && SeqAt.shaped y then some (PyData.eqv x y) else none | _, _ => none) = _
    rw [toPy_kt]; rfl
  unfold neD
  rw [e2, e]; rfl
/-- values and entries are small -/
theorem sm_val {k : Kd} {d : D} (h : VOk k d) : Sm 0 70 d := by
  cases k with
  | i => obtain ⟨n, rfl, h1, h2⟩ := h; exact sm_int (by omega)
  | b => obtain ⟨u, rfl⟩ := h; exact (sm_bl u).mono (Nat.le_refl _) (Nat.zero_le _)
  | t =>
    obtain ⟨x, rfl, h1, h2⟩ := h
    exact (sm_str fun c hc => by have := h2 c hc; unfold okC at this; omega).mono (Nat.le_refl _) (by omega)
theorem sm_vals {k : Kd} {vs : List D} (h : ∀ d ∈ vs, VOk k d) : Sm 1 (71 * vs.length) (.vl vs) := sm_vl fun d hd => sm_val (h d hd)
theorem sm_ent {k : Kd} {md mr : Nat} {e : Ent} (h : EOk k md mr e) (h1 : md < 1000) (h2 : mr < 1000) : Sm 1 213 (entD e) := by
  obtain ⟨a, b, c, d⟩ := h
  refine sm_tup (dp := 0) (wt := 70) fun x hx => ?_
  simp only [List.mem_cons, List.not_mem_nil, or_false] at hx
  rcases hx with rfl | rfl | rfl
  · exact sm_int (by omega)
  · exact sm_int (by omega)
  · by_cases z : e.2.1 = md
    · exact sm_val (c z)
    · rw [d z]; exact sm_non.mono (Nat.le_refl _) (Nat.zero_le _)
theorem sm_ents {k : Kd} {md mr : Nat} {es : List Ent} (h : ∀ e ∈ es, EOk k md mr e) (h1 : md < 1000) (h2 : mr < 1000) : Sm 2 (214 * es.length) (.vl (es.map entD)) := by
  have := sm_vl (dp := 1) (wt := 213) (xs := es.map entD) fun d hd => by
    obtain ⟨e, he, rfl⟩ := List.mem_map.mp hd
    exact sm_ent (h e he) h1 h2
  rwa [List.length_map] at this
theorem sm_bytes {bs : List Nat} (h : ∀ b ∈ bs, b < 256) : Sm 1 (71 * bs.length) (.vl (nD bs)) := sm_nD fun x hx => by have := h x hx; omega
theorem sm_pair {dp wt : Nat} {a : D} {i : Int} (s : Sm dp wt a) (hi : i.natAbs < 10 ^ 20) : Sm (dp + 1) (2 * (wt + 71)) (.tup [a, .int i]) := by
  have := sm_tup (dp := dp) (wt := wt + 70) (xs := [a, .int i]) fun x hx => by
    simp only [List.mem_cons, List.not_mem_nil, or_false] at hx
    rcases hx with rfl | rfl
    · exact s.mono (Nat.le_refl _) (by omega)
    · exact (sm_int hi).mono (Nat.zero_le _) (by omega)
  exact this.mono (Nat.le_refl _) (by show (wt + 70 + 1) * 2 ≤ _; omega)
theorem sm_told {k : Kd} {vs : List D} {n : Nat} (h : ∀ d ∈ vs, VOk k d) : Sm 1 284 (.tup (toldL vs n)) := by
  have hh : ∀ d ∈ toldL vs n, Sm 0 70 d := by
    intro d hd
    unfold toldL at hd
    by_cases ne : vs = []
    · rw [if_pos ne] at hd
      simp only [List.mem_cons, List.not_mem_nil, or_false] at hd
      rcases hd with rfl | rfl | rfl | rfl
      · exact sm_int (by decide)
      · exact sm_non.mono (Nat.le_refl _) (Nat.zero_le _)
      · exact sm_non.mono (Nat.le_refl _) (Nat.zero_le _)
      · exact sm_int (by decide)
    · rw [if_neg ne] at hd
      obtain ⟨l1, l2⟩ := least_ok h ne
      have s1 := state_12 vs n
      have s2 := sieveN_lt vs
      simp only [List.mem_cons, List.not_mem_nil, or_false] at hd
      rcases hd with rfl | rfl | rfl | rfl
      · exact sm_int (by omega)
      · exact sm_val l1
      · exact sm_val l2
      · exact sm_int (by omega)
  have l4 : (toldL vs n).length = 4 := by unfold toldL; split <;> rfl
  have := sm_tup hh
  rwa [l4] at this
end Dk

set_option Elab.async false
set_option linter.all false
set_option maxRecDepth 100000
set_option maxHeartbeats 4000000
namespace Dk
open PySem PySem.Spec PyProof.Rows L2 Dd
def pathV : D := .tup [.str "v"]
theorem w_ix_dks {g : DH} {kvs : List (Key × D)} {x : Str} {Q : D → DH → Prop} : WO (ixD (.ref 0) (.str x)) (.dk kvs :: g) Q ↔ ∃ d, lookD kvs (Sum.inr x) = some d ∧ Q d (.dk kvs :: g) := w_ix_dk (x := Sum.inr x)
theorem keys_i (ms : List Int) : (ms.map fun m => (Sum.inl m : Key)).map keyV = ms.map D.int := by rw [List.map_map]; rfl
theorem enc_all {k : Kd} {vs : List D} {cs : List Nat} (vo : ∀ d ∈ vs, VOk k d) (hcs : cs = codesN k) : ∃ (ks : List Key) (ms : List Int), ∀ n ∈ cs, EncOk k vs ks ms n := by
  subst hcs
  cases k with
  | i =>
    obtain ⟨ms, rfl⟩ : ∃ ms : List Int, vs = ms.map D.int := by
      induction vs with
      | nil => exact ⟨[], rfl⟩
      | cons d vs ih =>
        obtain ⟨ms, rfl⟩ := ih fun x hx => vo x (List.mem_cons_of_mem _ hx)
        obtain ⟨n, rfl, -⟩ := vo d List.mem_cons_self
        exact ⟨n :: ms, rfl⟩
    refine ⟨ms.map fun m => (Sum.inl m : Key), ms, fun n hn => ?_⟩
    simp only [codesN, List.mem_cons, List.not_mem_nil, or_false] at hn
    rcases hn with rfl | rfl | rfl
    · exact .inl rfl
    · exact .inr (.inl ⟨rfl, fun z => (nomatch z), (keys_i ms).symm⟩)
    · exact .inr (.inr ⟨rfl, rfl, rfl⟩)
  | b =>
    refine ⟨[], [], fun n hn => ?_⟩
    simp only [codesN, List.mem_cons, List.not_mem_nil, or_false] at hn
    exact .inl hn
  | t =>
    obtain ⟨ks, rfl⟩ : ∃ ks : List Key, vs = ks.map keyV := by
      induction vs with
      | nil => exact ⟨[], rfl⟩
      | cons d vs ih =>
        obtain ⟨ms, rfl⟩ := ih fun x hx => vo x (List.mem_cons_of_mem _ hx)
        obtain ⟨n, rfl, -⟩ := vo d List.mem_cons_self
        exact ⟨Sum.inr n :: ms, rfl⟩
    refine ⟨ks, [], fun n hn => ?_⟩
    simp only [codesN, List.mem_cons, List.not_mem_nil, or_false] at hn
    rcases hn with rfl | rfl
    · exact .inl rfl
    · exact .inr (.inl ⟨rfl, fun z => (nomatch z), rfl⟩)
theorem enc_lt {k : Kd} {vs : List D} {ks : List Key} {ns : List Int} {enc : Nat} (ok : EncOk k vs ks ns enc) (h : ∀ d ∈ vs, VOk k d) : ∀ b ∈ encB k vs ks ns enc, b < 256 := by
  unfold encB
  rcases ok with rfl | ⟨rfl, h0, rfl⟩ | ⟨rfl, rfl, rfl⟩
  · rw [if_pos rfl]; exact plain_lt h
  · rw [if_neg (by decide), if_pos rfl, dictB]
    intro b hb
    rcases List.mem_append.mp hb with hb | hb
    · rcases List.mem_append.mp hb with hb | hb
      · exact numB_lt256 _ _ hb
      · exact plain_lt (known_ok h) b hb
    · exact levB_lt _ _ b hb
  · rw [if_neg (by decide), if_neg (by decide)]; exact diff_lt
def L8 (ns : List Int) (r : Int) (k : Kd) (C : D) (count : Nat) (es : List Ent) (vs : List D) (cs : List Nat) (j : Nat) (e : DE) (h : DH) : Prop := ∃ x8 x9 x10 : Option D, e = [some (.frz ns), some (.int r), some (.str k.s), some C, some (.int (count : Int)), some (.vl (es.map entD)), some (.vl vs), some (.tup (cs.map fun n : Nat => .int (n : Int))), x8, x9, x10, none, none, none, none, none] ∧ h = []
theorem sm_of_tup {dp wt : Nat} {xs : List D} (s : Sm dp wt (.tup xs)) : Sm dp wt (.kt xs) := by
  obtain ⟨y, e, s⟩ := s
  exact ⟨y, fun h n => by rw [toPy_kt]; exact e h n, s⟩
theorem w_told_bad (c : Nat) (C : D) : PC (pg.run (c + 2)) i_take_told [C, .vl (nD [3]), .int 0] (fun _ => False) fun x _ => x = 0 := by
  refine pc_of (f := f_take_told) rfl e_take_told rfl ?_
  simp [b_take_told, startD, f_take_told]
  refine pc_to (r_byte c [3] 0 3 0 rfl (.inl (List.prefix_refl _))) ?_ ?_
  · rintro d ⟨p1, rfl⟩
    simp
  · rintro e p sp ⟨rfl, p1⟩
    exact absurd (List.prefix_refl _) p1
def M8 (ns : List Int) (r : Int) (k : Kd) (C : D) (count : Nat) (es : List Ent) (vs : List D) (cs : List Nat) (L T : D) (j : Nat) (e : DE) (h : DH) : Prop := ∃ x8 x9 x10 x13 x14 : Option D, e = [some (.frz ns), some (.int r), some (.str k.s), some C, some (.int (count : Int)), some (.vl (es.map entD)), some (.vl vs), some (.tup (cs.map fun n : Nat => .int (n : Int))), x8, x9, x10, some L, some T, x13, x14, none] ∧ h = []
theorem deep_bl {h : DH} {d : D} {b : Bool} (e : deep 0 h deepN d = some (.bl b)) : d = .bl b := by
  have e : frF (fun i => if Nat.blt i 0 then some (.ref i) else match h[i]? with
    | some ob => (ob.vals.mapM (deep 0 h 5)).map ob.vw
    | none => none) d = some (.bl b) := e
  cases d with
  | bl u => exact Option.some.inj e
  | ref i =>
    have e : (match h[i]? with | some ob => (ob.vals.mapM (deep 0 h 5)).map ob.vw | none => none) = some (.bl b) := e
    split at e
    · rename_i ob ho
      obtain ⟨y, e1, e2⟩ := Dd.map_some e
      cases ob <;> cases e2
    · cases e
  | tup xs => obtain ⟨y, e1, e2⟩ := Dd.map_some e; cases e2
  | vl xs => obtain ⟨y, e1, e2⟩ := Dd.map_some e; cases e2
  | vk ks xs => obtain ⟨y, e1, e2⟩ := Dd.map_some e; cases e2
  | vt ks xs => obtain ⟨y, e1, e2⟩ := Dd.map_some e; cases e2
  | vi c fs xs => obtain ⟨y, e1, e2⟩ := Dd.map_some e; cases e2
  | _ => cases e
theorem w_law (ns : List Int) : PC (pg.run 40) i_law [.frz ns] (fun d => d = .bl true) fun _ _ => False := by
  refine pc_of (f := f_law) rfl e_law rfl ?_
  have zz : Z = 16777216 := rfl
  have lc : ∀ (i : Nat) (Q : D → Prop) (X : Nat → D → Prop), PC (pg.run (38 + 1)) i_law_cell [.frz ns, .int (i : Int)] Q X ↔ Q (.int (cellN ns i)) := fun i Q X => pc_ok (w_law_cell 38 ns i)
  have lc0 : ∀ (Q : D → Prop) (X : Nat → D → Prop), PC (pg.run 39) i_law_cell [.frz ns, .int 0] Q X ↔ Q (.int (cellN ns 0)) := fun Q X => lc 0 Q X
  have lc1 : ∀ (Q : D → Prop) (X : Nat → D → Prop), PC (pg.run 39) i_law_cell [.frz ns, .int 1] Q X ↔ Q (.int (cellN ns 1)) := fun Q X => lc 1 Q X
  obtain ⟨r, hr⟩ : ∃ r, r = if cellN ns 0 < 0 then -cellN ns 0 else cellN ns 0 := ⟨_, rfl⟩
  have hr0 : 0 ≤ r := by rw [hr]; split <;> omega
  obtain ⟨q, hq⟩ : ∃ q, q = if cellN ns 1 < 0 then -cellN ns 1 else cellN ns 1 := ⟨_, rfl⟩
  have hq0 : 0 ≤ q := by rw [hq]; split <;> omega
  obtain ⟨k, ixk⟩ : ∃ k : Kd, L2.atI [D.str "int", D.str "bool", D.str "text"] (r % 3) = some (.str k.s) := by
    have : r % 3 = 0 ∨ r % 3 = 1 ∨ r % 3 = 2 := by omega
    rcases this with e | e | e <;> rw [e]
    · exact ⟨.i, rfl⟩
    · exact ⟨.b, rfl⟩
    · exact ⟨.t, rfl⟩
  obtain ⟨count, hcount, ixc⟩ : ∃ count : Nat, count ≤ 600 ∧ L2.atI [D.int 0, D.int 1, D.int 3, D.int 17, D.int 90, D.int 600] (q % 6) = some (.int (count : Int)) := by
    have : q % 6 = 0 ∨ q % 6 = 1 ∨ q % 6 = 2 ∨ q % 6 = 3 ∨ q % 6 = 4 ∨ q % 6 = 5 := by omega
    rcases this with e | e | e | e | e | e <;> rw [e]
    · exact ⟨0, by omega, rfl⟩
    · exact ⟨1, by omega, rfl⟩
    · exact ⟨3, by omega, rfl⟩
    · exact ⟨17, by omega, rfl⟩
    · exact ⟨90, by omega, rfl⟩
    · exact ⟨600, by omega, rfl⟩
  obtain ⟨md, hmd⟩ : ∃ md : Nat, md = (r / 3 % 4).toNat := ⟨_, rfl⟩
  have mdI : r / 3 % 4 = (md : Int) := by omega
  have md4 : md < 4 := by omega
  obtain ⟨mr, hmr⟩ : ∃ mr : Nat, mr = (r / 12 % 3).toNat := ⟨_, rfl⟩
  have mrI : r / 12 % 3 = (mr : Int) := by omega
  have mr3 : mr < 3 := by omega
  have ppv : pureD pathV = true := rfl
  simp [b_law, startD, f_law, lc0, lc1, ← hr, ← hq, ixk, ixc, mdI, mrI]
  have le := w_law_entries 37 ns pathV ppv k md mr count (by omega) (by omega) (by omega)
  refine le.mono ?_ fun _ _ z => z.elim
  rintro d ⟨es, rfl, el, eok⟩
  have pe := ent_pure eok
  have vo := vals_ok eok
  have vl := vals_len md es
  have vn := vals_non eok
  obtain ⟨vs, hvs⟩ : ∃ vs, vs = vals md es := ⟨_, rfl⟩
  rw [← hvs] at vo vl vn
  have pv := vs_pure vo
  refine lc_filt es entD (fun e => e.2.2) (fun e => !isNonD e.2.2) (by omega) (by simp) ?_ ?_
  · intro e he
    refine ⟨_, fun h => rfl, fun acc => ⟨?_, fun _ => ?_⟩⟩
    · simp [entD]
    · simp [entD]
  rw [← vn]
  simp [pv]
  refine we_disp ?_
  simp
  refine ⟨_, rfl, by decide, ?_⟩
  rw [w_ix_dks]
  obtain ⟨cs, hcs⟩ : ∃ cs, cs = codesN k := ⟨_, rfl⟩
  have csp : pureDs (cs.map fun n : Nat => D.int (n : Int)) = true := p_map fun _ _ => rfl
  have csm : Sm 1 284 (.tup (cs.map fun n : Nat => D.int (n : Int))) := by
    rw [hcs]
    refine (sm_tup (dp := 0) (wt := 70) fun d hd => ?_).mono (Nat.le_refl _) (by cases k <;> decide)
    obtain ⟨n, hn, rfl⟩ := List.mem_map.mp hd
    exact sm_int (by cases k <;> simp [codesN] at hn <;> omega)
  refine ⟨.tup (cs.map fun n : Nat => .int (n : Int)), by rw [hcs]; cases k <;> rfl, ?_⟩
  simp [csp]
  refine (pc_ok (w_allowed 38 k)).mpr ?_
  rw [← hcs, w_ne_kt csm (by decide)]
  simp
  obtain ⟨ks, ms, ok⟩ : ∃ (ks : List Key) (ms : List Int), ∀ n ∈ cs, EncOk k vs ks ms n := enc_all vo hcs
  obtain ⟨C, hC⟩ : ∃ C, C = D.tup [D.tup [D.str "v"], D.str k.s, D.int (md : Int), D.int (mr : Int)] := ⟨_, rfl⟩
  have hC2 : C = col pathV k md mr := hC
  rw [← hC]
  have pC : pureD C = true := by rw [hC2]; exact col_pure ppv k md mr
  have smE := sm_ents eok (by omega) (by omega)
  have smV := sm_vals vo
  refine for_map cs (fun n : Nat => D.int (n : Int)) (L8 ns r k C count es vs cs) (by simp) ⟨none, none, none, rfl, rfl⟩ ?_ ?_
  · rintro e h ⟨x8, x9, x10, rfl, rfl⟩
    obtain ⟨N, hN⟩ : ∃ N, N = es.length := ⟨_, rfl⟩
    have f1 := w_law_told 37 pathV ppv k md mr es eok (by omega)
    have f2 := w_law_told_bytes 36 k vs N vo
    have f3 := w_told_of 36 pathV ppv k md mr es eok (by omega)
    have f4 := w_put_told 36 pathV ppv k md mr vs N vo
    rw [← hC2] at f1 f3 f4
    rw [← hvs, ← hN] at f1 f3
    obtain ⟨L, hL⟩ : ∃ L, L = toldL vs N := ⟨_, rfl⟩
    obtain ⟨T, hT⟩ : ∃ T, T = toldB vs N := ⟨_, rfl⟩
    have Tl := toldB_len (n := N) vo
    have Tlt := toldB_lt (n := N) vo
    have pL := toldL_pure (n := N) vo
    have smL := sm_told (n := N) vo
    have rt := fun (c : Nat) (bs : List Nat) (h1 : ∀ b ∈ bs, b < 256) (h2 : bs.length ≤ 1000000) (h3 : Cmp bs (toldB vs N)) => r_told c pathV ppv k md mr vs N bs vo h1 h2 h3
    rw [← hC2] at rt
    rw [← hL] at f1 f2 f3 f4 pL smL rt
    rw [← hT] at f2 f4 Tl Tlt rt
    obtain ⟨X, hX⟩ : ∃ X, X = if vs = [] then D.kt L else D.tup L := ⟨_, rfl⟩
    rw [← hX] at f3 rt
    have pX : pureD X = true := by rw [hX]; split; rfl; exact pL
    have smX : Sm 1 284 X := by rw [hX]; split; exact sm_of_tup smL; exact smL
    have rX : isRf X = true := by rw [hX]; split <;> rfl
    have shX : showD X = showD (.tup L) := by rw [hX]; split <;> rfl
    have shP : ∀ i, showD (.tup [X, .int i]) = showD (.tup [.tup L, .int i]) := by intro i; rw [hX]; split <;> rfl
    have smT := sm_bytes Tlt
    have f5 : PC (pg.run 39) i_take_told [C, .vl (nD (T ++ [9])), .int 0] (fun d => d = .tup [X, .int (T.length : Int)]) fun _ _ => False := by
      refine (rt 35 (T ++ [9]) (fun b hb => ?_) (by rw [List.length_append]; show T.length + 1 ≤ _; omega) (.inl (List.prefix_append _ _))).mono (fun d z => z.2) fun c p z => z.2 (List.prefix_append _ _)
      rcases List.mem_append.mp hb with hb | hb
      · exact Tlt b hb
      · rw [List.mem_singleton.mp hb]; decide
    have f6 : PC (pg.run 39) i_law_refused [.int 1, C, .vl (nD (T.take (T.length - 1))), .int 0] (fun d => d = .bl true) fun _ _ => False := by
      refine w_refused1 38 C _ _ pC (by simp) rfl ?_
      have np : ¬ T <+: T.take (T.length - 1) := not_cut (by rw [List.length_take]; omega)
      exact (rt 34 _ (fun b hb => Tlt b (List.mem_of_mem_take hb)) (by rw [List.length_take]; omega) (cmp_take _)).mono (fun d z => absurd z.1 np) fun c p z => z.1
    have cutT : cutD (nD T) none (some ((T.length : Int) - 1)) = nD (T.take (T.length - 1)) := by
      rw [show (T.length : Int) - 1 = ((T.length - 1 : Nat) : Int) from by omega, cut_to, nD_take]
    have e9 : nD T ++ [D.int 9] = nD (T ++ [9]) := nD_snoc T 9
    simp [pC, pe]
    refine (pc_ok f1).mpr ?_
    simp [pL]
    refine (pc_ok f2).mpr ?_
    simp [pC, pe]
    refine (pc_ok f3).mpr ?_
    rw [w_repr smX (by decide) (by decide) rX]
    rw [w_repr smL (by decide) (by decide) rfl, shX]
    simp [pC, pL]
    refine (pc_ok f4).mpr ?_
    rw [w_ne smT (by decide)]
    simp [pC, pL, e9]
    refine ⟨by omega, ?_⟩
    refine (pc_ok f5).mpr ?_
    have smP := sm_pair (i := (T.length : Int)) smX (by omega)
    have smP2 := sm_pair (i := (T.length : Int)) smL (by omega)
    rw [w_repr smP (by decide) (by decide) rfl]
    rw [w_repr smP2 (by decide) (by decide) rfl, shP]
    simp [cutT, pC]
    refine (pc_ok f6).mpr ?_
    simp
    have cut20 : cutD vs none (some 20) = vs.take 20 := cut_to (b := 20)
    have pv20 : pureDs (vs.take 20) = true := p_take pv
    refine for_map (vs.take 20) id (M8 ns r k C count es vs cs (.tup L) (.vl (nD T))) (by simp [cut20, pv20]) ⟨_, _, _, none, none, rfl, rfl⟩ ?_ ?_
    · rintro e h ⟨x8, x9, x10, x13, x14, rfl, rfl⟩
      have f7 := w_refused1 38 C (.vl (nD [3])) (.int 0) pC (by simp) rfl (w_told_bad 36 C)
      have f8 := w_has_mark 38 5 1 5 rfl
      have f9 := w_has_mark 38 5 2 5 rfl
      have e3 : D.vl [D.int 3] = D.vl (nD [3]) := rfl
      simp [pC]
      rw [e3]
      refine (pc_ok f7).mpr ?_
      simp
      refine (pc_ok f8).mpr ?_
      rw [show Nat.testBit 5 1 = false from by decide]
      simp
      refine (pc_ok f9).mpr ?_
      rw [show Nat.testBit 5 2 = true from by decide]
      simp
    · rintro j d e h hj ⟨x8, x9, x10, x13, x14, rfl, rfl⟩
      have hd : d ∈ vs := List.mem_of_mem_take (List.mem_of_getElem? hj)
      have od := vo d hd
      have pd := vok_pure od
      have ne : vs ≠ [] := fun z => by rw [z] at hd; cases hd
      have L3 : L[3]? = some (.int (sieveN vs : Int)) := by rw [hL, toldL, if_neg ne]; rfl
      obtain ⟨g3, g4⟩ := List.getElem?_eq_some_iff.mp L3
      have ol := oneB_len od
      have olt := oneB_lt od
      have f1 := w_law_mark 38 k d od
      have f2 := w_mark_of 37 k d od
      have f3 := w_has_mark 38 (sieveN vs) (markN d) _ rfl
      rw [sieve_mem hd] at f3
      have f4 := w_put_one 37 k d od
      have f5 := w_law_one 37 k d od
      have smO := sm_bytes olt
      have smD := sm_val od
      have f6 : PC (pg.run 39) i_take_one [.str k.s, .vl (nD ([7] ++ oneB d ++ [7])), .int 1] (fun x => x = .tup [d, .int (1 + ((oneB d).length : Int))]) fun _ _ => False := by
        have dr : ([7] ++ oneB d ++ [7]).drop 1 = oneB d ++ [7] := rfl
        have t := r_one 36 k d ([7] ++ oneB d ++ [7]) 1 1 rfl (fun b hb => ?_) (by simp; omega) (by simp) od (by rw [dr]; exact .inl (List.prefix_append _ _))
        · rw [dr] at t
          refine t.mono (fun x z => ?_) fun c p z => z.2 (List.prefix_append _ _)
          rw [z.2]
          simp
        · rcases List.mem_append.mp hb with hb | hb
          · rcases List.mem_append.mp hb with hb | hb
            · rw [List.mem_singleton.mp hb]; decide
            · exact olt b hb
          · rw [List.mem_singleton.mp hb]; decide
      have e7 : D.int 7 :: (nD (oneB d) ++ [D.int 7]) = nD ([7] ++ oneB d ++ [7]) := by rw [nD_app, nD_app]; rfl
      have smP := sm_pair (i := 1 + ((oneB d).length : Int)) smD (by omega)
      obtain ⟨O, hO⟩ : ∃ O, O = oneB d := ⟨_, rfl⟩
      rw [← hO] at ol f4 f5 f6 smO e7 smP
      refine ⟨_, rfl, ?_⟩
      simp [pd]
      refine (pc_ok f1).mpr ?_
      refine (pc_ok f2).mpr ?_
      simp [g3, g4]
      refine (pc_ok f3).mpr ?_
      simp [pd]
      refine (pc_ok f4).mpr ?_
      refine (pc_ok f5).mpr ?_
      rw [w_ne smO (by decide)]
      simp [pd]
      refine (pc_ok f5).mpr ?_
      simp [e7]
      refine ⟨by omega, by omega, ?_⟩
      refine (pc_ok f6).mpr ?_
      rw [w_repr smP (by decide) (by decide) rfl]
      refine (pc_ok f5).mpr ?_
      simp
      rw [w_repr smP (by decide) (by decide) rfl]
      simp
      exact ⟨_, _, _, _, _, rfl, rfl⟩
  · rintro j n e h hj ⟨x8, x9, x10, rfl, rfl⟩
    have okn := ok n (List.mem_of_getElem? hj)
    have vl2 := vals_len md es
    rw [hvs] at okn vo
    refine ⟨_, rfl, ?_⟩
    obtain ⟨B, hB⟩ : ∃ B, B = pageB k md mr es ks ms n := ⟨_, rfl⟩
    obtain ⟨E, hE⟩ : ∃ E, E = encB k (vals md es) ks ms n := ⟨_, rfl⟩
    obtain ⟨l1, l2, l3, l4⟩ := page_len eok (by omega) (by omega) (by omega) okn
    have Blen : 1 ≤ B.length ∧ B.length ≤ 100000 := by
      rw [hB, pageB, List.length_append, List.length_append, List.length_append]
      have : 1 ≤ (numB es.length).length := List.length_pos_iff.mpr (numB_ne _)
      omega
    have Elen : E.length ≤ 100000 := by rw [hE]; omega
    have Elt : ∀ b ∈ E, b < 256 := by rw [hE]; exact enc_lt okn vo
    have Blt : ∀ b ∈ B, b < 256 := by
      rw [hB, pageB]
      intro b hb
      rcases List.mem_append.mp hb with hb | hb
      · exact numB_lt256 _ _ hb
      rcases List.mem_append.mp hb with hb | hb
      · exact levB_lt _ _ b hb
      rcases List.mem_append.mp hb with hb | hb
      · exact levB_lt _ _ b hb
      · rw [hE] at Elt; exact Elt b hb
    have f1 := w_law_page 34 pathV ppv k md mr es ks ms n eok (by omega) (by omega) (by omega) okn
    have f2 := w_put_page 33 pathV ppv k md mr es ks ms n eok (by omega) (by omega) (by omega) okn
    have rp := fun (c : Nat) (bs : List Nat) (h1 : ∀ b ∈ bs, b < 256) (h2 : bs.length ≤ 1000000) (h3 : Cmp bs (pageB k md mr es ks ms n)) => r_page c pathV ppv k md mr es ks ms n bs eok (by omega) (by omega) (by omega) okn h1 h2 h3
    rw [← hB] at f1 f2 rp
    rw [← hC2] at f1 f2 rp
    have f3 : PC (pg.run 39) i_take_page [C, .vl (nD B), .int (n : Int)] (fun d => d = .vl (es.map entD)) fun _ _ => False := (rp 32 B Blt (by omega) (.inl (List.prefix_refl _))).mono (fun d z => z.2) fun c p z => z.2 rfl
    have f4 : PC (pg.run 39) i_law_refused [.int 0, C, .vl (nD (B.take (B.length - 1))), .int (n : Int)] (fun d => d = .bl true) fun _ _ => False := by
      refine w_refused0 38 C _ _ pC (by simp) rfl ?_
      have ne : B.take (B.length - 1) ≠ B := fun z => by
        have := congrArg List.length z
        rw [List.length_take] at this; omega
      refine (rp 31 (B.take (B.length - 1)) (fun b hb => Blt b (List.mem_of_mem_take hb)) (by rw [List.length_take]; omega) (cmp_take _)).mono (fun d z => absurd z.1 ne) fun c p z => z.1
    have f5 : PC (pg.run 39) i_law_refused [.int 0, C, .vl (nD (B ++ [0])), .int (n : Int)] (fun d => d = .bl true) fun _ _ => False := by
      refine w_refused0 38 C _ _ pC (by simp) rfl ?_
      have ne : B ++ [0] ≠ B := fun z => by
        have := congrArg List.length z
        rw [List.length_append] at this
        have e1 : [0].length = 1 := rfl
        omega
      refine (rp 31 (B ++ [0]) (fun b hb => ?_) (by rw [List.length_append]; show B.length + 1 ≤ _; omega) (.inl (List.prefix_append _ _))).mono (fun d z => absurd z.1 ne) fun c p z => z.1
      rcases List.mem_append.mp hb with hb | hb
      · exact Blt b hb
      · rw [List.mem_singleton.mp hb]; decide
    have f6 := w_law_encoded 35 k (vals md es) ks ms n okn vo (by omega)
    have f7 := w_put_values 34 k (vals md es) ks ms n okn vo (by omega)
    rw [← hE, ← hvs] at f6 f7
    have f8 : PC (pg.run 39) i_take_values [.str k.s, .vl (nD ([1] ++ E ++ [2])), .int 1, .int (vs.length : Int), .int (n : Int)] (fun d => d = .tup [.vl vs, .int (1 + (E.length : Int))]) fun _ _ => False := by
      have dr : ([1] ++ E ++ [2]).drop 1 = E ++ [2] := rfl
      have t := r_values 33 k (vals md es) ks ms n okn ([1] ++ E ++ [2]) 1 1 (vs.length : Int) rfl (by rw [hvs]) (fun b hb => ?_) (by simp; omega) (by simp) vo (by omega) (by rw [dr, ← hE]; exact .inl (List.prefix_append _ _))
      · rw [dr, ← hE, ← hvs] at t
        refine t.mono (fun d z => ?_) fun c p z => z.2 (List.prefix_append _ _)
        rw [z.2]
        simp
      · rcases List.mem_append.mp hb with hb | hb
        · rcases List.mem_append.mp hb with hb | hb
          · rw [List.mem_singleton.mp hb]; decide
          · exact Elt b hb
        · rw [List.mem_singleton.mp hb]; decide
    have smB := sm_bytes Blt
    have smEE := sm_bytes Elt
    have cut : cutD (nD B) none (some ((B.length : Int) - 1)) = nD (B.take (B.length - 1)) := by
      rw [show (B.length : Int) - 1 = ((B.length - 1 : Nat) : Int) from by omega, cut_to, nD_take]
    have e5 : nD B ++ [D.int 0] = nD (B ++ [0]) := nD_snoc B 0
    have e8 : D.int 1 :: (nD E ++ [D.int 2]) = nD ([1] ++ E ++ [2]) := by rw [nD_app, nD_app]; rfl
    simp [pC, pe]
    refine (pc_ok f1).mpr ?_
    refine (pc_ok f2).mpr ?_
    rw [w_ne smB (by decide)]
    simp [pC, pe]
    refine (pc_ok f3).mpr ?_
    rw [w_repr smE (by decide) (by omega) rfl]
    rw [w_repr smE (by decide) (by omega) rfl]
    simp [pC, cut]
    refine (pc_ok f4).mpr ?_
    simp [pC, e5]
    refine ⟨by omega, ?_⟩
    refine (pc_ok f5).mpr ?_
    simp [pv]
    refine (pc_ok f6).mpr ?_
    refine (pc_ok f7).mpr ?_
    rw [w_ne smEE (by decide)]
    simp [pv, e8]
    refine ⟨by omega, by omega, ?_⟩
    refine (pc_ok f8).mpr ?_
    have smP := sm_pair (i := 1 + (E.length : Int)) smV (by omega)
    have w1 : 2 * (71 * vs.length + 71) ≤ 640000 := by omega
    rw [w_repr smP (by decide) w1 rfl]
    rw [w_repr smP (by decide) w1 rfl]
    simp
    exact ⟨_, _, _, rfl, rfl⟩

theorem main (ns : List Int) (hn : ns.length ≤ 63) : ∃ h', pg.run 40 i_law [.frz ns] [] = some (.ok (.bl true), h') := by
  obtain ⟨r, q, w⟩ := w_law ns
  cases r with
  | ex c p => exact w.elim
  | ok d =>
    have w : d = .bl true := w
    subst w
    unfold pcall at q
    cases hq : pg.run 40 i_law [.frz ns] [] with
    | none => rw [hq] at q; cases q
    | some x =>
      rw [hq] at q
      obtain ⟨r, h'⟩ := x
      cases r with
      | ex c p =>
        dsimp only at q
        split at q <;> cases q
      | ok d =>
        refine ⟨h', ?_⟩
        dsimp only at q
        cases hd : deep 0 h' deepN d with
        | none => rw [hd] at q; cases q
        | some y =>
          rw [hd] at q
          cases q
          have : d = .bl true := deep_bl hd
          rw [this]
end Dk


open PySem PySem.W PyProof.Rows
set_option maxRecDepth 100000 in
set_option maxHeartbeats 0 in
theorem PySem.Challenge.cw_stripestack_k09_pages_of_any_size_holds : PySem.Challenge.rw_stripestack_k09_pages_of_any_size.Holds := by
  w_on; o_law; k_head; (case hw => w_witness2); k_fill
  refine Dd.walkG (l := PySem.Challenge.rw_stripestack_k09_pages_of_any_size) (n := 63) (k := 40) (sp := fun w => Dd.spLaw _ 63) rfl (by decide) rfl ⟨rfl, by decide, by decide⟩ (fun w h Y => PySem.W.kIn_of Y) ?F (fun w H a ns hn _ hf => ⟨a, ns, rfl, hn, hf, fun _ => rfl⟩)
  case F =>
    intro w mg fa h KX G hmg base _ _
    have d0 : Dd.KOf KX fun K => Dd.DefAt K mg "put_number" Dk.s_put_number := by
      refine' Dd.def_mk KX G ?a ?l ?c ?k
      (case a => k_is); (case l => k_is); (case c => k_is); (case k => k_is)
    have d1 : Dd.KOf KX fun K => Dd.DefAt K mg "take_number" Dk.s_take_number := by
      refine' Dd.def_mk KX G ?a ?l ?c ?k
      (case a => k_is); (case l => k_is); (case c => k_is); (case k => k_is)
    have d2 : Dd.KOf KX fun K => Dd.DefAt K mg "put_word" Dk.s_put_word := by
      refine' Dd.def_mk KX G ?a ?l ?c ?k
      (case a => k_is); (case l => k_is); (case c => k_is); (case k => k_is)
    have d3 : Dd.KOf KX fun K => Dd.DefAt K mg "take_word" Dk.s_take_word := by
      refine' Dd.def_mk KX G ?a ?l ?c ?k
      (case a => k_is); (case l => k_is); (case c => k_is); (case k => k_is)
    have d4 : Dd.KOf KX fun K => Dd.DefAt K mg "take_byte" Dk.s_take_byte := by
      refine' Dd.def_mk KX G ?a ?l ?c ?k
      (case a => k_is); (case l => k_is); (case c => k_is); (case k => k_is)
    have d5 : Dd.KOf KX fun K => Dd.DefAt K mg "fold_sign" Dk.s_fold_sign := by
      refine' Dd.def_mk KX G ?a ?l ?c ?k
      (case a => k_is); (case l => k_is); (case c => k_is); (case k => k_is)
    have d6 : Dd.KOf KX fun K => Dd.DefAt K mg "unfold_sign" Dk.s_unfold_sign := by
      refine' Dd.def_mk KX G ?a ?l ?c ?k
      (case a => k_is); (case l => k_is); (case c => k_is); (case k => k_is)
    have d7 : Dd.KOf KX fun K => Dd.DefAt K mg "width_of" Dk.s_width_of := by
      refine' Dd.def_mk KX G ?a ?l ?c ?k
      (case a => k_is); (case l => k_is); (case c => k_is); (case k => k_is)
    have d8 : Dd.KOf KX fun K => Dd.DefAt K mg "pack" Dk.s_pack := by
      refine' Dd.def_mk KX G ?a ?l ?c ?k
      (case a => k_is); (case l => k_is); (case c => k_is); (case k => k_is)
    have d9 : Dd.KOf KX fun K => Dd.DefAt K mg "unpack" Dk.s_unpack := by
      refine' Dd.def_mk KX G ?a ?l ?c ?k
      (case a => k_is); (case l => k_is); (case c => k_is); (case k => k_is)
    have d10 : Dd.KOf KX fun K => Dd.DefAt K mg "put_levels" Dk.s_put_levels := by
      refine' Dd.def_mk KX G ?a ?l ?c ?k
      (case a => k_is); (case l => k_is); (case c => k_is); (case k => k_is)
    have d11 : Dd.KOf KX fun K => Dd.DefAt K mg "_end_of_equals" Dk.s_end_of_equals := by
      refine' Dd.def_mk KX G ?a ?l ?c ?k
      (case a => k_is); (case l => k_is); (case c => k_is); (case k => k_is)
    have d12 : Dd.KOf KX fun K => Dd.DefAt K mg "_put_pieces" Dk.s_put_pieces := by
      refine' Dd.def_mk KX G ?a ?l ?c ?k
      (case a => k_is); (case l => k_is); (case c => k_is); (case k => k_is)
    have d13 : Dd.KOf KX fun K => Dd.DefAt K mg "take_levels" Dk.s_take_levels := by
      refine' Dd.def_mk KX G ?a ?l ?c ?k
      (case a => k_is); (case l => k_is); (case c => k_is); (case k => k_is)
    have d14 : Dd.KOf KX fun K => Dd.DefAt K mg "is_value" Dk.s_is_value := by
      refine' Dd.def_mk KX G ?a ?l ?c ?k
      (case a => k_is); (case l => k_is); (case c => k_is); (case k => k_is)
    have d15 : Dd.KOf KX fun K => Dd.DefAt K mg "_is_int" Dk.s_is_int := by
      refine' Dd.def_mk KX G ?a ?l ?c ?k
      (case a => k_is); (case l => k_is); (case c => k_is); (case k => k_is)
    have d16 : Dd.KOf KX fun K => Dd.DefAt K mg "_is_text" Dk.s_is_text := by
      refine' Dd.def_mk KX G ?a ?l ?c ?k
      (case a => k_is); (case l => k_is); (case c => k_is); (case k => k_is)
    have d17 : Dd.KOf KX fun K => Dd.DefAt K mg "allowed" Dk.s_allowed := by
      refine' Dd.def_mk KX G ?a ?l ?c ?k
      (case a => k_is); (case l => k_is); (case c => k_is); (case k => k_is)
    have d18 : Dd.KOf KX fun K => Dd.DefAt K mg "put_signs" Dk.s_put_signs := by
      refine' Dd.def_mk KX G ?a ?l ?c ?k
      (case a => k_is); (case l => k_is); (case c => k_is); (case k => k_is)
    have d19 : Dd.KOf KX fun K => Dd.DefAt K mg "take_signs" Dk.s_take_signs := by
      refine' Dd.def_mk KX G ?a ?l ?c ?k
      (case a => k_is); (case l => k_is); (case c => k_is); (case k => k_is)
    have d20 : Dd.KOf KX fun K => Dd.DefAt K mg "_sign_of" Dk.s_sign_of := by
      refine' Dd.def_mk KX G ?a ?l ?c ?k
      (case a => k_is); (case l => k_is); (case c => k_is); (case k => k_is)
    have d21 : Dd.KOf KX fun K => Dd.DefAt K mg "put_one" Dk.s_put_one := by
      refine' Dd.def_mk KX G ?a ?l ?c ?k
      (case a => k_is); (case l => k_is); (case c => k_is); (case k => k_is)
    have d22 : Dd.KOf KX fun K => Dd.DefAt K mg "take_one" Dk.s_take_one := by
      refine' Dd.def_mk KX G ?a ?l ?c ?k
      (case a => k_is); (case l => k_is); (case c => k_is); (case k => k_is)
    have d23 : Dd.KOf KX fun K => Dd.DefAt K mg "_signed" Dk.s_signed := by
      refine' Dd.def_mk KX G ?a ?l ?c ?k
      (case a => k_is); (case l => k_is); (case c => k_is); (case k => k_is)
    have d24 : Dd.KOf KX fun K => Dd.DefAt K mg "put_values" Dk.s_put_values := by
      refine' Dd.def_mk KX G ?a ?l ?c ?k
      (case a => k_is); (case l => k_is); (case c => k_is); (case k => k_is)
    have d25 : Dd.KOf KX fun K => Dd.DefAt K mg "take_values" Dk.s_take_values := by
      refine' Dd.def_mk KX G ?a ?l ?c ?k
      (case a => k_is); (case l => k_is); (case c => k_is); (case k => k_is)
    have d26 : Dd.KOf KX fun K => Dd.DefAt K mg "_put_plain" Dk.s_put_plain := by
      refine' Dd.def_mk KX G ?a ?l ?c ?k
      (case a => k_is); (case l => k_is); (case c => k_is); (case k => k_is)
    have d27 : Dd.KOf KX fun K => Dd.DefAt K mg "_take_plain" Dk.s_take_plain := by
      refine' Dd.def_mk KX G ?a ?l ?c ?k
      (case a => k_is); (case l => k_is); (case c => k_is); (case k => k_is)
    have d28 : Dd.KOf KX fun K => Dd.DefAt K mg "_put_dictionary" Dk.s_put_dictionary := by
      refine' Dd.def_mk KX G ?a ?l ?c ?k
      (case a => k_is); (case l => k_is); (case c => k_is); (case k => k_is)
    have d29 : Dd.KOf KX fun K => Dd.DefAt K mg "_take_dictionary" Dk.s_take_dictionary := by
      refine' Dd.def_mk KX G ?a ?l ?c ?k
      (case a => k_is); (case l => k_is); (case c => k_is); (case k => k_is)
    have d30 : Dd.KOf KX fun K => Dd.DefAt K mg "_last_index" Dk.s_last_index := by
      refine' Dd.def_mk KX G ?a ?l ?c ?k
      (case a => k_is); (case l => k_is); (case c => k_is); (case k => k_is)
    have d31 : Dd.KOf KX fun K => Dd.DefAt K mg "_put_differences" Dk.s_put_differences := by
      refine' Dd.def_mk KX G ?a ?l ?c ?k
      (case a => k_is); (case l => k_is); (case c => k_is); (case k => k_is)
    have d32 : Dd.KOf KX fun K => Dd.DefAt K mg "_take_differences" Dk.s_take_differences := by
      refine' Dd.def_mk KX G ?a ?l ?c ?k
      (case a => k_is); (case l => k_is); (case c => k_is); (case k => k_is)
    have d33 : Dd.KOf KX fun K => Dd.DefAt K mg "put_page" Dk.s_put_page := by
      refine' Dd.def_mk KX G ?a ?l ?c ?k
      (case a => k_is); (case l => k_is); (case c => k_is); (case k => k_is)
    have d34 : Dd.KOf KX fun K => Dd.DefAt K mg "_values_of" Dk.s_values_of := by
      refine' Dd.def_mk KX G ?a ?l ?c ?k
      (case a => k_is); (case l => k_is); (case c => k_is); (case k => k_is)
    have d35 : Dd.KOf KX fun K => Dd.DefAt K mg "take_page" Dk.s_take_page := by
      refine' Dd.def_mk KX G ?a ?l ?c ?k
      (case a => k_is); (case l => k_is); (case c => k_is); (case k => k_is)
    have d36 : Dd.KOf KX fun K => Dd.DefAt K mg "mark_of" Dk.s_mark_of := by
      refine' Dd.def_mk KX G ?a ?l ?c ?k
      (case a => k_is); (case l => k_is); (case c => k_is); (case k => k_is)
    have d37 : Dd.KOf KX fun K => Dd.DefAt K mg "_text_number" Dk.s_text_number := by
      refine' Dd.def_mk KX G ?a ?l ?c ?k
      (case a => k_is); (case l => k_is); (case c => k_is); (case k => k_is)
    have d38 : Dd.KOf KX fun K => Dd.DefAt K mg "has_mark" Dk.s_has_mark := by
      refine' Dd.def_mk KX G ?a ?l ?c ?k
      (case a => k_is); (case l => k_is); (case c => k_is); (case k => k_is)
    have d39 : Dd.KOf KX fun K => Dd.DefAt K mg "told_of" Dk.s_told_of := by
      refine' Dd.def_mk KX G ?a ?l ?c ?k
      (case a => k_is); (case l => k_is); (case c => k_is); (case k => k_is)
    have d40 : Dd.KOf KX fun K => Dd.DefAt K mg "put_told" Dk.s_put_told := by
      refine' Dd.def_mk KX G ?a ?l ?c ?k
      (case a => k_is); (case l => k_is); (case c => k_is); (case k => k_is)
    have d41 : Dd.KOf KX fun K => Dd.DefAt K mg "take_told" Dk.s_take_told := by
      refine' Dd.def_mk KX G ?a ?l ?c ?k
      (case a => k_is); (case l => k_is); (case c => k_is); (case k => k_is)
    have d42 : Dd.KOf KX fun K => Dd.DefAt K mg "_law_cell" Dk.s_law_cell := by
      refine' Dd.def_mk KX G ?a ?l ?c ?k
      (case a => k_is); (case l => k_is); (case c => k_is); (case k => k_is)
    have d43 : Dd.KOf KX fun K => Dd.DefAt K mg "_law_numbers" Dk.s_law_numbers := by
      refine' Dd.def_mk KX G ?a ?l ?c ?k
      (case a => k_is); (case l => k_is); (case c => k_is); (case k => k_is)
    have d44 : Dd.KOf KX fun K => Dd.DefAt K mg "_law_number" Dk.s_law_number := by
      refine' Dd.def_mk KX G ?a ?l ?c ?k
      (case a => k_is); (case l => k_is); (case c => k_is); (case k => k_is)
    have d45 : Dd.KOf KX fun K => Dd.DefAt K mg "_law_word" Dk.s_law_word := by
      refine' Dd.def_mk KX G ?a ?l ?c ?k
      (case a => k_is); (case l => k_is); (case c => k_is); (case k => k_is)
    have d46 : Dd.KOf KX fun K => Dd.DefAt K mg "_law_width" Dk.s_law_width := by
      refine' Dd.def_mk KX G ?a ?l ?c ?k
      (case a => k_is); (case l => k_is); (case c => k_is); (case k => k_is)
    have d47 : Dd.KOf KX fun K => Dd.DefAt K mg "_law_pack" Dk.s_law_pack := by
      refine' Dd.def_mk KX G ?a ?l ?c ?k
      (case a => k_is); (case l => k_is); (case c => k_is); (case k => k_is)
    have d48 : Dd.KOf KX fun K => Dd.DefAt K mg "_law_run" Dk.s_law_run := by
      refine' Dd.def_mk KX G ?a ?l ?c ?k
      (case a => k_is); (case l => k_is); (case c => k_is); (case k => k_is)
    have d49 : Dd.KOf KX fun K => Dd.DefAt K mg "_law_levels" Dk.s_law_levels := by
      refine' Dd.def_mk KX G ?a ?l ?c ?k
      (case a => k_is); (case l => k_is); (case c => k_is); (case k => k_is)
    have d50 : Dd.KOf KX fun K => Dd.DefAt K mg "_law_one" Dk.s_law_one := by
      refine' Dd.def_mk KX G ?a ?l ?c ?k
      (case a => k_is); (case l => k_is); (case c => k_is); (case k => k_is)
    have d51 : Dd.KOf KX fun K => Dd.DefAt K mg "_law_plain" Dk.s_law_plain := by
      refine' Dd.def_mk KX G ?a ?l ?c ?k
      (case a => k_is); (case l => k_is); (case c => k_is); (case k => k_is)
    have d52 : Dd.KOf KX fun K => Dd.DefAt K mg "_law_encoded" Dk.s_law_encoded := by
      refine' Dd.def_mk KX G ?a ?l ?c ?k
      (case a => k_is); (case l => k_is); (case c => k_is); (case k => k_is)
    have d53 : Dd.KOf KX fun K => Dd.DefAt K mg "_law_page" Dk.s_law_page := by
      refine' Dd.def_mk KX G ?a ?l ?c ?k
      (case a => k_is); (case l => k_is); (case c => k_is); (case k => k_is)
    have d54 : Dd.KOf KX fun K => Dd.DefAt K mg "_law_mark" Dk.s_law_mark := by
      refine' Dd.def_mk KX G ?a ?l ?c ?k
      (case a => k_is); (case l => k_is); (case c => k_is); (case k => k_is)
    have d55 : Dd.KOf KX fun K => Dd.DefAt K mg "_law_told" Dk.s_law_told := by
      refine' Dd.def_mk KX G ?a ?l ?c ?k
      (case a => k_is); (case l => k_is); (case c => k_is); (case k => k_is)
    have d56 : Dd.KOf KX fun K => Dd.DefAt K mg "_law_told_bytes" Dk.s_law_told_bytes := by
      refine' Dd.def_mk KX G ?a ?l ?c ?k
      (case a => k_is); (case l => k_is); (case c => k_is); (case k => k_is)
    have d57 : Dd.KOf KX fun K => Dd.DefAt K mg "_law_value" Dk.s_law_value := by
      refine' Dd.def_mk KX G ?a ?l ?c ?k
      (case a => k_is); (case l => k_is); (case c => k_is); (case k => k_is)
    have d58 : Dd.KOf KX fun K => Dd.DefAt K mg "_law_entries" Dk.s_law_entries := by
      refine' Dd.def_mk KX G ?a ?l ?c ?k
      (case a => k_is); (case l => k_is); (case c => k_is); (case k => k_is)
    have d59 : Dd.KOf KX fun K => Dd.DefAt K mg "_law_refused" Dk.s_law_refused := by
      refine' Dd.def_mk KX G ?a ?l ?c ?k
      (case a => k_is); (case l => k_is); (case c => k_is); (case k => k_is)
    have d60 : Dd.KOf KX fun K => Dd.DefAt K mg "law" Dk.s_law := by
      refine' Dd.def_mk KX G ?a ?l ?c ?k
      (case a => k_is); (case l => k_is); (case c => k_is); (case k => k_is)
    have c0 : Dd.KOf KX fun K => Dd.ConAt K w mg "MOST_BYTES" (.int 5) := by
      refine' Dd.con_int KX G ?a
      (case a => k_is)
    have c1 : Dd.KOf KX fun K => Dd.ConAt K w mg "WORD_BYTES" (.int 4) := by
      refine' Dd.con_int KX G ?a
      (case a => k_is)
    have c2 : Dd.KOf KX fun K => Dd.ConAt K w mg "LEAST_RUN" (.int 4) := by
      refine' Dd.con_int KX G ?a
      (case a => k_is)
    have c3 : Dd.KOf KX fun K => Dd.ConAt K w mg "MOST_PIECE" (.int 32) := by
      refine' Dd.con_int KX G ?a
      (case a => k_is)
    have c4 : Dd.KOf KX fun K => Dd.ConAt K w mg "LEAST_INT" (.int (-2147483648)) := by
      refine' Dd.con_int KX G ?a
      (case a => k_is)
    have c5 : Dd.KOf KX fun K => Dd.ConAt K w mg "GREATEST_INT" (.int 2147483647) := by
      refine' Dd.con_int KX G ?a
      (case a => k_is)
    have c6 : Dd.KOf KX fun K => Dd.ConAt K w mg "MOST_TEXT" (.int 60) := by
      refine' Dd.con_int KX G ?a
      (case a => k_is)
    have c7 : Dd.KOf KX fun K => Dd.ConAt K w mg "BARRED_CODE" (.int 37) := by
      refine' Dd.con_int KX G ?a
      (case a => k_is)
    have c8 : Dd.KOf KX fun K => Dd.ConAt K w mg "DICTIONARY" (.int 1) := by
      refine' Dd.con_int KX G ?a
      (case a => k_is)
    have c9 : Dd.KOf KX fun K => Dd.ConAt K w mg "DIFFERENCES" (.int 2) := by
      refine' Dd.con_int KX G ?a
      (case a => k_is)
    have c10 : Dd.KOf KX fun K => Dd.ConAt K w mg "ENCODINGS" (.wd [("int", .kt [.int 0, .int 1, .int 2]), ("bool", .kt [.int 0]), ("text", .kt [.int 0, .int 1])]) := by
      refine' Dd.con_wd KX G ?a (Dd.wd_mk ?l ?t ?o ?e)
      (case a => k_is); (case l => k_is)
      (case t => exact ⟨⟨_, _, rfl, rfl⟩, ⟨⟨_, _, rfl, rfl⟩, ⟨⟨_, _, rfl, rfl⟩, trivial⟩⟩⟩)
      (case o => decide)
      (case e => exact ⟨_, _, _, _, .ref _, rfl, rfl, rfl, (Dd.kt_mk (vs := [.int 0, .int 1, .int 2]) (by k_is) rfl (by decide) (.cons ⟨_, rfl⟩ (.cons ⟨_, rfl⟩ (.cons ⟨_, rfl⟩ (.nil)))) (⟨_, _, rfl, rfl, ⟨_, _, rfl, rfl, ⟨_, _, rfl, rfl, rfl⟩⟩⟩)), ⟨_, _, _, _, .ref _, rfl, rfl, rfl, (Dd.kt_mk (vs := [.int 0]) (by k_is) rfl (by decide) (.cons ⟨_, rfl⟩ (.nil)) (⟨_, _, rfl, rfl, rfl⟩)), ⟨_, _, _, _, .ref _, rfl, rfl, rfl, (Dd.kt_mk (vs := [.int 0, .int 1]) (by k_is) rfl (by decide) (.cons ⟨_, rfl⟩ (.cons ⟨_, rfl⟩ (.nil))) (⟨_, _, rfl, rfl, ⟨_, _, rfl, rfl, rfl⟩⟩)), rfl⟩⟩⟩)
    have c11 : Dd.KOf KX fun K => Dd.ConAt K w mg "LOW_SIGNS" (.str " !\"#$") := by
      refine' Dd.con_str KX G ?a
      (case a => k_is)
    have c12 : Dd.KOf KX fun K => Dd.ConAt K w mg "LOW_CODE" (.int 32) := by
      refine' Dd.con_int KX G ?a
      (case a => k_is)
    have c13 : Dd.KOf KX fun K => Dd.ConAt K w mg "HIGH_SIGNS" (.str "&'()*+,-./0123456789:;<=>?@ABCDEFGHIJKLMNOPQRSTUVWXYZ[\\]^_`abcdefghijklmnopqrstuvwxyz{|}~") := by
      refine' Dd.con_str KX G ?a
      (case a => k_is)
    have c14 : Dd.KOf KX fun K => Dd.ConAt K w mg "HIGH_CODE" (.int 38) := by
      refine' Dd.con_int KX G ?a
      (case a => k_is)
    have c15 : Dd.KOf KX fun K => Dd.ConAt K w mg "MOST_ENTRIES" (.int 20000) := by
      refine' Dd.con_int KX G ?a
      (case a => k_is)
    have c16 : Dd.KOf KX fun K => Dd.ConAt K w mg "NO_VALUES" (.int 0) := by
      refine' Dd.con_int KX G ?a
      (case a => k_is)
    have c17 : Dd.KOf KX fun K => Dd.ConAt K w mg "SOME_VALUES" (.int 1) := by
      refine' Dd.con_int KX G ?a
      (case a => k_is)
    have c18 : Dd.KOf KX fun K => Dd.ConAt K w mg "ALL_VALUES" (.int 2) := by
      refine' Dd.con_int KX G ?a
      (case a => k_is)
    have c19 : Dd.KOf KX fun K => Dd.ConAt K w mg "NOTHING_TOLD" (.kt [.int 0, .non, .non, .int 0]) := by
      refine' Dd.con_kt KX G ?a ?r
      (case a => k_is)
      (case r => exact (Dd.kt_mk (vs := [.int 0, .non, .non, .int 0]) (by k_is) rfl (by decide) (.cons ⟨_, rfl⟩ (.cons rfl (.cons rfl (.cons ⟨_, rfl⟩ (.nil))))) (⟨_, _, rfl, rfl, ⟨_, _, rfl, rfl, ⟨_, _, rfl, rfl, ⟨_, _, rfl, rfl, rfl⟩⟩⟩⟩)))
    have c20 : Dd.KOf KX fun K => Dd.ConAt K w mg "MOST_WORD" (.int 4294967295) := by
      refine' Dd.con_int KX G ?a
      (case a => k_is)
    have c21 : Dd.KOf KX fun K => Dd.ConAt K w mg "MARK_FACTOR" (.int 2654435761) := by
      refine' Dd.con_int KX G ?a
      (case a => k_is)
    have c22 : Dd.KOf KX fun K => Dd.ConAt K w mg "MARK_SHIFT" (.int 27) := by
      refine' Dd.con_int KX G ?a
      (case a => k_is)
    have c23 : Dd.KOf KX fun K => Dd.ConAt K w mg "TEXT_FACTOR" (.int 31) := by
      refine' Dd.con_int KX G ?a
      (case a => k_is)
    obtain ⟨C0, I0, T0⟩ : Dd.KOf KX fun K => ∃ C fI, PySem.OPart.OTxt K mg "BadFile" C fI := by
      refine' Dd.own_part KX G ?aC ?xL ?rv ?sa ?ga ?gg ?nb ?a1 ?t1 ?l1 ?c1 ?kC ?eC ?tC ?hC ?iC ?sC
      (case aC => k_is); (case xL => k_is); (case rv => decide +kernel); (case sa => k_is); (case ga => k_is); (case gg => k_is); (case nb => k_is); (case a1 => k_is); (case t1 => k_is)
      (case l1 => k_is); (case c1 => k_is); (case kC => k_is); (case eC => k_is); (case tC => k_is); (case hC => k_is); (case iC => k_is); (case sC => first | rfl | k_is)
    have bl : ∀ x ∈ Dd.bltNms, mg x = none := by
      have z : ∀ x ∈ (["len", "abs", "int", "str", "tuple", "list", "all", "any", "ord", "repr", "min", "max", "tuple", "str", "int", "bool", "list", "dict", "isinstance", "range", "enumerate", "zip", "reversed", "sorted", "ValueError"] : List PySem.Str), mg x = none := by
        refine List.forall_mem_cons.mpr ⟨by refine' PySem.W.mg_none_of KX G ?_; k_is, ?_⟩
        refine List.forall_mem_cons.mpr ⟨by refine' PySem.W.mg_none_of KX G ?_; k_is, ?_⟩
        refine List.forall_mem_cons.mpr ⟨by refine' PySem.W.mg_none_of KX G ?_; k_is, ?_⟩
        refine List.forall_mem_cons.mpr ⟨by refine' PySem.W.mg_none_of KX G ?_; k_is, ?_⟩
        refine List.forall_mem_cons.mpr ⟨by refine' PySem.W.mg_none_of KX G ?_; k_is, ?_⟩
        refine List.forall_mem_cons.mpr ⟨by refine' PySem.W.mg_none_of KX G ?_; k_is, ?_⟩
        refine List.forall_mem_cons.mpr ⟨by refine' PySem.W.mg_none_of KX G ?_; k_is, ?_⟩
        refine List.forall_mem_cons.mpr ⟨by refine' PySem.W.mg_none_of KX G ?_; k_is, ?_⟩
        refine List.forall_mem_cons.mpr ⟨by refine' PySem.W.mg_none_of KX G ?_; k_is, ?_⟩
        refine List.forall_mem_cons.mpr ⟨by refine' PySem.W.mg_none_of KX G ?_; k_is, ?_⟩
        refine List.forall_mem_cons.mpr ⟨by refine' PySem.W.mg_none_of KX G ?_; k_is, ?_⟩
        refine List.forall_mem_cons.mpr ⟨by refine' PySem.W.mg_none_of KX G ?_; k_is, ?_⟩
        refine List.forall_mem_cons.mpr ⟨by refine' PySem.W.mg_none_of KX G ?_; k_is, ?_⟩
        refine List.forall_mem_cons.mpr ⟨by refine' PySem.W.mg_none_of KX G ?_; k_is, ?_⟩
        refine List.forall_mem_cons.mpr ⟨by refine' PySem.W.mg_none_of KX G ?_; k_is, ?_⟩
        refine List.forall_mem_cons.mpr ⟨by refine' PySem.W.mg_none_of KX G ?_; k_is, ?_⟩
        refine List.forall_mem_cons.mpr ⟨by refine' PySem.W.mg_none_of KX G ?_; k_is, ?_⟩
        refine List.forall_mem_cons.mpr ⟨by refine' PySem.W.mg_none_of KX G ?_; k_is, ?_⟩
        refine List.forall_mem_cons.mpr ⟨by refine' PySem.W.mg_none_of KX G ?_; k_is, ?_⟩
        refine List.forall_mem_cons.mpr ⟨by refine' PySem.W.mg_none_of KX G ?_; k_is, ?_⟩
        refine List.forall_mem_cons.mpr ⟨by refine' PySem.W.mg_none_of KX G ?_; k_is, ?_⟩
        refine List.forall_mem_cons.mpr ⟨by refine' PySem.W.mg_none_of KX G ?_; k_is, ?_⟩
        refine List.forall_mem_cons.mpr ⟨by refine' PySem.W.mg_none_of KX G ?_; k_is, ?_⟩
        refine List.forall_mem_cons.mpr ⟨by refine' PySem.W.mg_none_of KX G ?_; k_is, ?_⟩
        refine List.forall_mem_cons.mpr ⟨by refine' PySem.W.mg_none_of KX G ?_; k_is, ?_⟩
        exact fun x hx => nomatch hx
      exact z
    have L : Dd.KOf KX fun K => Dd.Lk w K mg Dk.pg (fun _ => C0) (fun _ => "part") := by
      refine ⟨?f1, bl, ?f2, ?f3, ?f4⟩
      case f1 =>
        have z : Dd.KOf KX fun K => ∀ f ∈ Dk.pg.fns, Dd.LkF K mg f := by
          refine List.forall_mem_cons.mpr ⟨Dd.lkF Dk.o_put_number d0, ?_⟩
          refine List.forall_mem_cons.mpr ⟨Dd.lkF Dk.o_take_number d1, ?_⟩
          refine List.forall_mem_cons.mpr ⟨Dd.lkF Dk.o_put_word d2, ?_⟩
          refine List.forall_mem_cons.mpr ⟨Dd.lkF Dk.o_take_word d3, ?_⟩
          refine List.forall_mem_cons.mpr ⟨Dd.lkF Dk.o_take_byte d4, ?_⟩
          refine List.forall_mem_cons.mpr ⟨Dd.lkF Dk.o_fold_sign d5, ?_⟩
          refine List.forall_mem_cons.mpr ⟨Dd.lkF Dk.o_unfold_sign d6, ?_⟩
          refine List.forall_mem_cons.mpr ⟨Dd.lkF Dk.o_width_of d7, ?_⟩
          refine List.forall_mem_cons.mpr ⟨Dd.lkF Dk.o_pack d8, ?_⟩
          refine List.forall_mem_cons.mpr ⟨Dd.lkF Dk.o_unpack d9, ?_⟩
          refine List.forall_mem_cons.mpr ⟨Dd.lkF Dk.o_put_levels d10, ?_⟩
          refine List.forall_mem_cons.mpr ⟨Dd.lkF Dk.o_end_of_equals d11, ?_⟩
          refine List.forall_mem_cons.mpr ⟨Dd.lkF Dk.o_put_pieces d12, ?_⟩
          refine List.forall_mem_cons.mpr ⟨Dd.lkF Dk.o_take_levels d13, ?_⟩
          refine List.forall_mem_cons.mpr ⟨Dd.lkF Dk.o_is_value d14, ?_⟩
          refine List.forall_mem_cons.mpr ⟨Dd.lkF Dk.o_is_int d15, ?_⟩
          refine List.forall_mem_cons.mpr ⟨Dd.lkF Dk.o_is_text d16, ?_⟩
          refine List.forall_mem_cons.mpr ⟨Dd.lkF Dk.o_allowed d17, ?_⟩
          refine List.forall_mem_cons.mpr ⟨Dd.lkF Dk.o_put_signs d18, ?_⟩
          refine List.forall_mem_cons.mpr ⟨Dd.lkF Dk.o_take_signs d19, ?_⟩
          refine List.forall_mem_cons.mpr ⟨Dd.lkF Dk.o_sign_of d20, ?_⟩
          refine List.forall_mem_cons.mpr ⟨Dd.lkF Dk.o_put_one d21, ?_⟩
          refine List.forall_mem_cons.mpr ⟨Dd.lkF Dk.o_take_one d22, ?_⟩
          refine List.forall_mem_cons.mpr ⟨Dd.lkF Dk.o_signed d23, ?_⟩
          refine List.forall_mem_cons.mpr ⟨Dd.lkF Dk.o_put_values d24, ?_⟩
          refine List.forall_mem_cons.mpr ⟨Dd.lkF Dk.o_take_values d25, ?_⟩
          refine List.forall_mem_cons.mpr ⟨Dd.lkF Dk.o_put_plain d26, ?_⟩
          refine List.forall_mem_cons.mpr ⟨Dd.lkF Dk.o_take_plain d27, ?_⟩
          refine List.forall_mem_cons.mpr ⟨Dd.lkF Dk.o_put_dictionary d28, ?_⟩
          refine List.forall_mem_cons.mpr ⟨Dd.lkF Dk.o_take_dictionary d29, ?_⟩
          refine List.forall_mem_cons.mpr ⟨Dd.lkF Dk.o_last_index d30, ?_⟩
          refine List.forall_mem_cons.mpr ⟨Dd.lkF Dk.o_put_differences d31, ?_⟩
          refine List.forall_mem_cons.mpr ⟨Dd.lkF Dk.o_take_differences d32, ?_⟩
          refine List.forall_mem_cons.mpr ⟨Dd.lkF Dk.o_put_page d33, ?_⟩
          refine List.forall_mem_cons.mpr ⟨Dd.lkF Dk.o_values_of d34, ?_⟩
          refine List.forall_mem_cons.mpr ⟨Dd.lkF Dk.o_take_page d35, ?_⟩
          refine List.forall_mem_cons.mpr ⟨Dd.lkF Dk.o_mark_of d36, ?_⟩
          refine List.forall_mem_cons.mpr ⟨Dd.lkF Dk.o_text_number d37, ?_⟩
          refine List.forall_mem_cons.mpr ⟨Dd.lkF Dk.o_has_mark d38, ?_⟩
          refine List.forall_mem_cons.mpr ⟨Dd.lkF Dk.o_told_of d39, ?_⟩
          refine List.forall_mem_cons.mpr ⟨Dd.lkF Dk.o_put_told d40, ?_⟩
          refine List.forall_mem_cons.mpr ⟨Dd.lkF Dk.o_take_told d41, ?_⟩
          refine List.forall_mem_cons.mpr ⟨Dd.lkF Dk.o_law_cell d42, ?_⟩
          refine List.forall_mem_cons.mpr ⟨Dd.lkF Dk.o_law_numbers d43, ?_⟩
          refine List.forall_mem_cons.mpr ⟨Dd.lkF Dk.o_law_number d44, ?_⟩
          refine List.forall_mem_cons.mpr ⟨Dd.lkF Dk.o_law_word d45, ?_⟩
          refine List.forall_mem_cons.mpr ⟨Dd.lkF Dk.o_law_width d46, ?_⟩
          refine List.forall_mem_cons.mpr ⟨Dd.lkF Dk.o_law_pack d47, ?_⟩
          refine List.forall_mem_cons.mpr ⟨Dd.lkF Dk.o_law_run d48, ?_⟩
          refine List.forall_mem_cons.mpr ⟨Dd.lkF Dk.o_law_levels d49, ?_⟩
          refine List.forall_mem_cons.mpr ⟨Dd.lkF Dk.o_law_one d50, ?_⟩
          refine List.forall_mem_cons.mpr ⟨Dd.lkF Dk.o_law_plain d51, ?_⟩
          refine List.forall_mem_cons.mpr ⟨Dd.lkF Dk.o_law_encoded d52, ?_⟩
          refine List.forall_mem_cons.mpr ⟨Dd.lkF Dk.o_law_page d53, ?_⟩
          refine List.forall_mem_cons.mpr ⟨Dd.lkF Dk.o_law_mark d54, ?_⟩
          refine List.forall_mem_cons.mpr ⟨Dd.lkF Dk.o_law_told d55, ?_⟩
          refine List.forall_mem_cons.mpr ⟨Dd.lkF Dk.o_law_told_bytes d56, ?_⟩
          refine List.forall_mem_cons.mpr ⟨Dd.lkF Dk.o_law_value d57, ?_⟩
          refine List.forall_mem_cons.mpr ⟨Dd.lkF Dk.o_law_entries d58, ?_⟩
          refine List.forall_mem_cons.mpr ⟨Dd.lkF Dk.o_law_refused d59, ?_⟩
          refine List.forall_mem_cons.mpr ⟨Dd.lkF Dk.o_law d60, ?_⟩
          exact fun x hx => nomatch hx
        exact fun k f hf => z f (List.mem_of_getElem? hf)
      case f2 =>
        have z : Dd.KOf KX fun K => ∀ p ∈ Dk.pg.con, Dd.ConAt K w mg p.1 p.2 := by
          refine List.forall_mem_cons.mpr ⟨c0, ?_⟩
          refine List.forall_mem_cons.mpr ⟨c1, ?_⟩
          refine List.forall_mem_cons.mpr ⟨c2, ?_⟩
          refine List.forall_mem_cons.mpr ⟨c3, ?_⟩
          refine List.forall_mem_cons.mpr ⟨c4, ?_⟩
          refine List.forall_mem_cons.mpr ⟨c5, ?_⟩
          refine List.forall_mem_cons.mpr ⟨c6, ?_⟩
          refine List.forall_mem_cons.mpr ⟨c7, ?_⟩
          refine List.forall_mem_cons.mpr ⟨c8, ?_⟩
          refine List.forall_mem_cons.mpr ⟨c9, ?_⟩
          refine List.forall_mem_cons.mpr ⟨c10, ?_⟩
          refine List.forall_mem_cons.mpr ⟨c11, ?_⟩
          refine List.forall_mem_cons.mpr ⟨c12, ?_⟩
          refine List.forall_mem_cons.mpr ⟨c13, ?_⟩
          refine List.forall_mem_cons.mpr ⟨c14, ?_⟩
          refine List.forall_mem_cons.mpr ⟨c15, ?_⟩
          refine List.forall_mem_cons.mpr ⟨c16, ?_⟩
          refine List.forall_mem_cons.mpr ⟨c17, ?_⟩
          refine List.forall_mem_cons.mpr ⟨c18, ?_⟩
          refine List.forall_mem_cons.mpr ⟨c19, ?_⟩
          refine List.forall_mem_cons.mpr ⟨c20, ?_⟩
          refine List.forall_mem_cons.mpr ⟨c21, ?_⟩
          refine List.forall_mem_cons.mpr ⟨c22, ?_⟩
          refine List.forall_mem_cons.mpr ⟨c23, ?_⟩
          exact fun x hx => nomatch hx
        exact fun x d hd => z (x, d) (Dd.lookup_mem hd)
      case f3 =>
        intro x c hx
        rcases Dd.ex0 hx with ⟨rfl, rfl⟩ | hx
        · exact Dd.ExcT.of_part T0
        cases hx
      case f4 =>
        intro c x f hx
        match c, hx with
        | 0, hx => cases hx; rfl
        | _ + 1, hx => cases hx
    exact Dd.law_of L (li := 60) (f := Dk.f_law) rfl hmg Dk.main

