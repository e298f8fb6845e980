import PyProof.Rows.All
import Wide.All
import OpenK.AllK
import Wide.FinOn
import PyProof.EqAt
import PyProof.EqKinds
import PyProof.TupleCall
import KE.BitLaws
import KE.OsGo
import PyProof.Rows.RuleM_int
import Sh25Spec
import PySh25
import Open.SpecLaws
import PySem.Challenge.RW_exactplaces_s22_mass
set_option Elab.async false
set_option linter.all false
set_option maxRecDepth 100000
namespace L2
open PySem PySem.Spec PyProof.Rows

abbrev Key := Sum Int Str
def keyIs : Key → Value → Bool
  | .inl k, v => Value.isInt k v
  | .inr x, v => Value.isStrOf x v
def keyH (w : World) : Key → Int
  | .inl k => hashInt k
  | .inr x => hashStr w x
theorem keyIs_shape : ∀ {k : Key} {v : Value}, keyIs k v = true → (∃ i t, k = Sum.inl i ∧ v = Value.int i t) ∨ (∃ x t, k = Sum.inr x ∧ v = Value.str x t)
  | .inl i, v, h => by
    obtain ⟨t, e⟩ := Value.isInt_shape (k := i) (v := v) h
    exact .inl ⟨i, t, rfl, e⟩
  | .inr x, v, h => by
    obtain ⟨t, e⟩ := Value.isStrOf_shape (x := x) (v := v) h
    exact .inr ⟨x, t, rfl, e⟩
theorem key_ll (a b : Int) : decide ((Sum.inl a : Key) = Sum.inl b) = (a == b) := by
  by_cases e : a = b
  · subst e; simp
  · have h : ¬ (Sum.inl a : Key) = Sum.inl b := fun q => e (Sum.inl.inj q)
    rw [decide_eq_false h]
    exact (beq_eq_false_iff_ne.mpr e).symm
theorem key_rr (a b : Str) : decide ((Sum.inr a : Key) = Sum.inr b) = decide (a = b) := by
  by_cases e : a = b
  · subst e; simp
  · have h : ¬ (Sum.inr a : Key) = Sum.inr b := fun q => e (Sum.inr.inj q)
    rw [decide_eq_false h, decide_eq_false e]
theorem key_lr (a : Int) (b : Str) : decide ((Sum.inl a : Key) = Sum.inr b) = false := decide_eq_false (fun q => nomatch q)
theorem key_rl (a : Str) (b : Int) : decide ((Sum.inr a : Key) = Sum.inl b) = false := decide_eq_false (fun q => nomatch q)

def mixKind (prog : Program) (w : World) : PySem.KeyKind prog w Key where
  is := keyIs
  hash := keyH w
  inj := fun v a b ha hb => by
    rcases keyIs_shape ha with ⟨i, t, rfl, rfl⟩ | ⟨x, t, rfl, rfl⟩
    · rcases keyIs_shape hb with ⟨j, u, rfl, e⟩ | ⟨y, u, rfl, e⟩
      · injection e with e1 _; rw [e1]
      · exact nomatch e
    · rcases keyIs_shape hb with ⟨j, u, rfl, e⟩ | ⟨y, u, rfl, e⟩
      · exact nomatch e
      · injection e with e1 _; rw [e1]
  byValue := fun k v h => by
    rcases keyIs_shape h with ⟨i, t, rfl, rfl⟩ | ⟨x, t, rfl, rfl⟩ <;> rfl
  pyHash := fun hv h => by
    rcases keyIs_shape hv with ⟨i, t, rfl, rfl⟩ | ⟨x, t, rfl, rfl⟩
    · exact wpAny_pyHash_int h
    · exact wpAny_pyHash_str h
  eqBool := fun hu hv h => by
    rcases keyIs_shape hu with ⟨i, t, rfl, rfl⟩ | ⟨x, t, rfl, rfl⟩
    · rcases keyIs_shape hv with ⟨j, u, rfl, rfl⟩ | ⟨y, u, rfl, rfl⟩
      · rw [key_ll] at h; exact wpAny_eqBool_int h
      · rw [key_lr] at h; exact SeqAt.EqAt.int_str i t y u _ _ _ _ h
    · rcases keyIs_shape hv with ⟨j, u, rfl, rfl⟩ | ⟨y, u, rfl, rfl⟩
      · rw [key_rl] at h; exact SeqAt.EqAt.str_int x t j u _ _ _ _ h
      · rw [key_rr] at h; exact wpAny_eqBool_str h
  «strs» := fun k x t v h => by
    rcases keyIs_shape h with ⟨i, u, rfl, e⟩ | ⟨y, u, rfl, e⟩
    · exact nomatch e
    · injection e with e1 _
      subst e1
      cases v <;> rfl

end L2

namespace L2
open PySem PySem.Spec PyProof.Rows

inductive V where
  | non | bl (b : Bool) | int (i : Int) | str (x : Str) | byt (b : Array UInt8) | flt (b : UInt64) | ref (a : Addr) | ty (n : String)
  deriving DecidableEq

def RelV : V → Value → Prop
  | .non, u => u = Value.none
  | .bl b, u => u = Value.bool b
  | .int i, u => ∃ t, u = Value.int i t
  | .str x, u => ∃ t, u = Value.str x t
  | .byt b, u => ∃ t, u = Value.bytes b t
  | .flt b, u => ∃ t, u = Value.float b t
  | .ref a, u => u = Value.ref a
  | .ty n, u => u = Value.type n

abbrev Vals : List V → List Value → Prop := Paired RelV
theorem Vals.length {xs : List V} {us : List Value} (r : Vals xs us) : xs.length = us.length := Paired.length r
theorem Vals.get : ∀ {xs : List V} {us : List Value} {i : Nat} {x : V}, Vals xs us → xs[i]? = some x → ∃ u, us[i]? = some u ∧ RelV x u
  | _, _, _, _, .nil, e => by simp at e
  | _, _, 0, _, .cons r _, e => by simp at e; subst e; exact ⟨_, rfl, r⟩
  | _, _, i + 1, x, .cons _ t, e => by
    obtain ⟨u, h1, h2⟩ := Vals.get (i := i) (x := x) t (by simpa using e)
    exact ⟨u, by simpa using h1, h2⟩
theorem Vals.set {x : V} {u : Value} (r : RelV x u) : ∀ {xs : List V} {us : List Value} (i : Nat), Vals xs us → Vals (xs.set i x) (us.set i u)
  | _, _, _, .nil => .nil
  | _, _, 0, .cons _ t => .cons r t
  | _, _, i + 1, .cons q t => .cons q (Vals.set r i t)
theorem Vals.append : ∀ {xs ys : List V} {us ws : List Value}, Vals xs us → Vals ys ws → Vals (xs ++ ys) (us ++ ws)
  | _, _, _, _, .nil, s => s
  | _, _, _, _, .cons r t, s => .cons r (Vals.append t s)
theorem Vals.take : ∀ {xs : List V} {us : List Value} (n : Nat), Vals xs us → Vals (xs.take n) (us.take n)
  | _, _, 0, _ => .nil
  | _, _, _ + 1, .nil => .nil
  | _, _, n + 1, .cons r t => .cons r (Vals.take n t)
theorem Vals.drop : ∀ {xs : List V} {us : List Value} (n : Nat), Vals xs us → Vals (xs.drop n) (us.drop n)
  | _, _, 0, r => r
  | _, _, _ + 1, .nil => .nil
  | _, _, n + 1, .cons _ t => Vals.drop n t
theorem Vals.none_of : ∀ {xs : List V} {us : List Value} {i : Nat}, Vals xs us → xs[i]? = none → us[i]? = none := fun {xs us i} r e => by
  have h1 := r.length
  have h2 : xs.length ≤ i := List.getElem?_eq_none_iff.mp e
  exact List.getElem?_eq_none_iff.mpr (by omega)

def RelO : Option V → Option Value → Prop
  | some v, some u => RelV v u
  | none, none => True
  | _, _ => False
def KV {κ : Type} : List (κ × V) → List (κ × Value) → Prop := Paired fun (p : κ × V) (q : κ × Value) => p.1 = q.1 ∧ RelV p.2 q.2

def kV : Key → V
  | .inl i => .int i
  | .inr x => .str x

inductive HO where
  /-- a list -/
  | lst (xs : List V)
  /-- a tuple (never changes) -/
  | tup (xs : List V)
  /-- a dict whose keys are ints and texts; one whose keys are tuples of ints and texts (the empty one is both) -/
  | dK (kvs : List (Key × V)) | dT (kvs : List (List Key × V))
  /-- a set of ints: its members, its size -/
  | set (S : Int → Bool) (n : Nat)
  /-- an instance of the class at C, its dict at dx, its attributes -/
  | ins (C dx : Addr) (fs : List (Str × V))
  /-- the dict of the instance at x -/
  | own (x : Addr)
  /-- the dict of an exception -/
  | xd (fs : List (Str × V))
  /-- a bound method, f of x -/
  | met (f x : Addr)
  /-- a range object lo, lo + 1, .. below hi -/
  | rng (lo hi : Int)
  /-- a thing that is known to the object (the script; a dict while a loop walks it): read, never written while it is so -/
  | frz (o : Obj) (u : HO)
  /-- a code object's table -/
  | tbl (ps : Array Value)
  /-- any other thing, by what is true of its one object (a def of one's own: SetO a S n := HO.ext fun h => ..) -/
  | ext (φ : Heap → Prop)

abbrev Hp := Addr → Option HO
def upd (H : Hp) (a : Addr) (o : HO) : Hp := fun b => if b = a then some o else H b
theorem upd_same {H : Hp} {a : Addr} {o : HO} : upd H a o a = some o := by unfold upd; rw [if_pos rfl]
theorem upd_ne {H : Hp} {a b : Addr} {o : HO} (h : b ≠ a) : upd H a o b = H b := by unfold upd; rw [if_neg h]
theorem ne_of_none {H : Hp} {a b : Addr} {o : HO} (h : H a = some o) (h' : H b = none) : a ≠ b := by
  intro e; subst e; rw [h] at h'; cases h'

section
variable (P : Program) (w : World)
def ObjOk (H : Hp) (h : Heap) (a : Addr) : HO → Prop
  | .lst xs => xs.length ≤ sizeLine ∧ ∃ (its : List Value) (n : Nat), Vals xs its ∧ h.get? a = some { cls := .type "list", data := .seq its.toArray n }
  | .tup xs => xs.length ≤ sizeLine ∧ ∃ its : List Value, Vals xs its ∧ IsTup h a its.toArray
  | .dK kvs => kvs.length ≤ sizeLine ∧ (a == sysModules) = false ∧ ∃ vs, KV kvs vs ∧ h.DictOf (mixKind P w) a vs
  | .dT kvs => kvs.length ≤ sizeLine ∧ (a == sysModules) = false ∧ ∃ xs : List (List Key × Addr × Value),
      Paired (fun (p : List Key × V) (q : List Key × Addr × Value) => p.1 = q.1 ∧ H q.2.1 = some (.tup (p.1.map kV)) ∧ RelV p.2 q.2.2) kvs xs ∧
      ∃ o es ep, h.get? a = some o ∧ o.ExactDict ∧ o.data = .dict es ep ∧ es.toList = xs.map (entryOfKey (tupleKind (mixKind P w))) ∧ (xs.map (·.1)).Nodup
  | .set S n => h.SetOf (intKind P w) a S n
  | .ins C dx fs => H dx = some (.own a) ∧ fs.length ≤ 1000 ∧ dx ≠ a ∧ h.get? a = some (PySem.W.instObj C dx) ∧
      ∃ mA, h.Ns1 dx mA ∧ (∀ f, RelO (fs.lookup f) (mA f)) ∧ PySem.Within mA (fs.map (·.1))
  | .own _ => ∃ o, h.get? a = some o
  | .xd fs => ∃ mA, h.Ns1 a mA ∧ ∀ f, RelO (fs.lookup f) (mA f)
  | .rng lo hi => ∃ t u v, h.get? a = some { cls := .type "range", data := .fields #[.int lo t, .int hi u, .int 1 v] }
  | .frz o u => h.get? a = some o ∧ ObjOk H h a u
  | .tbl ps => h.get? a = some { cls := .none, data := .fields ps }
  | .met f x => h.get? a = some (PySem.W.methodObj (.ref f) (.ref x))
  | .ext φ => φ h ∧ (∃ o, h.get? a = some o) ∧ ∀ h1 h2 : Heap, φ h1 → (∀ o, h1.get? a = some o → h2.get? a = some o) → φ h2
def HOk (H : Hp) (h : Heap) : Prop := ∀ a o, H a = some o → ObjOk P w H h a o
end

section
variable {P : Program} {w : World} {H H' : Hp} {h h' : Heap} {a : Addr} {o : HO}
theorem ObjOk.lt (x : ObjOk P w H h a o) : a < h.objs.size := by
  cases o with
  | lst xs => obtain ⟨_, _, _, _, e⟩ := x; exact Heap.lt_size e
  | tup xs => obtain ⟨_, _, _, p⟩ := x; exact p.lt
  | dK kvs => obtain ⟨_, _, _, _, o, _, _, e, _⟩ := x; exact Heap.lt_size e
  | dT kvs => obtain ⟨_, _, _, _, o, _, _, e, _⟩ := x; exact Heap.lt_size e
  | set S n => obtain ⟨o, _, _, _, e, _⟩ := x; exact Heap.lt_size e
  | ins C dx fs => obtain ⟨_, _, _, e, _⟩ := x; exact Heap.lt_size e
  | own y => obtain ⟨_, e⟩ := x; exact Heap.lt_size e
  | xd fs => obtain ⟨_, ⟨_, _, _, e, _⟩, _⟩ := x; exact Heap.lt_size e
  | rng lo hi => obtain ⟨_, _, _, e⟩ := x; exact Heap.lt_size e
  | frz ob u => obtain ⟨e, _⟩ := x; exact Heap.lt_size e
  | tbl ps => exact Heap.lt_size (show h.get? a = some _ from x)
  | met f y => exact Heap.lt_size (show h.get? a = some _ from x)
  | ext φ => obtain ⟨_, ⟨_, e⟩, _⟩ := x; exact Heap.lt_size e
theorem Paired.mapP {α β : Type} {F G : α → β → Prop} : ∀ {l₁ : List α} {l₂ : List β}, Paired F l₁ l₂ → (∀ a b, F a b → G a b) → Paired G l₁ l₂
  | _, _, .nil, _ => .nil
  | _, _, .cons r t, f => .cons (f _ _ r) (Paired.mapP t f)
theorem Paired.imp' {α β : Type} {F G : α → β → Prop} (f : ∀ a b, F a b → G a b) {l₁ : List α} {l₂ : List β} (r : Paired F l₁ l₂) : Paired G l₁ l₂ := Paired.mapP r f
theorem ObjOk.stay (x : ObjOk P w H h a o) (k : ∀ b u, (b = a ∨ H b = some (.own a)) → h.get? b = some u → h'.get? b = some u)
    (ho : ∀ b, H b = some (.own a) → H' b = some (.own a)) (ht : ∀ b xs, H b = some (.tup xs) → H' b = some (.tup xs)) : ObjOk P w H' h' a o := by
  induction o with
  | lst xs => obtain ⟨z, its, n, r, e⟩ := x; exact ⟨z, its, n, r, k _ _ (.inl rfl) e⟩
  | tup xs => obtain ⟨z, its, r, ob, e, c⟩ := x; exact ⟨z, its, r, ob, k _ _ (.inl rfl) e, c⟩
  | dK kvs => obtain ⟨z, y, vs, r, ob, es, ep, e, c⟩ := x; exact ⟨z, y, vs, r, ob, es, ep, k _ _ (.inl rfl) e, c⟩
  | dT kvs =>
    obtain ⟨z, y, xs, r, ob, es, ep, e, c⟩ := x
    exact ⟨z, y, xs, Paired.mapP r fun p q z => ⟨z.1, ht _ _ z.2.1, z.2.2⟩, ob, es, ep, k _ _ (.inl rfl) e, c⟩
  | set S n => obtain ⟨ob, es, ep, t, e, c⟩ := x; exact ⟨ob, es, ep, t, k _ _ (.inl rfl) e, c⟩
  | ins C dx fs =>
    obtain ⟨d, z, ne, e, mA, ⟨od, es, ep, e2, c⟩, r⟩ := x
    exact ⟨ho _ d, z, ne, k _ _ (.inl rfl) e, mA, ⟨od, es, ep, k _ _ (.inr d) e2, c⟩, r⟩
  | own y => obtain ⟨ob, e⟩ := x; exact ⟨ob, k _ _ (.inl rfl) e⟩
  | xd fs => obtain ⟨mA, ⟨od, es, ep, e, c⟩, r⟩ := x; exact ⟨mA, ⟨od, es, ep, k _ _ (.inl rfl) e, c⟩, r⟩
  | rng lo hi => obtain ⟨t, u, v, e⟩ := x; exact ⟨t, u, v, k _ _ (.inl rfl) e⟩
  | frz ob u ih => obtain ⟨e, q⟩ := x; exact ⟨k _ _ (.inl rfl) e, ih q⟩
  | tbl ps =>
    have e : h.get? a = some { cls := .none, data := .fields ps } := x
    show h'.get? a = some { cls := .none, data := .fields ps }
    exact k a _ (.inl rfl) e
  | met f y =>
    have e : h.get? a = some (PySem.W.methodObj (.ref f) (.ref y)) := x
    show h'.get? a = some (PySem.W.methodObj (.ref f) (.ref y))
    exact k a _ (.inl rfl) e
  | ext φ => obtain ⟨p, ⟨o, e⟩, st⟩ := x; exact ⟨st _ _ p fun o q => k _ _ (.inl rfl) q, ⟨o, k _ _ (.inl rfl) e⟩, st⟩
theorem HOk.lt (x : HOk P w H h) (e : H a = some o) : a < h.objs.size := (x a o e).lt
theorem HOk.fresh (x : HOk P w H h) (e : h.objs.size ≤ a) : H a = none := by
  cases q : H a with
  | none => rfl
  | some u => exact absurd (Nat.lt_of_lt_of_le (x.lt q) e) (Nat.lt_irrefl _)
theorem HOk.kept (x : HOk P w H h) (k : ∀ b u, h.get? b = some u → h'.get? b = some u) : HOk P w H h' := fun a o e =>
  (x a o e).stay (fun b u _ q => k b u q) (fun _ q => q) fun _ _ q => q
theorem HOk.laid (x : HOk P w H h) (k : ∀ b u, h.get? b = some u → h'.get? b = some u) (hp : h.objs.size ≤ a) (new : ObjOk P w (upd H a o) h' a o) : HOk P w (upd H a o) h' := fun b u e => by
  have hn := x.fresh hp
  by_cases hb : b = a
  · subst hb; rw [upd_same] at e; cases e; exact new
  · rw [upd_ne hb] at e
    exact (x b u e).stay (fun c v _ q => k c v q) (fun c q => by rw [upd_ne (ne_of_none q hn)]; exact q) fun c xs q => by rw [upd_ne (ne_of_none q hn)]; exact q
end

def Rd (H : Hp) (a : Addr) (u : HO) : Prop := H a = some u ∨ ∃ o, H a = some (.frz o u)
theorem Rd.of {H : Hp} {a : Addr} {u : HO} (h : H a = some u) : Rd H a u := .inl h
theorem Rd.ok {P : Program} {w : World} {H : Hp} {h : Heap} {a : Addr} {u : HO} (r : Rd H a u) (x : HOk P w H h) : ObjOk P w H h a u := by
  rcases r with r | ⟨o, r⟩
  · exact x a u r
  · obtain ⟨_, q⟩ := x a _ r
    exact q
def Mut : Option HO → Prop
  | some (.lst _) => True
  | some (.dK _) => True
  | some (.dT _) => True
  | some (.set _ _) => True
  | some (.ins _ _ _) => True
  | some (.ext _) => True
  | _ => False
section
variable {P : Program} {w : World} {H : Hp} {h h' : Heap} {x e : Addr} {o' : HO}
theorem HOk.write (ok : HOk P w H h) (mu : Mut (H x)) (he : e = x ∨ H e = some (.own x)) (k : ∀ b u, b ≠ e → h.get? b = some u → h'.get? b = some u) (heo : ∃ u, h'.get? e = some u)
    (new : ObjOk P w (upd H x o') h' x o') : HOk P w (upd H x o') h' := fun b u q => by
  have nown : ∀ c y, H c = some (.own y) → c ≠ x := fun c y r z => by subst z; rw [r] at mu; exact mu
  have ntup : ∀ c xs, H c = some (.tup xs) → c ≠ x := fun c xs r z => by subst z; rw [r] at mu; exact mu
  by_cases hb : b = x
  · subst hb; rw [upd_same] at q; cases q; exact new
  · rw [upd_ne hb] at q
    by_cases hbe : b = e
    · have q' : H b = some (.own x) := by
        rcases he with z | z
        · exact absurd (hbe.trans z) hb
        · rw [hbe]; exact z
      rw [q] at q'; cases q'
      obtain ⟨v, hv⟩ := heo
      exact ⟨v, by rw [hbe]; exact hv⟩
    · refine (ok b u q).stay (fun c v hc r => k c v ?_ r) (fun c r => by rw [upd_ne (nown c b r)]; exact r) fun c xs r => by rw [upd_ne (ntup c xs r)]; exact r
      rcases hc with rfl | hc
      · exact hbe
      · rintro rfl
        rcases he with z | z
        · exact nown c b hc z
        · rw [hc] at z; cases z; exact hb rfl
end

structure Un (fs ex : List Addr) (H H' : Hp) (h h' : Heap) : Prop where
  keep : ∀ b o, h.get? b = some o → H b = none → b ∉ fs → b ∉ ex → h'.get? b = some o
  slot : ∀ b o, h.get? b = some o → H b = none → b ∈ fs → b ∉ ex → ∃ sl, h'.get? b = some { o with slots := sl }
  free : ∀ b o, h.get? b = some o → H b = none → b ∉ ex → H' b = none
  there : ∀ b o, h.get? b = some o → b ∉ ex → ∃ o', h'.get? b = some o'
  tups : ∀ b xs, H b = some (.tup xs) → H' b = some (.tup xs)
  frzs : ∀ b o u, H b = some (.frz o u) → H' b = some (.frz o u)
  tbls : ∀ b ps, H b = some (.tbl ps) → ∃ more, H' b = some (.tbl (ps ++ more))
section
variable {fs fs' ex ex' : List Addr} {H H1 H2 : Hp} {h h1 h2 h' : Heap} {a x e : Addr} {o : HO}
theorem Un.any (u : Un fs ex H H1 h h1) {b : Addr} {ob : Obj} (q : h.get? b = some ob) (n : H b = none) (hx : b ∉ ex) : ∃ sl, h1.get? b = some { ob with slots := sl } := by
  by_cases hb : b ∈ fs
  · exact u.slot b ob q n hb hx
  · exact ⟨ob.slots, u.keep b ob q n hb hx⟩
theorem Un.trans (a : Un fs ex H H1 h h1) (b : Un fs ex H1 H2 h1 h2) : Un fs ex H H2 h h2 where
  keep := fun c ob q n hc hx => b.keep c ob (a.keep c ob q n hc hx) (a.free c ob q n hx) hc hx
  slot := fun c ob q n hc hx => by
    obtain ⟨sl, e1⟩ := a.slot c ob q n hc hx
    obtain ⟨sl', e2⟩ := b.slot c _ e1 (a.free c ob q n hx) hc hx
    exact ⟨sl', e2⟩
  free := fun c ob q n hx => by
    obtain ⟨o', e1⟩ := a.there c ob q hx
    exact b.free c o' e1 (a.free c ob q n hx) hx
  there := fun c ob q hx => by
    obtain ⟨o', e1⟩ := a.there c ob q hx
    exact b.there c o' e1 hx
  tups := fun c xs q => b.tups c xs (a.tups c xs q)
  frzs := fun c ob xs q => b.frzs c ob xs (a.frzs c ob xs q)
  tbls := fun c ps q => by
    obtain ⟨m1, e1⟩ := a.tbls c ps q
    obtain ⟨m2, e2⟩ := b.tbls c _ e1
    exact ⟨m1 ++ m2, by rw [e2, Array.append_assoc]⟩
theorem Un.kept (k : ∀ b u, h.get? b = some u → h'.get? b = some u) : Un fs ex H H h h' :=
  ⟨fun b ob q _ _ _ => k b ob q, fun b ob q _ _ _ => ⟨ob.slots, k b ob q⟩, fun _ _ _ n _ => n, fun b ob q _ => ⟨ob, k b ob q⟩, fun _ _ q => q, fun _ _ _ q => q, fun _ ps q => ⟨#[], by rw [q]; simp⟩⟩
theorem Un.refl : Un fs ex H H h h := Un.kept fun _ _ q => q
theorem Un.laid (k : ∀ b u, h.get? b = some u → h'.get? b = some u) (hp : h.objs.size ≤ a) (hn : H a = none) : Un fs ex H (upd H a o) h h' where
  keep := fun b u q _ _ _ => k b u q
  slot := fun b u q _ _ _ => ⟨u.slots, k b u q⟩
  free := fun b u q n _ => by rw [upd_ne (Nat.ne_of_lt (Nat.lt_of_lt_of_le (Heap.lt_size q) hp))]; exact n
  there := fun b u q _ => ⟨u, k b u q⟩
  tups := fun b xs q => by rw [upd_ne (ne_of_none q hn)]; exact q
  frzs := fun b u xs q => by rw [upd_ne (ne_of_none q hn)]; exact q
  tbls := fun b ps q => ⟨#[], by rw [upd_ne (ne_of_none q hn), q]; simp⟩
theorem Un.write (mu : Mut (H x)) (he : e = x ∨ H e = some (.own x)) (k : ∀ b u, b ≠ e → h.get? b = some u → h'.get? b = some u) (heo : ∃ u, h'.get? e = some u) : Un fs ex H (upd H x o) h h' := by
  have hx : ∀ b, H b = none → b ≠ x := fun b n z => by subst z; rw [n] at mu; exact mu
  have hb : ∀ b, H b = none → b ≠ e := fun b n z => by
    subst z
    rcases he with r | r
    · exact hx b n r
    · rw [n] at r; cases r
  have hm : ∀ b u, H b = some u → ¬ Mut (some u) → b ≠ x := fun b u q nm z => by subst z; rw [q] at mu; exact nm mu
  refine ⟨fun b u q n _ _ => k b u (hb b n) q, fun b u q n _ _ => ⟨u.slots, k b u (hb b n) q⟩, fun b u q n _ => by rw [upd_ne (hx b n)]; exact n, fun b u q _ => ?_,
    fun b xs q => by rw [upd_ne (hm b _ q fun z => z)]; exact q, fun b u xs q => by rw [upd_ne (hm b _ q fun z => z)]; exact q, fun b ps q => ⟨#[], by rw [upd_ne (hm b _ q fun z => z), q]; simp⟩⟩
  by_cases hbe : b = e
  · subst hbe; exact heo
  · exact ⟨u, k b u hbe q⟩
theorem Un.mono (u : Un fs ex H H1 h h1) (hs : ∀ b ∈ fs, b ∈ fs') (hx : ∀ b ∈ ex, b ∈ ex') : Un fs' ex' H H1 h h1 :=
  ⟨fun b ob q n hb he => u.keep b ob q n (fun z => hb (hs b z)) fun z => he (hx b z), fun _ _ q n _ he => u.any q n fun z => he (hx _ z), fun b ob q n he => u.free b ob q n fun z => he (hx b z), fun b ob q he => u.there b ob q fun z => he (hx b z), u.tups, u.frzs, u.tbls⟩
end

def trk (h : Heap) (H : Hp) : List Addr := (List.range h.objs.size).filter fun a => (H a).isSome
def hidT (h : Heap) (H : Hp) : Heap := PySem.W.hideAll h (trk h H)
theorem hidT_size (h : Heap) (H : Hp) : (hidT h H).objs.size = h.objs.size := PySem.W.hideAll_size _ _
theorem hidT_get {h : Heap} {H : Hp} {b : Addr} {o : Obj} (e : h.get? b = some o) (n : H b = none) : (hidT h H).get? b = some o :=
  PySem.W.hideAll_get _ e fun hm => by
    have q : (H b).isSome = true := (List.mem_filter.mp hm).2
    rw [n] at q; simp at q
theorem of_hidT {h : Heap} {H : Hp} {b : Addr} {o : Obj} (e : (hidT h H).get? b = some o) : h.get? b = some o ∧ H b = none := by
  have e' : h.get? b = some o := PySem.W.of_hideAll (trk h H) e
  refine ⟨e', ?_⟩
  cases q : H b with
  | none => rfl
  | some x =>
    have hm : b ∈ trk h H := List.mem_filter.mpr ⟨List.mem_range.mpr (Heap.lt_size e'), by simp [q]⟩
    have z : (hidT h H).get? b = none := PySem.W.hideAll_none (trk h H) hm
    rw [z] at e; cases e

def allNews (g h : Heap) (L : Addr) : List (Addr × Obj) := (List.range h.objs.size).filterMap fun a => if a = L ∨ (g.get? a).isSome = true then none else (h.get? a).map fun o => (a, o)
def rest (g h : Heap) (L d : Addr) : List (Addr × Obj) := (allNews g h L).filter fun p => decide (p.1 ≠ d)
end L2

namespace L2
open PySem PySem.Spec PyProof.Rows

structure Mod (K : PySem.W.Frag) (mg : Str → Option Value) (base : Heap) : Prop where
  kin : K.In base
  glob : base.Ns mainGlobals mg
  blt : ∃ mb, base.Ns builtinsNs mb ∧ ∀ x : Str, x ≠ "__name__" → mb x = bootBuiltins x
  nolimit : base.NoLimit

structure Cx where
  prog : Program
  w : World
  K : PySem.W.Frag
  mg : Str → Option Value
  base : Heap
  A : Around
  N : List Str
  s_0 : Shared
  H_0 : Hp
  env : Env
  outer : List Env
  stack : List Env
  ex : List Addr
  fn : Str → Bool
  calm : Bool
  pn : List (Addr × Obj)
  xe : Value → Shared → Prop
def frs (l : List Env) : List Addr := l.filterMap (·.frame)
abbrev Cx.fs (X : Cx) : List Addr := frs X.outer

def Vis (sc : Scope) (x : Str) : Prop := sc.names.lookup x = some .local ∨ sc.names.lookup x = some .cell ∨ sc.names.lookup x = some .free
def Loc (sc : Scope) (x : Str) : Prop := sc.names.lookup x = some .local ∨ sc.names.lookup x = some .cell
def Look (env : Env) (h : Heap) (m : Str → Option Value) (x : Str) (u : Value) : Prop :=
  (env.kindOf x = some .local ∧ m x = some u) ∨ ((env.kindOf x = some .cell ∨ env.kindOf x = some .free) ∧ ∃ c, env.cells.lookup x = some c ∧ h.IsCell c (some u))

structure Cx.Ok (X : Cx) : Prop where
  mod : Mod X.K X.mg X.base
  kind : X.env.scope.kind = .function
  glob : X.env.globals = mainGlobals
  blt : X.env.builtins = builtinsNs
  above : X.s_0.heap.objs.size ≤ X.env.locals
  inj : ∀ x y c, X.env.cells.lookup x = some c → X.env.cells.lookup y = some c → x = y
  has : ∀ x, (X.env.kindOf x = some .cell ∨ X.env.kindOf x = some .free) → ∃ c, X.env.cells.lookup x = some c
  cab : ∀ x c, X.fn x = true → X.env.cells.lookup x = some c → X.s_0.heap.objs.size ≤ c
  hd : X.calm = true → X.A.handled = none
  frames : X.A.frames = some X.stack
  stk : X.stack = X.outer ∨ (X.stack = X.env :: X.outer ∧ X.env.frame = some X.env.locals)
  exf : ∀ b ∈ X.ex, b ≠ X.env.locals ∧ ∀ x c, X.env.cells.lookup x = some c → c ≠ b
  bs : ∀ b o, X.base.get? b = some o → X.s_0.heap.get? b = some o ∧ X.H_0 b = none
  bsz : X.base.objs.size ≤ X.s_0.heap.objs.size
  noex : ∀ b o, X.base.get? b = some o → b ∉ X.ex
  exfs : ∀ b ∈ X.ex, b ∉ X.fs
  funs : X.s_0.heap.FunFrames X.base X.outer
  frf : ∀ b ∈ X.fs, X.H_0 b = none

structure Inv (X : Cx) (pins : List (Addr × Obj)) (σ : List (Option V)) (H : Hp) (s : Shared) : Prop where
  ok : X.Ok
  os : s.os = X.s_0.os
  bare : AllBare s.gens
  base : Un X.fs X.ex X.H_0 H X.s_0.heap s.heap
  loc : ∃ m, s.heap.Ns X.env.locals m ∧ ∀ (i : Nat) (x : Str) (v : V), X.N[i]? = some x → σ[i]? = some (some v) → Vis X.env.scope x → ∃ u, RelV v u ∧ Look X.env s.heap m x u
  cell : ∀ x c, X.env.cells.lookup x = some c → ∃ v, s.heap.IsCell c v
  free : H X.env.locals = none
  freeC : ∀ x c, X.env.cells.lookup x = some c → H c = none
  pin : ∀ p ∈ X.pn ++ pins, s.heap.get? p.1 = some p.2 ∧ H p.1 = none ∧ p.1 ≠ X.env.locals ∧ p.1 ∉ X.fs ∧ ∀ v, p.2.data ≠ .cell v
  hok : HOk X.prog X.w H s.heap
  len : σ.length = X.N.length

section
variable {X : Cx} {pins : List (Addr × Obj)} {σ : List (Option V)} {H H' : Hp} {s : Shared} {h' : Heap}

theorem Cx.Ok.nofr (ok : X.Ok) {b : Addr} {o : Obj} (e : X.base.get? b = some o) : b ∉ X.fs := fun hb => by
  have := (ok.funs.mem hb).1
  rw [e] at this; cases this
theorem Inv.bs (I : Inv X pins σ H s) : ∀ b o, X.base.get? b = some o → s.heap.get? b = some o ∧ H b = none := fun b o e =>
  ⟨I.base.keep b o (I.ok.bs b o e).1 (I.ok.bs b o e).2 (I.ok.nofr e) (I.ok.noex b o e), I.base.free b o (I.ok.bs b o e).1 (I.ok.bs b o e).2 (I.ok.noex b o e)⟩
theorem Inv.bk (I : Inv X pins σ H s) : ∀ b o, X.base.get? b = some o → s.heap.get? b = some o := fun b o e => (I.bs b o e).1
theorem Inv.mod (I : Inv X pins σ H s) : Mod X.K X.mg X.base := I.ok.mod
theorem Inv.kIn (I : Inv X pins σ H s) : X.K.In s.heap := I.ok.mod.kin.keeps I.bk
theorem Inv.nolimit (I : Inv X pins σ H s) : s.heap.NoLimit := I.ok.mod.nolimit.keeps I.bk
theorem Inv.fr (I : Inv X pins σ H s) : ∃ m, Fr X.base X.env.locals s.heap m :=
  let ⟨m, hn, _⟩ := I.loc
  ⟨m, hn, I.bk, Nat.le_trans I.ok.bsz I.ok.above⟩
theorem Inv.lt (I : Inv X pins σ H s) : X.env.locals < s.heap.objs.size := let ⟨_, hn, _⟩ := I.loc; hn.lt
theorem Inv.sz (I : Inv X pins σ H s) : X.s_0.heap.objs.size ≤ s.heap.objs.size := Nat.le_trans I.ok.above (Nat.le_of_lt I.lt)
theorem Inv.nofs (I : Inv X pins σ H s) {a : Addr} (h : s.heap.objs.size ≤ a) : a ∉ X.fs := fun hb => by
  obtain ⟨_, o, ho, _⟩ := I.ok.funs.mem hb
  exact absurd (Nat.lt_of_lt_of_le (Heap.lt_size ho) (Nat.le_trans I.sz h)) (Nat.lt_irrefl _)
theorem Inv.cne (I : Inv X pins σ H s) : ∀ x c, X.env.cells.lookup x = some c → c ≠ X.env.locals := fun x c e z => by
  obtain ⟨v, o, ho, hd⟩ := I.cell x c e
  obtain ⟨m, ⟨o', es, ep, ho', hd', _⟩, _⟩ := I.loc
  rw [z, ho'] at ho; cases ho; rw [hd'] at hd; cases hd
theorem Inv.funs (I : Inv X pins σ H s) : s.heap.FunFrames X.base X.outer := by
  have all : ∀ (l : List Env), (∀ b ∈ frs l, b ∈ X.fs) → X.s_0.heap.FunFrames X.base l → s.heap.FunFrames X.base l := by
    intro l
    induction l with
    | nil => intro _ _; trivial
    | cons env r ih =>
      intro hs hl
      obtain ⟨hk, ⟨L, o, hf, hn, ho, hd⟩, hr⟩ := hl
      have hL : L ∈ X.fs := hs L (by unfold frs; rw [List.filterMap_cons, hf]; exact List.mem_cons_self)
      obtain ⟨sl, e⟩ := I.base.slot L o ho (I.ok.frf L hL) hL fun z => I.ok.exfs L z hL
      exact ⟨hk, ⟨L, _, hf, hn, e, hd⟩, ih (fun b hb => hs b (by unfold frs; rw [List.filterMap_cons, hf]; exact List.mem_cons_of_mem _ hb)) hr⟩
  exact all X.outer (fun _ hb => hb) I.ok.funs

theorem Inv.stack (I : Inv X pins σ H s) : s.heap.FunFrames X.base X.stack := by
  rcases I.ok.stk with e | ⟨e, hf⟩
  · rw [e]; exact I.funs
  · rw [e]
    obtain ⟨m, hn, _⟩ := I.loc
    refine .cons (by rw [I.ok.kind]; decide) hf hn ?_ I.funs
    exact Heap.get?_none_of_le (Nat.le_trans I.ok.bsz I.ok.above)
theorem Inv.stkSub (I : Inv X pins σ H s) : ∀ b ∈ frs X.stack, b ∈ X.env.locals :: X.fs := fun b hb => by
  rcases I.ok.stk with e | ⟨e, hf⟩
  · rw [e] at hb; exact List.mem_cons_of_mem _ hb
  · rw [e] at hb
    unfold frs at hb
    rw [List.filterMap_cons, hf] at hb
    exact hb
theorem Inv.stkFree (I : Inv X pins σ H s) : ∀ b ∈ frs X.stack, H b = none := fun b hb => by
  rcases List.mem_cons.mp (I.stkSub b hb) with e | hb
  · rw [e]; exact I.free
  · obtain ⟨_, o, ho, _⟩ := I.ok.funs.mem hb
    exact I.base.free b o ho (I.ok.frf b hb) fun z => I.ok.exfs b z hb

theorem Inv.step {g' : Array GenState} {t' : Nat} {d' : Drawn} {ch : List Addr} (I : Inv X pins σ H s)
    (hch : ∀ b ∈ ch, (b ∈ X.ex ∨ X.s_0.heap.objs.size ≤ b) ∧ b ≠ X.env.locals ∧ (∀ x c, X.env.cells.lookup x = some c → c ≠ b) ∧ ∀ p ∈ X.pn ++ pins, p.1 ≠ b)
    (keep : ∀ b o, b ≠ X.env.locals → b ∉ X.fs → b ∉ ch → s.heap.get? b = some o → H b = none → h'.get? b = some o)
    (slot : ∀ b o, b ≠ X.env.locals → b ∈ X.fs → b ∉ ch → s.heap.get? b = some o → H b = none → ∃ sl, h'.get? b = some { o with slots := sl }) (free : ∀ b o, b ∉ ch → s.heap.get? b = some o → H b = none → H' b = none)
    (there : ∀ b o, b ∉ ch → s.heap.get? b = some o → ∃ o', h'.get? b = some o')
    (tups : ∀ b xs, H b = some (.tup xs) → H' b = some (.tup xs)) (frzs : ∀ b o u, H b = some (.frz o u) → H' b = some (.frz o u)) (tbls : ∀ b ps, H b = some (.tbl ps) → ∃ more, H' b = some (.tbl (ps ++ more)))
    (ns : ∀ m, s.heap.Ns X.env.locals m → h'.Ns X.env.locals m) (hok : HOk X.prog X.w H' h') (hg : AllBare g') :
    Inv X pins σ H' { s with heap := h', gens := g', drawn := d', toks := t' } := by
  have neL : ∀ b o, X.s_0.heap.get? b = some o → b ≠ X.env.locals := fun b o e => Nat.ne_of_lt (Nat.lt_of_lt_of_le (Heap.lt_size e) I.ok.above)
  have neC : ∀ b o, X.s_0.heap.get? b = some o → b ∉ X.ex → b ∉ ch := fun b o e hx hb => by
    rcases (hch b hb).1 with z | z
    · exact hx z
    · exact absurd (Nat.lt_of_lt_of_le (Heap.lt_size e) z) (Nat.lt_irrefl _)
  have cellK : ∀ x c, X.env.cells.lookup x = some c → ∀ v, s.heap.IsCell c v → h'.IsCell c v := fun x c e v ⟨o, ho, hd⟩ => by
    have nch : c ∉ ch := fun z => (hch c z).2.2.1 x c e rfl
    by_cases hc : c ∈ X.fs
    · obtain ⟨sl, q⟩ := slot c o (I.cne x c e) hc nch ho (I.freeC x c e)
      exact ⟨_, q, hd⟩
    · exact ⟨o, keep c o (I.cne x c e) hc nch ho (I.freeC x c e), hd⟩
  refine ⟨I.ok, I.os, hg, ⟨fun b o e n hb hx => ?_, fun b o e n hb hx => ?_, fun b o e n hx => ?_, fun b o e hx => ?_, fun b xs e => tups b xs (I.base.tups b xs e), fun b o xs e => frzs b o xs (I.base.frzs b o xs e), fun b ps e => ?_⟩, ?_, fun x c e => ?_, ?_, fun x c e => ?_, fun p hp => ?_, hok, I.len⟩
  · exact keep b o (neL b o e) hb (neC b o e hx) (I.base.keep b o e n hb hx) (I.base.free b o e n hx)
  · obtain ⟨sl, e1⟩ := I.base.slot b o e n hb hx
    obtain ⟨sl', e2⟩ := slot b _ (neL b o e) hb (neC b o e hx) e1 (I.base.free b o e n hx)
    exact ⟨sl', e2⟩
  · obtain ⟨o', e1⟩ := I.base.there b o e hx
    exact free b o' (neC b o e hx) e1 (I.base.free b o e n hx)
  · obtain ⟨o', e1⟩ := I.base.there b o e hx
    exact there b o' (neC b o e hx) e1
  · obtain ⟨m1, e1⟩ := I.base.tbls b ps e
    obtain ⟨m2, e2⟩ := tbls b _ e1
    exact ⟨m1 ++ m2, by rw [e2, Array.append_assoc]⟩
  · obtain ⟨m, hn, hl⟩ := I.loc
    refine ⟨m, ns m hn, fun i x v e1 e2 e3 => ?_⟩
    obtain ⟨u, r, l⟩ := hl i x v e1 e2 e3
    refine ⟨u, r, ?_⟩
    rcases l with l | ⟨k, c, e, z⟩
    · exact .inl l
    · exact .inr ⟨k, c, e, cellK x c e _ z⟩
  · obtain ⟨v, z⟩ := I.cell x c e
    exact ⟨v, cellK x c e v z⟩
  · obtain ⟨m, ⟨o, _, _, ho, _⟩, _⟩ := I.loc
    exact free _ o (fun z => (hch _ z).2.1 rfl) ho I.free
  · obtain ⟨v, o, ho, hd⟩ := I.cell x c e
    exact free c o (fun z => (hch c z).2.2.1 x c e rfl) ho (I.freeC x c e)
  · obtain ⟨e, n, ne, nf, d⟩ := I.pin p hp
    have nch : p.1 ∉ ch := fun z => (hch p.1 z).2.2.2 p hp rfl
    exact ⟨keep p.1 p.2 ne nf nch e n, free p.1 p.2 nch e n, ne, nf, d⟩
theorem Inv.un {t' : Nat} (I : Inv X pins σ H s) (u : Un X.fs [] H H' s.heap h') (hok : HOk X.prog X.w H' h') : Inv X pins σ H' { s with heap := h', toks := t' } := by
  obtain ⟨m, ⟨o, es, ep, ho, r⟩, _⟩ := id I.loc
  obtain ⟨sl, hL⟩ := u.any ho I.free (by simp)
  exact I.step (g' := s.gens) (d' := s.drawn) (ch := []) (fun _ z => nomatch z) (fun b o _ hb _ e n => u.keep b o e n hb (by simp)) (fun b o _ hb _ e n => u.slot b o e n hb (by simp)) (fun b o _ e n => u.free b o e n (by simp)) (fun b o _ e => u.there b o e (by simp)) u.tups u.frzs u.tbls (fun m' hm => by
    obtain ⟨o', es', ep', ho', r'⟩ := hm
    rw [ho] at ho'; cases ho'
    exact ⟨_, es', ep', hL, r'⟩) hok I.bare
theorem Inv.call {g' : Array GenState} {t' : Nat} {d' : Drawn} {ch : List Addr} (I : Inv X pins σ H s) (u : Un (frs X.stack) ch H H' s.heap h') (hok : HOk X.prog X.w H' h') (hg : AllBare g')
    (hch : ∀ b ∈ ch, (b ∈ X.ex ∨ X.s_0.heap.objs.size ≤ b) ∧ b ≠ X.env.locals ∧ (∀ x c, X.env.cells.lookup x = some c → c ≠ b) ∧ ∀ p ∈ X.pn ++ pins, p.1 ≠ b) :
    Inv X pins σ H' { s with heap := h', gens := g', drawn := d', toks := t' } := by
  obtain ⟨m, ⟨o, es, ep, ho, r⟩, _⟩ := id I.loc
  obtain ⟨sl, hL⟩ := u.any ho I.free fun z => (hch _ z).2.1 rfl
  exact I.step (ch := ch) hch (fun b o hL hb hc e n => u.keep b o e n (fun z => (List.mem_cons.mp (I.stkSub b z)).elim hL hb) hc) (fun b o _ _ hc e n => u.any e n hc) (fun b o hc e n => u.free b o e n hc) (fun b o hc e => u.there b o e hc) u.tups u.frzs u.tbls (fun m' hm => by
    obtain ⟨o', es', ep', ho', r'⟩ := hm
    rw [ho] at ho'; cases ho'
    exact ⟨_, es', ep', hL, r'⟩) hok hg
theorem Inv.turned {t' : Nat} {it : Addr} (I : Inv X pins σ H s) (k : ∀ b o, b ≠ it → s.heap.get? b = some o → h'.get? b = some o) (hn : H it = none) (hL : it ≠ X.env.locals)
    (h1 : it ∈ X.ex ∨ X.s_0.heap.objs.size ≤ it) (h2 : ∀ x c, X.env.cells.lookup x = some c → c ≠ it) (h3 : ∀ p ∈ X.pn ++ pins, p.1 ≠ it) : Inv X pins σ H { s with heap := h', toks := t' } := by
  have nit : ∀ b u, H b = some u → b ≠ it := fun b u e z => by rw [z, hn] at e; cases e
  refine I.step (g' := s.gens) (d' := s.drawn) (ch := [it]) (fun b hb => ?_) (fun b o _ _ hc e _ => k b o (fun z => hc (by simp [z])) e) (fun b o _ _ hc e _ => ⟨o.slots, k b o (fun z => hc (by simp [z])) e⟩) (fun _ _ _ _ n => n)
    (fun b o hc e => ⟨o, k b o (fun z => hc (by simp [z])) e⟩) (fun _ _ e => e) (fun _ _ _ e => e) (fun b ps e => ⟨#[], by rw [e]; simp⟩) (fun m hm => ?_) (fun b u e => ?_) I.bare
  · have e : b = it := by simpa using hb
    subst e
    exact ⟨h1, hL, h2, h3⟩
  · obtain ⟨o, es, ep, ho, r⟩ := hm
    exact ⟨o, es, ep, k _ o (Ne.symm hL) ho, r⟩
  · refine (I.hok b u e).stay (fun c v hc q => k c v ?_ q) (fun _ q => q) fun _ _ q => q
    rcases hc with z | z
    · rw [z]; exact nit b u e
    · exact nit c _ z
theorem Inv.tok (I : Inv X pins σ H s) (t : Nat) : Inv X pins σ H { s with toks := t } := I.un (h' := s.heap) (t' := t) Un.refl I.hok
theorem Inv.kept {t' : Nat} (I : Inv X pins σ H s) (k : ∀ b u, s.heap.get? b = some u → h'.get? b = some u) : Inv X pins σ H { s with heap := h', toks := t' } := I.un (Un.kept k) (I.hok.kept k)
theorem Inv.laid {a : Addr} {o : HO} {t' : Nat} (I : Inv X pins σ H s) (k : ∀ b u, s.heap.get? b = some u → h'.get? b = some u) (hp : s.heap.objs.size ≤ a) (new : ObjOk X.prog X.w (upd H a o) h' a o) :
    Inv X pins σ (upd H a o) { s with heap := h', toks := t' } := I.un (Un.laid k hp (I.hok.fresh hp)) (I.hok.laid k hp new)
theorem Inv.write {x e : Addr} {o : HO} {t' : Nat} (I : Inv X pins σ H s) (mu : Mut (H x)) (he : e = x ∨ H e = some (.own x)) (k : ∀ b u, b ≠ e → s.heap.get? b = some u → h'.get? b = some u) (heo : ∃ u, h'.get? e = some u)
    (new : ObjOk X.prog X.w (upd H x o) h' x o) : Inv X pins σ (upd H x o) { s with heap := h', toks := t' } := I.un (Un.write mu he k heo) (I.hok.write mu he k heo new)
theorem Inv.weak {σ' : List (Option V)} (I : Inv X pins σ H s) (hl : σ'.length = σ.length) (w : ∀ (i : Nat) v, σ'[i]? = some (some v) → σ[i]? = some (some v)) : Inv X pins σ' H s :=
  ⟨I.ok, I.os, I.bare, I.base, let ⟨m, hn, hl'⟩ := I.loc; ⟨m, hn, fun i x v e1 e2 e3 => hl' i x v e1 (w i v e2) e3⟩, I.cell, I.free, I.freeC, I.pin, I.hok, hl.trans I.len⟩
theorem Inv.pins_of {pins' : List (Addr × Obj)} (I : Inv X pins σ H s) (h : ∀ p ∈ pins', s.heap.get? p.1 = some p.2 ∧ H p.1 = none ∧ p.1 ≠ X.env.locals ∧ p.1 ∉ X.fs ∧ ∀ v, p.2.data ≠ .cell v) : Inv X pins' σ H s :=
  ⟨I.ok, I.os, I.bare, I.base, I.loc, I.cell, I.free, I.freeC, fun p hp => (List.mem_append.mp hp).elim (fun z => I.pin p (List.mem_append_left _ z)) (h p), I.hok, I.len⟩

theorem nodup_ix {N : List Str} (hN : N.Nodup) {i j : Nat} {x : Str} (a : N[i]? = some x) (b : N[j]? = some x) : i = j := by
  obtain ⟨h1, e1⟩ := List.getElem?_eq_some_iff.mp a
  obtain ⟨h2, e2⟩ := List.getElem?_eq_some_iff.mp b
  exact (List.getElem_inj hN).mp (e1.trans e2.symm)

theorem store_ok2 {M : Model} {A : Around} {E : Value → Shared → Prop} {i : Nat} {x : Str} {v : V} {u : Value} {Q : Unit → Shared → Prop} (I : Inv X pins σ H s) (hN : X.N.Nodup) (hi : X.N[i]? = some x) (hx : Loc X.env.scope x) (r : RelV v u)
    (h : ∀ s', Inv X pins (σ.set i (some v)) H s' → (∃ a, Heap.SameBut a s.heap s'.heap ∧ (a = X.env.locals ∨ X.env.cells.lookup x = some a)) → Q () s') (hf : X.fn x = true ∨ X.env.scope.names.lookup x = some .local := by first | exact .inl rfl | exact .inr rfl | assumption) : wpAny M A (storeName X.env x u) Q E s := by
  obtain ⟨m, hn, hl⟩ := id I.loc
  have hcls : (X.env.scope.kind == .class || (X.env.scope.kind == .module && X.env.locals != X.env.globals)) = false := by rw [I.ok.kind]; rfl
  have hiσ : i < σ.length := by rw [I.len]; exact (List.getElem?_eq_some_iff.mp hi).1
  have cne := I.cne
  have tracked : ∀ {a : Addr} {h' : Heap}, (∃ o, s.heap.get? a = some o ∧ H a = none) → Heap.SameBut a s.heap h' → HOk X.prog X.w H h' := fun {a h'} ha hs b ob e => by
    obtain ⟨_, _, hfree⟩ := ha
    refine (I.hok b ob e).stay (fun c w' hc q => (hs.2 c ?_).trans q) (fun _ q => q) fun _ _ q => q
    rintro rfl
    rcases hc with rfl | hc
    · rw [hfree] at e; cases e
    · rw [hfree] at hc; cases hc
  rcases hx with hk | hk
  · refine wpAny_storeName_local hk hn (fun h' hn' hs => ?_) hcls
    obtain ⟨oL, _, _, hoL, _⟩ := id hn
    refine h _ ⟨I.ok, I.os, I.bare, ⟨fun b o e n hb hx => ?_, fun b o e n hb hx => ?_, I.base.free, fun b o e hx => ?_, I.base.tups, I.base.frzs, I.base.tbls⟩, ⟨_, hn', fun j y v' e1 e2 e3 => ?_⟩, fun y c e => ?_, I.free, I.freeC, fun p hp => ?_, tracked ⟨oL, hoL, I.free⟩ hs, by simpa using I.len⟩ ⟨_, hs, .inl rfl⟩
    · exact (hs.2 b (Nat.ne_of_lt (Nat.lt_of_lt_of_le (Heap.lt_size e) I.ok.above))).trans (I.base.keep b o e n hb hx)
    · obtain ⟨sl, e1⟩ := I.base.slot b o e n hb hx
      exact ⟨sl, (hs.2 b (Nat.ne_of_lt (Nat.lt_of_lt_of_le (Heap.lt_size e) I.ok.above))).trans e1⟩
    · obtain ⟨o', e1⟩ := I.base.there b o e hx
      exact ⟨o', (hs.2 b (Nat.ne_of_lt (Nat.lt_of_lt_of_le (Heap.lt_size e) I.ok.above))).trans e1⟩
    · by_cases hj : j = i
      · subst hj
        rw [hi] at e1; cases e1
        rw [List.getElem?_set_self hiσ] at e2
        cases e2
        exact ⟨u, r, .inl ⟨hk, by simp⟩⟩
      · rw [List.getElem?_set_ne (Ne.symm hj)] at e2
        obtain ⟨u', r', q⟩ := hl j y v' e1 e2 e3
        refine ⟨u', r', ?_⟩
        rcases q with ⟨k, e⟩ | ⟨k, c, e, z⟩
        · refine .inl ⟨k, ?_⟩
          have : y ≠ x := fun e => hj (nodup_ix hN e1 (e ▸ hi))
          simp [this, e]
        · exact .inr ⟨k, c, e, z.sameBut hs (cne y c e)⟩
    · obtain ⟨w', z⟩ := I.cell y c e
      exact ⟨w', z.sameBut hs (cne y c e)⟩
    · obtain ⟨e, n, ne, nf, d⟩ := I.pin p hp
      exact ⟨(hs.2 p.1 ne).trans e, n, ne, nf, d⟩
  · have hfn : X.fn x = true := by
      rcases hf with z | z
      · exact z
      · rw [z] at hk; cases hk
    obtain ⟨c, hc⟩ := I.ok.has x (.inl hk)
    obtain ⟨w', z⟩ := I.cell x c hc
    refine wpAny_storeName_cell I.ok.kind hk hc z (fun h' hc' hs => ?_)
    obtain ⟨oc, hoc, hocd⟩ := id z
    refine h { s with heap := h' } ⟨I.ok, I.os, I.bare, ⟨fun b o e n hb hx => ?_, fun b o e n hb hx => ?_, I.base.free, fun b o e hx => ?_, I.base.tups, I.base.frzs, I.base.tbls⟩, ⟨m, hn.sameBut hs (Ne.symm (cne x c hc)), fun j y v' e1 e2 e3 => ?_⟩, fun y c' e => ?_, I.free, I.freeC, fun p hp => ?_, tracked ⟨oc, hoc, I.freeC x c hc⟩ hs, by simpa using I.len⟩ ⟨c, hs, .inr hc⟩
    · exact (hs.2 b (Nat.ne_of_lt (Nat.lt_of_lt_of_le (Heap.lt_size e) (I.ok.cab x c hfn hc)))).trans (I.base.keep b o e n hb hx)
    · obtain ⟨sl, e1⟩ := I.base.slot b o e n hb hx
      exact ⟨sl, (hs.2 b (Nat.ne_of_lt (Nat.lt_of_lt_of_le (Heap.lt_size e) (I.ok.cab x c hfn hc)))).trans e1⟩
    · obtain ⟨o', e1⟩ := I.base.there b o e hx
      exact ⟨o', (hs.2 b (Nat.ne_of_lt (Nat.lt_of_lt_of_le (Heap.lt_size e) (I.ok.cab x c hfn hc)))).trans e1⟩
    · by_cases hj : j = i
      · subst hj
        rw [hi] at e1; cases e1
        rw [List.getElem?_set_self hiσ] at e2
        cases e2
        exact ⟨u, r, .inr ⟨.inl hk, c, hc, hc'⟩⟩
      · rw [List.getElem?_set_ne (Ne.symm hj)] at e2
        obtain ⟨u', r', q⟩ := hl j y v' e1 e2 e3
        refine ⟨u', r', ?_⟩
        rcases q with q | ⟨k, c', e, z'⟩
        · exact .inl q
        · refine .inr ⟨k, c', e, z'.sameBut hs ?_⟩
          rintro rfl
          exact hj (nodup_ix hN e1 (I.ok.inj _ _ _ e hc ▸ hi))
    · by_cases hcc : c' = c
      · subst hcc; exact ⟨_, hc'⟩
      · obtain ⟨w2, z2⟩ := I.cell y c' e
        exact ⟨w2, z2.sameBut hs hcc⟩
    · obtain ⟨e, n, ne, nf, d⟩ := I.pin p hp
      refine ⟨(hs.2 p.1 ?_).trans e, n, ne, nf, d⟩
      intro q
      rw [q, hoc] at e
      have q' : oc = p.2 := Option.some.inj e
      exact d w' (by rw [← q']; exact hocd)
theorem store_ok {M : Model} {A : Around} {E : Value → Shared → Prop} {i : Nat} {x : Str} {v : V} {u : Value} {Q : Unit → Shared → Prop} (I : Inv X pins σ H s) (hN : X.N.Nodup) (hi : X.N[i]? = some x) (hx : Loc X.env.scope x) (r : RelV v u)
    (h : ∀ s', Inv X pins (σ.set i (some v)) H s' → Q () s') (hf : X.fn x = true ∨ X.env.scope.names.lookup x = some .local := by first | exact .inl rfl | exact .inr rfl | assumption) : wpAny M A (storeName X.env x u) Q E s :=
  store_ok2 I hN hi hx r (fun s' I' _ => h s' I') hf
theorem Inv.call' {s' : Shared} {ch : List Addr} (I : Inv X pins σ H s) (ho : s'.os = s.os) (u : Un (frs X.stack) ch H H' s.heap s'.heap) (hok : HOk X.prog X.w H' s'.heap) (hg : AllBare s'.gens)
    (hch : ∀ b ∈ ch, (b ∈ X.ex ∨ X.s_0.heap.objs.size ≤ b) ∧ b ≠ X.env.locals ∧ (∀ x c, X.env.cells.lookup x = some c → c ≠ b) ∧ ∀ p ∈ X.pn ++ pins, p.1 ≠ b) : Inv X pins σ H' s' := by
  obtain ⟨h', g', d', t', o'⟩ := s'
  have e : o' = s.os := ho
  subst e
  exact I.call (g' := g') (t' := t') (d' := d') u hok hg hch
end

abbrev XK := Value → Option Addr → Hp → Prop
abbrev St := List (Option V)
abbrev VK := V → Hp → Prop
abbrev TE := St → Hp → VK → Prop
abbrev TT := St → Hp → (Bool → Hp → Prop) → Prop
abbrev TA := St → Hp → (List V → Hp → Prop) → Prop
structure Ends where
  nx : St → Hp → Prop
  rt : VK
  bk : St → Hp → Prop := fun _ _ => False
  ct : St → Hp → Prop := fun _ _ => False
abbrev TS := Ends → St → Hp → Prop

def EP (X : Cx) (pins : List (Addr × Obj)) (σ : St) (Q : VK) (u : Value) (s' : Shared) : Prop := ∃ v H', Inv X pins σ H' s' ∧ RelV v u ∧ Q v H'
def TP (X : Cx) (pins : List (Addr × Obj)) (σ : St) (Q : Bool → Hp → Prop) (b : Bool) (s' : Shared) : Prop := ∃ H', Inv X pins σ H' s' ∧ Q b H'
def AP (X : Cx) (pins : List (Addr × Obj)) (σ : St) (Q : List V → Hp → Prop) (us : List Value) (s' : Shared) : Prop := ∃ vs H', Inv X pins σ H' s' ∧ Vals vs us ∧ Q vs H'
def SP (X : Cx) (pins : List (Addr × Obj)) (D : Ends) (f : Flow) (s' : Shared) : Prop :=
  match f with
  | .next => ∃ σ' H', Inv X pins σ' H' s' ∧ D.nx σ' H'
  | .brk => ∃ σ' H', Inv X pins σ' H' s' ∧ D.bk σ' H'
  | .cont => ∃ σ' H', Inv X pins σ' H' s' ∧ D.ct σ' H'
  | .ret u => ∃ v σ' H', Inv X pins σ' H' s' ∧ RelV v u ∧ D.rt v H'

def PE (X : Cx) (e : Expr) (t : TE) : Prop :=
  ∀ (pins : List (Addr × Obj)) (s : Shared) (σ : St) (H : Hp) (Q : VK), Inv X pins σ H s → t σ H Q → wpAny (model X.prog X.w) X.A (eval e X.env) (EP X pins σ Q) X.xe s
def PT (X : Cx) (e : Expr) (t : TT) : Prop :=
  ∀ (pins : List (Addr × Obj)) (s : Shared) (σ : St) (H : Hp) (Q : Bool → Hp → Prop), Inv X pins σ H s → t σ H Q → wpAny (model X.prog X.w) X.A (isTrue e X.env (eval e X.env)) (TP X pins σ Q) X.xe s
def PW (X : Cx) (e : Expr) (t : TT) : Prop :=
  ∀ (whole : Sem Value) (pins : List (Addr × Obj)) (s : Shared) (σ : St) (H : Hp) (Q : Bool → Hp → Prop), Inv X pins σ H s → t σ H Q → wpAny (model X.prog X.w) X.A (isTrue e X.env whole) (TP X pins σ Q) X.xe s
theorem PW.pt {X : Cx} {e : Expr} {t : TT} (h : PW X e t) : PT X e t := h _
def PA (X : Cx) (es : List Expr) (t : TA) : Prop :=
  ∀ (pos : Pos) (pins : List (Addr × Obj)) (s : Shared) (σ : St) (H : Hp) (Q : List V → Hp → Prop), Inv X pins σ H s → t σ H Q → wpAny (model X.prog X.w) X.A (spliced (backTo pos (starEach es X.env))) (AP X pins σ Q) X.xe s
def PS (X : Cx) (st : Stmt) (t : TS) : Prop :=
  ∀ (pins : List (Addr × Obj)) (s : Shared) (σ : St) (H : Hp) (D : Ends), Inv X pins σ H s → t D σ H → wpAny (model X.prog X.w) X.A (exec st X.env) (SP X pins D) X.xe s
def PSs (X : Cx) (st : List Stmt) (t : TS) : Prop :=
  ∀ (pins : List (Addr × Obj)) (s : Shared) (σ : St) (H : Hp) (D : Ends), Inv X pins σ H s → t D σ H → wpAny (model X.prog X.w) X.A (execs st X.env) (SP X pins D) X.xe s
theorem thn {α : Type} {t : Sem α} {Q Q' : α → Shared → Prop} {M : Model} {A : Around} {E : Value → Shared → Prop} {s : Shared} (h : wpAny M A t Q E s) (hQ : ∀ a s, Q a s → Q' a s) : wpAny M A t Q' E s := wpAny_mono h hQ fun _ _ x => x
end L2

namespace L2
open PySem PySem.Spec PyProof.Rows
section
variable {X : Cx}

def tVar (i : Nat) : TE := fun σ H Q => ∃ v, σ[i]? = some (some v) ∧ Q v H
def tC (v : V) : TE := fun _ H Q => Q v H
theorem pe_var {i : Nat} {x : Str} {pos : Pos} (hN : X.N[i]? = some x) (hv : Vis X.env.scope x) (hd : (x == ("__debug__" : Str)) = false := by decide) (hcd : (x == ("__classdict__" : Str)) = false := by decide) : PE X (.Name x pos) (tVar i) := by
  intro pins s σ H Q I h
  obtain ⟨v, e, h⟩ := h
  obtain ⟨m, hn, hl⟩ := I.loc
  obtain ⟨u, r, l⟩ := hl i x v hN e hv
  have fin : EP X pins σ Q u s := ⟨v, H, I, r, h⟩
  rcases l with ⟨hk, hm⟩ | ⟨hk, c, hc, hcell⟩
  · exact wpAny_Name (wpAny_loadName_local I.ok.kind hk hn hm fin) hd
  · rcases hk with hk | hk
    · exact wpAny_Name (wpAny_loadName_cell I.ok.kind hk hc hcell fin) hd
    · exact wpAny_Name (wpAny_loadName_free I.ok.kind hk hc hcell fin hcd) hd
theorem pe_int {i j pos} : PE X (.Constant (.int i) j pos) (tC (.int i)) := fun _ _ _ H _ I h => wpAny_Constant_int ⟨.int i, H, I.tok _, ⟨_, rfl⟩, h⟩
theorem pe_str {x j pos} : PE X (.Constant (.str x) j pos) (tC (.str x)) := fun _ _ _ H _ I h => Calls.Constant_str ⟨.str x, H, I.tok _, ⟨_, rfl⟩, h⟩

def Gl (X : Cx) (x : Str) : Prop := X.env.kindOf x = some .globalImplicit
theorem ld_glob {E : Value → Shared → Prop} {pins : List (Addr × Obj)} {s : Shared} {σ : St} {H : Hp} {x : Str} {u : Value} {pos : Pos} {Q : Value → Shared → Prop} (I : Inv X pins σ H s) (hg : Gl X x) (hm : X.mg x = some u) (h : Q u s)
    (hd : (x == ("__debug__" : Str)) = false := by decide) : wpAny (model X.prog X.w) X.A (eval (.Name x pos) X.env) Q E s :=
  Calls.Name_function_global I.ok.kind hg (Calls.loadGlobal_global (by rw [I.ok.glob]; exact I.mod.glob.keeps I.bk) hm h) hd
theorem ld_blt {E : Value → Shared → Prop} {pins : List (Addr × Obj)} {s : Shared} {σ : St} {H : Hp} {x : Str} {u : Value} {pos : Pos} {Q : Value → Shared → Prop} (I : Inv X pins σ H s) (hg : Gl X x) (hm : X.mg x = none) (hv : bootBuiltins x = some u) (h : Q u s)
    (hn : x ≠ "__name__" := by decide) (hd : (x == ("__debug__" : Str)) = false := by decide) : wpAny (model X.prog X.w) X.A (eval (.Name x pos) X.env) Q E s := by
  obtain ⟨mb, h1, h2⟩ := I.mod.blt
  exact Calls.Name_function_global I.ok.kind hg (Calls.loadGlobal_builtin (by rw [I.ok.glob]; exact I.mod.glob.keeps I.bk) hm (by rw [I.ok.blt]; exact h1.keeps I.bk) ((h2 x hn).trans hv) h) hd
theorem pe_glob {x : Str} {v : V} {u : Value} {pos : Pos} (hg : Gl X x) (hm : X.mg x = some u) (r : RelV v u) (hd : (x == ("__debug__" : Str)) = false := by decide) : PE X (.Name x pos) (tC v) :=
  fun _ _ _ H _ I h => ld_glob I hg hm ⟨v, H, I, r, h⟩ hd
variable {a b : Expr} {ta tb : TE} {pos : Pos}
theorem RelV.none_iff {x : V} {v : Value} (r : RelV x v) : (v == Value.none) = decide (x = .non) := by
  cases x with
  | non => cases r; rfl
  | bl _ => cases r; rfl
  | int _ => obtain ⟨t, rfl⟩ := r; rfl
  | str _ => obtain ⟨t, rfl⟩ := r; rfl
  | byt _ => obtain ⟨t, rfl⟩ := r; rfl
  | flt _ => obtain ⟨t, rfl⟩ := r; rfl
  | ref _ => cases r; rfl
  | ty _ => cases r; rfl
def tB (t : TE) : TT := fun σ H Q => t σ H fun x H1 => ∃ c, x = .bl c ∧ Q c H1
theorem pt_val {e : Expr} {t : TE} (h : PE X e t) (he : ∀ whole, isTrue e X.env whole = (do let v ← whole; standAt e.pos; holding [v] (truthy v)) := by intro _; rfl) : PT X e (tB t) := by
  intro pins s σ H Q I hw
  refine isTrue_plain (thn (h pins s σ H _ I hw) fun v s1 ⟨x, H1, I1, r1, q1⟩ => ?_) (he _)
  obtain ⟨d, rfl, q⟩ := q1
  cases r1
  exact wpAny_truthy_bool ⟨H1, I1, q⟩

variable {tA tB' : TT} {rest : List Expr}
def tAnd (t u : TT) : TT := fun σ H Q => t σ H fun c H1 => if c = true then u σ H1 Q else Q false H1
def tOr (t u : TT) : TT := fun σ H Q => t σ H fun c H1 => if c = true then Q true H1 else u σ H1 Q
def tNot (t : TT) : TT := fun σ H Q => t σ H fun c H1 => Q (!c) H1
theorem pw_and1 (ha : PT X a tA) : PW X (.BoolOp .And [a] pos) tA := by
  intro wh pins s σ H Q I h
  refine isTrue_and (thn (ha pins s σ H Q I h) fun c s1 e => ?_)
  cases c with
  | true => exact isTrue_and_nil e
  | false => exact e
theorem pw_or1 (ha : PT X a tA) : PW X (.BoolOp .Or [a] pos) tA := by
  intro wh pins s σ H Q I h
  refine isTrue_or (thn (ha pins s σ H Q I h) fun c s1 e => ?_)
  cases c with
  | false => exact isTrue_or_nil e
  | true => exact e
theorem pw_and (ha : PT X a tA) (hb : PW X (.BoolOp .And (b :: rest) pos) tB') : PW X (.BoolOp .And (a :: b :: rest) pos) (tAnd tA tB') := by
  intro wh pins s σ H Q I h
  refine isTrue_and (thn (ha pins s σ H _ I h) fun c s1 ⟨H1, I1, q1⟩ => ?_)
  cases c with
  | true => exact hb wh pins s1 σ H1 Q I1 q1
  | false => exact ⟨H1, I1, q1⟩
theorem pw_or (ha : PT X a tA) (hb : PW X (.BoolOp .Or (b :: rest) pos) tB') : PW X (.BoolOp .Or (a :: b :: rest) pos) (tOr tA tB') := by
  intro wh pins s σ H Q I h
  refine isTrue_or (thn (ha pins s σ H _ I h) fun c s1 ⟨H1, I1, q1⟩ => ?_)
  cases c with
  | true => exact ⟨H1, I1, q1⟩
  | false => exact hb wh pins s1 σ H1 Q I1 q1
def tAndV (ta tb : TE) : TE := fun σ H Q => ta σ H fun x H1 => ∃ c, x = .bl c ∧ if c = true then tb σ H1 Q else Q (.bl false) H1
def tOrV (ta tb : TE) : TE := fun σ H Q => ta σ H fun x H1 => ∃ c, x = .bl c ∧ if c = true then Q (.bl true) H1 else tb σ H1 Q
def tNotV (ta : TE) : TE := fun σ H Q => ta σ H fun x H1 => ∃ c, x = .bl c ∧ Q (.bl (!c)) H1
def tIf (t : TT) (ta tb : TE) : TE := fun σ H Q => t σ H fun c H1 => if c = true then ta σ H1 Q else tb σ H1 Q
theorem pe_ifExp {c : Expr} (hc : PT X c tA) (ha : PE X a ta) (hb : PE X b tb) : PE X (.IfExp c a b pos) (tIf tA ta tb) := by
  intro pins s σ H Q I h
  refine wpAny_IfExp (thn (hc pins s σ H _ I h) fun d s1 ⟨H1, I1, q1⟩ => ?_)
  cases d with
  | true => exact ha pins s1 σ H1 Q I1 q1
  | false => exact hb pins s1 σ H1 Q I1 q1
end
end L2

namespace L2
open PySem PySem.Spec PyProof.Rows

def SqL (K : PySem.W.Frag) (H : Hp) (a : Addr) (xs : List V) : Prop :=
  Rd H a (.lst xs) ∨
    ∃ (o : Obj) (its : Array Value) (n : Nat), K.lookup a = some o ∧ o.cls = .type "list" ∧ o.dict = none ∧ o.data = .seq its n ∧ its.size ≤ sizeLine ∧ Vals xs its.toList
def SqT (K : PySem.W.Frag) (H : Hp) (a : Addr) (xs : List V) : Prop :=
  Rd H a (.tup xs) ∨
    ∃ (o : Obj) (its : Array Value) (n : Nat), K.lookup a = some o ∧ o.cls = .type "tuple" ∧ o.data = .seq its n ∧ its.size ≤ sizeLine ∧ Vals xs its.toList
def absV : Value → Option V
  | .none => some .non
  | .bool b => some (.bl b)
  | .int i _ => some (.int i)
  | .str x _ => some (.str x)
  | .bytes b _ => some (.byt b)
  | .float b _ => some (.flt b)
  | .ref a => some (.ref a)
  | .type n => some (.ty n)
  | _ => none
theorem RelV.abs {x : V} {u : Value} (r : RelV x u) : absV u = some x := by
  cases x with
  | non => cases r; rfl
  | bl _ => cases r; rfl
  | int _ => obtain ⟨t, rfl⟩ := r; rfl
  | str _ => obtain ⟨t, rfl⟩ := r; rfl
  | byt _ => obtain ⟨t, rfl⟩ := r; rfl
  | flt _ => obtain ⟨t, rfl⟩ := r; rfl
  | ref _ => cases r; rfl
  | ty _ => cases r; rfl
theorem RelV.inj {x y : V} {u : Value} (r : RelV x u) (q : RelV y u) : x = y := Option.some.inj (r.abs.symm.trans q.abs)
theorem Vals.inj : ∀ {xs ys : List V} {us : List Value}, Vals xs us → Vals ys us → xs = ys
  | _, _, _, .nil, .nil => rfl
  | _, _, _, .cons r t, .cons r' t' => by rw [r.inj r', Vals.inj t t']
section
variable {X : Cx} {pins : List (Addr × Obj)} {σ : St} {H : Hp} {s : Shared} {a : Addr} {xs ys : List V}
theorem SqL.of {K : PySem.W.Frag} (h : H a = some (.lst xs)) : SqL K H a xs := .inl (.inl h)
theorem SqT.of {K : PySem.W.Frag} (h : H a = some (.tup xs)) : SqT K H a xs := .inl (.inl h)
theorem Inv.list (I : Inv X pins σ H s) (h : SqL X.K H a xs) : ∃ its : List Value, Vals xs its ∧ PlainL s.heap a its.toArray ∧ xs.length ≤ sizeLine := by
  rcases h with h | ⟨o, its, n, hk, hc, hd, hs, hz, r⟩
  · obtain ⟨z, its, n, r, e⟩ := h.ok I.hok
    exact ⟨its, r, ⟨_, n, e, rfl, rfl, rfl⟩, z⟩
  · refine ⟨its.toList, r, ⟨o, n, I.kIn a o hk, hc, hd, by simpa using hs⟩, ?_⟩
    have e := r.length
    simp only [Array.length_toList] at e
    omega
theorem Inv.tuple (I : Inv X pins σ H s) (h : SqT X.K H a xs) : ∃ its : List Value, Vals xs its ∧ IsTup s.heap a its.toArray ∧ xs.length ≤ sizeLine := by
  rcases h with h | ⟨o, its, n, hk, hc, hs, hz, r⟩
  · obtain ⟨z, its, r, p⟩ := h.ok I.hok
    exact ⟨its, r, p, z⟩
  · refine ⟨its.toList, r, ⟨o, I.kIn a o hk, hc, n, by simpa using hs⟩, ?_⟩
    have e := r.length
    simp only [Array.length_toList] at e
    omega
theorem Inv.list_inj (I : Inv X pins σ H s) (h : SqL X.K H a xs) (h' : SqL X.K H a ys) : xs = ys := by
  obtain ⟨its, r, ⟨o, n, e, _, _, d⟩, _⟩ := I.list h
  obtain ⟨its', r', ⟨o', n', e', _, _, d'⟩, _⟩ := I.list h'
  rw [e] at e'; cases e'
  rw [d] at d'
  injection d' with d1 _
  have : its = its' := by simpa using congrArg Array.toList d1
  subst this
  exact r.inj r'
theorem Inv.tuple_inj (I : Inv X pins σ H s) (h : SqT X.K H a xs) (h' : SqT X.K H a ys) : xs = ys := by
  obtain ⟨its, r, ⟨o, e, _, n, d⟩, _⟩ := I.tuple h
  obtain ⟨its', r', ⟨o', e', _, n', d'⟩, _⟩ := I.tuple h'
  rw [e] at e'; cases e'
  rw [d] at d'
  injection d' with d1 _
  have : its = its' := by simpa using congrArg Array.toList d1
  subst this
  exact r.inj r'
end

abbrev Cx.wish (X : Cx) (E : Value → Shared → Prop) : Cx := { X with xe := E }
abbrev Cx.nox (X : Cx) : Cx := X.wish fun _ _ => False
theorem Cx.Ok.wish {X : Cx} (ok : X.Ok) (E : Value → Shared → Prop) : (X.wish E).Ok :=
  ⟨ok.mod, ok.kind, ok.glob, ok.blt, ok.above, ok.inj, ok.has, ok.cab, ok.hd, ok.frames, ok.stk, ok.exf, ok.bs, ok.bsz, ok.noex, ok.exfs, ok.funs, ok.frf⟩
theorem Cx.Ok.unwish {X : Cx} {E : Value → Shared → Prop} (ok : (X.wish E).Ok) : X.Ok :=
  ⟨ok.mod, ok.kind, ok.glob, ok.blt, ok.above, ok.inj, ok.has, ok.cab, ok.hd, ok.frames, ok.stk, ok.exf, ok.bs, ok.bsz, ok.noex, ok.exfs, ok.funs, ok.frf⟩
section
variable {X : Cx} {pins : List (Addr × Obj)} {σ : St} {H : Hp} {s : Shared} {E : Value → Shared → Prop}
theorem Inv.wish (I : Inv X pins σ H s) (E : Value → Shared → Prop) : Inv (X.wish E) pins σ H s := ⟨I.ok.wish E, I.os, I.bare, I.base, I.loc, I.cell, I.free, I.freeC, I.pin, I.hok, I.len⟩
theorem Inv.unwish (I : Inv (X.wish E) pins σ H s) : Inv X pins σ H s := ⟨I.ok.unwish, I.os, I.bare, I.base, I.loc, I.cell, I.free, I.freeC, I.pin, I.hok, I.len⟩
theorem SP.unwish {D : Ends} {f : Flow} {s' : Shared} (h : SP (X.wish E) pins D f s') : SP X pins D f s' := by
  cases f with
  | next => obtain ⟨σ', H', I, q⟩ := h; exact ⟨σ', H', I.unwish, q⟩
  | brk => obtain ⟨σ', H', I, q⟩ := h; exact ⟨σ', H', I.unwish, q⟩
  | cont => obtain ⟨σ', H', I, q⟩ := h; exact ⟨σ', H', I.unwish, q⟩
  | ret u => obtain ⟨v, σ', H', I, r, q⟩ := h; exact ⟨v, σ', H', I.unwish, r, q⟩
theorem PE.nox {e : Expr} {t : TE} (h : PE X.nox e t) : PE X e t := fun pins s σ H Q I hw =>
  wpAny_mono (h pins s σ H Q (I.wish _) hw) (fun _ _ ⟨v, H', I', r, q⟩ => ⟨v, H', I'.unwish, r, q⟩) fun _ _ z => False.elim z
theorem PT.nox {e : Expr} {t : TT} (h : PT X.nox e t) : PT X e t := fun pins s σ H Q I hw =>
  wpAny_mono (h pins s σ H Q (I.wish _) hw) (fun _ _ ⟨H', I', q⟩ => ⟨H', I'.unwish, q⟩) fun _ _ z => False.elim z
theorem PSs.nox {st : List Stmt} {t : TS} (h : PSs X.nox st t) : PSs X st t := fun pins s σ H D I hw =>
  wpAny_mono (h pins s σ H D (I.wish _) hw) (fun _ _ q => q.unwish) fun _ _ z => False.elim z
end

section
variable {X : Cx} {st : Stmt} {rest : List Stmt} {t u : TS} {e : Expr} {te : TE} {pos : Pos}
def tNext : TS := fun D σ H => D.nx σ H
def tSeq (t u : TS) : TS := fun D σ H => t { D with nx := u D } σ H
theorem pss_nil : PSs X [] tNext := fun _ _ σ H _ I h => wpAny_execs_nil ⟨σ, H, I, h⟩
theorem pss_cons (h1 : PS X st t) (h2 : PSs X rest u) : PSs X (st :: rest) (tSeq t u) := by
  intro pins s σ H D I h
  refine wpAny_execs_cons (thn (h1 pins s σ H { D with nx := u D } I h) fun f s1 q => ?_)
  cases f with
  | next =>
    obtain ⟨σ', H', I', q⟩ := q
    exact h2 pins s1 σ' H' D I' q
  | ret v => exact q
  | brk => exact q
  | cont => exact q
theorem pss_one (h1 : PS X st t) : PSs X [st] t := by
  intro pins s σ H D I h
  refine wpAny_execs_cons (thn (h1 pins s σ H D I h) fun f s1 q => ?_)
  cases f with
  | next => exact wpAny_execs_nil q
  | ret v => exact q
  | brk => exact q
  | cont => exact q
theorem Inv.quiet {pins : List (Addr × Obj)} {σ : St} {H : Hp} {s : Shared} (I : Inv X pins σ H s) : interactive X.env = false := by simp [interactive, I.ok.kind]
def tDrop (te : TE) : TS := fun D σ H => te σ H fun _ H1 => D.nx σ H1
theorem ps_expr (he : PE X e te) (hs : swapsWith e none pos.line X.env = pure false := by rfl) : PS X (.Expr e pos) (tDrop te) := by
  intro pins s σ H D I h
  exact wpAny_Expr_any (thn (he pins s σ H _ I h) fun v s1 ⟨x, H1, I1, r1, q1⟩ => ⟨σ, H1, I1, q1⟩) I.quiet hs
def tRet (te : TE) : TS := fun D σ H => te σ H D.rt
theorem ps_ret (he : PE X e te) : PS X (.Return (some e) pos) (tRet te) := by
  intro pins s σ H D I h
  exact wpAny_Return_some (thn (he pins s σ H _ I h) fun v s1 ⟨x, H1, I1, r1, q1⟩ => ⟨x, σ, H1, I1, r1, q1⟩)
def tRetN : TS := fun D _ H => D.rt .non H
def tIfS (c : TT) (t u : TS) : TS := fun D σ H => c σ H fun b H1 => if b = true then t D σ H1 else u D σ H1
theorem ps_if {c : Expr} {a b : List Stmt} {tc : TT} (hc : PT X c tc) (ha : PSs X a t) (hb : PSs X b u) : PS X (.If c a b pos) (tIfS tc t u) := by
  intro pins s σ H D I h
  refine wpAny_If (thn (hc pins s σ H _ I h) fun d s1 ⟨H1, I1, q1⟩ => ?_)
  cases d with
  | true => exact ha pins s1 σ H1 D I1 q1
  | false => exact hb pins s1 σ H1 D I1 q1
end

abbrev TG := V → St → Hp → (St → Hp → Prop) → Prop
abbrev TGs := List V → St → Hp → (St → Hp → Prop) → Prop
def PG (X : Cx) (target : Expr) (t : TG) : Prop :=
  ∀ (pins : List (Addr × Obj)) (s : Shared) (σ : St) (H : Hp) (v : V) (u : Value) (Q : St → Hp → Prop), Inv X pins σ H s → RelV v u → t v σ H Q →
    wpAny (model X.prog X.w) X.A (assign target X.env u) (fun _ s' => ∃ σ' H', Inv X pins σ' H' s' ∧ Q σ' H') X.xe s
def PGs (X : Cx) (ts : List Expr) (t : TGs) : Prop :=
  ∀ (pins : List (Addr × Obj)) (s : Shared) (σ : St) (H : Hp) (vs : List V) (us : List Value) (Q : St → Hp → Prop), Inv X pins σ H s → Vals vs us → t vs σ H Q →
    wpAny (model X.prog X.w) X.A (assignInOrder ((assignEach ts X.env).map (·.2)) us) (fun _ s' => ∃ σ' H', Inv X pins σ' H' s' ∧ Q σ' H') X.xe s
abbrev TIp := V → V → Hp → VK → Prop
def PIp (X : Cx) (op : Operator) (t : TIp) : Prop :=
  ∀ (pins : List (Addr × Obj)) (s : Shared) (σ : St) (H : Hp) (x y : V) (v u : Value) (Q : VK), Inv X pins σ H s → RelV x v → RelV y u → t x y H Q →
    wpAny (model X.prog X.w) X.A (inplaceOp op v u) (EP X pins σ Q) X.xe s
section
variable {X : Cx} {pos : Pos}
def gName (i : Nat) : TG := fun v σ H Q => Q (σ.set i (some v)) H
theorem pg_name {i : Nat} {x : Str} (hN : X.N.Nodup) (hi : X.N[i]? = some x) (hx : Loc X.env.scope x) (hf : X.fn x = true ∨ X.env.scope.names.lookup x = some .local := by first | exact .inl rfl | exact .inr rfl | assumption) : PG X (.Name x pos) (gName i) := by
  intro pins s σ H v u Q I r h
  exact wpAny_assign_Name (store_ok I hN hi hx r (fun s' I' => ⟨_, H, I', h⟩) hf)
def gNil : TGs := fun vs σ H Q => vs = [] ∧ Q σ H
def gCons (t : TG) (u : TGs) : TGs := fun vs σ H Q => ∃ v r, vs = v :: r ∧ t v σ H fun σ' H' => u r σ' H' Q
theorem pgs_nil : PGs X [] gNil := by
  intro pins s σ H vs us Q I r h
  obtain ⟨e, h⟩ := h
  subst e
  cases r
  exact assignInOrder_nil ⟨σ, H, I, h⟩
theorem pgs_cons {e : Expr} {es : List Expr} {t : TG} {u : TGs} (h1 : PG X e t) (h2 : PGs X es u)
    (hs : (assignEach (e :: es) X.env).map (·.2) = assign e X.env :: (assignEach es X.env).map (·.2) := by rfl) : PGs X (e :: es) (gCons t u) := by
  intro pins s σ H vs us Q I r h
  obtain ⟨v, vr, e1, h⟩ := h
  subst e1
  cases r with
  | cons r rr =>
    rw [hs]
    refine assignInOrder_cons (thn (h1 pins s σ H _ _ _ I r h) fun _ s1 ⟨σ1, H1, I1, q1⟩ => ?_)
    exact h2 pins s1 σ1 H1 _ _ Q I1 rr q1
def gTup (K : PySem.W.Frag) (n : Nat) (t : TGs) : TG := fun v σ H Q => ∃ a xs, v = .ref a ∧ SqT K H a xs ∧ xs.length = n ∧ t xs σ H Q
theorem pg_tup {es : List Expr} {k : Nat} {t : TGs} {n : Nat} (hc : X.calm = true) (h : PGs X es t)
    (hn : (assignEach es X.env).length = n := by rfl) (hst : (assignEach es X.env).findIdx? (·.1) = none := by rfl) : PG X (.Tuple es k pos) (gTup X.K n t) := by
  intro pins s σ H v u Q I r hw
  obtain ⟨a, xs, e1, hq, hl, hw⟩ := hw
  subst e1
  cases r
  obtain ⟨its, rv, ht, hz⟩ := I.tuple hq
  refine assign_Tuple_tuple (I.ok.hd hc) ht (by simp [hn, ← hl, rv.length]) hst fun h' hx => ?_
  have I1 : Inv X pins σ H { s with heap := h' } := I.kept (t' := s.toks) fun b o e => hx b o (Nat.ne_of_lt (Heap.lt_size e)) e
  exact h pins _ σ H xs _ Q I1 (by simpa using rv) hw
def tAsg (te : TE) (g : TG) : TS := fun D σ H => te σ H fun x H1 => g x σ H1 D.nx
theorem ps_set {i : Nat} {x : Str} {e : Expr} {te : TE} {pos' : Pos} (hN : X.N.Nodup) (hi : X.N[i]? = some x) (hx : Loc X.env.scope x) (he : PE X e te) (hs : swapsWith e (some (.Name x pos')) pos.line X.env = pure false := by rfl) (hf : X.fn x = true ∨ X.env.scope.names.lookup x = some .local := by first | exact .inl rfl | exact .inr rfl | assumption) :
    PS X (.Assign [.Name x pos'] e pos) (tAsg te (gName i)) := by
  intro pins s σ H D I h
  refine wpAny_Assign_Name (thn (he pins s σ H _ I h) fun v s1 ⟨y, H1, I1, r1, q1⟩ => ?_) hs
  exact store_ok I1 hN hi hx r1 (fun s2 I2 => ⟨_, H1, I2, q1⟩) hf
def tAug (i : Nat) (te : TE) (ti : TIp) : TS := fun D σ H => ∃ x, σ[i]? = some (some x) ∧ te σ H fun y H1 => ti x y H1 fun z H2 => D.nx (σ.set i (some z)) H2
theorem ps_aug {i : Nat} {x : Str} {e : Expr} {te : TE} {op : Operator} {ti : TIp} {pos' : Pos} (hN : X.N.Nodup) (hi : X.N[i]? = some x) (hx : Loc X.env.scope x) (he : PE X e te) (ho : PIp X op ti) (hf : X.fn x = true ∨ X.env.scope.names.lookup x = some .local := by first | exact .inl rfl | exact .inr rfl | assumption) :
    PS X (.AugAssign (.Name x pos') op e pos) (tAug i te ti) := by
  intro pins s σ H D I h
  obtain ⟨v, e1, h⟩ := h
  obtain ⟨m, hn, hl⟩ := I.loc
  have vis : Vis X.env.scope x := by rcases hx with k | k; exact .inl k; exact .inr (.inl k)
  obtain ⟨u, r, l⟩ := hl i x v hi e1 vis
  refine wpAny_AugAssign_Name ?_
  have go : wpAny (model X.prog X.w) X.A (eval e X.env) (fun w s₂ => wpAny (model X.prog X.w) X.A (inplaceOp op u w) (fun r s₃ => wpAny (model X.prog X.w) X.A (storeName X.env x r) (fun _ => SP X pins D .next) X.xe s₃) X.xe s₂) X.xe s := by
    refine thn (he pins s σ H _ I h) fun w s1 ⟨y, H1, I1, r1, q1⟩ => ?_
    refine thn (ho pins s1 σ H1 v y u w _ I1 r r1 q1) fun z s2 ⟨zv, H2, I2, r2, q2⟩ => ?_
    exact store_ok I2 hN hi hx r2 (fun s3 I3 => ⟨_, H2, I3, q2⟩) hf
  rcases l with ⟨hk, hm⟩ | ⟨hk, c, hc, hcell⟩
  · exact wpAny_loadName_local I.ok.kind hk hn hm go
  · rcases hk with hk | hk
    · exact wpAny_loadName_cell I.ok.kind hk hc hcell go
    · rcases hx with k | k
      · have : X.env.scope.names.lookup x = some .free := hk
        rw [k] at this; cases this
      · have : X.env.scope.names.lookup x = some .free := hk
        rw [k] at this; cases this
def ipI (f : Int → Int → Int) : TIp := fun x y H Q => ∃ i j, x = .int i ∧ y = .int j ∧ Q (.int (f i j)) H
theorem ip_add : PIp X .Add (ipI fun i j => i + j) := by
  intro pins s σ H x y v u Q I r1 r2 h
  obtain ⟨i, j, e1, e2, q⟩ := h
  subst e1; subst e2
  obtain ⟨t, rfl⟩ := r1
  obtain ⟨t', rfl⟩ := r2
  exact iadd_int ⟨.int _, H, I.tok _, ⟨_, rfl⟩, q⟩
theorem ip_sub : PIp X .Sub (ipI fun i j => i - j) := by
  intro pins s σ H x y v u Q I r1 r2 h
  obtain ⟨i, j, e1, e2, q⟩ := h
  subst e1; subst e2
  obtain ⟨t, rfl⟩ := r1
  obtain ⟨t', rfl⟩ := r2
  exact isub_int ⟨.int _, H, I.tok _, ⟨_, rfl⟩, q⟩
end

section
variable {X : Cx} {pos : Pos}
end

structure It where
  go : Nat → Hp → Prop
  yld : Nat → Hp → V → Hp → Prop
  stop : Nat → Hp → Prop
def FpOk (X : Cx) (pins : List (Addr × Obj)) (H : Hp) (b : Addr) : Prop :=
  H b = none ∧ b ≠ X.env.locals ∧ b ∉ X.fs ∧ (b ∈ X.ex ∨ X.s_0.heap.objs.size ≤ b) ∧ (∀ x c, X.env.cells.lookup x = some c → c ≠ b) ∧ ∀ p ∈ X.pn ++ pins, p.1 ≠ b
theorem Inv.fpOk {X : Cx} {pins : List (Addr × Obj)} {σ : St} {H H' : Hp} {s : Shared} {b : Addr} (I : Inv X pins σ H s) (hb : s.heap.objs.size ≤ b) (hn : H' b = none) : FpOk X pins H' b := by
  refine ⟨hn, Nat.ne_of_gt (Nat.lt_of_lt_of_le I.lt hb), I.nofs hb, .inr (Nat.le_trans I.sz hb), fun x c e z => ?_, fun p hp z => ?_⟩
  · obtain ⟨v, q⟩ := I.cell x c e
    exact absurd (Nat.lt_of_lt_of_le q.lt (by rw [z]; exact hb)) (Nat.lt_irrefl _)
  · exact absurd (Nat.lt_of_lt_of_le (Heap.lt_size (I.pin p hp).1) (by rw [z]; exact hb)) (Nat.lt_irrefl _)
structure Turn (P : Program) (w : World) (K : PySem.W.Frag) (tg : Expr) (J : It) (fp : List Addr) (it : Addr) (tn : Nat → Heap → Prop) : Prop where
  mem : it ∈ fp
  obj : ∀ i h, tn i h → ∀ b ∈ fp, ∃ o, h.get? b = some o ∧ ∀ v, o.data ≠ .cell v
  keep : ∀ i h h', tn i h → (∀ b ∈ fp, ∀ o, h.get? b = some o → h'.get? b = some o) → tn i h'
  item : ∀ (X : Cx), X.prog = P → X.w = w → X.K = K → X.calm = true → ∀ (i : Nat) (pins : List (Addr × Obj)) (s : Shared) (σ : St) (H : Hp) (E : Value → Shared → Prop), Inv X pins σ H s → (∀ b ∈ fp, FpOk X pins H b) → tn i s.heap → J.go i H →
    wpAny (model P w) X.A (pyNext (.ref it)) (fun r s1 => ∃ u, r = some u ∧
      wpAny (model P w) X.A (letOwnedTupleGo tg (.ref it) u) (fun _ s2 => ∃ x H', Inv X pins σ H' s2 ∧ RelV x u ∧ J.yld i H x H' ∧ tn (i + 1) s2.heap ∧ ∀ b ∈ fp, H' b = none) E s1) E s
  done : ∀ (X : Cx), X.prog = P → X.w = w → X.K = K → X.calm = true → ∀ (i : Nat) (pins : List (Addr × Obj)) (s : Shared) (σ : St) (H : Hp) (E : Value → Shared → Prop), Inv X pins σ H s → (∀ b ∈ fp, FpOk X pins H b) → tn i s.heap → J.stop i H →
    wpAny (model P w) X.A (pyNext (.ref it)) (fun r s1 => r = none ∧ Inv X pins σ H s1) E s
  self : ∀ (A : Around) (i : Nat) (s : Shared) (Q : Value → Shared → Prop) (E : Value → Shared → Prop), tn i s.heap → Q (.ref it) s → wpAny (model P w) A (pyIter (.ref it)) Q E s
abbrev TI := St → Hp → (It → Hp → Prop) → Prop
def PIE (X : Cx) (pins : List (Addr × Obj)) (σ : St) (tg : Expr) (R : It → Hp → Prop) (itv : Value) (s2 : Shared) : Prop :=
  ∃ (it : Addr) (fp : List Addr) (tn : Nat → Heap → Prop) (J : It) (H' : Hp), itv = .ref it ∧ Inv X pins σ H' s2 ∧ Turn X.prog X.w X.K tg J fp it tn ∧ tn 0 s2.heap ∧ (∀ b ∈ fp, FpOk X pins H' b) ∧ R J H'
def PI (X : Cx) (tg iter : Expr) (wi : TI) : Prop :=
  ∀ (pins : List (Addr × Obj)) (s : Shared) (σ : St) (H : Hp) (R : It → Hp → Prop), Inv X pins σ H s → wi σ H R →
    wpAny (model X.prog X.w) X.A (eval iter X.env) (fun v s1 => wpAny (model X.prog X.w) X.A (pyIter v) (PIE X pins σ tg R) X.xe s1) X.xe s

theorem go_of {M : Model} {A : Around} {E : Value → Shared → Prop} {s : Shared} {tg : Expr} {it : Addr} {u : Value} {o : Obj} {n : String} {vs : Array Value} {Q : Unit → Shared → Prop} (ho : s.heap.get? it = some o) (hc : o.cls = .type n) (hd : o.data = .fields vs)
    (hn : ["enumerate", "zip", "dict_itemiterator", "dict_reverseitemiterator", "odict_iterator", "itertools.zip_longest", "itertools.pairwise"].contains n = false) (hQ : Q () s) : wpAny M A (letOwnedTupleGo tg (.ref it) u) Q E s := by
  unfold letOwnedTupleGo
  cases tg <;> first
    | exact wpAny_pure hQ
    | (cases u <;> first
        | exact wpAny_pure hQ
        | (refine wpAny_bind (wpAny_load ho ?_)
           rw [hc, hd]
           show wpAny M A (if (["enumerate", "zip", "dict_itemiterator", "dict_reverseitemiterator", "odict_iterator", "itertools.zip_longest", "itertools.pairwise"].contains n && vs[0]? == some (rawInt _)) = true then _ else _) Q E s
           rw [if_neg (by intro h; rw [hn, Bool.false_and] at h; cases h)]
           exact wpAny_pure hQ))

def Itl (K : PySem.W.Frag) (a : Addr) : It :=
  ⟨fun i H => ∃ xs x, SqL K H a xs ∧ xs[i]? = some x, fun i H x H' => H' = H ∧ ∀ xs, SqL K H a xs → xs[i]? = some x, fun i H => ∃ xs, SqL K H a xs ∧ xs.length ≤ i⟩
def Itt (K : PySem.W.Frag) (a : Addr) : It :=
  ⟨fun i H => ∃ xs x, SqT K H a xs ∧ xs[i]? = some x, fun i H x H' => H' = H ∧ ∀ xs, SqT K H a xs → xs[i]? = some x, fun i H => ∃ xs, SqT K H a xs ∧ xs.length ≤ i⟩
theorem turn_list {P : Program} {w : World} {K : PySem.W.Frag} {tg : Expr} (a it : Addr) : Turn P w K tg (Itl K a) [it] it (fun i h => h.IsListIter it a i) where
  mem := by simp
  obj := fun i h st b hb => by
    have e : b = it := by simpa using hb
    subst e
    obtain ⟨o, e, c, d⟩ := st
    exact ⟨o, e, fun v z => by rw [d] at z; cases z⟩
  keep := fun i h h' st k => st.at fun o e => k it (by simp) o e
  item := by
    intro X hP hw hK hc i pins s σ H E I hf st hg
    subst hP hw hK
    obtain ⟨xs, x, hq, hx⟩ := hg
    obtain ⟨its, rv, p, hz⟩ := I.list hq
    obtain ⟨u, hu, ru⟩ := rv.get hx
    obtain ⟨f0, f1, f2, f3, f4, f5⟩ := hf it (by simp)
    refine wpAny_pyNext_list_item st p.isList (x := u) (by simpa using hu) fun h' st' sb => ?_
    have I1 : Inv X pins σ H { s with heap := h' } := I.turned (t' := s.toks) (fun b o hb e => (sb.2 b hb).trans e) f0 f1 f3 f4 f5
    obtain ⟨o, e, c, d⟩ := id st'
    exact ⟨u, rfl, go_of (s := { s with heap := h' }) e c d (by decide) ⟨x, H, I1, ru, ⟨rfl, fun ys hy => by rw [I.list_inj hy hq]; exact hx⟩, st', fun b hb => (hf b hb).1⟩⟩
  done := by
    intro X hP hw hK hc i pins s σ H E I hf st hg
    subst hP hw hK
    obtain ⟨xs, hq, hx⟩ := hg
    obtain ⟨its, rv, p, hz⟩ := I.list hq
    obtain ⟨f0, f1, f2, f3, f4, f5⟩ := hf it (by simp)
    have hl := rv.length
    exact wpAny_pyNext_list_end (I.ok.hd hc) st p.isList (by simp; omega) fun h' eb => ⟨rfl, I.turned (t' := s.toks) (fun b o hb e => eb b o hb e) f0 f1 f3 f4 f5⟩
  self := fun _ _ _ _ _ st h => wpAny_pyIter_listiter st h
theorem turn_tuple {P : Program} {w : World} {K : PySem.W.Frag} {tg : Expr} (a it : Addr) : Turn P w K tg (Itt K a) [it] it (fun i h => h.IsTupleIter it a i) where
  mem := by simp
  obj := fun i h st b hb => by
    have e : b = it := by simpa using hb
    subst e
    obtain ⟨o, e, c, d⟩ := st
    exact ⟨o, e, fun v z => by rw [d] at z; cases z⟩
  keep := fun i h h' st k => st.at fun o e => k it (by simp) o e
  item := by
    intro X hP hw hK hc i pins s σ H E I hf st hg
    subst hP hw hK
    obtain ⟨xs, x, hq, hx⟩ := hg
    obtain ⟨its, rv, p, hz⟩ := I.tuple hq
    obtain ⟨u, hu, ru⟩ := rv.get hx
    obtain ⟨f0, f1, f2, f3, f4, f5⟩ := hf it (by simp)
    refine wpAny_pyNext_tuple_item st (show s.heap.IsTuple a its.toArray from p) (x := u) (by simpa using hu) fun h' st' sb => ?_
    have I1 : Inv X pins σ H { s with heap := h' } := I.turned (t' := s.toks) (fun b o hb e => (sb.2 b hb).trans e) f0 f1 f3 f4 f5
    obtain ⟨o, e, c, d⟩ := id st'
    exact ⟨u, rfl, go_of (s := { s with heap := h' }) e c d (by decide) ⟨x, H, I1, ru, ⟨rfl, fun ys hy => by rw [I.tuple_inj hy hq]; exact hx⟩, st', fun b hb => (hf b hb).1⟩⟩
  done := by
    intro X hP hw hK hc i pins s σ H E I hf st hg
    subst hP hw hK
    obtain ⟨xs, hq, hx⟩ := hg
    obtain ⟨its, rv, p, hz⟩ := I.tuple hq
    obtain ⟨f0, f1, f2, f3, f4, f5⟩ := hf it (by simp)
    have hl := rv.length
    exact wpAny_pyNext_tuple_end (I.ok.hd hc) st (show s.heap.IsTuple a its.toArray from p) (by simp; omega) fun h' eb => ⟨rfl, I.turned (t' := s.toks) (fun b o hb e => eb b o hb e) f0 f1 f3 f4 f5⟩
  self := fun _ _ _ _ _ st h => wpAny_pyIter_tupleiter st h
end L2

namespace L2
open PySem PySem.Spec PyProof.Rows
section
variable {X : Cx} {tg : Expr}
def iList (K : PySem.W.Frag) (tl : TE) : TI := fun σ H R => tl σ H fun x H1 => ∃ a, x = .ref a ∧ (∃ xs, SqL K H1 a xs) ∧ R (Itl K a) H1
def iTup (K : PySem.W.Frag) (tl : TE) : TI := fun σ H R => tl σ H fun x H1 => ∃ a, x = .ref a ∧ (∃ xs, SqT K H1 a xs) ∧ R (Itt K a) H1
theorem pi_list {l : Expr} {tl : TE} (hl : PE X l tl) : PI X tg l (iList X.K tl) := by
  intro pins s σ H R I h
  refine thn (hl pins s σ H _ I h) fun v s1 ⟨x, H1, I1, r1, q1⟩ => ?_
  obtain ⟨a, e, ⟨xs, hq⟩, q⟩ := q1
  subst e
  cases r1
  obtain ⟨its, rv, p, hz⟩ := I1.list hq
  refine wpAny_pyIter_list p.isList ?_
  refine ⟨s1.heap.objs.size, [s1.heap.objs.size], _, _, H1, rfl, I1.kept (t' := s1.toks) fun b o e => Heap.get?_push_of_some _ e, turn_list a _, ⟨_, Heap.get?_push_size _ rfl, rfl, rfl⟩, fun b hb => ?_, q⟩
  have e : b = s1.heap.objs.size := by simpa using hb
  subst e
  exact I1.fpOk (Nat.le_refl _) (I1.hok.fresh (Nat.le_refl _))
theorem pi_tup {l : Expr} {tl : TE} (hl : PE X l tl) : PI X tg l (iTup X.K tl) := by
  intro pins s σ H R I h
  refine thn (hl pins s σ H _ I h) fun v s1 ⟨x, H1, I1, r1, q1⟩ => ?_
  obtain ⟨a, e, ⟨xs, hq⟩, q⟩ := q1
  subst e
  cases r1
  obtain ⟨its, rv, p, hz⟩ := I1.tuple hq
  refine wpAny_pyIter_tuple (show s1.heap.IsTuple a its.toArray from p) ?_
  refine ⟨s1.heap.objs.size, [s1.heap.objs.size], _, _, H1, rfl, I1.kept (t' := s1.toks) fun b o e => Heap.get?_push_of_some _ e, turn_tuple a _, ⟨_, Heap.get?_push_size _ rfl, rfl, rfl⟩, fun b hb => ?_, q⟩
  have e : b = s1.heap.objs.size := by simpa using hb
  subst e
  exact I1.fpOk (Nat.le_refl _) (I1.hok.fresh (Nat.le_refl _))
def tFor (wi : TI) (g : TG) (tb : TS) : TS := fun D σ H => wi σ H fun J H1 => ∃ W : Nat → Nat → St → Hp → Prop, (∃ m, W 0 m σ H1) ∧ ∀ i m σ H, W i m σ H →
  (J.stop i H ∧ D.nx σ H) ∨ (J.go i H ∧ ∃ N : St → Hp → Prop, (∀ σ' H', N σ' H' → ∃ m', m' < m ∧ W (i + 1) m' σ' H') ∧ ∀ x H', J.yld i H x H' → g x σ H' fun σ2 H2 => tb { D with nx := N, ct := N, bk := D.nx } σ2 H2)
def pinsAt (fp : List Addr) (h : Heap) : List (Addr × Obj) := fp.filterMap fun b => (h.get? b).map fun o => (b, o)
theorem mem_pinsAt {fp : List Addr} {h : Heap} {b : Addr} {o : Obj} (hb : b ∈ fp) (e : h.get? b = some o) : (b, o) ∈ pinsAt fp h := List.mem_filterMap.mpr ⟨b, hb, by rw [e]; rfl⟩
theorem of_pinsAt {fp : List Addr} {h : Heap} {p : Addr × Obj} (hp : p ∈ pinsAt fp h) : p.1 ∈ fp ∧ h.get? p.1 = some p.2 := by
  obtain ⟨b, hb, e⟩ := List.mem_filterMap.mp hp
  cases q : h.get? b with
  | none => rw [q] at e; cases e
  | some o =>
    rw [q] at e
    have e' : (b, o) = p := Option.some.inj e
    subst e'
    exact ⟨hb, q⟩
theorem Inv.pinned {pins : List (Addr × Obj)} {σ : St} {H : Hp} {s : Shared} {fp : List Addr} (I : Inv X pins σ H s) (hf : ∀ b ∈ fp, FpOk X pins H b) (ho : ∀ b ∈ fp, ∃ o, s.heap.get? b = some o ∧ ∀ v, o.data ≠ .cell v) : Inv X (pins ++ pinsAt fp s.heap) σ H s :=
  I.pins_of fun p hp => (List.mem_append.mp hp).elim (fun z => I.pin p (List.mem_append_right _ z)) fun z => by
    obtain ⟨hb, e⟩ := of_pinsAt z
    obtain ⟨f0, f1, f2, _⟩ := hf p.1 hb
    obtain ⟨o, e', d⟩ := ho p.1 hb
    rw [e] at e'; cases e'
    exact ⟨e, f0, f1, f2, d⟩
theorem Inv.unpinned {pins pl : List (Addr × Obj)} {σ : St} {H : Hp} {s : Shared} (I : Inv X (pins ++ pl) σ H s) : Inv X pins σ H s := I.pins_of fun p hp => I.pin p (List.mem_append_right _ (List.mem_append_left _ hp))
theorem ps_for {iter : Expr} {body : List Stmt} {wi : TI} {g : TG} {tb : TS} {pos : Pos} (hp : PassesOwn (model X.prog X.w) X.A X.env X.xe) (hc : X.calm = true) (hi : PI X tg iter wi) (hg : PG X tg g) (hb : PSs X body tb)
    (hs : ∀ x, foldedSetIterable iter X.env x = pure x := by intro _; rfl) : PS X (.For tg iter body [] pos) (tFor wi g tb) := by
  intro pins s σ H D I h
  refine wpAny_For (thn (hi pins s σ H _ I h) fun v s1 h1 => thn h1 fun itv s2 h2 => ?_) hs
  obtain ⟨it, fp, tn, J, H2, e, I2, T, st2, f2, W, ⟨m0, w0⟩, turn⟩ := h2
  subst e
  -- what stays true of the iterator's objects through the loop
  have stat : ∀ {H' : Hp}, (∀ b ∈ fp, H' b = none) → ∀ b ∈ fp, FpOk X pins H' b := fun hn b hb => ⟨hn b hb, (f2 b hb).2⟩
  refine codeAny_forLoop_any (fun n s' => ∃ i σ' H', Inv X pins σ' H' s' ∧ tn i s'.heap ∧ (∀ b ∈ fp, H' b = none) ∧ W i n σ' H') ?_ m0 ⟨0, σ, H2, I2, st2, fun b hb => (f2 b hb).1, w0⟩
  rintro n s3 ⟨i, σ3, H3, I3, st3, fr3, w3⟩
  rcases turn i n σ3 H3 w3 with ⟨stop, qn⟩ | ⟨go, N, hN, step⟩
  · refine wpAny_passesOwn hp (thn (T.done X rfl rfl rfl hc i pins s3 σ3 H3 X.xe I3 (stat fr3) st3 stop) fun r s4 ⟨hr, I4⟩ => ?_)
    subst hr
    exact wpAny_execs_nil ⟨σ3, H3, I4, qn⟩
  · refine wpAny_passesOwn hp (thn (T.item X rfl rfl rfl hc i pins s3 σ3 H3 X.xe I3 (stat fr3) st3 go) fun r s4 ⟨u, hr, h4⟩ => ?_)
    subst hr
    refine wpAny_passesOwn hp (thn h4 fun _ s5 ⟨x, H5, I5, r5, y5, st5, fr5⟩ => ?_)
    have I5' := I5.pinned (stat fr5) (T.obj _ _ st5)
    refine wpAny_passesOwn hp (thn (hg _ s5 σ3 H5 x u _ I5' r5 (step x H5 y5)) fun _ s6 ⟨σ6, H6, I6, q6⟩ => ?_)
    refine wpAny_passesOwn hp (thn (hb _ s6 σ6 H6 _ I6 q6) fun f s7 q7 => ?_)
    have again : ∀ {σ7 : St} {H7 : Hp}, Inv X (pins ++ pinsAt fp s5.heap) σ7 H7 s7 → N σ7 H7 → ∃ m, m < n ∧ ∃ i σ' H', Inv X pins σ' H' s7 ∧ tn i s7.heap ∧ (∀ b ∈ fp, H' b = none) ∧ W i m σ' H' := fun {σ7 H7} I7 n7 => by
      obtain ⟨m', hm, w7⟩ := hN σ7 H7 n7
      refine ⟨m', hm, i + 1, σ7, H7, I7.unpinned, T.keep _ _ _ st5 fun b hb o e => (I7.pin (b, o) (List.mem_append_right _ (List.mem_append_right _ (mem_pinsAt hb e)))).1, fun b hb => ?_, w7⟩
      obtain ⟨o, e, d⟩ := T.obj _ _ st5 b hb
      exact (I7.pin (b, o) (List.mem_append_right _ (List.mem_append_right _ (mem_pinsAt hb e)))).2.1
    cases f with
    | next => obtain ⟨σ7, H7, I7, n7⟩ := q7; exact again I7 n7
    | cont => obtain ⟨σ7, H7, I7, n7⟩ := q7; exact again I7 n7
    | brk => obtain ⟨σ7, H7, I7, q7⟩ := q7; exact ⟨σ7, H7, I7.unpinned, q7⟩
    | ret v => obtain ⟨x7, σ7, H7, I7, r7, q7⟩ := q7; exact ⟨x7, σ7, H7, I7.unpinned, r7, q7⟩
end

theorem for_list {K : PySem.W.Frag} {a : Addr} {xs : List V} {g : TG} {tb : TS} {D : Ends} {σ : St} {H : Hp} (Pv : Nat → St → Hp → Prop) (h0 : Pv 0 σ H) (hl : ∀ i σ H, i ≤ xs.length → Pv i σ H → SqL K H a xs)
    (hs : ∀ i x σ H, xs[i]? = some x → Pv i σ H → g x σ H fun σ2 H2 => tb { D with nx := Pv (i + 1), ct := Pv (i + 1), bk := D.nx } σ2 H2) (hd : ∀ σ H, Pv xs.length σ H → D.nx σ H) :
    ∃ W : Nat → Nat → St → Hp → Prop, (∃ m, W 0 m σ H) ∧ ∀ i m σ H, W i m σ H →
      ((Itl K a).stop i H ∧ D.nx σ H) ∨ ((Itl K a).go i H ∧ ∃ N : St → Hp → Prop, (∀ σ' H', N σ' H' → ∃ m', m' < m ∧ W (i + 1) m' σ' H') ∧ ∀ x H', (Itl K a).yld i H x H' → g x σ H' fun σ2 H2 => tb { D with nx := N, ct := N, bk := D.nx } σ2 H2) := by
  refine ⟨fun i m σ H => m = xs.length - i ∧ i ≤ xs.length ∧ Pv i σ H, ⟨xs.length, by simp, Nat.zero_le _, h0⟩, ?_⟩
  rintro i m σ H ⟨rfl, hi, p⟩
  have q := hl i σ H hi p
  by_cases hlt : i < xs.length
  · refine .inr ⟨⟨xs, xs[i], q, by simp [hlt]⟩, Pv (i + 1), fun σ' H' p' => ⟨xs.length - (i + 1), by omega, rfl, hlt, p'⟩, fun x H' y => ?_⟩
    obtain ⟨e, y⟩ := y
    subst e
    exact hs i x σ _ (y xs q) p
  · have e : i = xs.length := by omega
    subst e
    exact .inl ⟨⟨xs, q, Nat.le_refl _⟩, hd σ H p⟩
end L2

namespace L2
open PySem PySem.Spec PyProof.Rows

abbrev R2 := V → V → Hp → VK → Prop
def OpR (X : Cx) (f : Value → Value → Sem Value) (r : R2) : Prop :=
  ∀ (pins : List (Addr × Obj)) (s : Shared) (σ : St) (H : Hp) (x y : V) (v u : Value) (Q : VK), Inv X pins σ H s → RelV x v → RelV y u → r x y H Q →
    wpAny (model X.prog X.w) X.A (f v u) (EP X pins σ Q) X.xe s
def UnR (X : Cx) (f : Value → Sem Value) (r : V → Hp → VK → Prop) : Prop :=
  ∀ (pins : List (Addr × Obj)) (s : Shared) (σ : St) (H : Hp) (x : V) (v : Value) (Q : VK), Inv X pins σ H s → RelV x v → r x H Q →
    wpAny (model X.prog X.w) X.A (f v) (EP X pins σ Q) X.xe s
def CallR (X : Cx) (f : Value) (r : List V → Hp → VK → Prop) : Prop :=
  ∀ (pins : List (Addr × Obj)) (s : Shared) (σ : St) (H : Hp) (xs : List V) (us : List Value) (Q : VK), Inv X pins σ H s → Vals xs us → r xs H Q →
    wpAny (model X.prog X.w) X.A (call f us) (EP X pins σ Q) X.xe s
def tOp (r : R2) (ta tb : TE) : TE := fun σ H Q => ta σ H fun x H1 => tb σ H1 fun y H2 => r x y H2 Q
def tUn (r : V → Hp → VK → Prop) (ta : TE) : TE := fun σ H Q => ta σ H fun x H1 => r x H1 Q
def rI (C : Int → Int → Prop) (g : Int → Int → V) : R2 := fun x y H Q => ∃ i j, x = .int i ∧ y = .int j ∧ C i j ∧ Q (g i j) H
def rI0 (g : Int → Int → V) : R2 := fun x y H Q => ∃ i j, x = .int i ∧ y = .int j ∧ Q (g i j) H
def rU (g : Int → V) : V → Hp → VK → Prop := fun x H Q => ∃ i, x = .int i ∧ Q (g i) H

section
variable {X : Cx} {a b c : Expr} {ta tb tc : TE} {pos : Pos}

theorem binT (ha : PE X a ta) (hb : PE X b tb) {pins : List (Addr × Obj)} {s : Shared} {σ : St} {H : Hp} {R : V → V → Hp → Prop} (I : Inv X pins σ H s)
    (h : ta σ H fun x H1 => tb σ H1 fun y H2 => R x y H2) {Q : Value → Shared → Prop} {f : Value → Value → Sem Value}
    (hf : ∀ v u s2 x y H2, Inv X pins σ H2 s2 → RelV x v → RelV y u → R x y H2 → wpAny (model X.prog X.w) X.A (f v u) Q X.xe s2) :
    wpAny (model X.prog X.w) X.A (eval a X.env) (fun v s₁ => wpAny (model X.prog X.w) X.A (eval b X.env) (fun u s₂ => wpAny (model X.prog X.w) X.A (f v u) Q X.xe s₂) X.xe s₁) X.xe s := by
  refine thn (ha pins s σ H _ I h) fun v s1 ⟨x, H1, I1, r1, q1⟩ => ?_
  refine thn (hb pins s1 σ H1 _ I1 q1) fun u s2 ⟨y, H2, I2, r2, q2⟩ => ?_
  exact hf v u s2 x y H2 I2 r1 r2 q2

theorem pe_op {op : Operator} {r : R2} (ho : OpR X (binaryOp op) r) (ha : PE X a ta) (hb : PE X b tb) : PE X (.BinOp a op b pos) (tOp r ta tb) := by
  intro pins s σ H Q I h
  exact wpAny_BinOp (binT ha hb I h fun v u s2 x y H2 I2 rx ry q => ho pins s2 σ H2 x y v u Q I2 rx ry q)
theorem pe_un {op : UnaryOp} {r : V → Hp → VK → Prop} (ho : UnR X (unaryOp op) r) (ha : PE X a ta) : PE X (.UnaryOp op a pos) (tUn r ta) := by
  intro pins s σ H Q I h
  exact UnaryOp_ (thn (ha pins s σ H _ I h) fun v s1 ⟨x, H1, I1, r1, q1⟩ => ho pins s1 σ H1 x v Q I1 r1 q1)
theorem opI {f : Value → Value → Sem Value} {C : Int → Int → Prop} {g : Int → Int → Int}
    (rule : ∀ (i j : Int) (t u : Tok) (s : Shared) (Q : Value → Shared → Prop) (E : Value → Shared → Prop), C i j → Q (.int (g i j) s.toks) { s with toks := s.toks + 1 } → wpAny (model X.prog X.w) X.A (f (.int i t) (.int j u)) Q E s) :
    OpR X f (rI C fun i j => .int (g i j)) := by
  intro pins s σ H x y v u Q I rx ry h
  obtain ⟨i, j, rfl, rfl, hc, q⟩ := h
  obtain ⟨t, rfl⟩ := rx
  obtain ⟨t', rfl⟩ := ry
  exact rule i j t t' s _ _ hc ⟨.int (g i j), H, I.tok _, ⟨_, rfl⟩, q⟩
theorem opI0 {f : Value → Value → Sem Value} {g : Int → Int → Int}
    (rule : ∀ (i j : Int) (t u : Tok) (s : Shared) (Q : Value → Shared → Prop) (E : Value → Shared → Prop), Q (.int (g i j) s.toks) { s with toks := s.toks + 1 } → wpAny (model X.prog X.w) X.A (f (.int i t) (.int j u)) Q E s) :
    OpR X f (rI0 fun i j => .int (g i j)) := by
  intro pins s σ H x y v u Q I rx ry h
  obtain ⟨i, j, rfl, rfl, q⟩ := h
  obtain ⟨t, rfl⟩ := rx
  obtain ⟨t', rfl⟩ := ry
  exact rule i j t t' s _ _ ⟨.int (g i j), H, I.tok _, ⟨_, rfl⟩, q⟩
theorem opB0 {f : Value → Value → Sem Value} {g : Int → Int → Bool}
    (rule : ∀ (i j : Int) (t u : Tok) (s : Shared) (Q : Value → Shared → Prop) (E : Value → Shared → Prop), Q (.bool (g i j)) s → wpAny (model X.prog X.w) X.A (f (.int i t) (.int j u)) Q E s) :
    OpR X f (rI0 fun i j => .bl (g i j)) := by
  intro pins s σ H x y v u Q I rx ry h
  obtain ⟨i, j, rfl, rfl, q⟩ := h
  obtain ⟨t, rfl⟩ := rx
  obtain ⟨t', rfl⟩ := ry
  exact rule i j t t' s _ _ ⟨.bl (g i j), H, I, rfl, q⟩

def CMul (i j : Int) : Prop := (-(2 ^ 64) < i ∧ i < 2 ^ 64) ∨ (-(2 ^ 64) < j ∧ j < 2 ^ 64)
theorem CMul.ok {i j : Int} (h : CMul i j) : IntMulOk i j := by
  rcases h with ⟨h1, h2⟩ | ⟨h1, h2⟩
  · exact .of_left (intBits_le_64 h1 h2)
  · exact .of_right (intBits_le_64 h1 h2)
theorem two_pow_nn (k : Nat) : (0 : Int) ≤ 2 ^ k := by
  rw [two_pow_cast]
  exact Int.natCast_nonneg _

theorem op_add : OpR X (binaryOp .Add) (rI0 fun i j => .int (i + j)) := opI0 fun _ _ _ _ _ _ _ q => add_int q
theorem op_sub : OpR X (binaryOp .Sub) (rI0 fun i j => .int (i - j)) := opI0 fun _ _ _ _ _ _ _ q => sub_int q
theorem op_mod : OpR X (binaryOp .Mod) (rI (fun _ j => 0 < j) fun i j => .int (i % j)) := opI fun i j _ _ _ _ _ hc q => by
  have h1 : (0 : Int) < j := hc
  exact mod_int' (by omega) (by rw [Int.fmod_eq_emod_of_nonneg i (by omega)]; exact q)
theorem op_shr : OpR X (binaryOp .RShift) (rI (fun _ j => 0 ≤ j) fun i j => .int (i / 2 ^ j.toNat)) := opI fun i j _ _ _ _ _ hc q =>
  rshift_int hc (by rw [Int.fdiv_eq_ediv_of_nonneg i (two_pow_nn _)]; exact q)
theorem op_and : OpR X (binaryOp .BitAnd) (rI0 fun i j => .int (Builtin.bitAnd i j)) := opI0 fun _ _ _ _ _ _ _ q => and_int q
theorem unI {f : Value → Sem Value} {g : Int → Int}
    (rule : ∀ (i : Int) (t : Tok) (s : Shared) (Q : Value → Shared → Prop) (E : Value → Shared → Prop), Q (.int (g i) s.toks) { s with toks := s.toks + 1 } → wpAny (model X.prog X.w) X.A (f (.int i t)) Q E s) :
    UnR X f (rU fun i => .int (g i)) := by
  intro pins s σ H x v Q I rx h
  obtain ⟨i, rfl, q⟩ := h
  obtain ⟨t, rfl⟩ := rx
  exact rule i t s _ _ ⟨.int (g i), H, I.tok _, ⟨_, rfl⟩, q⟩
theorem un_neg : UnR X (unaryOp .USub) (rU fun i => .int (-i)) := unI fun _ _ _ _ _ q => neg_int q
end

def scal : V → V → Bool
  | .non, .non => true | .non, .int _ => true | .int _, .non => true | .non, .bl _ => true | .bl _, .non => true | .non, .str _ => true | .str _, .non => true
  | .int _, .int _ => true | .bl _, .bl _ => true | .str _, .str _ => true | .byt _, .byt _ => true
  | .int _, .str _ => true | .str _, .int _ => true | .bl _, .str _ => true | .str _, .bl _ => true
  | _, _ => false
def rEq : R2 := fun x y H Q => scal x y = true ∧ Q (.bl (decide (x = y))) H
def rNe : R2 := fun x y H Q => scal x y = true ∧ Q (.bl (!decide (x = y))) H

theorem dec_int {i j : Int} : decide (V.int i = V.int j) = (i == j) := by
  rw [Bool.eq_iff_iff]
  simp
theorem dec_bl {i j : Bool} : decide (V.bl i = V.bl j) = (i == j) := by
  rw [Bool.eq_iff_iff]
  simp
theorem dec_str {i j : Str} : decide (V.str i = V.str j) = (i == j) := by
  rw [Bool.eq_iff_iff]
  simp
theorem dec_byt {i j : Array UInt8} : decide (V.byt i = V.byt j) = (i.toList == j.toList) := by
  rw [Bool.eq_iff_iff]
  cases i
  cases j
  simp

section
variable {X : Cx} {a b c : Expr} {ta tb tc : TE} {pos : Pos}
theorem fin_bl {pins : List (Addr × Obj)} {σ : St} {H : Hp} {s : Shared} {Q : VK} {k k' : Bool} (I : Inv X pins σ H s) (q : Q (.bl k) H) (e : k = k') : EP X pins σ Q (.bool k') s := by
  subst e
  exact ⟨.bl k, H, I, rfl, q⟩
theorem op_eq : OpR X (compareOp .Eq) rEq := by
  intro pins s σ H x y v u Q I rx ry h
  obtain ⟨hs, q⟩ := h
  cases x with
  | non =>
    cases rx
    cases y with
    | non => cases ry; exact PySem.EqNone.eq_none_none (fin_bl I q (by simp))
    | bl j => cases ry; exact PySem.EqNone.eq_none_bool (fin_bl I q (by simp))
    | int j => obtain ⟨t', rfl⟩ := ry; exact PySem.EqNone.eq_none_int (fin_bl I q (by simp))
    | str j => obtain ⟨t', rfl⟩ := ry; exact PySem.EqNone.eq_none_str (fin_bl I q (by simp))
    | _ => exact absurd (show false = true from hs) Bool.false_ne_true
  | bl i =>
    cases rx
    cases y with
    | non => cases ry; exact PySem.EqNone.eq_bool_none (fin_bl I q (by simp))
    | bl j => cases ry; exact eq_bool (fin_bl I q dec_bl)
    | str j => obtain ⟨t', rfl⟩ := ry; exact PySem.EqMixed.eq_bool_str (fin_bl I q (by simp))
    | _ => exact absurd (show false = true from hs) Bool.false_ne_true
  | int i =>
    obtain ⟨t, rfl⟩ := rx
    cases y with
    | non => cases ry; exact PySem.EqNone.eq_int_none (fin_bl I q (by simp))
    | int j => obtain ⟨t', rfl⟩ := ry; exact eq_int (fin_bl I q dec_int)
    | str j => obtain ⟨t', rfl⟩ := ry; exact PySem.EqMixed.eq_int_str (fin_bl I q (by simp))
    | _ => exact absurd (show false = true from hs) Bool.false_ne_true
  | str i =>
    obtain ⟨t, rfl⟩ := rx
    cases y with
    | non => cases ry; exact PySem.EqNone.eq_str_none (fin_bl I q (by simp))
    | bl j => cases ry; exact PySem.EqMixed.eq_str_bool (fin_bl I q (by simp))
    | int j => obtain ⟨t', rfl⟩ := ry; exact PySem.EqMixed.eq_str_int (fin_bl I q (by simp))
    | str j => obtain ⟨t', rfl⟩ := ry; exact eq_str (fin_bl I q dec_str)
    | _ => exact absurd (show false = true from hs) Bool.false_ne_true
  | byt i =>
    obtain ⟨t, rfl⟩ := rx
    cases y with
    | byt j => obtain ⟨t', rfl⟩ := ry; exact PySem.W.eq_bytes (fin_bl I q dec_byt)
    | _ => exact absurd (show false = true from hs) Bool.false_ne_true
  | _ => cases y <;> exact absurd (show false = true from hs) Bool.false_ne_true
theorem op_ne : OpR X (compareOp .NotEq) rNe := by
  intro pins s σ H x y v u Q I rx ry h
  obtain ⟨hs, q⟩ := h
  cases x with
  | non =>
    cases rx
    cases y with
    | non => cases ry; exact PySem.EqNone.ne_none_none (fin_bl I q (by simp))
    | bl j => cases ry; exact PySem.EqNone.ne_none_bool (fin_bl I q (by simp))
    | int j => obtain ⟨t', rfl⟩ := ry; exact PySem.EqNone.ne_none_int (fin_bl I q (by simp))
    | str j => obtain ⟨t', rfl⟩ := ry; exact PySem.EqNone.ne_none_str (fin_bl I q (by simp))
    | _ => exact absurd (show false = true from hs) Bool.false_ne_true
  | bl i =>
    cases rx
    cases y with
    | non => cases ry; exact PySem.EqNone.ne_bool_none (fin_bl I q (by simp))
    | bl j => cases ry; exact ne_bool (fin_bl I q (congrArg not dec_bl))
    | str j => obtain ⟨t', rfl⟩ := ry; exact PySem.EqMixed.ne_bool_str (fin_bl I q (by simp))
    | _ => exact absurd (show false = true from hs) Bool.false_ne_true
  | int i =>
    obtain ⟨t, rfl⟩ := rx
    cases y with
    | non => cases ry; exact PySem.EqNone.ne_int_none (fin_bl I q (by simp))
    | int j => obtain ⟨t', rfl⟩ := ry; exact ne_int (fin_bl I q (congrArg not dec_int))
    | str j => obtain ⟨t', rfl⟩ := ry; exact PySem.EqMixed.ne_int_str (fin_bl I q (by simp))
    | _ => exact absurd (show false = true from hs) Bool.false_ne_true
  | str i =>
    obtain ⟨t, rfl⟩ := rx
    cases y with
    | non => cases ry; exact PySem.EqNone.ne_str_none (fin_bl I q (by simp))
    | bl j => cases ry; exact PySem.EqMixed.ne_str_bool (fin_bl I q (by simp))
    | int j => obtain ⟨t', rfl⟩ := ry; exact PySem.EqMixed.ne_str_int (fin_bl I q (by simp))
    | str j => obtain ⟨t', rfl⟩ := ry; exact ne_str (fin_bl I q (congrArg not dec_str))
    | _ => exact absurd (show false = true from hs) Bool.false_ne_true
  | byt i =>
    obtain ⟨t, rfl⟩ := rx
    cases y with
    | byt j => obtain ⟨t', rfl⟩ := ry; exact PySem.W.ne_bytes (fin_bl I q (congrArg not dec_byt))
    | _ => exact absurd (show false = true from hs) Bool.false_ne_true
  | _ => cases y <;> exact absurd (show false = true from hs) Bool.false_ne_true

theorem op_lt : OpR X (compareOp .Lt) (rI0 fun i j => .bl (decide (i < j))) := opB0 fun _ _ _ _ _ _ _ q => lt_int q
theorem op_le : OpR X (compareOp .LtE) (rI0 fun i j => .bl (decide (i ≤ j))) := opB0 fun _ _ _ _ _ _ _ q => le_int q
theorem op_gt : OpR X (compareOp .Gt) (rI0 fun i j => .bl (decide (j < i))) := opB0 fun _ _ _ _ _ _ _ q => gt_int q
theorem OpR.or {f : Value → Value → Sem Value} {r r' : R2} (h : OpR X f r) (h' : OpR X f r') : OpR X f (fun x y H Q => r x y H Q ∨ r' x y H Q) := by
  intro pins s σ H x y v u Q I rx ry q
  rcases q with q | q
  · exact h pins s σ H x y v u Q I rx ry q
  · exact h' pins s σ H x y v u Q I rx ry q

theorem nomark (b : Expr) {op : CmpOp} (h : op ≠ .In := by decide) (h2 : op ≠ .NotIn := by decide) : behindInMarks op b = false := by
  have e1 : (op == CmpOp.In) = false := by cases op <;> first | rfl | exact absurd rfl h
  have e2 : (op == CmpOp.NotIn) = false := by cases op <;> first | rfl | exact absurd rfl h2
  cases b <;> simp [behindInMarks, e1, e2]
theorem pe_cmpR {op : CmpOp} {r : R2} (ho : OpR X (compareOp op) r) (ha : PE X a ta) (hb : PE X b tb) (hm : behindInMarks op b = false) : PE X (.Compare a [op] [b] pos) (tOp r ta tb) := by
  intro pins s σ H Q I h
  exact wpAny_Compare1 (binT ha hb I h fun v u s2 x y H2 I2 rx ry q => ho pins s2 σ H2 x y v u Q I2 rx ry q) hm
def tTest (t : TE) : TT := fun σ H Q => t σ H fun x H' => ∃ k, x = .bl k ∧ Q k H'
theorem pt_cmpR {op : CmpOp} {r : R2} (ho : OpR X (compareOp op) r) (ha : PE X a ta) (hb : PE X b tb) (hm : behindInMarks op b = false) : PT X (.Compare a [op] [b] pos) (tTest (tOp r ta tb)) := by
  intro pins s σ H Q I h
  refine wpAny_isTrue_Compare1 (thn (ha pins s σ H _ I h) fun v s1 ⟨x, H1, I1, r1, q1⟩ => thn (hb pins s1 σ H1 _ I1 q1) fun u s2 ⟨y, H2, I2, r2, q2⟩ =>
    thn (ho pins s2 σ H2 x y v u _ I2 r1 r2 q2) fun c s3 ⟨z, H3, I3, r3, k, e, q3⟩ => ?_) hm
  subst e
  cases r3
  exact wpAny_truthy_bool ⟨H3, I3, q3⟩
def tChain (r r' : R2) (ta tb tc : TE) : TE := fun σ H Q => ta σ H fun x H1 => tb σ H1 fun y H2 => r x y H2 fun z H3 => ∃ k, z = .bl k ∧
  (if k = true then tc σ H3 fun w' H4 => r' y w' H4 Q else Q (.bl false) H3)
theorem line63 : (sizeLine : Nat) < 2 ^ 63 := by rw [sizeLine_eq]; decide
theorem vals1 {x : V} {us : List Value} (r : Vals [x] us) : ∃ u, us = [u] ∧ RelV x u := by
  cases r with
  | cons r1 r2 => cases r2; exact ⟨_, rfl, r1⟩
theorem vals2 {x y : V} {us : List Value} (r : Vals [x, y] us) : ∃ u w', us = [u, w'] ∧ RelV x u ∧ RelV y w' := by
  cases r with
  | cons r1 r2 =>
    cases r2 with
    | cons r3 r4 => cases r4; exact ⟨_, _, rfl, r1, r3⟩
theorem call_abs : CallR X (.builtin "abs") (fun xs H Q => ∃ i, xs = [.int i] ∧ Q (.int (if i < 0 then -i else i)) H) := by
  intro pins s σ H xs us Q I r h
  obtain ⟨i, rfl, q⟩ := h
  obtain ⟨u, rfl, t, rfl⟩ := vals1 r
  exact call_abs_int fun u tk => ⟨.int (if i < 0 then -i else i), H, I.tok _, ⟨_, rfl⟩, q⟩
theorem call_max2 (hc : X.calm = true) : CallR X (.builtin "max") (fun xs H Q => ∃ i j, xs = [.int i, .int j] ∧ Q (.int (if j > i then j else i)) H) := by
  intro pins s σ H xs us Q I r h
  obtain ⟨i, j, rfl, q⟩ := h
  obtain ⟨u, w', rfl, ⟨t, rfl⟩, ⟨t', rfl⟩⟩ := vals2 r
  refine max_two_ints (I.ok.hd hc) fun h' tk k => ⟨_, H, I.kept k, ?_, q⟩
  by_cases hj : j > i
  · rw [if_pos hj, if_pos hj]; exact ⟨_, rfl⟩
  · rw [if_neg hj, if_neg hj]; exact ⟨_, rfl⟩
theorem call_min2 (hc : X.calm = true) : CallR X (.builtin "min") (fun xs H Q => ∃ i j, xs = [.int i, .int j] ∧ Q (.int (if j < i then j else i)) H) := by
  intro pins s σ H xs us Q I r h
  obtain ⟨i, j, rfl, q⟩ := h
  obtain ⟨u, w', rfl, ⟨t, rfl⟩, ⟨t', rfl⟩⟩ := vals2 r
  refine min_two_ints (I.ok.hd hc) fun h' tk k => ⟨_, H, I.kept k, ?_, q⟩
  by_cases hj : j < i
  · rw [if_pos hj, if_pos hj]; exact ⟨_, rfl⟩
  · rw [if_neg hj, if_neg hj]; exact ⟨_, rfl⟩
end
end L2

namespace L2
open PySem PySem.Spec PyProof.Rows

structure ObjM (h : Heap) (x dx C : Addr) (mA : Str → Option Value) : Prop where
  obj : h.get? x = some (PySem.W.instObj C dx)
  ns : h.Ns1 dx mA
  ne : dx ≠ x

theorem lookIn_ns {h : Heap} {dx : Addr} {mA : Str → Option Value} (n : h.Ns1 dx mA) : ∃ od, h.get? dx = some od ∧ ∀ name, PySem.W.lookIn name od = some (mA name) := by
  obtain ⟨o, es, ep, ho, hd, hk, _, hm⟩ := n
  refine ⟨o, ho, fun name => ?_⟩
  have e := hm name
  unfold nsFind findBy at e
  rw [← Array.find?_toList] at e
  unfold PySem.W.lookIn
  rw [hd]
  dsimp only
  split
  · rename_i y q
    rw [q] at e
    exact congrArg some e
  · rename_i q
    rw [q] at e
    have a : es.toList.any (·.refKey) = false := by
      rw [List.any_eq_false]
      intro y hy
      obtain ⟨z, t, hkey⟩ := hk y (Array.mem_toList_iff.mp hy)
      simp [DictEntry.refKey, hkey]
    have a' : ¬ es.toList.any (·.refKey) = true := by rw [a]; exact Bool.false_ne_true
    rw [if_neg a']
    exact congrArg some e

theorem ObjM.look {h : Heap} {x dx C : Addr} {mA : Str → Option Value} (I : ObjM h x dx C mA) : ∃ od, PySem.W.InstAt h x (PySem.W.instObj C dx) C (some od) ∧ ∀ name, PySem.W.lookIn name od = some (mA name) :=
  let ⟨od, ho, hl⟩ := lookIn_ns I.ns
  ⟨od, ⟨I.obj, rfl, rfl, ho⟩, hl⟩

section
variable {prog : Program} {w : World} {A : Around} {E : Value → Shared → Prop} {s : Shared} {K : PySem.W.Frag} {x dx C f : Addr} {mA : Str → Option Value} {name : Str} {v : Value}

end

theorem RelO.none_of {o : Option Value} (r : RelO none o) : o = none := by
  cases o with
  | none => rfl
  | some u => exact (show False from r).elim
section
variable {P : Program} {w : World} {H H' : Hp} {h h' : Heap} {a C dx : Addr} {fs fs' : List (Str × V)}
end

structure Cls (K : PySem.W.Frag) (C : Addr) : Prop where
  pg : PySem.W.plainGet K C Str.empty = true
  hd : PySem.W.hasDictIn K C = true
  po : PySem.W.plainOver K C = true
  sa : PySem.W.findIn K (.ref C) "__setattr__" = some (some (.builtin "object.__setattr__"))
theorem Cls.get {K : PySem.W.Frag} {C : Addr} (c : Cls K C) (f : Str) : PySem.W.plainGet K C f = true := c.pg
structure Con (K : PySem.W.Frag) (C : Addr) (f : Str) (v : V) (u : Value) : Prop where
  at_ : PySem.W.findIn K (.ref C) f = some (some u)
  rel : RelV v u
  get : PySem.W.specialIn K u "__get__" = some none
  cp : PySem.W.copiedNames.contains f = false
structure Meth (K : PySem.W.Frag) (C : Addr) (m : Str) (f : Addr) : Prop where
  at_ : PySem.W.findIn K (.ref C) m = some (some (.ref f))
  fn : PySem.W.isFn K (.ref f) = true
  kp : PySem.W.keepIn K (.ref f) = true

section
variable {X : Cx} {pins : List (Addr × Obj)} {σ : St} {H : Hp} {s : Shared} {a C dx : Addr} {fs : List (Str × V)} {f : Str} {v : V} {A : Around} {E : Value → Shared → Prop}

end

section
variable {X : Cx} {o e value : Expr} {f : Str} {pos pos' tpos : Pos} {ta tv : TE}
end

section
variable {X : Cx} {pins : List (Addr × Obj)} {σ : St} {H : Hp} {s : Shared} {A : Around} {E : Value → Shared → Prop} {Q : Value → Shared → Prop} {c : Value} {b : Bool}
inductive TyOf (K : PySem.W.Frag) (H : Hp) : V → Value → Prop where
  | non : TyOf K H .non (.type "NoneType")
  | bl (x : Bool) : TyOf K H (.bl x) (.type "bool")
  | int (i : Int) : TyOf K H (.int i) (.type "int")
  | str (x : Str) : TyOf K H (.str x) (.type "str")
  | flt (x : UInt64) : TyOf K H (.flt x) (.type "float")
  | lst {a : Addr} {xs : List V} (e : H a = some (.lst xs)) : TyOf K H (.ref a) (.type "list")
  | frz {a : Addr} {o : Obj} {xs : List V} (e : H a = some (.frz o (.lst xs))) : TyOf K H (.ref a) (.type "list")
  | tup {a : Addr} {xs : List V} (e : H a = some (.tup xs)) : TyOf K H (.ref a) (.type "tuple")
  | dK {a : Addr} {kvs : List (Key × V)} (e : H a = some (.dK kvs)) : TyOf K H (.ref a) (.type "dict")
  | dT {a : Addr} {kvs : List (List Key × V)} (e : H a = some (.dT kvs)) : TyOf K H (.ref a) (.type "dict")
  | ins {a C dx : Addr} {fs : List (Str × V)} (e : H a = some (.ins C dx fs)) (cl : Cls K C) (ha : PySem.W.findIn K (.ref C) "__class__" = some (some (.builtin "object.__class__")))
      (hn : PySem.W.specialIn K (.builtin "object.__class__") "__get__" = some (some (.builtin "getset_descriptor.__get__"))) (htk : PySem.W.takesIn K (.builtin "object.__class__") = some true)
      (hm : PySem.W.mroIn K C (.type "object") = some true) : TyOf K H (.ref a) (.ref C)
end
end L2

namespace L2
open PySem PySem.Spec PyProof.Rows

structure Room (k : Nat) (A : Around) : Prop where
  hd : A.handled = none
  dp : A.depth + 3 * k + 5 < recursionLimit
  un : A.units + 16 * k + 200 < cLine
theorem Room.mono {j k : Nat} {A : Around} (r : Room k A) (h : j ≤ k) : Room j A := ⟨r.hd, by have := r.dp; omega, by have := r.un; omega⟩
theorem Room.deeper {k : Nat} {A : Around} (r : Room (k + 1) A) (env : Env) : Room k (A.deeper env) :=
  ⟨r.hd, by have := r.dp; show A.depth + 1 + 3 * k + 5 < _; omega, by have := r.un; show A.units + 3 + 16 * k + 200 < _; omega⟩
theorem Room.depth {k : Nat} {A : Around} (r : Room k A) : A.depth < recursionLimit := by have := r.dp; omega
theorem Room.units {k : Nat} {A : Around} (r : Room k A) : A.units + 64 < cLine := by have := r.un; omega
def tNil : TA := fun _ H Q => Q [] H
def tCons (ta : TE) (tr : TA) : TA := fun σ H Q => ta σ H fun x H1 => tr σ H1 fun xs H2 => Q (x :: xs) H2
section
variable {X : Cx} {e : Expr} {es : List Expr} {te : TE} {t : TA} {pos : Pos}
theorem pa_nil : PA X [] tNil := fun _ _ _ _ H Q I h => Calls.spliced_nil ⟨[], H, I, .nil, h⟩
theorem pa_cons (ha : PE X e te) (hr : PA X es t) (hs : starEach (e :: es) X.env = (false, eval e X.env) :: starEach es X.env := by rfl) : PA X (e :: es) (tCons te t) := by
  intro pos pins s σ H Q I h
  rw [hs]
  show wpAny _ _ (spliced ((false, eval e X.env) :: backTo pos (starEach es X.env))) _ _ s
  refine Calls.spliced_cons (thn (ha pins s σ H _ I h) fun u s1 ⟨x, H1, I1, r1, q1⟩ => ?_)
  exact thn (hr pos pins s1 σ H1 _ I1 q1) fun us s2 ⟨xs, H2, I2, r2, q2⟩ => ⟨x :: xs, H2, I2, .cons r1 r2, q2⟩

def tTup (t : TA) : TE := fun σ H Q => t σ H fun xs H1 => xs.length ≤ sizeLine ∧ ∀ p, H1 p = none → Q (.ref p) (upd H1 p (.tup xs))
def tLst (t : TA) : TE := fun σ H Q => t σ H fun xs H1 => xs.length ≤ sizeLine ∧ ∀ p, H1 p = none → Q (.ref p) (upd H1 p (.lst xs))
theorem pe_tup {x1} (h : PA X es t) : PE X (.Tuple es x1 pos) (tTup t) := by
  intro pins s σ H Q I hq
  refine wpAny_Tuple_spliced (thn (h pos pins s σ H _ I hq) fun us s1 ⟨xs, H1, I1, r, z, q⟩ => ⟨by rw [← r.length]; exact z, ?_⟩)
  have hf : H1 s1.heap.objs.size = none := I1.hok.fresh (Nat.le_refl _)
  refine ⟨.ref s1.heap.objs.size, upd H1 s1.heap.objs.size (.tup xs), I1.laid (t' := s1.toks) (fun b u e => Heap.get?_push_of_some _ e) (Nat.le_refl _) ?_, rfl, q _ hf⟩
  exact ⟨z, us, r, ⟨_, Heap.get?_push_size _ rfl, rfl, _, rfl⟩⟩
theorem pe_lst (h : PA X es t) : PE X (.List es pos) (tLst t) := by
  intro pins s σ H Q I hq
  refine wpAny_List_spliced (thn (h pos pins s σ H _ I hq) fun us s1 ⟨xs, H1, I1, r, z, q⟩ => ⟨by rw [← r.length]; exact z, ?_⟩)
  have hf : H1 s1.heap.objs.size = none := I1.hok.fresh (Nat.le_refl _)
  refine ⟨.ref s1.heap.objs.size, upd H1 s1.heap.objs.size (.lst xs), I1.laid (t' := s1.toks) (fun b u e => Heap.get?_push_of_some _ e) (Nat.le_refl _) ?_, rfl, q _ hf⟩
  exact ⟨z, us, 0, r, Heap.get?_push_size _ rfl⟩
end

abbrev Sp := List V → Hp → VK → XK → Prop
abbrev CXT := List Env → Hp → Shared → XK → Value → Shared → Prop

structure Env0 (P : Program) (w : World) (K : PySem.W.Frag) (mg : Str → Option Value) (base : Heap) (A : Around) (outer : List Env) (s : Shared) (H : Hp) : Prop where
  frames : A.frames = some outer
  mod : Mod K mg base
  bs : ∀ b o, base.get? b = some o → s.heap.get? b = some o ∧ H b = none
  bsz : base.objs.size ≤ s.heap.objs.size
  funs : s.heap.FunFrames base outer
  frf : ∀ b ∈ frs outer, H b = none
  hok : HOk P w H s.heap
  bare : AllBare s.gens
def CE (outer : List Env) (P : Program) (w : World) (H : Hp) (s : Shared) (Q : VK) (u : Value) (s' : Shared) : Prop :=
  ∃ v H', s'.os = s.os ∧ AllBare s'.gens ∧ Un (frs outer) [] H H' s.heap s'.heap ∧ HOk P w H' s'.heap ∧ RelV v u ∧ Q v H'
def CR (CX : CXT) (outer : List Env) (P : Program) (w : World) (H : Hp) (s : Shared) (Q : VK) (E : XK) (r : Result) (s' : Shared) : Prop :=
  match r with
  | .ok (.ret u) => CE outer P w H s Q u s'
  | .ok _ => False
  | .error e => CX outer H s E e s'
structure FnOk (P : Program) (w : World) (K : PySem.W.Frag) (mg : Str → Option Value) (base : Heap) (CX : CXT) (k : Nat) (f : Addr) (fd : FuncData) (ps : List Str) (sp : Sp) : Prop where
  len : ∀ vs H Q E, sp vs H Q E → vs.length = ps.length
  run : ∀ (A : Around) (outer : List Env) (s : Shared) (H : Hp) (args : Args) (us : List Value) (vs : List V) (Q : VK) (E : XK), Room k A → Env0 P w K mg base A outer s H → BindsTo s fd args (ps.zip us) → Vals vs us → sp vs H Q E →
    codeAny (model P w) A (.call (.ref f) args) (CR CX outer P w H s Q E) s
theorem FnOk.mono {P : Program} {w : World} {K : PySem.W.Frag} {mg : Str → Option Value} {base : Heap} {CX : CXT} {j k : Nat} {f : Addr} {fd : FuncData} {ps : List Str} {sp : Sp} (F : FnOk P w K mg base CX j f fd ps sp) (h : j ≤ k) :
    FnOk P w K mg base CX k f fd ps sp := ⟨F.len, fun A outer s H args us vs Q E hr => F.run A outer s H args us vs Q E (hr.mono h)⟩
theorem FnOk.imp {P : Program} {w : World} {K : PySem.W.Frag} {mg : Str → Option Value} {base : Heap} {CX : CXT} {k : Nat} {f : Addr} {fd : FuncData} {ps : List Str} {sp sp' : Sp} (F : FnOk P w K mg base CX k f fd ps sp)
    (h : ∀ vs H Q E, sp' vs H Q E → sp vs H Q E) : FnOk P w K mg base CX k f fd ps sp' :=
  ⟨fun vs H Q E q => F.len vs H Q E (h _ _ _ _ q), fun A outer s H args us vs Q E hr he hb hv hs => F.run A outer s H args us vs Q E hr he hb hv (h _ _ _ _ hs)⟩

section
variable {X : Cx} {pins : List (Addr × Obj)} {σ : St} {H : Hp} {s s' : Shared}
theorem Inv.env0 (I : Inv X pins σ H s) : Env0 X.prog X.w X.K X.mg X.base X.A X.stack s H :=
  ⟨I.ok.frames, I.ok.mod, I.bs, Nat.le_trans I.ok.bsz I.sz, I.stack, I.stkFree, I.hok, I.bare⟩
theorem Inv.after {Q : VK} {u : Value} (I : Inv X pins σ H s) (h : CE X.stack X.prog X.w H s Q u s') : EP X pins σ Q u s' := by
  obtain ⟨v, H', os, bare, un, hok, r, q⟩ := h
  obtain ⟨hh, g, d, t, os'⟩ := s'
  obtain rfl : os' = s.os := os
  exact ⟨v, H', I.call (h' := hh) (g' := g) (d' := d) (t' := t) (ch := []) un hok bare (fun b z => absurd z (by simp)), r, q⟩
end

def tCall (sp : Sp) (dvs : List V) (E : XK) (t : TA) : TE := fun σ H Q => t σ H fun vs H1 => sp (vs ++ dvs) H1 Q E
def Binds (K : PySem.W.Frag) (fd : FuncData) (ps : List Str) (ds : List Value) : Prop :=
  ∀ (s : Shared) (us : List Value), K.In s.heap → (us ++ ds).length = ps.length → BindsTo s fd ⟨us, []⟩ (ps.zip (us ++ ds))
theorem Binds.all {K : PySem.W.Frag} {fd : FuncData} {ps : List Str} (h : ∀ us : List Value, us.length = ps.length → bindArgs fd ⟨us, []⟩ = pure (ps.zip us)) : Binds K fd ps [] := fun s us _ hl => by
  rw [List.append_nil] at hl ⊢
  exact .of_eq (h us hl)

def Passes (CX : CXT) (X : Cx) (E : XK) : Prop := ∀ (pins : List (Addr × Obj)) (σ : St) (H : Hp) (s : Shared) (e : Value) (s' : Shared), Inv X pins σ H s → CX X.stack H s E e s' → X.xe e s'

section
variable {X : Cx} {CX : CXT} {k : Nat} {f C : Addr} {fd : FuncData} {ps : List Str} {sp : Sp} {dvs : List V} {ds : List Value} {E : XK} {x m : Str} {p pos apos : Pos} {e o : Expr} {es : List Expr} {ta : TE} {t : TA}

theorem run_fn {pins : List (Addr × Obj)} {σ : St} {H : Hp} {s : Shared} {Q : VK} {us : List Value} {vs : List V} (F : FnOk X.prog X.w X.K X.mg X.base CX k f fd ps sp) (hr : Room k X.A) (hb : Binds X.K fd ps ds) (hd : Vals dvs ds) (hx : Passes CX X E)
    (I : Inv X pins σ H s) (r : Vals vs us) (h : sp (vs ++ dvs) H Q E) : wpAny (model X.prog X.w) X.A (call (.ref f) us) (EP X pins σ Q) X.xe s := by
  have r2 : Vals (vs ++ dvs) (us ++ ds) := r.append hd
  have hl : (us ++ ds).length = ps.length := by rw [← r2.length]; exact F.len _ _ _ _ h
  refine wpAny_call (codeAny_mono (F.run X.A X.stack s H ⟨us, []⟩ (us ++ ds) (vs ++ dvs) Q E hr I.env0 (hb s us I.kIn hl) r2 h) fun r s' hq => ?_)
  cases r with
  | error e => exact hx pins σ H s e s' I hq
  | ok fl =>
    cases fl with
    | ret u => exact I.after hq
    | next => exact False.elim hq
    | brk => exact False.elim hq
    | cont => exact False.elim hq

theorem pe_call (F : FnOk X.prog X.w X.K X.mg X.base CX k f fd ps sp) (hr : Room k X.A) (hg : Gl X x) (hm : X.mg x = some (.ref f)) (hk : PySem.W.keepIn X.K (.ref f) = true) (hb : Binds X.K fd ps ds) (hd : Vals dvs ds) (hx : Passes CX X E)
    (ha : PA X (e :: es) t) (hdb : (x == ("__debug__" : Str)) = false := by decide) (he : starEach (e :: es) X.env = (false, eval e X.env) :: starEach es X.env := by rfl) (hpl : (backTo pos (starEach es X.env)).any (·.1) = false := by rfl) :
    PE X (.Call (.Name x p) (e :: es) [] pos) (tCall sp dvs E t) := by
  intro pins s σ H Q I h
  refine wpAny_Call_Name_kw (ld_glob I hg hm ?_ hdb)
  refine PySem.W.callWith_K (h₀ := X.base) I.ok.mod.kin hk (thn (ha pos pins s σ H _ I h) fun us s1 ⟨vs, H1, I1, r, q⟩ => ⟨I1.kIn, ?_⟩) he hpl
  exact run_fn F hr hb hd hx I1 r q
structure Mk (K : PySem.W.Frag) (C f : Addr) : Prop where
  makes : PySem.W.makesIn K C = true
  init : PySem.W.findIn K (.ref C) "__init__" = some (some (.ref f))
  fn : PySem.W.isFn K (.ref f) = true
  kp : PySem.W.keepIn K (.ref C) = true

end

section
variable {X : Cx} {CX : CXT} {k : Nat} {f C : Addr} {fd : FuncData} {ps ks : List Str} {sp : Sp} {E : XK} {x m : Str} {p pos apos kpos : Pos} {e o : Expr} {es : List Expr} {kws : List Keyword} {te ta : TE} {t tk : TA} {nm : Option Str}
structure KBinds (K : PySem.W.Frag) (fd : FuncData) (ps ks : List Str) (g : List Value → List Value → List Value) (gV : List V → List V → List V) : Prop where
  to : ∀ (s : Shared) (us ws : List Value), K.In s.heap → (g us ws).length = ps.length → BindsTo s fd ⟨us, ks.zip ws⟩ (ps.zip (g us ws))
  rel : ∀ {vs : List V} {us : List Value} {zs : List V} {ws : List Value}, Vals vs us → Vals zs ws → Vals (gV vs zs) (g us ws)
variable {g : List Value → List Value → List Value} {gV : List V → List V → List V}
end

structure FnScope (N P : List Str) (sc : Scope) : Prop where
  kind : sc.kind = .function
  co : sc.isCoroutine = false
  gen : sc.isGenerator = false
  nd : N.Nodup
  pre : N.take P.length = P
  par : ∀ x ∈ P, sc.names.lookup x = some .local ∨ sc.names.lookup x = some .cell
  nofree : ∀ y ∈ sc.names, y.2 ≠ .free

theorem bindL_out {kindOf : Str → Option NameKind} {x : Str} : ∀ {binds : List (Str × Value)} {m : Str → Option Value}, (∀ v, (x, v) ∉ binds) → bindL kindOf binds m x = m x
  | [], _, _ => rfl
  | (n, v) :: r, m, h => by
    unfold bindL
    rw [bindL_out fun w hw => h w (List.mem_cons_of_mem _ hw)]
    split
    · have : x ≠ n := by rintro rfl; exact h v List.mem_cons_self
      simp [this]
    · rfl
theorem bindC_out {kindOf : Str → Option NameKind} {x : Str} : ∀ {binds : List (Str × Value)} {m : Str → Option Value}, (∀ v, (x, v) ∉ binds) → bindC kindOf binds m x = m x
  | [], _, _ => rfl
  | (n, v) :: r, m, h => by
    unfold bindC
    rw [bindC_out fun w hw => h w (List.mem_cons_of_mem _ hw)]
    split
    · rfl
    · have : x ≠ n := by rintro rfl; exact h v List.mem_cons_self
      simp [this]
theorem bindL_get {kindOf : Str → Option NameKind} {x : Str} {v : Value} : ∀ {P : List Str} {vs : List Value} {i : Nat} {m : Str → Option Value}, P.Nodup → P[i]? = some x → vs[i]? = some v → kindOf x = some .local →
    bindL kindOf (P.zip vs) m x = some v
  | [], _, _, _, _, h, _, _ => by simp at h
  | _ :: _, [], _, _, _, _, h, _ => by simp at h
  | p :: P, w :: vs, 0, m, nd, h1, h2, hk => by
    simp at h1 h2; subst h1; subst h2
    show bindL kindOf ((p, w) :: P.zip vs) m p = _
    unfold bindL
    rw [bindL_out fun v hv => (List.nodup_cons.mp nd).1 (List.of_mem_zip hv).1, if_pos hk]
    simp
  | p :: P, w :: vs, i + 1, m, nd, h1, h2, hk => by
    show bindL kindOf ((p, w) :: P.zip vs) m x = _
    unfold bindL
    exact bindL_get (i := i) (List.nodup_cons.mp nd).2 (by simpa using h1) (by simpa using h2) hk
theorem bindC_get {kindOf : Str → Option NameKind} {x : Str} {v : Value} : ∀ {P : List Str} {vs : List Value} {i : Nat} {m : Str → Option Value}, P.Nodup → P[i]? = some x → vs[i]? = some v → kindOf x ≠ some .local →
    bindC kindOf (P.zip vs) m x = some v
  | [], _, _, _, _, h, _, _ => by simp at h
  | _ :: _, [], _, _, _, _, h, _ => by simp at h
  | p :: P, w :: vs, 0, m, nd, h1, h2, hk => by
    simp at h1 h2; subst h1; subst h2
    show bindC kindOf ((p, w) :: P.zip vs) m p = _
    unfold bindC
    rw [bindC_out fun v hv => (List.nodup_cons.mp nd).1 (List.of_mem_zip hv).1, if_neg hk]
    simp
  | p :: P, w :: vs, i + 1, m, nd, h1, h2, hk => by
    show bindC kindOf ((p, w) :: P.zip vs) m x = _
    unfold bindC
    exact bindC_get (i := i) (List.nodup_cons.mp nd).2 (by simpa using h1) (by simpa using h2) hk

def start (N : List Str) (vs : List V) : St := vs.map some ++ List.replicate (N.length - vs.length) none

def cxOf (CX : CXT) (P : Program) (w : World) (K : PySem.W.Frag) (mg : Str → Option Value) (base : Heap) (N : List Str) (qual : Str) (scope : Scope) (f : Addr) (cd : Value) (A : Around) (outer : List Env) (s : Shared) (H : Hp) (E : XK) : Cx where
  prog := P
  w := w
  K := K
  mg := mg
  base := base
  A := A.deeper (envOfC qual scope s.heap.objs.size f cd)
  N := N
  s_0 := s
  H_0 := H
  env := envOfC qual scope s.heap.objs.size f cd
  outer := outer
  stack := envOfC qual scope s.heap.objs.size f cd :: outer
  ex := []
  calm := true
  fn := fun _ => true
  pn := []
  xe := fun e s' => wpAny (model P w) (A.deeper (envOfC qual scope s.heap.objs.size f cd)) (leaving (envOfC qual scope s.heap.objs.size f cd) e) (fun _ s'' => CX outer H s E e s'') (fun e' s'' => CX outer H s E e' s'') s'

theorem cell_has {sc : Scope} {n : Nat} {x : Str} (h : sc.names.lookup x = some .cell) : ∃ c, (cellsFrom n sc.names []).lookup x = some c := by
  have q := PySem.W.cellsFrom_some sc.names n [] (.inl h)
  exact Option.isSome_iff_exists.mp q

theorem inv_start {CX : CXT} {P : Program} {w : World} {K : PySem.W.Frag} {mg : Str → Option Value} {base : Heap} {N ps : List Str} {qual : Str} {scope : Scope} {f : Addr} {cd : Value} {A : Around} {outer : List Env} {s s1 : Shared} {H : Hp} {E : XK} {us : List Value} {vs : List V}
    (S : FnScope N ps scope) (hd : A.handled = none) (e0 : Env0 P w K mg base A outer s H) (hl : vs.length = ps.length) (r : Vals vs us)
    (x : InCallC s s.heap.objs.size (bindL (envOfC qual scope s.heap.objs.size f cd).kindOf (ps.zip us) fun _ => none) (cellsFrom (s.heap.objs.size + 1) scope.names []) (bindC (envOfC qual scope s.heap.objs.size f cd).kindOf (ps.zip us) fun _ => none) s1) :
    Inv (cxOf CX P w K mg base N qual scope f cd A outer s H E) [] (start N vs) H s1 := by
  have hpl : ps.length ≤ N.length := by have := congrArg List.length S.pre; rw [List.length_take] at this; omega
  obtain ⟨h1, tk, rfl, hk⟩ := x.done
  have noA : ∀ b : Addr, b ∉ (cxOf CX P w K mg base N qual scope f cd A outer s H E).ex := fun b z => absurd (show b ∈ ([] : List Addr) from z) (by simp)
  refine ⟨⟨e0.mod, S.kind, rfl, rfl, Nat.le_refl _, fun y z c h1 h2 => ?_, fun y hy => ?_, fun y c _ h => ?_, fun _ => hd, Around.frames_deeper e0.frames, .inr ⟨rfl, rfl⟩, fun b z => absurd z (noA b), e0.bs, e0.bsz, fun b _ _ => noA b, fun b z => absurd z (noA b), e0.funs, e0.frf⟩,
    rfl, e0.bare, Un.kept hk, ⟨_, x.toInCall.ns, fun i y v h1 h2 h3 => ?_⟩, fun y c h => ⟨_, x.cell y c h⟩, e0.hok.fresh (Nat.le_refl _), fun y c h => ?_, fun p hp => absurd (show p ∈ ([] : List (Addr × Obj)) from hp) (by simp), e0.hok.kept hk, ?_⟩
  · exact name_of_addr x.apart (PySem.mem_of_lookup h1) (PySem.mem_of_lookup h2)
  · have hy : scope.names.lookup y = some .cell ∨ scope.names.lookup y = some .free := hy
    rcases hy with hy | hy
    · exact cell_has hy
    · exact absurd rfl (S.nofree _ (PySem.mem_of_lookup hy))
  · exact Nat.le_of_lt (x.above y c (PySem.mem_of_lookup h))
  · have hi : i < vs.length := by
      unfold start at h2
      by_cases hi : i < vs.length
      · exact hi
      · rw [List.getElem?_append_right (by simpa using hi)] at h2
        rw [List.getElem?_replicate] at h2
        split at h2 <;> cases h2
    have ha : vs[i]? = some v := by
      unfold start at h2
      rw [List.getElem?_append_left (by simpa using hi), List.getElem?_map] at h2
      cases e : vs[i]? with
      | none => rw [e] at h2; cases h2
      | some a => rw [e] at h2; cases h2; rfl
    obtain ⟨u, hu, rv⟩ := r.get ha
    have hp : ps[i]? = some y := by
      rw [← S.pre, List.getElem?_take_of_lt (by omega)]; exact h1
    have ndP : ps.Nodup := by rw [← S.pre]; exact S.nd.sublist (List.take_sublist _ _)
    refine ⟨u, rv, ?_⟩
    rcases S.par y (List.mem_of_getElem? hp) with k | k
    · exact .inl ⟨k, bindL_get ndP hp hu k⟩
    · obtain ⟨c, e⟩ := cell_has (n := s.heap.objs.size + 1) k
      refine .inr ⟨.inl k, c, e, ?_⟩
      have q := x.cell y c e
      rw [bindC_get ndP hp hu (by show scope.names.lookup y ≠ _; rw [k]; decide)] at q
      exact q
  · exact e0.hok.fresh (Nat.le_of_lt (x.above y c (PySem.mem_of_lookup h)))
  · unfold start
    show _ = N.length
    rw [List.length_append, List.length_map, List.length_replicate]
    omega

theorem fn_of {CX : CXT} {P : Program} {w : World} {K : PySem.W.Frag} {mg : Str → Option Value} {base : Heap} {k : Nat} {f : Addr} {name qual : Str} {params : Arguments} {body : List Stmt} {scope : Scope} {dV kV doc pm cdv ct oc : Value} {an od : Option Addr}
    {osl : Array (Option Value)} {N ps : List Str} {sp : Sp} (lk : K.lookup f = some ⟨oc, od, .func (PySem.W.fnOf name qual params body scope dV kV doc pm an cdv ct), osl⟩) (hcd : PySem.W.codeIn K cdv qual = true) (S : FnScope N ps scope)
    (len : ∀ vs H Q E, sp vs H Q E → vs.length = ps.length)
    (hbody : ∀ (A : Around) (outer : List Env) (s : Shared) (H : Hp) (vs : List V) (Q : VK) (E : XK), Room k (A.deeper (envOfC qual scope s.heap.objs.size f cdv)) → sp vs H Q E →
      ∃ t, PSs (cxOf CX P w K mg base N qual scope f cdv A outer s H E) body t ∧ t { nx := fun _ H' => Q .non H', rt := Q } (start N vs) H) :
    FnOk P w K mg base CX (k + 1) f (PySem.W.fnOf name qual params body scope dV kV doc pm an cdv ct) ps sp := by
  refine ⟨len, fun A outer s H args us vs Q E hr e0 hb r hsp => ?_⟩
  have hl := len _ _ _ _ hsp
  have KX : K.In s.heap := e0.mod.kin.keeps fun b o e => (e0.bs b o e).1
  have lim : s.heap.NoLimit := e0.mod.nolimit.keeps fun b o e => (e0.bs b o e).1
  have hkind : ∀ y ∈ ps.zip us, scope.names.lookup y.1 = some .local ∨ (scope.names.lookup y.1 = some .cell ∧ ((cellsFrom (s.heap.objs.size + 1) scope.names []).lookup y.1).isSome = true) := fun ⟨n, v⟩ hy => by
    rcases S.par n (List.of_mem_zip hy).1 with q | q
    · exact .inl q
    · exact .inr ⟨q, PySem.W.cellsFrom_some _ _ _ (.inl q)⟩
  refine codeAny_call_function hr.depth (KX _ _ lk) rfl S.co S.gen rfl (PySem.W.codeRec_of KX hcd) (hb _ _ _ _ ?_)
  refine wpAny_newFunctionEnv_cells S.kind hkind fun env he s1 x => ?_
  subst he
  refine ⟨lim.keeps x.toInCall.keep, codeAny_func ?_⟩
  obtain ⟨t, ht, hq⟩ := hbody A outer s H vs Q E (hr.deeper _) hsp
  have I : Inv (cxOf CX P w K mg base N qual scope f cdv A outer s H E) [] (start N vs) H s1 := inv_start S hr.hd e0 hl r x
  refine wpAny_mono (ht [] s1 (start N vs) H _ I hq) (fun fl s' hs => ?_) fun e s' hs => hs
  have fin : ∀ {σ' : St} {H' : Hp} {v : V} {u : Value}, Inv (cxOf CX P w K mg base N qual scope f cdv A outer s H E) [] σ' H' s' → RelV v u → Q v H' → CE outer P w H s Q u s' :=
    fun {σ' H' v u} J rv q => ⟨v, H', J.os, J.bare, J.base, J.hok, rv, q⟩
  cases fl with
  | ret u =>
    obtain ⟨v, σ', H', J, rv, q⟩ := hs
    exact fin J rv q
  | next =>
    obtain ⟨σ', H', J, q⟩ := hs
    exact fin (v := V.non) (u := Value.none) J rfl q
  | brk =>
    obtain ⟨_, _, _, q⟩ := hs
    exact False.elim q
  | cont =>
    obtain ⟨_, _, _, q⟩ := hs
    exact False.elim q
end L2

namespace L2
open PySem PySem.Spec PyProof.Rows
section
variable {X : Cx} {x : Str} {p pos : Pos} {e : Expr} {es : List Expr} {t : TA} {id T : String} {r : List V → Hp → VK → Prop}

def tCB (r : List V → Hp → VK → Prop) (t : TA) : TE := fun σ H Q => t σ H fun vs H1 => r vs H1 Q
theorem pe_callB (hc : CallR X (.builtin id) r) (hg : Gl X x) (hm : X.mg x = none) (hv : bootBuiltins x = some (.builtin id)) (ha : PA X (e :: es) t) (hn : x ≠ "__name__" := by decide) (hdb : (x == ("__debug__" : Str)) = false := by decide)
    (he : starEach (e :: es) X.env = (false, eval e X.env) :: starEach es X.env := by rfl) (hpl : (backTo pos (starEach es X.env)).any (·.1) = false := by rfl) : PE X (.Call (.Name x p) (e :: es) [] pos) (tCB r t) := by
  intro pins s σ H Q I h
  refine wpAny_Call_Name_kw (ld_blt I hg hm hv ?_ hn hdb)
  exact PyProof.Rows.callWith_builtin1 (thn (ha pos pins s σ H _ I h) fun us s1 ⟨vs, H1, I1, r1, q1⟩ => hc pins s1 σ H1 vs us Q I1 r1 q1) he hpl
end
end L2

namespace HT
open PySem PyProof.Rows

section
open PySem.SeqAt
open PySem.AutoSeq1 (wpAny_loadPart')
open PySem.MeetsSeq PySem.MeetsSeq2 PySem.MeetsSeq3

end

section
variable {prog : Program} {w : World} {A : Around} {E : Value → Shared → Prop} {s : Shared}

def sIx (n d : Nat) : Option Int → Nat
  | none => d
  | some v => if v < 0 then (v + (n : Int)).toNat else min v.toNat n
theorem sIx_none (n d : Nat) : sIx n d none = d := rfl
theorem sIx_nat (n d k : Nat) : sIx n d (some (k : Int)) = min k n := by
  show (if (k : Int) < 0 then ((k : Int) + (n : Int)).toNat else min (k : Int).toNat n) = min k n
  rw [if_neg (by omega), Int.toNat_natCast]
end
end HT

namespace L2
open PySem PySem.Spec PyProof.Rows

abbrev TO := St → Hp → (Option Int → Hp → Prop) → Prop
def PO (X : Cx) (e : Option Expr) (t : TO) : Prop :=
  ∀ (pins : List (Addr × Obj)) (s : Shared) (σ : St) (H : Hp) (Q : Option Int → Hp → Prop), Inv X pins σ H s → t σ H Q →
    wpAny (model X.prog X.w) X.A (evalPart e X.env) (fun u s' => ∃ o H', Inv X pins σ H' s' ∧ IsPart u o ∧ Q o H') X.xe s
def tNoPart : TO := fun _ H Q => Q none H
def tPart (t : TE) : TO := fun σ H Q => t σ H fun x H1 => ∃ i, x = .int i ∧ Q (some i) H1

section
variable {X : Cx} {e : Expr} {te : TE} {lo hi : Option Expr} {tl th : TO} {pos p2 : Pos}

theorem po_none : PO X none tNoPart := by
  intro pins s σ H Q I h
  rw [evalPart_none]
  exact wpAny_pure ⟨none, H, I, .none, h⟩
theorem po_some (h : PE X e te) : PO X (some e) (tPart te) := by
  intro pins s σ H Q I hw
  rw [evalPart_some]
  refine thn (h pins s σ H _ I hw) fun u s1 ⟨x, H1, I1, r1, q1⟩ => ?_
  obtain ⟨i, rfl, q⟩ := q1
  obtain ⟨t, rfl⟩ := r1
  exact ⟨some i, H1, I1, .int i t, q⟩

def SlR (X : Cx) (r : V → Option Int → Option Int → Hp → VK → Prop) : Prop :=
  ∀ (pins : List (Addr × Obj)) (s : Shared) (σ : St) (H : Hp) (x : V) (v vl vu : Value) (lo hi : Option Int) (sl : Addr) (Q : VK), Inv X pins σ H s → RelV x v → s.heap.IsSliceOf sl vl vu .none → IsPart vl lo → IsPart vu hi → r x lo hi H Q →
    ∃ T id, typeLookup (.type T) "__getitem__" = pure (some (.builtin id)) ∧ s.TypeIs v T ∧ wpAny (model X.prog X.w) X.A (getItem v (.ref sl)) (EP X pins σ Q) X.xe s
theorem SlR.or {r r' : V → Option Int → Option Int → Hp → VK → Prop} (h : SlR X r) (h' : SlR X r') : SlR X (fun x lo hi H Q => r x lo hi H Q ∨ r' x lo hi H Q) := by
  intro pins s σ H x v vl vu lo hi sl Q I rx hs pl pu q
  rcases q with q | q
  · exact h pins s σ H x v vl vu lo hi sl Q I rx hs pl pu q
  · exact h' pins s σ H x v vl vu lo hi sl Q I rx hs pl pu q
def tSl (r : V → Option Int → Option Int → Hp → VK → Prop) (te : TE) (tl th : TO) : TE := fun σ H Q => te σ H fun x H1 => tl σ H1 fun l H2 => th σ H2 fun u H3 => r x l u H3 Q
theorem pe_slice {r : V → Option Int → Option Int → Hp → VK → Prop} (hr : SlR X r) (he : PE X e te) (hl : PO X lo tl) (hu : PO X hi th) : PE X (.Subscript e (.Slice lo hi none p2) pos) (tSl r te tl th) := by
  intro pins s σ H Q I h
  refine Subscript_ (thn (he pins s σ H _ I h) fun v s1 ⟨x, H1, I1, r1, q1⟩ => ?_)
  refine wpAny_Slice (thn (hl pins s1 σ H1 _ I1 q1) fun vl s2 ⟨l, H2, I2, pl, q2⟩ => thn (hu pins s2 σ H2 _ I2 q2) fun vu s3 ⟨u, H3, I3, pu, q3⟩ => ?_)
  rw [evalPart_none]
  refine wpAny_pure ?_
  have I4 : Inv X pins σ H3 { s3 with heap := s3.heap.push { cls := .type "slice", data := .fields #[vl, vu, .none] } } := I3.kept (t' := s3.toks) fun b ob q => Heap.get?_push_of_some _ q
  obtain ⟨T, id, hT, ht, hg⟩ := hr pins { s3 with heap := s3.heap.push { cls := .type "slice", data := .fields #[vl, vu, .none] } } σ H3 x v vl vu l u s3.heap.objs.size Q I4 r1 (Heap.IsSliceOf.new ..) pl pu q3
  show wpAny (model X.prog X.w) X.A (subscriptTail e (.Slice lo hi none p2) v (.ref s3.heap.objs.size)) (EP X pins σ Q) X.xe { s3 with heap := s3.heap.push { cls := .type "slice", data := .fields #[vl, vu, .none] } }
  exact tail_any (ops := [.ref s3.heap.objs.size, v]) ht hT hg (by with_unfolding_all rfl)

def cutV (xs : List V) (lo hi : Option Int) : List V := (xs.drop (HT.sIx xs.length 0 lo)).take (HT.sIx xs.length xs.length hi - HT.sIx xs.length 0 lo)
theorem cutV_length (xs : List V) (lo hi : Option Int) : (cutV xs lo hi).length ≤ xs.length := by
  unfold cutV
  rw [List.length_take, List.length_drop]
  omega
end
end L2

namespace L2
open PySem PySem.Spec PyProof.Rows

def ixN (n : Nat) (i : Int) : Option Nat := if 0 ≤ i then (if i < n then some i.toNat else none) else if -(n : Int) ≤ i then some (i + n).toNat else none
def atI {α : Type} (xs : List α) (i : Int) : Option α := (ixN xs.length i).bind fun j => xs[j]?
theorem ixN_seq {n : Nat} {i : Int} {j : Nat} (h : ixN n i = some j) : seqIndex? i n = some j ∧ j < n ∧ -(n : Int) ≤ i ∧ i < n := by
  unfold ixN at h
  by_cases h0 : 0 ≤ i
  · rw [if_pos h0] at h
    by_cases h1 : i < n
    · rw [if_pos h1] at h
      have e : i.toNat = j := Option.some.inj h
      exact ⟨by rw [seqIndex_of h0 h1, e], by omega, by omega, h1⟩
    · rw [if_neg h1] at h; cases h
  · rw [if_neg h0] at h
    by_cases h1 : -(n : Int) ≤ i
    · rw [if_pos h1] at h
      have e : (i + n).toNat = j := Option.some.inj h
      exact ⟨by rw [seqIndex_neg (by omega) h1, e], by omega, h1, by omega⟩
    · rw [if_neg h1] at h; cases h
theorem atI_get {α : Type} {xs : List α} {i : Int} {v : α} (h : atI xs i = some v) : ∃ j, seqIndex? i xs.length = some j ∧ xs[j]? = some v ∧ j < xs.length ∧ -(xs.length : Int) ≤ i ∧ i < xs.length := by
  unfold atI at h
  cases e : ixN xs.length i with
  | none => rw [e] at h; cases h
  | some j =>
    rw [e] at h
    obtain ⟨h1, h2, h3, h4⟩ := ixN_seq e
    exact ⟨j, h1, h, h2, h3, h4⟩
theorem atI_nat {α : Type} {xs : List α} {j : Nat} {v : α} (h : xs[j]? = some v) : atI xs (j : Int) = some v := by
  have hj : j < xs.length := (List.getElem?_eq_some_iff.mp h).1
  have e : ixN xs.length (j : Int) = some j := by
    unfold ixN
    rw [if_pos (by omega), if_pos (by omega)]; simp
  unfold atI; rw [e]; exact h
def PlainIx (b : Expr) : Prop := ∀ o i, subscripted b false o i = operate [o, i] (getItem o i)
def IxR (X : Cx) (r : R2) : Prop :=
  ∀ (value slice : Expr) (pins : List (Addr × Obj)) (s : Shared) (σ : St) (H : Hp) (x y : V) (v u : Value) (Q : VK), Inv X pins σ H s → RelV x v → RelV y u → r x y H Q →
    subscripted slice false v u = operate [v, u] (getItem v u) → wpAny (model X.prog X.w) X.A (subscriptTail value slice v u) (EP X pins σ Q) X.xe s
def MtR (X : Cx) (id : String) (r : V → List V → Hp → VK → Prop) : Prop :=
  ∀ (pins : List (Addr × Obj)) (s : Shared) (σ : St) (H : Hp) (x : V) (xs : List V) (v : Value) (us : List Value) (Q : VK), Inv X pins σ H s → RelV x v → Vals xs us → r x xs H Q →
    wpAny (model X.prog X.w) X.A (call (.builtin id) (v :: us)) (EP X pins σ Q) X.xe s
section
variable {X : Cx} {a b : Expr} {ta tb : TE} {pos : Pos}
theorem IxR.or {r r' : R2} (h : IxR X r) (h' : IxR X r') : IxR X (fun x y H Q => r x y H Q ∨ r' x y H Q) := by
  intro value slice pins s σ H x y v u Q I rx ry q hs
  rcases q with q | q
  · exact h value slice pins s σ H x y v u Q I rx ry q hs
  · exact h' value slice pins s σ H x y v u Q I rx ry q hs
theorem MtR.or {id : String} {r r' : V → List V → Hp → VK → Prop} (h : MtR X id r) (h' : MtR X id r') : MtR X id (fun x xs H Q => r x xs H Q ∨ r' x xs H Q) := by
  intro pins s σ H x xs v us Q I rx rs q
  rcases q with q | q
  · exact h pins s σ H x xs v us Q I rx rs q
  · exact h' pins s σ H x xs v us Q I rx rs q
theorem pe_ix {r : R2} (hr : IxR X r) (ha : PE X a ta) (hb : PE X b tb) (hs : PlainIx b) : PE X (.Subscript a b pos) (tOp r ta tb) := by
  intro pins s σ H Q I h
  exact Subscript_ (binT ha hb I h fun v u s2 x y H2 I2 rx ry q => hr a b pins s2 σ H2 x y v u Q I2 rx ry q (hs _ _))

def rIxL (K : PySem.W.Frag) : R2 := fun x y H Q => ∃ p xs i v, x = .ref p ∧ y = .int i ∧ SqL K H p xs ∧ atI xs i = some v ∧ Q v H
def rIxT (K : PySem.W.Frag) : R2 := fun x y H Q => ∃ p xs i v, x = .ref p ∧ y = .int i ∧ SqT K H p xs ∧ atI xs i = some v ∧ Q v H
theorem ix_list : IxR X (rIxL X.K) := by
  intro value slice pins s σ H x y v u Q I rx ry h hs
  obtain ⟨p, xs, i, z, rfl, rfl, hq, he, q⟩ := h
  cases rx
  obtain ⟨t, rfl⟩ := ry
  obtain ⟨its, r, pl, hz⟩ := I.list hq
  obtain ⟨j, h1, h2, h3, h4, h5⟩ := atI_get he
  obtain ⟨w, ew, rw'⟩ := r.get h2
  have hl := r.length
  have hn := line63
  have fin : EP X pins σ Q w s := ⟨z, H, I, rw', q⟩
  by_cases h0 : 0 ≤ i
  · have hj : i.toNat = j := by
      rw [seqIndex_of h0 h5] at h1
      exact Option.some.inj h1
    exact item_listR pl.isList h0 (by omega) (by rw [hj]; simpa using ew) fin hs
  · have hj : (i + (its.toArray.size : Int)).toNat = j := by
      rw [seqIndex_neg (by omega) h4] at h1
      rw [List.size_toArray, ← hl]
      exact Option.some.inj h1
    exact subscriptTail_builtinR (x := w) pl.isList.typeIs slot_list_getitem.lookup
      (wpAny_getItem_list_neg (Q := fun r s' => r = w ∧ EP X pins σ Q r s') pl.isList (by omega) (by rw [List.size_toArray] <;> omega) (by omega) (by rw [hj]; simpa using ew) ⟨rfl, fin⟩) hs
theorem ix_tup : IxR X (rIxT X.K) := by
  intro value slice pins s σ H x y v u Q I rx ry h hs
  obtain ⟨p, xs, i, z, rfl, rfl, hq, he, q⟩ := h
  cases rx
  obtain ⟨t, rfl⟩ := ry
  obtain ⟨its, r, pl, hz⟩ := I.tuple hq
  obtain ⟨j, h1, h2, h3, h4, h5⟩ := atI_get he
  obtain ⟨w, ew, rw'⟩ := r.get h2
  have hl := r.length
  have hn := line63
  have fin : EP X pins σ Q w s := ⟨z, H, I, rw', q⟩
  exact subscriptTail_builtinR (x := w) pl.typeIs slot_tuple_getitem.lookup
    (getItem_tuple (j := j) (Q := fun r s' => r = w ∧ EP X pins σ Q r s') pl (by omega) (by omega) (by rw [List.size_toArray, ← hl]; exact h1) (by simpa using ew) ⟨rfl, fin⟩) hs
theorem Inv.lst {pins : List (Addr × Obj)} {σ : St} {H : Hp} {s : Shared} {p : Addr} {xs : List V} (I : Inv X pins σ H s) (h : H p = some (.lst xs)) :
    ∃ (its : List Value) (n : Nat), Vals xs its ∧ s.heap.get? p = some { cls := .type "list", data := .seq its.toArray n } ∧ xs.length ≤ sizeLine := by
  obtain ⟨z, its, n, r, e⟩ := I.hok p _ h
  exact ⟨its, n, r, e, z⟩
theorem slice_bounds (lo hi : Option Int) (n : Nat) : (sliceBounds lo hi none n).1 = ((HT.sIx n 0 lo : Nat) : Int) ∧ (sliceBounds lo hi none n).2.1 = ((HT.sIx n n hi : Nat) : Int) ∧ (sliceBounds lo hi none n).2.2 = 1 := by
  refine ⟨?_, ?_, rfl⟩
  · cases lo with
    | none => simp [sliceBounds, HT.sIx]
    | some i =>
      simp only [sliceBounds, HT.sIx, Option.getD_none, show (1 : Int) > 0 by decide, if_true]
      by_cases h : i < 0
      · simp only [h, if_true] <;> omega
      · simp only [h, if_false] <;> omega
  · cases hi with
    | none => simp [sliceBounds, HT.sIx]
    | some i =>
      simp only [sliceBounds, HT.sIx, Option.getD_none, show (1 : Int) > 0 by decide, if_true]
      by_cases h : i < 0
      · simp only [h, if_true] <;> omega
      · simp only [h, if_false] <;> omega
theorem slicePick_cut (its : List Value) (lo hi : Option Int) : slicePick its.toArray lo hi none = ((its.drop (HT.sIx its.length 0 lo)).take (HT.sIx its.length its.length hi - HT.sIx its.length 0 lo)).toArray := by
  obtain ⟨h1, h2, h3⟩ := slice_bounds lo hi its.toArray.size
  unfold slicePick
  rw [h1, h2, h3]
  simp only [sliceRange_one, pick_run, List.size_toArray] <;> rfl
def rSlL (K : PySem.W.Frag) : V → Option Int → Option Int → Hp → VK → Prop := fun x lo hi H Q => ∃ a xs, x = .ref a ∧ SqL K H a xs ∧ ∀ p, H p = none → Q (.ref p) (upd H p (.lst (cutV xs lo hi)))
theorem sl_list : SlR X (rSlL X.K) := by
  intro pins s σ H x v vl vu lo hi sl Q I rx hs pl pu h
  obtain ⟨a, xs, rfl, hx, q⟩ := h
  cases rx
  obtain ⟨its, r, ht, hz⟩ := I.list hx
  have hlen := r.length
  refine ⟨"list", _, slot_list_getitem.lookup, ht.isList.typeIs, ?_⟩
  refine wpAny_getItem_list_slice ht.isList hs pl pu .none (by simp) ?_ (by rw [List.size_toArray] <;> omega)
  rw [slicePick_cut, ← hlen]
  refine ⟨.ref s.heap.objs.size, _, I.laid (t' := s.toks) (o := .lst (cutV xs lo hi)) (fun b ob q => Heap.get?_push_of_some _ q) (Nat.le_refl _) ?_, rfl, q _ (I.hok.fresh (Nat.le_refl _))⟩
  exact ⟨Nat.le_trans (cutV_length xs lo hi) hz, _, 0, (r.drop (HT.sIx xs.length 0 lo)).take (HT.sIx xs.length xs.length hi - HT.sIx xs.length 0 lo), Heap.get?_push_size _ rfl⟩

def flatV : V → Bool
  | .non => true
  | .bl _ => true
  | .int _ => true
  | .str _ => true
  | _ => false
def eqV : V → V → Bool
  | .non, .non => true
  | .bl a, .bl b => a == b
  | .bl a, .int b => (if a then 1 else 0) == b
  | .int a, .bl b => a == (if b then 1 else 0)
  | .int a, .int b => a == b
  | .str a, .str b => a == b
  | _, _ => false
theorem eqAt_V {A : Around} {s : Shared} {y x : V} {u v : Value} (ry : RelV y u) (rx : RelV x v) (fy : flatV y = true) (fx : flatV x = true) : SeqAt.EqAt A s u v (eqV y x) := by
  cases y with
  | non =>
    cases ry
    cases x with
    | non => cases rx; exact SeqAt.EqAt.same _
    | bl b => cases rx; exact SeqAt.EqAt.none_bool b
    | int b => obtain ⟨t, rfl⟩ := rx; exact SeqAt.EqAt.none_int b t
    | str b => obtain ⟨t, rfl⟩ := rx; exact SeqAt.EqAt.none_str b t
    | _ => exact absurd (show false = true from fx) Bool.false_ne_true
  | bl a =>
    cases ry
    cases x with
    | non => cases rx; exact SeqAt.EqAt.bool_none a
    | bl b => cases rx; exact SeqAt.EqAt.bool_bool a b
    | int b => obtain ⟨t, rfl⟩ := rx; exact SeqAt.EqAt.bool_int a b t
    | str b => obtain ⟨t, rfl⟩ := rx; exact SeqAt.EqAt.bool_str a b t
    | _ => exact absurd (show false = true from fx) Bool.false_ne_true
  | int a =>
    obtain ⟨t', rfl⟩ := ry
    cases x with
    | non => cases rx; exact SeqAt.EqAt.int_none a t'
    | bl b => cases rx; exact SeqAt.EqAt.int_bool a t' b
    | int b => obtain ⟨t, rfl⟩ := rx; exact SeqAt.EqAt.int_int a t' b t
    | str b => obtain ⟨t, rfl⟩ := rx; exact SeqAt.EqAt.int_str a t' b t
    | _ => exact absurd (show false = true from fx) Bool.false_ne_true
  | str a =>
    obtain ⟨t', rfl⟩ := ry
    cases x with
    | non => cases rx; exact SeqAt.EqAt.str_none a t'
    | bl b => cases rx; exact SeqAt.EqAt.str_bool a t' b
    | int b => obtain ⟨t, rfl⟩ := rx; exact SeqAt.EqAt.str_int a t' b t
    | str b => obtain ⟨t, rfl⟩ := rx; exact SeqAt.EqAt.str_str a t' b t
    | _ => exact absurd (show false = true from fx) Bool.false_ne_true
  | _ => exact absurd (show false = true from fy) Bool.false_ne_true
def eqU (x : V) (u : Value) : Bool := match u with
  | .none => eqV .non x
  | .bool b => eqV (.bl b) x
  | .int i _ => eqV (.int i) x
  | .str z _ => eqV (.str z) x
  | _ => false
theorem eqU_of {x y : V} {u : Value} (r : RelV y u) (f : flatV y = true) : eqU x u = eqV y x := by
  cases y with
  | non => cases r; rfl
  | bl b => cases r; rfl
  | int i => obtain ⟨t, rfl⟩ := r; rfl
  | str z => obtain ⟨t, rfl⟩ := r; rfl
  | _ => exact absurd (show false = true from f) Bool.false_ne_true
theorem any_eqU {x : V} : ∀ {xs : List V} {us : List Value}, Vals xs us → xs.all flatV = true → us.any (eqU x) = xs.any fun y => eqV y x
  | _, _, .nil, _ => rfl
  | y :: xs, u :: us, .cons r t, f => by
    rw [List.all_cons, Bool.and_eq_true] at f
    rw [List.any_cons, List.any_cons, eqU_of r f.1, any_eqU t f.2]
theorem mem_eqAt {A : Around} {s : Shared} {x : V} {v : Value} (rx : RelV x v) (fx : flatV x = true) : ∀ {xs : List V} {us : List Value}, Vals xs us → xs.all flatV = true → ∀ u ∈ us, SeqAt.EqAt A s u v (eqU x u)
  | _, _, .nil, _ => fun u hu => by cases hu
  | y :: xs, u :: us, .cons r t, f => fun u' hu => by
    rw [List.all_cons, Bool.and_eq_true] at f
    rcases List.mem_cons.mp hu with rfl | hu
    · rw [eqU_of r f.1]; exact eqAt_V r rx f.1 fx
    · exact mem_eqAt rx fx t f.2 u' hu
def inV (x : V) (xs : List V) : Bool := xs.any fun y => eqV y x
def rIn (K : PySem.W.Frag) (neg : Bool) : R2 := fun x y H Q => ∃ p xs, y = .ref p ∧ (SqL K H p xs ∨ SqT K H p xs) ∧ flatV x = true ∧ xs.all flatV = true ∧ Q (.bl (if neg then !inV x xs else inV x xs)) H
theorem op_notIn_seq : OpR X (compareOp .NotIn) (rIn X.K true) := by
  intro pins s σ H x y v u Q I rx ry h
  obtain ⟨p, xs, rfl, hq, fx, fs, q⟩ := h
  cases ry
  rcases hq with hq | hq
  · obtain ⟨its, r, pl, hz⟩ := I.list hq
    refine SeqAt.notIn_listAt (eqU x) pl.isList (fun w hw => mem_eqAt rx fx r fs w (by simpa using hw)) ⟨.bl _, H, I, rfl, ?_⟩
    rw [show its.toArray.any (eqU x) = its.any (eqU x) by simp, any_eqU r fs]
    exact q
  · obtain ⟨its, r, pl, hz⟩ := I.tuple hq
    refine SeqAt.notIn_tupleAt (eqU x) pl (fun w hw => mem_eqAt rx fx r fs w (by simpa using hw)) ⟨.bl _, H, I, rfl, ?_⟩
    rw [show its.toArray.any (eqU x) = its.any (eqU x) by simp, any_eqU r fs]
    exact q
theorem call_len_seq : CallR X (.builtin "len") (fun xs H Q => ∃ p ys, xs = [.ref p] ∧ (SqL X.K H p ys ∨ SqT X.K H p ys) ∧ Q (.int ys.length) H) := by
  intro pins s σ H xs us Q I r h
  obtain ⟨p, ys, rfl, hq, q⟩ := h
  obtain ⟨u, rfl, rx⟩ := vals1 r
  cases rx
  have hn := line63
  rcases hq with hq | hq
  · obtain ⟨its, r', pl, hz⟩ := I.list hq
    have hlen := r'.length
    exact Calls.call_len_list pl.isList (by simp only [List.size_toArray] <;> omega) ⟨.int ys.length, H, I.tok _, ⟨s.toks + 1, by rw [List.size_toArray, hlen]⟩, q⟩
  · obtain ⟨its, r', pl, hz⟩ := I.tuple hq
    have hlen := r'.length
    exact len_tuple pl (by simp only [List.size_toArray] <;> omega) ⟨.int ys.length, H, I.tok _, ⟨s.toks + 1, by rw [List.size_toArray, hlen]⟩, q⟩
theorem CallR.or {f : Value} {r r' : List V → Hp → VK → Prop} (h : CallR X f r) (h' : CallR X f r') : CallR X f (fun xs H Q => r xs H Q ∨ r' xs H Q) := by
  intro pins s σ H xs us Q I rs q
  rcases q with q | q
  · exact h pins s σ H xs us Q I rs q
  · exact h' pins s σ H xs us Q I rs q
def tyV (K : PySem.W.Frag) (T : String) (x : V) (H : Hp) : Prop := match x with
  | .str _ => T = "str"
  | .int _ => T = "int"
  | .ref p => (T = "list" ∧ ∃ xs, SqL K H p xs) ∨ (T = "tuple" ∧ ∃ o, K.lookup p = some o ∧ o.cls = .type "tuple" ∧ o.dict = none) ∨
      (T = "dict" ∧ ((∃ kvs, H p = some (.dK kvs)) ∨ ∃ kvs, H p = some (.dT kvs))) ∨ (T = "set" ∧ ∃ S n, H p = some (.set S n))
  | _ => False
def tBM0 (K : PySem.W.Frag) (T : String) (r : V → List V → Hp → VK → Prop) (to : TE) : TE := fun σ H Q => to σ H fun x H1 => tyV K T x H1 ∧ r x [] H1 Q
def tBM (K : PySem.W.Frag) (T : String) (r : V → List V → Hp → VK → Prop) (to : TE) (t : TA) : TE := fun σ H Q => to σ H fun x H1 => tyV K T x H1 ∧ t σ H1 fun xs H2 => r x xs H2 Q
variable {o e : Expr} {es : List Expr} {to : TE} {t : TA} {name : Str} {apos cpos : Pos} {T id : String} {r : V → List V → Hp → VK → Prop}
end
end L2

namespace L2
open PySem PySem.Spec PyProof.Rows

theorem Vals.one : ∀ {x : V} {us : List Value}, Vals [x] us → ∃ u, us = [u] ∧ RelV x u
  | _, _, .cons r .nil => ⟨_, rfl, r⟩
theorem Vals.two : ∀ {x y : V} {us : List Value}, Vals [x, y] us → ∃ u v, us = [u, v] ∧ RelV x u ∧ RelV y v
  | _, _, _, .cons r (.cons q .nil) => ⟨_, _, rfl, r, q⟩
theorem Vals.zero : ∀ {us : List Value}, Vals [] us → us = []
  | _, .nil => rfl
theorem Vals.eraseIdx : ∀ {xs : List V} {us : List Value} (i : Nat), Vals xs us → Vals (xs.eraseIdx i) (us.eraseIdx i)
  | _, _, _, .nil => .nil
  | _, _, 0, .cons _ t => t
  | _, _, i + 1, .cons r t => .cons r (Vals.eraseIdx i t)
theorem Vals.rep {xs : List V} {us : List Value} (h : Vals xs us) : ∀ k : Nat, Vals (List.replicate k xs).flatten (List.replicate k us).flatten
  | 0 => .nil
  | k + 1 => by
    rw [List.replicate_succ, List.replicate_succ, List.flatten_cons, List.flatten_cons]
    exact Vals.append h (Vals.rep h k)
theorem foldl_rep (its : List Value) : ∀ (k : Nat) (acc : List Value),
    List.foldl (fun x1 x2 => x1 ++ x2) acc.toArray (List.replicate k its.toArray) = (acc ++ (List.replicate k its).flatten).toArray
  | 0, acc => by simp
  | k + 1, acc => by
    have e : acc.toArray ++ its.toArray = (acc ++ its).toArray := by simp
    have e2 : (acc ++ its) ++ (List.replicate k its).flatten = acc ++ (List.replicate (k + 1) its).flatten := by
      rw [List.replicate_succ, List.flatten_cons, List.append_assoc]
    rw [← e2, ← foldl_rep its k (acc ++ its), ← e, List.replicate_succ, List.foldl_cons]

section
variable {X : Cx} {pins : List (Addr × Obj)} {σ : St} {H : Hp} {s : Shared} {l b : Addr} {xs ys zs : List V}

theorem Inv.lnew {its : List Value} {t' : Nat} (I : Inv X pins σ H s) (hv : Vals ys its) (hz : ys.length ≤ sizeLine) :
    Inv X pins σ (upd H s.heap.objs.size (.lst ys)) { s with heap := s.heap.push { cls := .type "list", data := .seq its.toArray }, toks := t' } :=
  I.laid (fun _ _ q => Heap.get?_push_of_some _ q) (Nat.le_refl _) ⟨hz, its, 0, hv, Heap.get?_push_size _ rfl⟩
theorem Inv.fresh (I : Inv X pins σ H s) : H s.heap.objs.size = none := I.hok.fresh (Nat.le_refl _)
theorem Inv.lstM (I : Inv X pins σ H s) (hH : H l = some (.lst xs)) : xs.length ≤ sizeLine ∧ ∃ (its : List Value) (n : Nat), Vals xs its ∧ xs.length = its.length ∧ s.heap.get? l = some { cls := .type "list", data := .seq its.toArray n } := by
  obtain ⟨z, its, n, r, e⟩ := I.hok l _ hH
  exact ⟨z, its, n, r, r.length, e⟩

theorem notLongL {n : Nat} (h : n ≤ sizeLine) : Builtin.List.listTooLong n = false := by
  unfold Builtin.List.listTooLong
  exact decide_eq_false (by omega)
end

section
variable {X : Cx}

def rCat : R2 := fun x y H Q => ∃ l b xs zs, x = .ref l ∧ y = .ref b ∧ H l = some (.lst xs) ∧ H b = some (.lst zs) ∧ xs.length + zs.length ≤ sizeLine ∧ ∀ p, H p = none → Q (.ref p) (upd H p (.lst (xs ++ zs)))
theorem op_cat : OpR X (binaryOp .Add) rCat := by
  intro pins s σ H x y v u Q I rx ry h
  obtain ⟨l, b, xs, zs, rfl, rfl, hH, hB, hz, q⟩ := h
  cases rx
  cases ry
  obtain ⟨z, its, n, r, hl, e⟩ := I.lstM hH
  obtain ⟨z2, its2, n2, r2, hl2, e2⟩ := I.lstM hB
  refine PySem.P.add_list e e2 ?_ (by rw [List.size_toArray, List.size_toArray]; omega)
  have ea : its.toArray ++ its2.toArray = (its ++ its2).toArray := by simp
  rw [ea]
  exact ⟨.ref _, _, I.lnew (t' := s.toks) (r.append r2) (by rw [List.length_append]; omega), rfl, q _ I.fresh⟩
def rRep : R2 := fun x y H Q => ∃ l k xs, x = .ref l ∧ y = .int k ∧ H l = some (.lst xs) ∧ -(2 ^ 63) ≤ k ∧ k < 2 ^ 63 ∧ xs.length * k.toNat ≤ sizeLine ∧
  ∀ p, H p = none → Q (.ref p) (upd H p (.lst (List.replicate k.toNat xs).flatten))
theorem len_rep {α : Type} (xs : List α) (k : Nat) : (List.replicate k xs).flatten.length = k * xs.length := by
  induction k with
  | zero => simp
  | succ k ih => rw [List.replicate_succ, List.flatten_cons, List.length_append, ih, Nat.succ_mul, Nat.add_comm]
theorem op_rep : OpR X (binaryOp .Mult) rRep := by
  intro pins s σ H x y v u Q I rx ry h
  obtain ⟨l, k, xs, rfl, rfl, hH, h1, h2, hz, q⟩ := h
  cases rx
  obtain ⟨t, rfl⟩ := ry
  obtain ⟨z, its, n, r, hl, e⟩ := I.lstM hH
  have hlen : its.toArray.size * k.toNat ≤ sizeLine := by rw [List.size_toArray, ← hl]; exact hz
  have hcap : ¬ its.toArray.size * k.toNat > (2 ^ 63 - 1) / 8 := by
    have : (sizeLine : Nat) ≤ (2 ^ 63 - 1) / 8 := by decide
    omega
  have hfit : ¬ (!Builtin.List.listFitsIndex k) = true := by
    rw [fitsIndex_both h1 h2]
    exact Bool.false_ne_true
  have hlong : ¬ Builtin.List.listTooLong (its.toArray.size * k.toNat) = true := by
    rw [notLongL hlen]
    exact Bool.false_ne_true
  have hnew : List.foldl (fun x1 x2 => x1 ++ x2) #[] (List.replicate (if its.toArray.isEmpty = true then 0 else k.toNat) its.toArray) = (List.replicate k.toNat its).flatten.toArray := by
    have f0 : ∀ m : Nat, List.foldl (fun x1 x2 => x1 ++ x2) #[] (List.replicate m its.toArray) = (List.replicate m its).flatten.toArray := fun m => by
      have := foldl_rep its m []
      rw [List.nil_append] at this
      exact this
    rw [f0]
    cases its with
    | nil => simp
    | cons a r' => rw [if_neg (by simp)]
  refine wpAny_binaryOp_repeat_ref (T := "list") (U := "int") (by decide) ⟨_, e, rfl⟩ (fun s' => typeIs_int s' k t) noFill_list_mul F.fills_int_mul F.slot_int_rmul repeat_list F.slot_int_index.lookup
    (call_meets F.slot_int_rmul (typeIs_int s k t) F.entry_int_rmul (F.args_int_rmul_2 _ _) (int___rmul___int_list k t l its.toArray n)
      ⟨e, rfl, ⟨_, e, rfl⟩, call_meets F.slot_list_mul ⟨_, e, rfl⟩ F.entry_list_mul (F.args_list_mul_2 _ _) (AutoListH.list___mul___list_int_3 l its.toArray n k t hfit hcap hlong) ⟨e, ?_⟩⟩)
  rw [hnew]
  exact ⟨.ref _, _, I.lnew (t' := s.toks) (r.rep k.toNat) (by rw [len_rep, Nat.mul_comm]; exact hz), rfl, q _ I.fresh⟩

end

section
variable {prog : Program} {w : World} {A : Around} {E : Value → Shared → Prop} {s : Shared}
set_option maxRecDepth 100000 in
end

section
variable {X : Cx}
end
end L2

namespace L2
open PySem PySem.Spec PyProof.Rows

theorem Vals.ints : ∀ {ns : List Int} {us : List Value}, Vals (ns.map V.int) us → IntsAre us ns
  | [], us, h => by
    rw [List.map_nil] at h
    cases h
    exact IntsAre.nil
  | n :: ns, us, h => by
    rw [List.map_cons] at h
    cases h with
    | cons r t =>
      obtain ⟨k, rfl⟩ := r
      exact IntsAre.cons n k (Vals.ints t)
theorem Vals.strs : ∀ {xs : List Str} {us : List Value}, Vals (xs.map V.str) us → StrsAre us xs
  | [], us, h => by
    rw [List.map_nil] at h
    cases h
    exact StrsAre.nil
  | x :: xs, us, h => by
    rw [List.map_cons] at h
    cases h with
    | cons r t =>
      obtain ⟨k, rfl⟩ := r
      exact StrsAre.cons x k (Vals.strs t)
theorem Vals.ref1 {a : Addr} {us : List Value} (r : Vals [V.ref a] us) : us = [Value.ref a] := by
  cases r with
  | cons r t =>
    cases t
    cases r
    rfl
section
variable {prog : Program} {w : World} {A : Around} {E : Value → Shared → Prop} {s : Shared} {l : Addr} {its : List Value} {ns : List Int} {Q : Value → Shared → Prop}
theorem sum_raw (hh : A.handled = none) (hl : s.heap.IsList l its.toArray) (hi : IntsAre its ns)
    (h : ∀ h' tk t', (∀ b o, s.heap.get? b = some o → h'.get? b = some o) → Q (.int ns.sum t') { s with heap := h', toks := tk }) : wpAny (model prog w) A (call (.builtin "sum") [.ref l]) Q E s := by
  obtain ⟨xs, e⟩ := hi.allInts.items
  have hn : numsOf (intItems xs).toList = ns := by rw [← e]; exact hi.numsOf
  rw [nums_intItems] at hn
  rw [e] at hl
  refine PySem.sum_intListG hh hl fun h' tk t' hk => ?_
  have := h h' tk t' hk
  rw [preSum_eq, List.take_of_length_le (by simp), hn]; exact this
end

section
variable {X : Cx}
def rSum (K : PySem.W.Frag) : List V → Hp → VK → Prop := fun vs H Q => ∃ (a : Addr) (ns : List Int), vs = [V.ref a] ∧ SqL K H a (ns.map V.int) ∧ Q (.int ns.sum) H
theorem cr_sum (hc : X.calm = true) : CallR X (.builtin "sum") (rSum X.K) := by
  intro pins s σ H vs us Q I r h
  obtain ⟨a, ns, rfl, hs, q⟩ := h
  obtain ⟨its, rv, hl, _⟩ := I.list hs
  rw [Vals.ref1 r]
  exact sum_raw (I.ok.hd hc) hl.isList rv.ints fun h' tk t' hk => ⟨.int _, H, I.kept hk, ⟨_, rfl⟩, q⟩
end

section
variable {X : Cx}
end

section
variable {X : Cx}
end

section
variable {X : Cx}
end

mutual
inductive Dp (K : PySem.W.Frag) (H : Hp) : V → PyData → Prop
  | non : Dp K H .non .none
  | bl (b : Bool) : Dp K H (.bl b) (.bool b)
  | int (i : Int) : Dp K H (.int i) (.int i)
  | str (x : Str) : Dp K H (.str x) (.str x)
  | lst {a : Addr} {xs : List V} {ds : List PyData} : SqL K H a xs → DpAll K H xs ds → Dp K H (.ref a) (.list ds)
  | tup {a : Addr} {xs : List V} {ds : List PyData} : SqT K H a xs → DpAll K H xs ds → Dp K H (.ref a) (.tuple ds)
inductive DpAll (K : PySem.W.Frag) (H : Hp) : List V → List PyData → Prop
  | nil : DpAll K H [] []
  | cons {v : V} {vs : List V} {d : PyData} {ds : List PyData} : Dp K H v d → DpAll K H vs ds → DpAll K H (v :: vs) (d :: ds)
end
section
variable {X : Cx} {pins : List (Addr × Obj)} {σ : St} {H : Hp} {s : Shared}
end
section
variable {X : Cx}
end
end L2

namespace L2
open PySem PySem.Spec PyProof.Rows
abbrev CellAt (h : Heap) (c : Addr) (v : Option Value) : Prop := h.IsCell c v
def relS (scope sc : Scope) : Scope :=
  { scope with names := scope.names.map fun (n, k) => if (k == .free && sc.kind == .function && sc.names.lookup n == some .cell) then (n, .cell) else (n, k) }

def cloFrom (cells : List (Str × Addr)) : List (Str × NameKind) → List (Str × Addr) → List (Str × Addr)
  | [], acc => acc
  | (n, k) :: r, acc => if k == .free then cloFrom cells r ((n, (cells.lookup n).getD 0) :: acc) else cloFrom cells r acc

theorem closure_loop (env : Env) (f : Str × NameKind → List (Str × Addr) → Sem (ForInStep (List (Str × Addr))))
    (hf : ∀ n k c, f (n, k) c = if k == .free then (do let a ← cellOf env n; pure (.yield ((n, a) :: c))) else pure (.yield c)) :
    ∀ (names : List (Str × NameKind)) (acc : List (Str × Addr)), (∀ y ∈ names, y.2 = .free → ∃ c, env.cells.lookup y.1 = some c) → forIn names acc f = pure (cloFrom env.cells names acc)
  | [], acc, _ => by rw [List.forIn_nil]; rfl
  | (n, k) :: r, acc, h => by
    rw [List.forIn_cons, hf]
    have ih := fun acc => closure_loop env f hf r acc fun y hy => h y (List.mem_cons_of_mem _ hy)
    unfold cloFrom
    by_cases hk : (k == NameKind.free) = true
    · rw [if_pos hk, if_pos hk]
      obtain ⟨c, hc⟩ := h (n, k) List.mem_cons_self (by simpa using hk)
      have e : cellOf env n = pure c := by unfold cellOf; rw [hc]
      rw [e]
      have e2 : (env.cells.lookup n).getD 0 = c := by rw [hc]; rfl
      rw [e2]
      exact ih _
    · rw [if_neg hk, if_neg hk]
      exact ih _
theorem closure_ok {scope : Scope} {env : Env} (h : ∀ y ∈ scope.names, y.2 = .free → ∃ c, env.cells.lookup y.1 = some c) : closureFor scope env = pure (cloFrom env.cells scope.names []) := by
  simp only [closureFor]
  rw [closure_loop env _ (fun n k c => rfl) scope.names [] h]
  rfl

theorem mem_lookup {α : Type} : ∀ {l : List (Str × α)} {n : Str} {c : α}, (n, c) ∈ l → ∃ c', l.lookup n = some c'
  | (k, v) :: r, n, c, h => by
    rw [List.lookup_cons]
    cases hb : n == k with
    | true => exact ⟨_, rfl⟩
    | false =>
      rcases List.mem_cons.mp h with e | h
      · cases e; simp at hb
      · exact mem_lookup h

theorem cloFrom_mem {cells : List (Str × Addr)} : ∀ {names : List (Str × NameKind)} {acc : List (Str × Addr)} {n : Str} {c : Addr}, (n, c) ∈ cloFrom cells names acc → (n, c) ∈ acc ∨ ((n, .free) ∈ names ∧ c = (cells.lookup n).getD 0)
  | [], _, _, _, h => .inl h
  | (m, k) :: r, acc, n, c, h => by
    unfold cloFrom at h
    split at h
    · rename_i hk
      have hk : k = .free := by simpa using hk
      rcases cloFrom_mem h with h | ⟨h1, h2⟩
      · rcases List.mem_cons.mp h with e | h
        · cases e; exact .inr ⟨hk ▸ List.mem_cons_self, rfl⟩
        · exact .inl h
      · exact .inr ⟨List.mem_cons_of_mem _ h1, h2⟩
    · rcases cloFrom_mem h with h | ⟨h1, h2⟩
      · exact .inl h
      · exact .inr ⟨List.mem_cons_of_mem _ h1, h2⟩
theorem cloFrom_acc {cells : List (Str × Addr)} : ∀ {names : List (Str × NameKind)} {acc : List (Str × Addr)} {p : Str × Addr}, p ∈ acc → p ∈ cloFrom cells names acc
  | [], _, _, h => h
  | (m, k) :: r, acc, p, h => by
    unfold cloFrom
    split
    · exact cloFrom_acc (List.mem_cons_of_mem _ h)
    · exact cloFrom_acc h
theorem cloFrom_has {cells : List (Str × Addr)} : ∀ {names : List (Str × NameKind)} {acc : List (Str × Addr)} {n : Str}, (n, .free) ∈ names → (n, (cells.lookup n).getD 0) ∈ cloFrom cells names acc
  | (m, k) :: r, acc, n, h => by
    unfold cloFrom
    rcases List.mem_cons.mp h with e | h
    · cases e
      exact cloFrom_acc List.mem_cons_self
    · split
      · exact cloFrom_has h
      · exact cloFrom_has h

theorem cells_mem : ∀ {names : List (Str × NameKind)} {h : Heap} {acc : List (Str × Addr)} {x : Str} {c : Addr}, (x, c) ∈ cellsFrom h.objs.size names acc →
    (x, c) ∈ acc ∨ ((x, .cell) ∈ names ∧ h.objs.size ≤ c ∧ CellAt (pushCells h names) c none)
  | [], _, _, _, _, h => .inl h
  | (n, k) :: r, h, acc, x, c, hm => by
    unfold cellsFrom at hm
    unfold pushCells
    split at hm
    · rename_i hk
      rw [if_pos hk]
      have hk : k = .cell := by simpa using hk
      rw [← Heap.size_push h { cls := .type "cell", data := .cell none }] at hm
      rcases cells_mem hm with hm | ⟨h1, h2, h3⟩
      · rcases List.mem_cons.mp hm with e | hm
        · cases e
          exact .inr ⟨hk ▸ List.mem_cons_self, Nat.le_refl _, _, pushCells_keeps r _ _ _ (Heap.get?_push_size _ rfl), rfl⟩
        · exact .inl hm
      · rw [Heap.size_push] at h2
        exact .inr ⟨List.mem_cons_of_mem _ h1, Nat.le_of_succ_le h2, h3⟩
    · rename_i hk
      rw [if_neg hk]
      rcases cells_mem hm with hm | ⟨h1, h2, h3⟩
      · exact .inl hm
      · exact .inr ⟨List.mem_cons_of_mem _ h1, h2, h3⟩
theorem cells_acc : ∀ {names : List (Str × NameKind)} {n : Nat} {acc : List (Str × Addr)} {p : Str × Addr}, p ∈ acc → p ∈ cellsFrom n names acc
  | [], _, _, _, h => h
  | (m, k) :: r, n, acc, p, h => by
    unfold cellsFrom
    split
    · exact cells_acc (List.mem_cons_of_mem _ h)
    · exact cells_acc h
theorem cells_has : ∀ {names : List (Str × NameKind)} {n : Nat} {acc : List (Str × Addr)} {x : Str}, (x, .cell) ∈ names → ∃ c, (x, c) ∈ cellsFrom n names acc
  | (m, k) :: r, n, acc, x, h => by
    unfold cellsFrom
    rcases List.mem_cons.mp h with e | h
    · cases e
      exact ⟨n, cells_acc List.mem_cons_self⟩
    · split
      · exact cells_has h
      · exact cells_has h
theorem cells_inj : ∀ {names : List (Str × NameKind)} {h : Heap} {acc : List (Str × Addr)} {x y : Str} {c : Addr}, (∀ p ∈ acc, p.2 < h.objs.size) → (∀ x y c, (x, c) ∈ acc → (y, c) ∈ acc → x = y) →
    (x, c) ∈ cellsFrom h.objs.size names acc → (y, c) ∈ cellsFrom h.objs.size names acc → x = y
  | [], _, _, _, _, _, _, hi, h1, h2 => hi _ _ _ h1 h2
  | (n, k) :: r, h, acc, x, y, c, hl, hi, h1, h2 => by
    unfold cellsFrom at h1 h2
    split at h1
    · rename_i hk
      rw [if_pos hk] at h2
      rw [← Heap.size_push h { cls := .type "cell", data := .cell none }] at h1 h2
      refine cells_inj (h := h.push _) (fun p hp => ?_) (fun x y c a b => ?_) h1 h2
      · rw [Heap.size_push]
        rcases List.mem_cons.mp hp with rfl | hp
        · exact Nat.lt_succ_self _
        · exact Nat.lt_succ_of_lt (hl p hp)
      · rcases List.mem_cons.mp a with e | a <;> rcases List.mem_cons.mp b with e' | b
        · cases e; cases e'; rfl
        · cases e; exact absurd (hl _ b) (Nat.lt_irrefl _)
        · cases e'; exact absurd (hl _ a) (Nat.lt_irrefl _)
        · exact hi _ _ _ a b
    · rename_i hk
      rw [if_neg hk] at h2
      exact cells_inj hl hi h1 h2

theorem newEnv_comp {M : Model} {A : Around} {E : Value → Shared → Prop} {s : Shared} {scope : Scope} {globals : Addr} {closure : List (Str × Addr)} {qual : Str} {func : Option Addr} {code : Value} {around : Env} {builtins : Addr} {Q : Env → Shared → Prop}
    (h : Q (newEnv scope s.heap.objs.size globals (cellsFrom (s.heap.objs.size + 1) scope.names closure) qual func code (some around) builtins)
      { s with heap := pushCells (s.heap.push { cls := .type "dict", data := .dict #[] }) scope.names }) :
    wpAny M A (newFunctionEnv scope globals closure [] qual func code (some around) builtins) Q E s := by
  simp only [newFunctionEnv, Option.isSome_some, if_true]
  refine wpAny_bind (wpAny_alloc ?_)
  refine wpAny_bind (wpAny_layCells _ (fun n k c => rfl) scope.names closure _ _ ?_)
  rw [show ({ s with heap := s.heap.push { cls := .type "dict", data := .dict #[] } } : Shared).heap.objs.size = s.heap.objs.size + 1 from Heap.size_push ..]
  rw [List.forIn_nil]
  exact wpAny_bind (wpAny_pure (wpAny_pure h))

theorem lookup_relS {sc : Scope} : ∀ {names : List (Str × NameKind)} {x : Str} {k : NameKind},
    (names.map fun (n, k) => if (k == NameKind.free && sc.kind == .function && sc.names.lookup n == some .cell) then (n, NameKind.cell) else (n, k)).lookup x = some k →
    ∃ k', names.lookup x = some k' ∧ (k = k' ∨ (k' = .free ∧ k = .cell))
  | [], _, _, h => by simp at h
  | (n, k₀) :: r, x, k, h => by
    have ih := @lookup_relS sc r x k
    have h' : List.lookup x ((if (k₀ == NameKind.free && sc.kind == .function && sc.names.lookup n == some .cell) = true then (n, NameKind.cell) else (n, k₀)) :: (r.map _)) = some k := h
    cases hx : x == n with
    | true =>
      simp only [List.lookup_cons, hx]
      by_cases hc : (k₀ == NameKind.free && sc.kind == .function && sc.names.lookup n == some .cell) = true
      · rw [if_pos hc] at h'
        simp only [List.lookup_cons, hx] at h'
        cases h'
        simp only [Bool.and_eq_true, beq_iff_eq] at hc
        exact ⟨k₀, rfl, .inr ⟨hc.1.1, rfl⟩⟩
      · rw [if_neg hc] at h'
        simp only [List.lookup_cons, hx] at h'
        cases h'
        exact ⟨_, rfl, .inl rfl⟩
    | false =>
      simp only [List.lookup_cons, hx]
      by_cases hc : (k₀ == NameKind.free && sc.kind == .function && sc.names.lookup n == some .cell) = true
      · rw [if_pos hc] at h'
        simp only [List.lookup_cons, hx] at h'
        exact ih h'
      · rw [if_neg hc] at h'
        simp only [List.lookup_cons, hx] at h'
        exact ih h'
structure BlkOk (N : List Str) (sc scope : Scope) (own : List (Str × Nat)) : Prop where
  kind : scope.kind = .function
  uniq : ∀ y ∈ scope.names, scope.names.lookup y.1 = some y.2
  ix : ∀ p ∈ own, N[p.2]? = some p.1
  free : ∀ y ∈ scope.names, y.2 = .free → sc.names.lookup y.1 = some .cell ∨ sc.names.lookup y.1 = some .free
  own : ∀ y ∈ scope.names, y.2 = .local ∨ y.2 = .cell → y.1 ∈ own.map (·.1) ∨ y.1 ∉ N
def wipe (σ : St) : List Nat → St
  | [] => σ
  | v :: vs => (wipe σ vs).set v none
theorem wipe_length (σ : St) : ∀ vs : List Nat, (wipe σ vs).length = σ.length
  | [] => rfl
  | v :: vs => by unfold wipe; rw [List.length_set, wipe_length σ vs]
theorem wipe_some {σ : St} {i : Nat} {x : V} : ∀ {vs : List Nat}, (wipe σ vs)[i]? = some (some x) → σ[i]? = some (some x) ∧ i ∉ vs
  | [], h => ⟨h, by simp⟩
  | v :: vs, h => by
    unfold wipe at h
    by_cases hi : v = i
    · subst hi
      by_cases hv : v < (wipe σ vs).length
      · rw [List.getElem?_set_self hv] at h; cases h
      · rw [List.getElem?_eq_none (by simpa using hv)] at h; cases h
    · rw [List.getElem?_set_ne hi] at h
      obtain ⟨h1, h2⟩ := wipe_some h
      exact ⟨h1, by simp only [List.mem_cons, not_or]; exact ⟨fun e => hi e.symm, h2⟩⟩

abbrev Cx.blk (X : Cx) (s : Shared) (H : Hp) (scope : Scope) (cenv : Env) (fp : List Addr) : Cx := { X with s_0 := s, H_0 := H, env := cenv, outer := X.stack, ex := fp, fn := fun x => scope.names.lookup x == some .cell, pn := [], xe := fun _ _ => False }
section
variable {X : Cx} {pins : List (Addr × Obj)} {σ : St} {H : Hp} {s : Shared}
theorem block_start {scope : Scope} {own : List (Str × Nat)} {fp : List Addr} (I : Inv X pins σ H s) (ok : BlkOk X.N X.env.scope scope own) (hN : X.N.Nodup) (hfp : ∀ b ∈ fp, FpOk X pins H b ∧ b < s.heap.objs.size) :
    Inv (X.blk s H scope (compEnvC scope (cellsFrom (s.heap.objs.size + 1) scope.names (cloFrom X.env.cells scope.names [])) s.heap.objs.size X.env) fp) [] (wipe σ (own.map (·.2))) H { s with heap := pushCells (s.heap.push { cls := .type "dict", data := .dict #[] }) scope.names } := by
  have hfree : ∀ y ∈ scope.names, y.2 = .free → ∃ c, X.env.cells.lookup y.1 = some c := fun y hy e => by
    rcases ok.free y hy e with k | k
    · exact I.ok.has _ (.inl k)
    · exact I.ok.has _ (.inr k)
  generalize hcenv : compEnvC scope (cellsFrom (s.heap.objs.size + 1) scope.names (cloFrom X.env.cells scope.names [])) s.heap.objs.size X.env = cenv
  have kp : ∀ b o, s.heap.get? b = some o → (pushCells (s.heap.push { cls := .type "dict", data := .dict #[] }) scope.names).get? b = some o := fun b o e => pushCells_keeps _ _ _ _ (Heap.get?_push_of_some _ e)
  have hL : cenv.locals = s.heap.objs.size := by rw [← hcenv]; rfl
  have hcl : cenv.cells = cellsFrom (s.heap.objs.size + 1) scope.names (cloFrom X.env.cells scope.names []) := by rw [← hcenv]; rfl
  have hsc : cenv.scope = relS scope X.env.scope := by rw [← hcenv]; rfl
  rw [← Heap.size_push s.heap { cls := .type "dict", data := .dict #[] }] at hcl
  have cm : ∀ {y c}, (y, c) ∈ cloFrom X.env.cells scope.names [] → X.env.cells.lookup y = some c ∧ c < s.heap.objs.size := fun {y c} hm => by
    rcases cloFrom_mem hm with hm | ⟨h1, rfl⟩
    · cases hm
    · obtain ⟨c, hc⟩ := hfree _ h1 rfl
      rw [hc]
      obtain ⟨w, z⟩ := I.cell _ _ hc
      exact ⟨rfl, z.lt⟩
  have mem : ∀ {y c}, cenv.cells.lookup y = some c → (X.env.cells.lookup y = some c ∧ c < s.heap.objs.size) ∨ (s.heap.objs.size + 1 ≤ c ∧ CellAt (pushCells (s.heap.push { cls := .type "dict", data := .dict #[] }) scope.names) c none) := fun {y c} e => by
    rw [hcl] at e
    rcases cells_mem (PySem.mem_of_lookup e) with hm | ⟨_, h2, h3⟩
    · exact .inl (cm hm)
    · rw [Heap.size_push] at h2; exact .inr ⟨h2, h3⟩
  have look : ∀ {y}, scope.names.lookup y = some .free → ∃ c, cenv.cells.lookup y = some c ∧ X.env.cells.lookup y = some c := fun {y} hl => by
    have hy : (y, NameKind.free) ∈ scope.names := PySem.mem_of_lookup hl
    obtain ⟨c', e'⟩ := mem_lookup (cells_acc (names := scope.names) (n := (s.heap.push { cls := .type "dict", data := .dict #[] }).objs.size) (cloFrom_has (cells := X.env.cells) (acc := []) hy))
    rw [← hcl] at e'
    refine ⟨c', e', ?_⟩
    rw [hcl] at e'
    rcases cells_mem (PySem.mem_of_lookup e') with hm | ⟨h1, _, _⟩
    · exact (cm hm).1
    · have := ok.uniq _ h1
      rw [hl] at this; cases this
  have okB : (X.blk s H scope cenv fp).Ok := by
    refine ⟨I.ok.mod, by show cenv.scope.kind = _; rw [hsc]; exact ok.kind, by show cenv.globals = _; rw [← hcenv]; exact I.ok.glob, by show cenv.builtins = _; rw [← hcenv]; exact I.ok.blt, by show s.heap.objs.size ≤ cenv.locals; rw [hL]; exact Nat.le_refl _,
      fun y z c e1 e2 => ?_, fun y hy => ?_, fun y c z e => ?_, I.ok.hd, I.ok.frames, .inl rfl, fun b hb => ⟨?_, fun y c e z => ?_⟩, I.bs, Nat.le_trans I.ok.bsz I.sz, fun b o e hb => ?_, fun b hb z => ?_, I.stack, I.stkFree⟩
    · have e1 : cenv.cells.lookup y = some c := e1
      have e2 : cenv.cells.lookup z = some c := e2
      rw [hcl] at e1 e2
      refine cells_inj (fun p hp => ?_) (fun y z c a b => I.ok.inj y z c (cm a).1 (cm b).1) (PySem.mem_of_lookup e1) (PySem.mem_of_lookup e2)
      rw [Heap.size_push]
      exact Nat.lt_succ_of_lt (cm (y := p.1) (c := p.2) hp).2
    · show ∃ c, cenv.cells.lookup y = some c
      have key : ∀ k, cenv.kindOf y = some k → (k = .cell ∨ k = .free) → ∃ c, cenv.cells.lookup y = some c := fun k hk hk' => by
        unfold Env.kindOf at hk
        rw [hsc] at hk
        obtain ⟨k', e, r⟩ := lookup_relS hk
        have : k' = .cell ∨ k' = .free := by
          rcases r with rfl | ⟨rfl, _⟩
          · exact hk'
          · exact .inr rfl
        rcases this with rfl | rfl
        · obtain ⟨c, hm⟩ := cells_has (n := (s.heap.push { cls := .type "dict", data := .dict #[] }).objs.size) (acc := cloFrom X.env.cells scope.names []) (PySem.mem_of_lookup e)
          obtain ⟨c', e'⟩ := mem_lookup hm
          exact ⟨c', by rw [hcl]; exact e'⟩
        · obtain ⟨c, h1, _⟩ := look e
          exact ⟨c, h1⟩
      rcases hy with hy | hy
      · exact key _ hy (.inl rfl)
      · exact key _ hy (.inr rfl)
    · have z : (scope.names.lookup y == some NameKind.cell) = true := z
      have z : scope.names.lookup y = some .cell := by simpa using z
      have e : cenv.cells.lookup y = some c := e
      rw [hcl] at e
      rcases cells_mem (PySem.mem_of_lookup e) with hm | ⟨_, h2, _⟩
      · rcases cloFrom_mem hm with hm | ⟨h1, _⟩
        · cases hm
        · have q := ok.uniq _ h1
          rw [z] at q; cases q
      · rw [Heap.size_push] at h2
        exact Nat.le_of_succ_le h2
    · show b ≠ cenv.locals
      rw [hL]; exact Nat.ne_of_lt (hfp b hb).2
    · have e : cenv.cells.lookup y = some c := e
      rcases mem e with ⟨h1, _⟩ | ⟨h1, _⟩
      · exact (hfp b hb).1.2.2.2.2.1 y c h1 z
      · have h2 : s.heap.objs.size + 1 ≤ b := by rw [← z]; exact h1
        exact absurd (Nat.lt_of_lt_of_le (hfp b hb).2 (Nat.le_of_succ_le h2)) (Nat.lt_irrefl _)
    · rcases (hfp b hb).1.2.2.2.1 with z | z
      · exact I.ok.noex b o e z
      · exact absurd (Nat.lt_of_lt_of_le (Heap.lt_size e) (Nat.le_trans I.ok.bsz z)) (Nat.lt_irrefl _)
    · rcases List.mem_cons.mp (I.stkSub b z) with z | z
      · exact (hfp b hb).1.2.1 z
      · exact (hfp b hb).1.2.2.1 z
  refine ⟨okB, rfl, I.bare, Un.kept kp, ⟨fun _ => none, ?_, fun i y av e1 e2 e3 => ?_⟩, fun y c e => ?_, ?_, fun y c e => ?_, fun p hp => ?_, I.hok.kept kp, by rw [wipe_length]; exact I.len⟩
  · show Heap.Ns _ cenv.locals _
    rw [hL]
    exact Heap.Ns.keeps (Heap.Ns.new ..) fun b o e => pushCells_keeps _ _ _ _ e
  · obtain ⟨e2, hne⟩ := wipe_some e2
    have hfr : scope.names.lookup y = some .free ∧ (cenv.kindOf y = some .cell ∨ cenv.kindOf y = some .free) := by
      have key : ∀ k, cenv.scope.names.lookup y = some k → k = .local ∨ k = .cell ∨ k = .free → scope.names.lookup y = some .free ∧ (cenv.kindOf y = some .cell ∨ cenv.kindOf y = some .free) := fun k hk hk' => by
        have hk0 := hk
        rw [hsc] at hk
        obtain ⟨k', e, r⟩ := lookup_relS hk
        have no : ¬ (k' = .local ∨ k' = .cell) := fun hh => by
          rcases ok.own _ (PySem.mem_of_lookup e) hh with e' | e'
          · obtain ⟨p, hp, hpy⟩ := List.mem_map.mp e'
            have e3 := ok.ix p hp
            have : p.1 = y := hpy
            rw [this] at e3
            exact hne (List.mem_map.mpr ⟨p, hp, nodup_ix hN e3 e1⟩)
          · exact e' (List.mem_of_getElem? e1)
        rcases r with rfl | ⟨rfl, rfl⟩
        · rcases hk' with rfl | rfl | rfl
          · exact absurd (.inl rfl) no
          · exact absurd (.inr rfl) no
          · exact ⟨e, .inr hk0⟩
        · exact ⟨e, .inl hk0⟩
      have e3 : Vis cenv.scope y := e3
      rcases e3 with e3 | e3 | e3
      · exact key _ e3 (.inl rfl)
      · exact key _ e3 (.inr (.inl rfl))
      · exact key _ e3 (.inr (.inr rfl))
    obtain ⟨m, hn, hl⟩ := I.loc
    have hvis : Vis X.env.scope y := (ok.free _ (PySem.mem_of_lookup hfr.1) rfl).elim (fun k => .inr (.inl k)) (fun k => .inr (.inr k))
    obtain ⟨w, r, q⟩ := hl i y av e1 e2 hvis
    refine ⟨w, r, .inr ⟨hfr.2, ?_⟩⟩
    obtain ⟨c, h1, h2⟩ := look hfr.1
    rcases q with ⟨k, _⟩ | ⟨_, c', e', z⟩
    · have k : X.env.scope.names.lookup y = some .local := k
      rcases ok.free _ (PySem.mem_of_lookup hfr.1) rfl with k' | k' <;> rw [show X.env.scope.names.lookup y = _ from k'] at k <;> cases k
    · rw [h2] at e'; cases e'
      exact ⟨c, h1, z.keeps kp⟩
  · have e : cenv.cells.lookup y = some c := e
    rcases mem e with ⟨h1, _⟩ | ⟨_, z⟩
    · obtain ⟨w, z⟩ := I.cell y c h1
      exact ⟨w, z.keeps kp⟩
    · exact ⟨_, z⟩
  · show H cenv.locals = none
    rw [hL]; exact I.hok.fresh (Nat.le_refl _)
  · have e : cenv.cells.lookup y = some c := e
    rcases mem e with ⟨h1, _⟩ | ⟨h1, _⟩
    · exact I.freeC y c h1
    · exact I.hok.fresh (Nat.le_of_succ_le h1)
  · exact absurd (show p ∈ ([] : List (Addr × Obj)) ++ [] from hp) (by simp)

theorem app_ok {E : Value → Shared → Prop} {D : Addr} {xs : List V} {y : V} {v : Value} {Q : Value → Shared → Prop} (I : Inv X pins σ H s) (hD : H D = some (.lst xs)) (hz : xs.length < sizeLine) (r : RelV y v)
    (h : ∀ s', Inv X pins σ (upd H D (.lst (xs ++ [y]))) s' → Q .none s') : wpAny (model X.prog X.w) X.A (call (.builtin "list.append") [.ref D, v]) Q E s := by
  obtain ⟨hz', its, n, ri, e⟩ := I.hok D _ hD
  have hl := ri.length
  refine append_at (hsz := by rw [List.size_toArray]; omega) e fun h' sb ho' => ?_
  refine h { s with heap := h' } (I.write (t' := s.toks) (by rw [hD]; trivial) (.inl rfl) (fun b u hb q => (sb.2 b hb).trans q) ⟨_, ho'⟩ ⟨by rw [List.length_append]; exact hz, its ++ [v], n + 1, ri.append (.cons r .nil), ?_⟩)
  rw [ho']
  simp

def PTs (X : Cx) (ifs : List Expr) (t : TT) : Prop :=
  ∀ (pins : List (Addr × Obj)) (s : Shared) (σ : St) (H : Hp) (Q : Bool → Hp → Prop), Inv X pins σ H s → t σ H Q →
    wpAny (model X.prog X.w) X.A (forIn ifs true fun c r => if r = true then do let ok ← isTrue c X.env (eval c X.env); pure (ForInStep.yield ok) else pure (ForInStep.yield r)) (TP X pins σ Q) X.xe s
def tYes : TT := fun _ H Q => Q true H
theorem pts_nil : PTs X [] tYes := fun _ _ _ H _ I h => wpAny_tests_nil ⟨H, I, h⟩
end

theorem thnF {α : Type} {t : Sem α} {Q Q' : α → Shared → Prop} {M : Model} {A : Around} {E : Value → Shared → Prop} {s : Shared} (h : wpAny M A t Q (fun _ _ => False) s) (hQ : ∀ a s, Q a s → Q' a s) : wpAny M A t Q' E s := wpAny_mono h hQ fun _ _ z => False.elim z

theorem compLoop_any {prog : Program} {w : World} {A : Around} {R : Result → Shared → Prop} {s : Shared} {elt target iter : Expr} {ifs : List Expr} {scope : Scope} {pos : Pos} {it acc : Value} {env : Env} (I : Nat → Shared → Prop)
    (turn : ∀ n s, I n s → wpAny (model prog w) A (pyNext it) (fun r s₁ => match r with
      | none => R (.ok .next) s₁
      | some v => wpAny (model prog w) A (letOwnedTupleGo target it v) (fun _ s₁' => wpAny (model prog w) A (assign target env v) (fun _ s₂ =>
          wpAny (model prog w) A (forIn ifs true fun c r => if r = true then do let ok ← isTrue c env (eval c env); pure (ForInStep.yield ok) else pure (ForInStep.yield r)) (fun ok s₃ =>
            if ok = true then wpAny (model prog w) A (eval elt env) (fun x s₄ =>
              wpAny (model prog w) A (call (.builtin "list.append") [acc, x]) (fun _ s₅ => ∃ m, m < n ∧ I m s₅) (notedBy (model prog w) A env fun e s' => R (.error e) s') s₄) (notedBy (model prog w) A env fun e s' => R (.error e) s') s₃
            else ∃ m, m < n ∧ I m s₃) (notedBy (model prog w) A env fun e s' => R (.error e) s') s₂) (notedBy (model prog w) A env fun e s' => R (.error e) s') s₁') (notedBy (model prog w) A env fun e s' => R (.error e) s') s₁) (notedBy (model prog w) A env fun e s' => R (.error e) s') s)
    (n : Nat) (h : I n s) :
    codeAny (model prog w) A (.compLoop (.ListComp elt [⟨target, iter, ifs, 0⟩] scope pos) 0 it acc env) R s := by
  refine codeAny_loop rfl I (fun n s hI => ?_) n h
  show wpAny _ A ((compTurn (.ListComp elt [⟨target, iter, ifs, 0⟩] scope pos) 0 it acc env).onRaise (fun x => do noteFrame x env; theTreesLotGoes x)) _ _ s
  refine wpAny_noted ?_
  rw [compTurn_list]
  refine wpAny_bind (wpAny_standAt (wpAny_bind (wpAny_mono (turn n s hI) (fun r s₁ h₁ => ?_) fun _ _ h' => h')))
  cases r with
  | none => exact wpAny_pure h₁
  | some v =>
    refine wpAny_bind (wpAny_mono h₁ (fun _ s₁' h₁' => ?_) fun _ _ h' => h')
    refine wpAny_bind (wpAny_mono h₁' (fun _ s₂ h₂ => wpAny_bind (wpAny_mono h₂ (fun ok s₃ h₃ => ?_) fun _ _ h' => h')) fun _ _ h' => h')
    cases ok with
    | false => exact wpAny_pure ⟨rfl, h₃⟩
    | true =>
      exact wpAny_bind (wpAny_bind (wpAny_mono h₃ (fun x s₄ h₄ => wpAny_bind (wpAny_mono h₄ (fun _ s₅ h₅ => wpAny_pure (wpAny_pure ⟨rfl, h₅⟩)) fun _ _ h' => h')) fun _ _ h' => h'))

section
variable {X : Cx}
def tLc (wi : TI) (g : TG) (tt : TT) (te : TE) (vs : List Nat) : TE := fun σ H Q => wi σ H fun J H1 => ∀ D, H1 D = none → ∃ W : Nat → Nat → Hp → Prop, (∃ m, W 0 m (upd H1 D (.lst []))) ∧ ∀ i m H, W i m H →
  (J.stop i H ∧ Q (.ref D) H) ∨ (J.go i H ∧ ∃ Nx : Hp → Prop, (∀ H', Nx H' → ∃ m', m' < m ∧ W (i + 1) m' H') ∧ ∀ x H', J.yld i H x H' → g x (wipe σ vs) H' fun σ2 H2 => wipe σ2 vs = wipe σ vs ∧ tt σ2 H2 fun b H3 =>
    if b = true then te σ2 H3 fun y H4 => ∃ acc, H4 D = some (.lst acc) ∧ acc.length < sizeLine ∧ Nx (upd H4 D (.lst (acc ++ [y]))) else Nx H3)
theorem sw_true {elt : Expr} {gs : List Comprehension} {scope : Scope} {pos py : Pos} {y : Str} {l : Nat} {env : Env} (hk : env.scope.kind = .function) (hy : env.scope.names.lookup y = some .local) (hl : (py.line == pos.line) = true)
    (ha : (scope.names.any fun (n, k) => n == y && (k == .local || k == .cell)) = false) : swapsWith (.ListComp elt gs scope pos) (some (.Name y py)) l env = pure true := by
  have ky : env.kindOf y = some .local := hy
  have hb : env.blockKind = .function := by unfold Env.blockKind; rw [hk]; rfl
  unfold swapsWith
  simp only [hb, ky, ha, Expr.pos, hl]
  rfl
end

def blkC (N : List Str) (sc scope : Scope) (own : List (Str × Nat)) : Bool :=
  (match scope.kind with | .function => true | _ => false) && (scope.names.all fun y => decide (scope.names.lookup y.1 = some y.2)) && (own.all fun p => decide (N[p.2]? = some p.1)) &&
    (scope.names.all fun y => match y.2 with
      | .free => (match sc.names.lookup y.1 with | some .cell => true | some .free => true | _ => false)
      | .local => decide (y.1 ∈ own.map (·.1)) || decide (y.1 ∉ N)
      | .cell => decide (y.1 ∈ own.map (·.1)) || decide (y.1 ∉ N)
      | _ => true)
theorem blkOk_by {N : List Str} {sc scope : Scope} {own : List (Str × Nat)} (h : blkC N sc scope own = true) : BlkOk N sc scope own := by
  unfold blkC at h
  simp only [Bool.and_eq_true, List.all_eq_true, decide_eq_true_eq] at h
  obtain ⟨⟨⟨h1, h2⟩, h3⟩, h4⟩ := h
  refine ⟨?_, h2, h3, fun y hy e => ?_, fun y hy e => ?_⟩
  · split at h1
    · assumption
    · cases h1
  · have q := h4 y hy
    simp only [e] at q
    split at q <;> first | exact .inl (by assumption) | exact .inr (by assumption) | cases q
  · have q := h4 y hy
    rcases e with e | e <;> (simp only [e, Bool.or_eq_true, decide_eq_true_eq] at q; exact q)
end L2

namespace L2
open PySem PySem.Spec PyProof.Rows

section
variable {prog : Program} {w : World} {A : Around} {R : Result → Shared → Prop} {s : Shared} {elt t0 i0 t1 i1 : Expr} {ifs0 ifs1 : List Expr} {scope : Scope} {pos : Pos} {it acc : Value} {env : Env}
end

section
variable {X : Cx}
end
end L2

namespace L2
open PySem PySem.Spec PyProof.Rows

section
variable {κ : Type} [DecidableEq κ]
def valV (kvs : List (κ × V)) (k : κ) : Option V := (kvs.find? fun kv => decide (kv.1 = k)).map (·.2)
def putK (kvs : List (κ × V)) (k : κ) (v : V) : List (κ × V) :=
  if (kvs.any fun kv => decide (kv.1 = k)) = true then kvs.map (fun kv => if kv.1 = k then (kv.1, v) else kv) else kvs ++ [(k, v)]
def dropK (kvs : List (κ × V)) (k : κ) : List (κ × V) := kvs.filter fun kv => decide (kv.1 ≠ k)

theorem valV_pos {p : κ × V} {r : List (κ × V)} {k : κ} (e : p.1 = k) : valV (p :: r) k = some p.2 := by simp [valV, List.find?_cons, e]
theorem valV_neg {p : κ × V} {r : List (κ × V)} {k : κ} (e : ¬ p.1 = k) : valV (p :: r) k = valV r k := by simp [valV, List.find?_cons, e]
theorem RelO.getD {o : Option V} {u : Option Value} {d : V} {d' : Value} (r : RelO o u) (rd : RelV d d') : RelV (o.getD d) (u.getD d') := by
  cases o with
  | none => cases u with
    | none => exact rd
    | some _ => exact (show False from r).elim
  | some _ => cases u with
    | none => exact (show False from r).elim
    | some _ => exact r

theorem KV.val {kvs : List (κ × V)} {vs : List (κ × Value)} (r : KV kvs vs) (k : κ) : RelO (valV kvs k) (valueAt vs k) := by
  unfold KV at r
  induction r with
  | nil => exact True.intro
  | @cons p q ps qs h t ih =>
    obtain ⟨h1, h2⟩ := h
    by_cases e : p.1 = k
    · have e' : q.1 = k := h1.symm.trans e
      have b : valueAt (q :: qs) k = some q.2 := by simp [valueAt, List.find?_cons, e']
      rw [valV_pos e, b]; exact h2
    · have e' : ¬ q.1 = k := fun z => e (h1.trans z)
      have b : valueAt (q :: qs) k = valueAt qs k := by simp [valueAt, List.find?_cons, e']
      rw [valV_neg e, b]; exact ih
theorem KV.any {kvs : List (κ × V)} {vs : List (κ × Value)} (r : KV kvs vs) (k : κ) : (kvs.any fun kv => decide (kv.1 = k)) = vs.any fun kv => decide (kv.1 = k) := by
  unfold KV at r
  induction r with
  | nil => rfl
  | cons h t ih => rw [List.any_cons, List.any_cons, ih, h.1]
theorem KV.drop {kvs : List (κ × V)} {vs : List (κ × Value)} (r : KV kvs vs) (k : κ) : KV (dropK kvs k) (without vs k) := by
  unfold KV at r ⊢
  unfold dropK without
  induction r with
  | nil => exact .nil
  | @cons p q ps qs h t ih =>
    obtain ⟨h1, h2⟩ := h
    rw [List.filter_cons, List.filter_cons]
    by_cases e : p.1 = k
    · have a : ¬ decide (p.1 ≠ k) = true := by simp [e]
      have b : ¬ decide (q.1 ≠ k) = true := by simp [h1.symm.trans e]
      rw [if_neg a, if_neg b]; exact ih
    · have e' : ¬ q.1 = k := fun z => e (h1.trans z)
      have a : decide (p.1 ≠ k) = true := by simp [e]
      have b : decide (q.1 ≠ k) = true := by simp [e']
      rw [if_pos a, if_pos b]; exact .cons ⟨h1, h2⟩ ih
theorem KV.keys {kvs : List (κ × V)} {vs : List (κ × Value)} (r : KV kvs vs) : kvs.map (·.1) = vs.map (·.1) := by
  unfold KV at r
  induction r with
  | nil => rfl
  | cons h t ih => rw [List.map_cons, List.map_cons, ih, h.1]
theorem KV.length {kvs : List (κ × V)} {vs : List (κ × Value)} (r : KV kvs vs) : kvs.length = vs.length := Paired.length r
end


abbrev KT (H : Hp) : List (List Key × V) → List (List Key × Addr × Value) → Prop := Paired fun p q => p.1 = q.1 ∧ H q.2.1 = some (.tup (p.1.map kV)) ∧ RelV p.2 q.2.2
theorem KT.val {H : Hp} {kvs : List (List Key × V)} {xs : List (List Key × Addr × Value)} (r : KT H kvs xs) (k : List Key) : RelO (valV kvs k) ((atKey xs k).map (·.2)) := by
  induction r with
  | nil => exact True.intro
  | @cons p q ps qs h t ih =>
    obtain ⟨h1, _, h2⟩ := h
    by_cases e : p.1 = k
    · have e' : q.1 = k := h1.symm.trans e
      have b : atKey (q :: qs) k = some q.2 := by simp [atKey, List.find?_cons, e']
      rw [valV_pos e, b]; exact h2
    · have e' : ¬ q.1 = k := fun z => e (h1.trans z)
      have b : atKey (q :: qs) k = atKey qs k := by simp [atKey, List.find?_cons, e']
      rw [valV_neg e, b]; exact ih
theorem KT.keeps {H H' : Hp} {kvs : List (List Key × V)} {xs : List (List Key × Addr × Value)} (r : KT H kvs xs) (ht : ∀ b ys, H b = some (.tup ys) → H' b = some (.tup ys)) : KT H' kvs xs :=
  Paired.mapP r fun _ _ z => ⟨z.1, ht _ _ z.2.1, z.2.2⟩

section
variable {P : Program} {w : World} {H : Hp} {h : Heap} {a : Addr}
end

def DGet (H : Hp) (a : Addr) (y : V) (r : Option V) : Prop :=
  (∃ kvs k, Rd H a (.dK kvs) ∧ y = kV k ∧ r = valV kvs k) ∨ ∃ kvs k b, Rd H a (.dT kvs) ∧ y = .ref b ∧ H b = some (.tup (k.map kV)) ∧ r = valV kvs k
def DPut (H : Hp) (a : Addr) (y v : V) (H' : Hp) : Prop :=
  (∃ kvs k, H a = some (.dK kvs) ∧ y = kV k ∧ kvs.length < sizeLine ∧ H' = upd H a (.dK (putK kvs k v))) ∨
  ∃ kvs k b, H a = some (.dT kvs) ∧ y = .ref b ∧ H b = some (.tup (k.map kV)) ∧ kvs.length < sizeLine ∧ H' = upd H a (.dT (putK kvs k v))
theorem DGet.k {H : Hp} {a : Addr} {kvs : List (Key × V)} {k : Key} (e : H a = some (.dK kvs)) : DGet H a (kV k) (valV kvs k) := .inl ⟨kvs, k, .inl e, rfl, rfl⟩
theorem DGet.t {H : Hp} {a b : Addr} {kvs : List (List Key × V)} {k : List Key} (e : H a = some (.dT kvs)) (eb : H b = some (.tup (k.map kV))) : DGet H a (.ref b) (valV kvs k) := .inr ⟨kvs, k, b, .inl e, rfl, eb, rfl⟩
theorem DPut.k {H : Hp} {a : Addr} {kvs : List (Key × V)} {k : Key} {v : V} (e : H a = some (.dK kvs)) (hl : kvs.length < sizeLine) : DPut H a (kV k) v (upd H a (.dK (putK kvs k v))) := .inl ⟨kvs, k, e, rfl, hl, rfl⟩
theorem DPut.t {H : Hp} {a b : Addr} {kvs : List (List Key × V)} {k : List Key} {v : V} (e : H a = some (.dT kvs)) (eb : H b = some (.tup (k.map kV))) (hl : kvs.length < sizeLine) :
    DPut H a (.ref b) v (upd H a (.dT (putK kvs k v))) := .inr ⟨kvs, k, b, e, rfl, eb, hl, rfl⟩


section
variable {X : Cx} {pins : List (Addr × Obj)} {σ : St} {H : Hp} {s : Shared} {a : Addr} {y v : V} {u r : Value} {o : Option V} {A : Around} {E : Value → Shared → Prop}

theorem Inv.big (I : Inv X pins σ H s) : sysModules < s.heap.objs.size := by
  have h : mainGlobals < s.heap.objs.size := (I.mod.glob.keeps I.bk).lt
  exact Nat.lt_trans (by decide) h

end

section
variable {X : Cx} {pins : List (Addr × Obj)} {σ : St} {H : Hp} {s : Shared} {a : Addr} {kvs : List (Key × V)} {k : Key} {u : Value} {A : Around} {E : Value → Shared → Prop}
end


section
variable {X : Cx} {o i e value : Expr} {pos pos' tpos : Pos} {td ty tv : TE}
end


section
variable {X : Cx} {pos : Pos}
end

structure M1 (X : Cx) (o : Expr) (m : Str) (apos : Pos) (e : Expr) (cpos : Pos) : Prop where
  base : attributeBase o m X.env (eval o X.env) = eval o X.env
  few : ((backTo cpos (starEach [e] X.env)).all (fun x => !x.1) && (backToKw cpos (keywordEach [] X.env)).all (fun x => x.1.isSome)
    && decide (([e] : List Expr).length + ([] : List Keyword).length + (if ([] : List Keyword).isEmpty then 0 else 1) < 30)) = true
  line : (apos.endLine == cpos.line) = true
  trees : backTo cpos (starEach [e] X.env) = [(false, eval e X.env)]
structure M2 (X : Cx) (o : Expr) (m : Str) (apos : Pos) (e f : Expr) (cpos : Pos) : Prop where
  base : attributeBase o m X.env (eval o X.env) = eval o X.env
  few : ((backTo cpos (starEach [e, f] X.env)).all (fun x => !x.1) && (backToKw cpos (keywordEach [] X.env)).all (fun x => x.1.isSome)
    && decide (([e, f] : List Expr).length + ([] : List Keyword).length + (if ([] : List Keyword).isEmpty then 0 else 1) < 30)) = true
  line : (apos.endLine == cpos.line) = true
  trees : backTo cpos (starEach [e, f] X.env) = [(false, eval e X.env), (false, eval f X.env)]

section
variable {X : Cx} {pins : List (Addr × Obj)} {σ : St} {H : Hp} {s : Shared} {a : Addr} {y d : V} {u r : Value} {o : Option V} {A : Around} {E : Value → Shared → Prop}
end

section
variable {X : Cx} {o e f : Expr} {apos cpos : Pos} {td ty tx : TE}
end

section
variable {X : Cx} {pins : List (Addr × Obj)} {σ : St} {H : Hp} {s : Shared} {a : Addr} {kvs : List (Key × V)} {A : Around} {E : Value → Shared → Prop}
end


section
variable {X : Cx} {pins : List (Addr × Obj)} {σ : St} {H : Hp} {s : Shared} {a : Addr} {y : V} {u : Value} {A : Around} {E : Value → Shared → Prop}
end
end L2

namespace L2
open PySem PySem.Spec PyProof.Rows

section
variable {prog : Program} {w : World} {A : Around} {E : Value → Shared → Prop}
end

section
variable {X : Cx}
end
end L2

namespace L2
open PySem PySem.Spec PyProof.Rows

section
variable {X : Cx} {pins : List (Addr × Obj)} {σ : St} {H : Hp} {s : Shared} {h' : Heap}
theorem Inv.turnedL {t' : Nat} {ch : List Addr} (I : Inv X pins σ H s) (k : ∀ b o, b ∉ ch → s.heap.get? b = some o → h'.get? b = some o) (hf : ∀ b ∈ ch, FpOk X pins H b) : Inv X pins σ H { s with heap := h', toks := t' } := by
  have nit : ∀ b u, H b = some u → b ∉ ch := fun b u e z => by
    have q := (hf b z).1
    rw [q] at e; cases e
  refine I.step (g' := s.gens) (d' := s.drawn) (ch := ch) (fun b hb => ⟨(hf b hb).2.2.2.1, (hf b hb).2.1, (hf b hb).2.2.2.2.1, (hf b hb).2.2.2.2.2⟩) (fun b o _ _ hc e _ => k b o hc e) (fun b o _ _ hc e _ => ⟨o.slots, k b o hc e⟩)
    (fun _ _ _ _ n => n) (fun b o hc e => ⟨o, k b o hc e⟩) (fun _ _ e => e) (fun _ _ _ e => e) (fun b ps e => ⟨#[], by rw [e]; simp⟩) (fun m hm => ?_) (fun b u e => ?_) I.bare
  · obtain ⟨o, es, ep, ho, r⟩ := hm
    exact ⟨o, es, ep, k _ o (fun z => (hf _ z).2.1 rfl) ho, r⟩
  · refine (I.hok b u e).stay (fun c v hc q => k c v ?_ q) (fun _ q => q) fun _ _ q => q
    rcases hc with z | z
    · rw [z]; exact nit b u e
    · exact nit c _ z
theorem Inv.turnedNew {t' : Nat} {ch : List Addr} {T : Addr} {ob : HO} (I : Inv X pins σ H s) (k : ∀ b o, b ∉ ch → s.heap.get? b = some o → h'.get? b = some o) (hf : ∀ b ∈ ch, FpOk X pins H b) (hT : s.heap.objs.size ≤ T)
    (new : ObjOk X.prog X.w (upd H T ob) h' T ob) : Inv X pins σ (upd H T ob) { s with heap := h', toks := t' } := by
  have hn : H T = none := I.hok.fresh hT
  have nit : ∀ b u, H b = some u → b ∉ ch := fun b u e z => by
    have q := (hf b z).1
    rw [q] at e; cases e
  refine I.step (g' := s.gens) (d' := s.drawn) (ch := ch) (fun b hb => ⟨(hf b hb).2.2.2.1, (hf b hb).2.1, (hf b hb).2.2.2.2.1, (hf b hb).2.2.2.2.2⟩) (fun b o _ _ hc e _ => k b o hc e) (fun b o _ _ hc e _ => ⟨o.slots, k b o hc e⟩)
    (fun b o _ e n => ?_) (fun b o hc e => ⟨o, k b o hc e⟩) (fun b xs e => ?_) (fun b o u e => ?_) (fun b ps e => ⟨#[], ?_⟩) (fun m hm => ?_) (fun b u e => ?_) I.bare
  · rw [upd_ne (Nat.ne_of_lt (Nat.lt_of_lt_of_le (Heap.lt_size e) hT))]; exact n
  · rw [upd_ne (ne_of_none e hn)]; exact e
  · rw [upd_ne (ne_of_none e hn)]; exact e
  · rw [upd_ne (ne_of_none e hn), e]; simp
  · obtain ⟨o, es, ep, ho, r⟩ := hm
    exact ⟨o, es, ep, k _ o (fun z => (hf _ z).2.1 rfl) ho, r⟩
  · by_cases hb : b = T
    · subst hb
      rw [upd_same] at e
      cases e
      exact new
    · rw [upd_ne hb] at e
      refine (I.hok b u e).stay (fun c v hc q => k c v ?_ q) (fun c q => by rw [upd_ne (ne_of_none q hn)]; exact q) fun c xs q => by rw [upd_ne (ne_of_none q hn)]; exact q
      rcases hc with z | z
      · rw [z]; exact nit b u e
      · exact nit c _ z

end
section
variable {X : Cx}
theorem pi_one {tg : Expr} {pins : List (Addr × Obj)} {σ : St} {H : Hp} {s : Shared} {R : It → Hp → Prop} {J : It} {tn : Nat → Heap → Prop} {tk : Nat} (I : Inv X pins σ H s) (o : Obj)
    (T : Turn X.prog X.w X.K tg J [s.heap.objs.size] s.heap.objs.size tn) (st : tn 0 (s.heap.push o)) (q : R J H) : PIE X pins σ tg R (.ref s.heap.objs.size) { s with heap := s.heap.push o, toks := tk } := by
  refine ⟨s.heap.objs.size, [s.heap.objs.size], tn, J, H, rfl, I.kept fun b ob e => Heap.get?_push_of_some _ e, T, st, fun b hb => ?_, q⟩
  have e : b = s.heap.objs.size := by simpa using hb
  subst e
  exact I.fpOk (Nat.le_refl _) (I.hok.fresh (Nat.le_refl _))
end

def Itc (lo c : Int) (n : Nat) : It := ⟨fun i _ => i < n, fun i H x H' => H' = H ∧ x = .int (lo + (i : Nat) * c), fun i _ => n ≤ i⟩
theorem turn_rangeC {P : Program} {w : World} {K : PySem.W.Frag} {tg : Expr} (it : Addr) (lo c : Int) (n : Nat) : Turn P w K tg (Itc lo c n) [it] it (fun i h => IsRangeIter h it (lo + (i : Nat) * c) ((n : Int) - (i : Nat)) c) where
  mem := by simp
  obj := fun i h st b hb => by
    have e : b = it := by simpa using hb
    subst e
    exact ⟨_, st, fun v z => nomatch z⟩
  keep := fun i h h' st k => k it (by simp) _ st
  item := by
    intro X hP hw hK hc i pins s σ H E I hf st hg
    subst hP hw hK
    obtain ⟨f0, f1, f2, f3, f4, f5⟩ := hf it (by simp)
    have W := Walks.range (prog := X.prog) (w := X.w) (I.ok.hd hc) it lo c n
    refine W.item i s _ _ hg st fun v h' tk hv st' kk => ?_
    obtain ⟨t, rfl⟩ := hv
    have I1 : Inv X pins σ H { s with heap := h', toks := tk } := I.turned (fun b o hb e => kk b o (by simpa using hb) e) f0 f1 f3 f4 f5
    exact ⟨_, rfl, go_of (s := { s with heap := h', toks := tk }) (n := "range_iterator") st' rfl rfl (by decide) ⟨.int (lo + (i : Nat) * c), H, I1, ⟨t, rfl⟩, ⟨rfl, rfl⟩, st', fun b hb => (hf b hb).1⟩⟩
  done := by
    intro X hP hw hK hc i pins s σ H E I hf st hg
    subst hP hw hK
    obtain ⟨f0, f1, f2, f3, f4, f5⟩ := hf it (by simp)
    exact wpAny_pyNext_range_end (I.ok.hd hc) st (by have : n ≤ i := hg; omega) fun h' eb => ⟨rfl, I.turned (t' := s.toks) (fun b o hb e => eb b o hb e) f0 f1 f3 f4 f5⟩
  self := fun A i s Q E st h => wpAny_pyIter_rangeiter st h
def RgC (i j c : Int) (n : Nat) : Prop := c ≠ 0 ∧ c.natAbs < 1073741824 ∧ Builtin.Range.small i j c = true ∧ Builtin.Range.rangeSize i j c = n
theorem RgC.neg {i j : Int} (ha : -(2 ^ 62) ≤ i) (ha' : i < 2 ^ 62) (hb : -(2 ^ 62) ≤ j) (hb' : j < 2 ^ 62) : RgC i j (-1) (i - j).toNat :=
  ⟨by decide, by decide, PySem.W.small_down ha ha' hb hb', PySem.W.rangeSize_downNat i j⟩
def iRng3 (ta : TA) : TI := fun σ H R => ta σ H fun vs H1 => ∃ (i j c : Int) (n : Nat), vs = [.int i, .int j, .int c] ∧ RgC i j c n ∧ R (Itc i c n) H1
section
variable {X : Cx} {tg : Expr}
theorem pi_range3 {a b c : Expr} {ta : TA} {p pos : Pos} (hg : Gl X "range") (hm : X.mg "range" = none) (ha : PA X [a, b, c] ta)
    (hs : starEach [a, b, c] X.env = (false, eval a X.env) :: starEach [b, c] X.env := by rfl) (hpl : (backTo pos (starEach [b, c] X.env)).any (·.1) = false := by rfl) :
    PI X tg (.Call (.Name "range" p) [a, b, c] [] pos) (iRng3 ta) := by
  intro pins s σ H R I h
  refine Call_ (ld_blt I hg hm boot_range (PyProof.Rows.callWith_type1 (thn (ha pos pins s σ H _ I h) fun us s1 ⟨vs, H1, I1, r1, q1⟩ => ?_) hs hpl))
  obtain ⟨i, j, k, n, e, ⟨c0, c1, c2, c3⟩, q⟩ := q1
  subst e
  cases r1 with
  | cons r rr =>
    cases rr with
    | cons r' rr =>
      cases rr with
      | cons r'' rr =>
        cases rr
        obtain ⟨t, rfl⟩ := r
        obtain ⟨t', rfl⟩ := r'
        obtain ⟨t'', rfl⟩ := r''
        refine call_range_3 c0 ?_ (.inl (PyProof.noPylong_small c1))
        refine wpAny_pyIter_range (IsRange.new ..) c2 ?_
        have I2 : Inv X pins σ H1 { s1 with heap := s1.heap.push { cls := .type "range", data := .fields #[.int i t, .int j t', .int k t''] } } := I1.kept (t' := s1.toks) fun b o e => Heap.get?_push_of_some _ e
        refine pi_one (tk := s1.toks) I2 _ (turn_rangeC _ i k n) ?_ q
        have e1 : i + ((0 : Nat) : Int) * k = i := by simp
        have e2 : (n : Int) - ((0 : Nat) : Int) = Builtin.Range.rangeSize i j k := by rw [c3]; simp
        show IsRangeIter _ _ (i + ((0 : Nat) : Int) * k) ((n : Int) - ((0 : Nat) : Int)) k
        rw [e1, e2]
        exact Heap.get?_push_size _ rfl
end
section
variable {X : Cx} {tg : Expr}
end

section
variable {prog : Program} {w : World} {A : Around} {E : Value → Shared → Prop} {s : Shared}
end

section
variable {X : Cx} {pins : List (Addr × Obj)} {σ : St} {H : Hp} {s : Shared} {d : Addr} {o : Obj}
end

section
variable {P : Program} {w : World} {K : PySem.W.Frag} {tg : Expr} {d : Addr} {o : Obj} {es : Array DictEntry} {ep : Nat}
end

section
variable {X : Cx} {tg e : Expr} {td : TE} {apos cpos : Pos}
end

def Ite (K : PySem.W.Frag) (a : Addr) : It :=
  ⟨fun i H => ∃ (xs : List V) (x : V), SqL K H a xs ∧ xs[i]? = some x, fun i H v H' => ∃ T x, v = .ref T ∧ H T = none ∧ H' = upd H T (.tup [.int (i : Nat), x]) ∧ ∀ xs, SqL K H a xs → xs[i]? = some x, fun i H => ∃ xs : List V, SqL K H a xs ∧ xs.length ≤ i⟩
theorem turn_enum {P : Program} {w : World} {K : PySem.W.Frag} {elts : List Expr} {kk : Nat} {tpos : Pos} (a e it : Addr) :
    Turn P w K (.Tuple elts kk tpos) (Ite K a) [e, it] e (fun i h => (∃ old, IsEnum h e it ((i : Nat) : Int) old) ∧ h.IsListIter it a i ∧ e ≠ it) where
  mem := by simp
  obj := fun i h st b hb => by
    obtain ⟨⟨old, he⟩, ⟨o, ho, hc, hd⟩, _⟩ := st
    have e' : b = e ∨ b = it := by simpa using hb
    rcases e' with z | z
    · rw [z]; exact ⟨_, he, fun v q => nomatch q⟩
    · rw [z]; exact ⟨o, ho, fun v q => by rw [hd] at q; cases q⟩
  keep := fun i h h' st k => let ⟨⟨old, he⟩, hi, hne⟩ := st; ⟨⟨old, k e (by simp) _ he⟩, hi.at fun o q => k it (by simp) o q, hne⟩
  item := by
    intro X hP hw hK hc i pins s σ H E I hf st hg
    subst hP hw hK
    obtain ⟨⟨old, he⟩, hit, hne⟩ := st
    obtain ⟨xs, x, hq, hx⟩ := hg
    obtain ⟨its, rv, p, hz⟩ := I.list hq
    obtain ⟨u, hu, ru⟩ := rv.get hx
    have hel : e < s.heap.objs.size := Heap.lt_size he
    have hil : it < s.heap.objs.size := by obtain ⟨_, q, _⟩ := hit; exact Heap.lt_size q
    refine wpAny_pyNext_enum_item he hit p.isList (x := u) (by simpa using hu) hne fun h' ho hit' hT hsz hk => ?_
    refine ⟨_, rfl, wpAny_letOwnedTupleGo_enum (s := { s with heap := h', toks := s.toks + 1 }) ho fun h'' he' sb => ?_⟩
    have hT2 : h''.get? s.heap.objs.size = some { cls := .type "tuple", data := .seq #[.int i s.toks, u] } := (sb.2 _ (Nat.ne_of_gt hel)).trans hT
    have new : ObjOk X.prog X.w (upd H s.heap.objs.size (.tup [.int (i : Nat), x])) h'' s.heap.objs.size (.tup [.int (i : Nat), x]) :=
      ⟨by show 2 ≤ sizeLine; decide, [.int i s.toks, u], .cons ⟨_, rfl⟩ (.cons ru .nil), ⟨_, hT2, rfl, _, rfl⟩⟩
    have I1 : Inv X pins σ (upd H s.heap.objs.size (.tup [.int (i : Nat), x])) { s with heap := h'', toks := s.toks + 1 } :=
      I.turnedNew (ch := [e, it]) (fun b ob hb q => (sb.2 b (fun z => hb (by simp [z]))).trans (hk b ob (fun z => hb (by simp [z])) (fun z => hb (by simp [z])) q)) hf (Nat.le_refl _) new
    refine ⟨.ref s.heap.objs.size, _, I1, rfl, ⟨_, x, rfl, I.hok.fresh (Nat.le_refl _), rfl, fun ys hy => by rw [I.list_inj hy hq]; exact hx⟩, ⟨⟨u, ?_⟩, hit'.at fun o q => (sb.2 it (Ne.symm hne)).trans q, hne⟩, fun b hb => ?_⟩
    · have e1 : ((i + 1 : Nat) : Int) = (i : Int) + 1 := by omega
      rw [e1]; exact he'
    · have hb' : b < s.heap.objs.size := by
        have e' : b = e ∨ b = it := by simpa using hb
        rcases e' with z | z
        · rw [z]; exact hel
        · rw [z]; exact hil
      rw [upd_ne (Nat.ne_of_lt hb')]
      exact (hf b hb).1
  done := by
    intro X hP hw hK hc i pins s σ H E I hf st hg
    subst hP hw hK
    obtain ⟨⟨old, he⟩, hit, hne⟩ := st
    obtain ⟨xs, hq, hx⟩ := hg
    obtain ⟨its, rv, p, hz⟩ := I.list hq
    obtain ⟨f0, f1, f2, f3, f4, f5⟩ := hf it (by simp)
    have hl := rv.length
    exact wpAny_pyNext_enum_end (I.ok.hd hc) he hit p.isList (by simp; omega) fun h' eb => ⟨rfl, I.turned (t' := s.toks) (fun b o hb q => eb b o hb q) f0 f1 f3 f4 f5⟩
  self := fun A i s Q E st h => let ⟨⟨_, he⟩, _⟩ := st; wpAny_pyIter_enum he h
def iEnum (K : PySem.W.Frag) (ta : TA) : TI := fun σ H R => ta σ H fun vs H1 => ∃ a xs, vs = [.ref a] ∧ SqL K H1 a xs ∧ R (Ite K a) H1
theorem pi_enum {X : Cx} {e : Expr} {ta : TA} {p pos tpos : Pos} {elts : List Expr} {kk : Nat} (hg : Gl X "enumerate") (hm : X.mg "enumerate" = none) (ha : PA X [e] ta) (hs : starEach [e] X.env = [(false, eval e X.env)] := by rfl) :
    PI X (.Tuple elts kk tpos) (.Call (.Name "enumerate" p) [e] [] pos) (iEnum X.K ta) := by
  intro pins s σ H R I h
  refine Call_ (ld_blt I hg hm boot_enumerate (PyProof.Rows.callWith_type1 (thn (ha pos pins s σ H _ I h) fun us s1 ⟨vs, H1, I1, r1, q1⟩ => ?_) hs rfl))
  obtain ⟨a, xs, ex, hq, q⟩ := q1
  subst ex
  cases r1 with
  | cons r rr =>
    cases rr
    cases r
    obtain ⟨its, rv, p', hz⟩ := I1.list hq
    refine call_enumerate_list p'.isList fun h' he hit hsz hk => wpAny_pyIter_enum he ?_
    have I2 : Inv X pins σ H1 { s1 with heap := h' } := I1.kept (t' := s1.toks) hk
    refine ⟨s1.heap.objs.size + 1, [s1.heap.objs.size + 1, s1.heap.objs.size], _, _, H1, rfl, I2, turn_enum a (s1.heap.objs.size + 1) s1.heap.objs.size, ⟨⟨.none, he⟩, hit, Nat.succ_ne_self _⟩, fun b hb => ?_, q⟩
    have e' : b = s1.heap.objs.size + 1 ∨ b = s1.heap.objs.size := by simpa using hb
    have hle : s1.heap.objs.size ≤ b := by
      rcases e' with z | z
      · rw [z]; exact Nat.le_add_right _ _
      · rw [z]; exact Nat.le_refl _
    exact I1.fpOk hle (I1.hok.fresh hle)
theorem boot_zip5 : bootBuiltins "zip" = some (.type "zip") := by decide +kernel
def Itz (K : PySem.W.Frag) (a b : Addr) : It :=
  ⟨fun i H => ∃ (xs ys : List V) (x y : V), SqL K H a xs ∧ SqL K H b ys ∧ xs[i]? = some x ∧ ys[i]? = some y,
    fun i H v H' => ∃ T x y, v = .ref T ∧ H T = none ∧ H' = upd H T (.tup [x, y]) ∧ (∀ xs, SqL K H a xs → xs[i]? = some x) ∧ ∀ ys, SqL K H b ys → ys[i]? = some y,
    fun i H => ∃ xs ys : List V, SqL K H a xs ∧ SqL K H b ys ∧ (xs.length ≤ i ∨ ys.length ≤ i)⟩
theorem turn_zip {P : Program} {w : World} {K : PySem.W.Frag} {elts : List Expr} {kk : Nat} {tpos : Pos} {a b z TI TO i1 i2 : Addr} (D : ZipApart z TI TO i1 i2 a b) :
    Turn P w K (.Tuple elts kk tpos) (Itz K a b) [z, TI, TO, i1, i2] z (fun i h => IsZip h z TI TO .none ∧ IsPair h TI (.ref i1) (.ref i2) ∧ (∃ x y, IsPair h TO x y) ∧ h.IsListIter i1 a i ∧ h.IsListIter i2 b i) where
  mem := by simp
  obj := fun i h st c hc => by
    obtain ⟨hz, hTI, ⟨x, y, hTO⟩, ⟨o1, e1, _, d1⟩, ⟨o2, e2, _, d2⟩⟩ := st
    have e' : c = z ∨ c = TI ∨ c = TO ∨ c = i1 ∨ c = i2 := by simpa using hc
    rcases e' with q | q | q | q | q
    · rw [q]; exact ⟨_, hz, fun v q => nomatch q⟩
    · rw [q]; exact ⟨_, hTI, fun v q => nomatch q⟩
    · rw [q]; exact ⟨_, hTO, fun v q => nomatch q⟩
    · rw [q]; exact ⟨o1, e1, fun v q => by rw [d1] at q; cases q⟩
    · rw [q]; exact ⟨o2, e2, fun v q => by rw [d2] at q; cases q⟩
  keep := fun i h h' st k => by
    obtain ⟨hz, hTI, ⟨x, y, hTO⟩, h1, h2⟩ := st
    exact ⟨k z (by simp) _ hz, k TI (by simp) _ hTI, ⟨x, y, k TO (by simp) _ hTO⟩, h1.at fun o q => k i1 (by simp) o q, h2.at fun o q => k i2 (by simp) o q⟩
  item := by
    intro X hP hw hK hc i pins s σ H E I hf st hg
    subst hP hw hK
    obtain ⟨hz, hTI, ⟨x0, y0, hTO⟩, h1, h2⟩ := st
    obtain ⟨xs, ys, x, y, hqx, hqy, hx, hy⟩ := hg
    obtain ⟨its, rv, p, _⟩ := I.list hqx
    obtain ⟨its2, rv2, p2, _⟩ := I.list hqy
    obtain ⟨u, hu, ru⟩ := rv.get hx
    obtain ⟨u2, hu2, ru2⟩ := rv2.get hy
    have hzl : z < s.heap.objs.size := Heap.lt_size hz
    refine wpAny_pyNext_zip_item D hz hTI hTO h1 h2 p.isList p2.isList (x := u) (y := u2) (by simpa using hu) (by simpa using hu2) fun h' z' TO' h1' h2' hT hsz hk => ?_
    refine ⟨_, rfl, wpAny_letOwnedTupleGo_zip (s := { s with heap := h' }) z' fun h'' z'' sb => ?_⟩
    have hT2 : h''.get? s.heap.objs.size = some { cls := .type "tuple", data := .seq #[u, u2] } := (sb.2 _ (Nat.ne_of_gt hzl)).trans hT
    have new : ObjOk X.prog X.w (upd H s.heap.objs.size (.tup [x, y])) h'' s.heap.objs.size (.tup [x, y]) :=
      ⟨by show 2 ≤ sizeLine; decide, [u, u2], .cons ru (.cons ru2 .nil), ⟨_, hT2, rfl, _, rfl⟩⟩
    have I1 : Inv X pins σ (upd H s.heap.objs.size (.tup [x, y])) { s with heap := h'' } :=
      I.turnedNew (t' := s.toks) (ch := [z, TI, TO, i1, i2]) (fun c o hb q => (sb.2 c (fun q' => hb (by simp [q']))).trans (hk c o (fun q' => hb (by simp [q'])) (fun q' => hb (by simp [q'])) (fun q' => hb (by simp [q'])) (fun q' => hb (by simp [q'])) q)) hf (Nat.le_refl _) new
    refine ⟨.ref s.heap.objs.size, _, I1, rfl, ⟨_, x, y, rfl, I.hok.fresh (Nat.le_refl _), rfl, fun l hl => by rw [I.list_inj hl hqx]; exact hx, fun l hl => by rw [I.list_inj hl hqy]; exact hy⟩, ⟨z'', ?_, ⟨u, u2, ?_⟩, ?_, ?_⟩, fun c hcm => ?_⟩
    · exact (sb.2 _ D.TIz).trans (hk _ _ D.TIz D.TITO D.TIi1 D.TIi2 hTI)
    · exact (sb.2 _ D.TOz).trans TO'
    · exact h1'.at fun o q => (sb.2 _ D.i1z).trans q
    · exact h2'.at fun o q => (sb.2 _ D.i2z).trans q
    · have hlt : c < s.heap.objs.size := by
        have e' : c = z ∨ c = TI ∨ c = TO ∨ c = i1 ∨ c = i2 := by simpa using hcm
        rcases e' with q | q | q | q | q
        · rw [q]; exact hzl
        · rw [q]; exact Heap.lt_size hTI
        · rw [q]; exact Heap.lt_size hTO
        · rw [q]; obtain ⟨_, e1, _⟩ := h1; exact Heap.lt_size e1
        · rw [q]; obtain ⟨_, e2, _⟩ := h2; exact Heap.lt_size e2
      rw [upd_ne (Nat.ne_of_lt hlt)]
      exact (hf c hcm).1
  done := by
    intro X hP hw hK hc i pins s σ H E I hf st hg
    subst hP hw hK
    obtain ⟨hz, hTI, ⟨x0, y0, hTO⟩, h1, h2⟩ := st
    obtain ⟨xs, ys, hqx, hqy, hend⟩ := hg
    obtain ⟨its, rv, p, _⟩ := I.list hqx
    obtain ⟨its2, rv2, p2, _⟩ := I.list hqy
    have l1 := rv.length
    have l2 := rv2.length
    have he : its.toArray[i]? = none ∨ its2.toArray[i]? = none := by
      rcases hend with q | q
      · exact .inl (by simp; omega)
      · exact .inr (by simp; omega)
    exact wpAny_pyNext_zip_end (I.ok.hd hc) D hz hTI hTO h1 h2 p.isList p2.isList he fun h' hk => ⟨rfl, I.turnedL (t' := s.toks) (ch := [z, TI, TO, i1, i2]) (fun c o hb q =>
      hk c o (fun q' => hb (by simp [q'])) (fun q' => hb (by simp [q'])) (fun q' => hb (by simp [q'])) (fun q' => hb (by simp [q'])) q) hf⟩
  self := fun A i s Q E st h => wpAny_pyIter_zip st.1 h
def iZip (K : PySem.W.Frag) (ta : TA) : TI := fun σ H R => ta σ H fun vs H1 => ∃ a b xs ys, vs = [.ref a, .ref b] ∧ SqL K H1 a xs ∧ SqL K H1 b ys ∧ R (Itz K a b) H1
theorem pi_zip {X : Cx} {e e2 : Expr} {ta : TA} {p pos tpos : Pos} {elts : List Expr} {kk : Nat} (hg : Gl X "zip") (hm : X.mg "zip" = none) (ha : PA X [e, e2] ta)
    (hs : starEach [e, e2] X.env = (false, eval e X.env) :: starEach [e2] X.env := by rfl) (hpl : (backTo pos (starEach [e2] X.env)).any (·.1) = false := by rfl) :
    PI X (.Tuple elts kk tpos) (.Call (.Name "zip" p) [e, e2] [] pos) (iZip X.K ta) := by
  intro pins s σ H R I h
  refine Call_ (ld_blt I hg hm boot_zip5 (PyProof.Rows.callWith_type1 (thn (ha pos pins s σ H _ I h) fun us s1 ⟨vs, H1, I1, r1, q1⟩ => ?_) hs hpl))
  obtain ⟨a, b, xs, ys, ex, hqx, hqy, q⟩ := q1
  subst ex
  cases r1 with
  | cons r rr =>
    cases rr with
    | cons r' rr =>
      cases rr
      cases r
      cases r'
      obtain ⟨its, rv, p1, _⟩ := I1.list hqx
      obtain ⟨its2, rv2, p2, _⟩ := I1.list hqy
      have la : a < s1.heap.objs.size := p1.lt
      have lb : b < s1.heap.objs.size := p2.lt
      refine call_zip_2 p1.isList p2.isList fun h' hz hTI hTO h1 h2 hsz hk => wpAny_pyIter_zip hz ?_
      have I2 : Inv X pins σ H1 { s1 with heap := h' } := I1.kept (t' := s1.toks) hk
      refine ⟨s1.heap.objs.size + 4, [s1.heap.objs.size + 4, s1.heap.objs.size + 2, s1.heap.objs.size + 3, s1.heap.objs.size, s1.heap.objs.size + 1], _, _, H1, rfl, I2, turn_zip (PySem.W.ktu_apart s1.heap.objs.size a b la lb), ⟨hz, hTI, ⟨_, _, hTO⟩, h1, h2⟩, fun c hcm => ?_, q⟩
      have e' : c = s1.heap.objs.size + 4 ∨ c = s1.heap.objs.size + 2 ∨ c = s1.heap.objs.size + 3 ∨ c = s1.heap.objs.size ∨ c = s1.heap.objs.size + 1 := by simpa using hcm
      have hle : s1.heap.objs.size ≤ c := by
        rcases e' with z | z | z | z | z
        · rw [z]; exact Nat.le_add_right _ _
        · rw [z]; exact Nat.le_add_right _ _
        · rw [z]; exact Nat.le_add_right _ _
        · rw [z]; exact Nat.le_refl _
        · rw [z]; exact Nat.le_add_right _ _
      exact I1.fpOk hle (I1.hok.fresh hle)
end L2

section 
namespace Bits
open PySem PyProof.Rows

theorem bitAnd_mask {x : Int} (k : Nat) (hx : 0 ≤ x) : Builtin.bitAnd x (2 ^ k - 1) = x % 2 ^ k := by
  obtain ⟨n, rfl⟩ := Int.eq_ofNat_of_zero_le hx
  have hp : 0 < 2 ^ k := Nat.two_pow_pos k
  rw [two_pow_cast]
  have e : ((2 ^ k : Nat) : Int) - 1 = ((2 ^ k - 1 : Nat) : Int) := by
    generalize (2 : Nat) ^ k = m at hp
    omega
  rw [e, bitAnd_pp (by omega) (by omega), Int.toNat_natCast, Int.toNat_natCast, Nat.and_two_pow_sub_one_eq_mod]
  first
    | rfl
    | exact Int.natCast_emod _ _
    | simp

end Bits
end 

section 
namespace TL
open PySem PySem.Builtin PySem.Builtin.Str PySem.StrLaws

abbrev tl (x : Str) : List Nat := x.cps.toList
def pre (S l : List Nat) : Bool := l.take S.length == S
def par (S : List Nat) : List Nat → List Nat → Option (List Nat × List Nat)
  | _, [] => none
  | acc, c :: r => if pre S (c :: r) = true then some (acc, (c :: r).drop S.length) else par S (acc ++ [c]) r

end TL
end 

namespace L2
open PySem PySem.Spec PyProof.Rows

section
variable {X : Cx} {pins : List (Addr × Obj)} {σ : St} {H : Hp} {s : Shared} {Q : VK}
end

section
variable {X : Cx}

end

section
variable {X : Cx} {o e : Expr} {to te : TE}
end
end L2

namespace L2
open PySem PySem.Spec PyProof.Rows

section
variable {X : Cx}
end

end L2

namespace Att
open PySem PySem.W PySem.Calls PyProof.Rows

theorem ints_of_wellAll {P : Params} {h : Heap} : ∀ (ns : List Int) (vs : List Value), WellAll P h vs (ns.map WData.int) → IntsAre vs ns := by
  intro ns
  induction ns with
  | nil =>
    intro vs w
    rw [List.map_nil] at w
    cases w
    exact .nil
  | cons n ns ih =>
    intro vs w
    rw [List.map_cons] at w
    cases w with
    | cons a b =>
      cases a
      exact .cons _ _ (ih _ b)

section
variable {prog : Program} {w : World} {A : Around} {E : Value → Shared → Prop} {s : Shared} {K : Frag}

end
end Att

namespace L2
open PySem PySem.Spec PyProof.Rows

theorem vals_ints : ∀ {vs : List Value} {ns : List Int}, IntsAre vs ns → Vals (ns.map V.int) vs
  | _, _, .nil => .nil
  | _, _, .cons n t h => .cons ⟨t, rfl⟩ (vals_ints h)

end L2

namespace L2
open PySem PySem.Spec PyProof.Rows

end L2


namespace L2
open PySem PySem.Spec PyProof.Rows

def defArgs (s : Stmt) : Arguments := match s with
  | .FunctionDef _ a _ _ _ _ _ _ _ _ => a
  | _ => { posonlyargs := [], args := [], vararg := none, kwonlyargs := [], kw_defaults := [], kwarg := none, defaults := [] }
def defBody (s : Stmt) : List Stmt := match s with
  | .FunctionDef _ _ b _ _ _ _ _ _ _ => b
  | _ => []
def defScope (s : Stmt) : Scope := match s with
  | .FunctionDef _ _ _ _ _ _ sc _ _ _ => sc
  | _ => { kind := .function, names := [], isGenerator := false, isCoroutine := false }

abbrev CX0 : CXT := fun _ _ _ _ _ _ => False
abbrev E0 : XK := fun _ _ _ => False
structure Fun (K : PySem.W.Frag) (x qual : Str) (st : Stmt) (f : Addr) (fd : FuncData) : Prop where
  ex : ∃ (oc : Value) (od : Option Addr) (kV doc pm : Value) (an : Option Addr) (cdv ct : Value) (osl : Array (Option Value)),
    fd = PySem.W.fnOf x qual (defArgs st) (defBody st) (defScope st) .none kV doc pm an cdv ct ∧ K.lookup f = some ⟨oc, od, .func fd, osl⟩ ∧ PySem.W.codeIn K cdv qual = true
  kp : PySem.W.keepIn K (.ref f) = true
section
variable {P : Program} {w : World} {K : PySem.W.Frag} {mg : Str → Option Value} {base : Heap}
theorem Fun.ok {x qual : Str} {st : Stmt} {f : Addr} {fd : FuncData} {N ps : List Str} {k : Nat} {sp : Sp} (F : Fun K x qual st f fd) (S : FnScope N ps (defScope st)) (len : ∀ vs H Q E, sp vs H Q E → vs.length = ps.length)
    (hbody : ∀ (cdv : Value) (A : Around) (outer : List Env) (s : Shared) (H : Hp) (vs : List V) (Q : VK) (E : XK), Room k (A.deeper (envOfC qual (defScope st) s.heap.objs.size f cdv)) → sp vs H Q E →
      ∃ t, PSs (cxOf CX0 P w K mg base N qual (defScope st) f cdv A outer s H E).nox (defBody st) t ∧ t { nx := fun _ H' => Q .non H', rt := Q } (start N vs) H) : FnOk P w K mg base CX0 (k + 1) f fd ps sp := by
  obtain ⟨oc, od, kV, doc, pm, an, cdv, ct, osl, rfl, lk, hcd⟩ := F.ex
  refine fn_of lk hcd S len fun A outer s H vs Q E hr hsp => ?_
  obtain ⟨t, h, q⟩ := hbody cdv A outer s H vs Q E hr hsp
  exact ⟨t, h.nox, q⟩
theorem Fun.binds {x qual : Str} {st : Stmt} {f : Addr} {fd : FuncData} {ps : List Str} (F : Fun K x qual st f fd)
    (h : ∀ (kV doc pm : Value) (an : Option Addr) (cdv ct : Value) (us : List Value), us.length = ps.length → bindArgs (PySem.W.fnOf x qual (defArgs st) (defBody st) (defScope st) .none kV doc pm an cdv ct) ⟨us, []⟩ = pure (ps.zip us)) : Binds K fd ps [] := by
  obtain ⟨oc, od, kV, doc, pm, an, cdv, ct, osl, rfl, lk, hcd⟩ := F.ex
  exact .all (h kV doc pm an cdv ct)
theorem fun_mk {x qual : Str} {st : Stmt} {f : Addr} {oc : Value} {od an : Option Addr} {osl : Array (Option Value)} {kV doc pm cdv ct : Value} (l : K.lookup f = some ⟨oc, od, .func (PySem.W.fnOf x qual (defArgs st) (defBody st) (defScope st) .none kV doc pm an cdv ct), osl⟩)
    (c : PySem.W.codeIn K cdv qual = true) (k : PySem.W.keepIn K (.ref f) = true) : Fun K x qual st f (PySem.W.fnOf x qual (defArgs st) (defBody st) (defScope st) .none kV doc pm an cdv ct) := ⟨⟨oc, od, kV, doc, pm, an, cdv, ct, osl, rfl, l, c⟩, k⟩
end
section
variable {X : Cx}
theorem pv (i : Nat) {x : Str} {pos : Pos} (hN : X.N[i]? = some x := by rfl) (hv : Vis X.env.scope x := by first | exact Or.inl rfl | exact Or.inr (Or.inl rfl) | exact Or.inr (Or.inr rfl)) (hd : (x == ("__debug__" : Str)) = false := by decide)
    (hcd : (x == ("__classdict__" : Str)) = false := by decide) : PE X (.Name x pos) (tVar i) := pe_var hN hv hd hcd
end

def Same (H H' : Hp) : Prop := ∀ b o, H b = some o → H' b = some o
theorem Same.refl (H : Hp) : Same H H := fun _ _ h => h
theorem Same.trans {H H1 H2 : Hp} (a : Same H H1) (b : Same H1 H2) : Same H H2 := fun c o h => b c o (a c o h)
theorem Same.free {H H' : Hp} (e : Same H H') {l : Addr} (h : H' l = Option.none) : H l = Option.none := by
  cases q : H l with
  | none => rfl
  | some o =>
    rw [e l o q] at h
    cases h
theorem Same.seq {K : PySem.W.Frag} {H H' : Hp} {a : Addr} {xs : List V} (e : Same H H') (h : SqL K H a xs) : SqL K H' a xs := by
  rcases h with (h | ⟨o, h⟩) | h
  · exact .inl (.inl (e _ _ h))
  · exact .inl (.inr ⟨o, e _ _ h⟩)
  · exact .inr h

section
variable {κ : Type} [DecidableEq κ]
end
end L2

set_option linter.all false
set_option maxRecDepth 100000
namespace L2
open PySem PySem.Spec PyProof.Rows

theorem frameOf_any {M : Model} {A : Around} {E : Value → Shared → Prop} {s : Shared} {base : Heap} {env env1 : Env} {stack outer1 : List Env} {L : Addr} {Q : Value → Shared → Prop}
    (hfr : A.frames = some stack) (hst : stack = env1 :: outer1) (hf1 : env1.frame = some L) (hf : env.frame = some L) (hl : s.heap.FunFrames base stack)
    (h : ∀ h', Heap.SlotsOnly (frs stack) s.heap h' → Q (.ref L) { s with heap := h' }) : wpAny M A (PySem.frameOf env) Q E s := by
  subst hst
  unfold PySem.frameOf
  refine wpAny_bind (wpAny_frameEnvs hfr ?_)
  have hdw : ((env1 :: outer1).dropWhile fun x => x.frame != env.frame) = env1 :: outer1 := by
    have e : (env1.frame != env.frame) = false := by rw [hf1, hf]; simp
    simp [List.dropWhile, e]
  rw [hdw]
  unfold frameObject
  refine wpAny_bind (wpAny_bind (wpAny_readyFrames_fun hl fun h₁ hs₁ => wpAny_pure ?_))
  rw [hf1]
  exact wpAny_pure (h h₁ hs₁)

structure Noted (fs : List Addr) (e : Addr) (vs : Array Value) (cls : Value) (h h' : Heap) : Prop where
  keep : ∀ b o, b ∉ fs → b ≠ e → vs[1]? ≠ some (.ref b) → h.get? b = some o → h'.get? b = some o
  slot : ∀ b o, b ∈ fs → h.get? b = some o → ∃ sl, h'.get? b = some { o with slots := sl }
  there : ∀ b o, h.get? b = some o → ∃ o', h'.get? b = some o'
  tb : ∃ oe' vs' T oT ts, h'.get? e = some oe' ∧ oe'.cls = cls ∧ oe'.data = .fields vs' ∧ vs'[1]? = some (.ref T) ∧ (vs[1]? = some (.ref T) ∨ h.get? T = none) ∧ T ≠ e ∧ h'.get? T = some oT ∧ oT.data = .fields ts ∧ 3 < ts.size

theorem note_new {M : Model} {A : Around} {E : Value → Shared → Prop} {s : Shared} {base g : Heap} {env env1 : Env} {stack outer1 : List Env} {L e : Addr} {oe : Obj} {vs : Array Value} {head : Value} {hb : Bool} {Q : Unit → Shared → Prop}
    (hfr : A.frames = some stack) (hst : stack = env1 :: outer1) (hf1 : env1.frame = some L) (hf : env.frame = some L) (hl : s.heap.FunFrames base stack)
    (he : s.heap.get? e = some oe) (hd : oe.data = .fields vs) (hsz : 1 < vs.size)
    (kg : ∀ b o, vs[1]? ≠ some (.ref b) → g.get? b = some o → s.heap.get? b = some o) (tg : ∀ b o, g.get? b = some o → ∃ o', s.heap.get? b = some o') (eg : g.objs.size = s.heap.objs.size)
    (ne : ∀ T, vs[1]? = some (.ref T) → ∃ o vs', s.heap.get? T = some o ∧ o.data = .fields vs')
    (h : ∀ h' : Heap, Noted (frs stack) e vs oe.cls g h' → Q () { s with heap := h' }) :
    wpAny M A (do let a ← PySem.frameOf env; let pl ← entryPlaceOf L hb; let b ← EntryCells.newEntry head a .none (rawInt L) .none pl; setField (.ref e) 1 b) Q E s := by
  have nfr : ∀ b o vs', s.heap.get? b = some o → o.data = .fields vs' → b ∉ frs stack := fun b o vs' q d hm => by
    obtain ⟨_, o', ho, hnf⟩ := hl.mem hm
    rw [q] at ho; cases ho; exact hnf _ d
  have hene := nfr e oe vs he hd
  refine wpAny_bind (frameOf_any hfr hst hf1 hf hl fun h₁ hs₁ => ?_)
  refine wpAny_bind (wpAny_entryPlaceOf fun pl hpl => ?_)
  unfold EntryCells.newEntry newFields
  refine wpAny_bind (wpAny_newObj_type ?_ (hpl.sizeOk5 _ _ _ _ _))
  have he₁ : h₁.get? e = some oe := (hs₁.2.1 e hene).trans he
  generalize hob : ({ cls := .type "traceback", dict := none, data := .fields ([head, .ref L, .none, rawInt L, .none] ++ (if pl.isEmpty then List.replicate 6 Value.none else pl)).toArray } : Obj) = ob
  have hobd : ob.data = .fields ([head, .ref L, .none, rawInt L, .none] ++ (if pl.isEmpty then List.replicate 6 Value.none else pl)).toArray := by rw [← hob]
  have hobf : ob.isFreed = false := Obj.isFreed_of_fields hobd
  have he₂ := Heap.get?_push_of_some (h := h₁) ob he₁
  refine wpAny_setField he₂ hd hsz ?_
  have hTe : h₁.objs.size ≠ e := Nat.ne_of_gt (Heap.lt_size he₁)
  have hd₃ := Obj.data_mapFields hd (·.setIfInBounds 1 (Value.ref h₁.objs.size))
  have kp : ∀ b o, b ≠ e → h₁.get? b = some o → ((h₁.push ob).update e (Obj.mapFields (·.setIfInBounds 1 (Value.ref h₁.objs.size)))).get? b = some o := fun b o hbe q => by
    rw [Heap.get?_update_other _ _ (Ne.symm hbe)]
    exact Heap.get?_push_of_some _ q
  have he₃ := Heap.get?_update_self (Obj.mapFields (·.setIfInBounds 1 (Value.ref h₁.objs.size))) he₂ (Obj.isFreed_of_fields hd₃)
  refine h _ ⟨fun b o hb hbe hbT q => ?_, fun b o hb q => ?_, fun b o q => ?_, _, _, h₁.objs.size, ob, _, he₃, Obj.cls_mapFields _ _, hd₃, by simp [hsz], .inr ?_, hTe, ?_, hobd, ?_⟩
  · exact kp b o hbe ((hs₁.2.1 b hb).trans (kg b o hbT q))
  · have hbe : b ≠ e := fun z => hene (z ▸ hb)
    have nT : vs[1]? ≠ some (.ref b) := fun z => by
      obtain ⟨o', vs', q1, d1⟩ := ne b z
      exact nfr b o' vs' q1 d1 hb
    obtain ⟨sl, q1⟩ := hs₁.2.2 b o (kg b o nT q)
    exact ⟨sl, kp b _ hbe q1⟩
  · obtain ⟨o1, q1⟩ := tg b o q
    obtain ⟨sl, q2⟩ := hs₁.2.2 b o1 q1
    by_cases hbe : b = e
    · subst hbe; exact ⟨_, he₃⟩
    · exact ⟨_, kp b _ hbe q2⟩
  · exact Heap.get?_none_of_le (by rw [eg, hs₁.1]; exact Nat.le_refl _)
  · rw [Heap.get?_update_other _ _ (Ne.symm hTe)]
    exact Heap.get?_push_size h₁ hobf
  · simp only [List.size_toArray, List.length_append, List.length_cons, List.length_nil]; omega

theorem note_raw {M : Model} {A : Around} {E : Value → Shared → Prop} {s : Shared} {base : Heap} {env env1 : Env} {stack outer1 : List Env} {L e : Addr} {oe : Obj} {vs : Array Value} {Q : Unit → Shared → Prop}
    (hfr : A.frames = some stack) (hst : stack = env1 :: outer1) (hf1 : env1.frame = some L) (hf : env.frame = some L) (hl : s.heap.FunFrames base stack)
    (he : s.heap.get? e = some oe) (hd : oe.data = .fields vs)
    (hv : vs[1]? = some .none ∨ ∃ T oT ts, vs[1]? = some (.ref T) ∧ T ≠ e ∧ s.heap.get? T = some oT ∧ oT.data = .fields ts ∧ 3 < ts.size)
    (h : ∀ h' : Heap, Noted (frs stack) e vs oe.cls s.heap h' → Q () { s with heap := h' }) :
    wpAny M A (noteFrame (.ref e) env) Q E s := by
  unfold noteFrame
  simp only [hf]
  rcases hv with h1 | ⟨T, oT, ts, h1, hTe, hT, hdT, hts⟩
  · refine wpAny_bind (wpAny_field he hd h1 ?_)
    rw [if_neg (by decide)]
    exact note_new hfr hst hf1 hf hl he hd (Array.getElem?_eq_some_iff.mp h1).1 (fun _ _ _ q => q) (fun _ o q => ⟨o, q⟩) rfl (fun T z => by rw [h1] at z; cases z) h
  · refine wpAny_bind (wpAny_field he hd h1 ?_)
    rw [if_pos (show (Value.ref T != Value.none) = true from by simp)]
    have h3 : ts[3]? = some ts[3] := Array.getElem?_eq_getElem hts
    refine wpAny_bind (wpAny_field hT hdT h3 ?_)
    by_cases c : (ts[3] == rawInt L) = true
    · rw [if_pos c]
      exact wpAny_pure (h s.heap ⟨fun _ _ _ _ _ q => q, fun b o _ q => ⟨o.slots, q⟩, fun _ o q => ⟨o, q⟩, oe, vs, T, oT, ts, he, rfl, hd, h1, .inl h1, hTe, hT, hdT, hts⟩)
    · rw [if_neg c]
      refine wpAny_bind (wpAny_setField hT hdT hts ?_)
      have other : ∀ b, b ≠ T → (s.heap.update T (Obj.mapFields (·.setIfInBounds 3 Value.none))).get? b = s.heap.get? b := fun b hb => Heap.get?_update_other _ _ (Ne.symm hb)
      have hT' := Heap.get?_update_self (Obj.mapFields (·.setIfInBounds 3 Value.none)) hT (Obj.isFreed_of_fields (Obj.data_mapFields hdT _))
      have hl' : (s.heap.update T (Obj.mapFields (·.setIfInBounds 3 Value.none))).FunFrames base stack := hl.of_keeps fun b o hb hnf => ⟨o, (other b fun q => by rw [q, hT] at hb; cases hb; exact hnf ts hdT).trans hb, rfl⟩
      refine note_new (s := { s with heap := s.heap.update T (Obj.mapFields (·.setIfInBounds 3 Value.none)) }) (g := s.heap) hfr hst hf1 hf hl' ((other e (Ne.symm hTe)).trans he) hd (Array.getElem?_eq_some_iff.mp h1).1 (fun b o nb q => ?_) (fun b o q => ?_) ?_ (fun T' z => ?_) fun h' N => h h' N
      · exact (other b fun z => nb (by rw [z]; exact h1)).trans q
      · by_cases z : b = T
        · subst z; exact ⟨_, hT'⟩
        · exact ⟨o, (other b z).trans q⟩
      · exact (Heap.size_after_update ..).symm
      · rw [h1] at z; cases z; exact ⟨_, _, hT', Obj.data_mapFields hdT _⟩
end L2

set_option linter.all false
set_option maxRecDepth 100000
namespace L2
open PySem PySem.Spec PyProof.Rows

theorem ObjOk.there {P : Program} {w : World} {H : Hp} {h : Heap} {a : Addr} {o : HO} (x : ObjOk P w H h a o) : ∃ ob, h.get? a = some ob := by
  cases o with
  | lst xs => obtain ⟨_, _, _, _, e⟩ := x; exact ⟨_, e⟩
  | tup xs => obtain ⟨_, _, _, o, e, _⟩ := x; exact ⟨_, e⟩
  | dK kvs => obtain ⟨_, _, _, _, o, _, _, e, _⟩ := x; exact ⟨_, e⟩
  | dT kvs => obtain ⟨_, _, _, _, o, _, _, e, _⟩ := x; exact ⟨_, e⟩
  | set S n => obtain ⟨o, _, _, _, e, _⟩ := x; exact ⟨_, e⟩
  | ins C dx fs => obtain ⟨_, _, _, e, _⟩ := x; exact ⟨_, e⟩
  | own y => exact x
  | xd fs => obtain ⟨_, ⟨_, _, _, e, _⟩, _⟩ := x; exact ⟨_, e⟩
  | rng lo hi => obtain ⟨_, _, _, e⟩ := x; exact ⟨_, e⟩
  | frz ob u => obtain ⟨e, _⟩ := x; exact ⟨_, e⟩
  | tbl ps => exact ⟨_, (show h.get? a = some _ from x)⟩
  | met f y => exact ⟨_, (show h.get? a = some _ from x)⟩
  | ext φ => obtain ⟨_, e, _⟩ := x; exact e
theorem HOk.none_of {P : Program} {w : World} {H : Hp} {h : Heap} {a : Addr} (x : HOk P w H h) (e : h.get? a = none) : H a = none := by
  cases q : H a with
  | none => rfl
  | some u =>
    obtain ⟨ob, z⟩ := (x a u q).there
    rw [e] at z; cases z

section
variable {X : Cx} {pins : List (Addr × Obj)} {σ : List (Option V)} {H H' : Hp} {s : Shared} {h' : Heap}
theorem Inv.stepN {g' : Array GenState} {t' : Nat} {d' : Drawn} {ch : List Addr} (I : Inv X pins σ H s)
    (hch : ∀ b ∈ ch, (b ∈ X.ex ∨ X.s_0.heap.get? b = none) ∧ b ≠ X.env.locals ∧ (∀ x c, X.env.cells.lookup x = some c → c ≠ b) ∧ ∀ p ∈ X.pn ++ pins, p.1 ≠ b)
    (keep : ∀ b o, b ≠ X.env.locals → b ∉ X.fs → b ∉ ch → s.heap.get? b = some o → H b = none → h'.get? b = some o)
    (slot : ∀ b o, b ≠ X.env.locals → b ∈ X.fs → b ∉ ch → s.heap.get? b = some o → H b = none → ∃ sl, h'.get? b = some { o with slots := sl }) (free : ∀ b o, b ∉ ch → s.heap.get? b = some o → H b = none → H' b = none)
    (there : ∀ b o, b ∉ ch → s.heap.get? b = some o → ∃ o', h'.get? b = some o')
    (tups : ∀ b xs, H b = some (.tup xs) → H' b = some (.tup xs)) (frzs : ∀ b o u, H b = some (.frz o u) → H' b = some (.frz o u)) (tbls : ∀ b ps, H b = some (.tbl ps) → ∃ more, H' b = some (.tbl (ps ++ more)))
    (ns : ∀ m, s.heap.Ns X.env.locals m → h'.Ns X.env.locals m) (hok : HOk X.prog X.w H' h') (hg : AllBare g') :
    Inv X pins σ H' { s with heap := h', gens := g', drawn := d', toks := t' } := by
  have neL : ∀ b o, X.s_0.heap.get? b = some o → b ≠ X.env.locals := fun b o e => Nat.ne_of_lt (Nat.lt_of_lt_of_le (Heap.lt_size e) I.ok.above)
  have neC : ∀ b o, X.s_0.heap.get? b = some o → b ∉ X.ex → b ∉ ch := fun b o e hx hb => by
    rcases (hch b hb).1 with z | z
    · exact hx z
    · rw [z] at e; cases e
  have cellK : ∀ x c, X.env.cells.lookup x = some c → ∀ v, s.heap.IsCell c v → h'.IsCell c v := fun x c e v ⟨o, ho, hd⟩ => by
    have nch : c ∉ ch := fun z => (hch c z).2.2.1 x c e rfl
    by_cases hc : c ∈ X.fs
    · obtain ⟨sl, q⟩ := slot c o (I.cne x c e) hc nch ho (I.freeC x c e)
      exact ⟨_, q, hd⟩
    · exact ⟨o, keep c o (I.cne x c e) hc nch ho (I.freeC x c e), hd⟩
  refine ⟨I.ok, I.os, hg, ⟨fun b o e n hb hx => ?_, fun b o e n hb hx => ?_, fun b o e n hx => ?_, fun b o e hx => ?_, fun b xs e => tups b xs (I.base.tups b xs e), fun b o xs e => frzs b o xs (I.base.frzs b o xs e), fun b ps e => ?_⟩, ?_, fun x c e => ?_, ?_, fun x c e => ?_, fun p hp => ?_, hok, I.len⟩
  · exact keep b o (neL b o e) hb (neC b o e hx) (I.base.keep b o e n hb hx) (I.base.free b o e n hx)
  · obtain ⟨sl, e1⟩ := I.base.slot b o e n hb hx
    obtain ⟨sl', e2⟩ := slot b _ (neL b o e) hb (neC b o e hx) e1 (I.base.free b o e n hx)
    exact ⟨sl', e2⟩
  · obtain ⟨o', e1⟩ := I.base.there b o e hx
    exact free b o' (neC b o e hx) e1 (I.base.free b o e n hx)
  · obtain ⟨o', e1⟩ := I.base.there b o e hx
    exact there b o' (neC b o e hx) e1
  · obtain ⟨m1, e1⟩ := I.base.tbls b ps e
    obtain ⟨m2, e2⟩ := tbls b _ e1
    exact ⟨m1 ++ m2, by rw [e2, Array.append_assoc]⟩
  · obtain ⟨m, hn, hl⟩ := I.loc
    refine ⟨m, ns m hn, fun i x v e1 e2 e3 => ?_⟩
    obtain ⟨u, r, l⟩ := hl i x v e1 e2 e3
    refine ⟨u, r, ?_⟩
    rcases l with l | ⟨k, c, e, z⟩
    · exact .inl l
    · exact .inr ⟨k, c, e, cellK x c e _ z⟩
  · obtain ⟨v, z⟩ := I.cell x c e
    exact ⟨v, cellK x c e v z⟩
  · obtain ⟨m, ⟨o, _, _, ho, _⟩, _⟩ := I.loc
    exact free _ o (fun z => (hch _ z).2.1 rfl) ho I.free
  · obtain ⟨v, o, ho, hd⟩ := I.cell x c e
    exact free c o (fun z => (hch c z).2.2.1 x c e rfl) ho (I.freeC x c e)
  · obtain ⟨e, n, ne, nf, d⟩ := I.pin p hp
    have nch : p.1 ∉ ch := fun z => (hch p.1 z).2.2.2 p hp rfl
    exact ⟨keep p.1 p.2 ne nf nch e n, free p.1 p.2 nch e n, ne, nf, d⟩
theorem Inv.callN {g' : Array GenState} {t' : Nat} {d' : Drawn} {ch : List Addr} (I : Inv X pins σ H s) (u : Un (frs X.stack) ch H H' s.heap h') (hok : HOk X.prog X.w H' h') (hg : AllBare g')
    (hch : ∀ b ∈ ch, (b ∈ X.ex ∨ X.s_0.heap.get? b = none) ∧ b ≠ X.env.locals ∧ (∀ x c, X.env.cells.lookup x = some c → c ≠ b) ∧ ∀ p ∈ X.pn ++ pins, p.1 ≠ b) :
    Inv X pins σ H' { s with heap := h', gens := g', drawn := d', toks := t' } := by
  obtain ⟨m, ⟨o, es, ep, ho, r⟩, _⟩ := id I.loc
  obtain ⟨sl, hL⟩ := u.any ho I.free fun z => (hch _ z).2.1 rfl
  exact I.stepN (ch := ch) hch (fun b o hL hb hc e n => u.keep b o e n (fun z => (List.mem_cons.mp (I.stkSub b z)).elim hL hb) hc) (fun b o _ _ hc e n => u.any e n hc) (fun b o hc e n => u.free b o e n hc) (fun b o hc e => u.there b o e hc) u.tups u.frzs u.tbls (fun m' hm => by
    obtain ⟨o', es', ep', ho', r'⟩ := hm
    rw [ho] at ho'; cases ho'
    exact ⟨_, es', ep', hL, r'⟩) hok hg
theorem Inv.callN' {s' : Shared} {ch : List Addr} (I : Inv X pins σ H s) (ho : s'.os = s.os) (u : Un (frs X.stack) ch H H' s.heap s'.heap) (hok : HOk X.prog X.w H' s'.heap) (hg : AllBare s'.gens)
    (hch : ∀ b ∈ ch, (b ∈ X.ex ∨ X.s_0.heap.get? b = none) ∧ b ≠ X.env.locals ∧ (∀ x c, X.env.cells.lookup x = some c → c ≠ b) ∧ ∀ p ∈ X.pn ++ pins, p.1 ≠ b) : Inv X pins σ H' s' := by
  obtain ⟨h', g', d', t', o'⟩ := s'
  have e : o' = s.os := ho
  subst e
  exact I.callN (g' := g') (t' := t') (d' := d') u hok hg hch
end

structure Fly (nw : Addr → Prop) (H : Hp) (h : Heap) (e : Addr) (C : Value) (tb : Bool) : Prop where
  new : nw e
  un : H e = none
  obj : ∃ oe vs, h.get? e = some oe ∧ oe.cls = C ∧ oe.data = .fields vs ∧ ((tb = false ∧ vs[1]? = some .none) ∨ ∃ T oT ts, vs[1]? = some (.ref T) ∧ nw T ∧ H T = none ∧ T ≠ e ∧ h.get? T = some oT ∧ oT.data = .fields ts ∧ 3 < ts.size)
theorem Fly.mono {nw nw' : Addr → Prop} {H : Hp} {h : Heap} {e : Addr} {C : Value} {tb : Bool} (F : Fly nw H h e C tb) (k : ∀ b, nw b → nw' b) : Fly nw' H h e C tb := by
  obtain ⟨n, u, oe, vs, h1, h2, h3, h4⟩ := F
  refine ⟨k e n, u, oe, vs, h1, h2, h3, ?_⟩
  rcases h4 with h4 | ⟨T, oT, ts, a, b, c⟩
  · exact .inl h4
  · exact .inr ⟨T, oT, ts, a, k T b, c⟩
theorem Fly.any {nw : Addr → Prop} {H : Hp} {h : Heap} {e : Addr} {C : Value} {tb : Bool} (F : Fly nw H h e C tb) : Fly nw H h e C false := by
  obtain ⟨n, u, oe, vs, h1, h2, h3, h4⟩ := F
  refine ⟨n, u, oe, vs, h1, h2, h3, ?_⟩
  rcases h4 with h4 | h4
  · exact .inl ⟨rfl, h4.2⟩
  · exact .inr h4
def Cx.nw (X : Cx) (b : Addr) : Prop := b ∈ X.ex ∨ X.s_0.heap.get? b = none
def FrIs (X : Cx) (L : Addr) : Prop := X.env.frame = some L ∧ ∃ env1 outer1, X.stack = env1 :: outer1 ∧ env1.frame = some L

section
variable {X : Cx} {σ : List (Option V)} {H : Hp} {s : Shared} {e L : Addr} {C : Value} {tb : Bool}
theorem Inv.rec2 {h' : Heap} {e T : Addr} {oe oT : Obj} {vs ts : Array Value} (I : Inv X [] σ H s) (hpn : X.pn = []) (ge : s.heap.get? e = some oe) (de : oe.data = .fields vs) (gT : s.heap.get? T = some oT) (dT : oT.data = .fields ts) (ne : X.nw e) (nT : X.nw T)
    (he : H e = none) (hT : H T = none) (keep : ∀ b o, b ∉ frs X.stack → b ≠ e → b ≠ T → s.heap.get? b = some o → h'.get? b = some o)
    (slot : ∀ b o, b ∈ frs X.stack → s.heap.get? b = some o → ∃ sl, h'.get? b = some { o with slots := sl }) (there : ∀ b o, s.heap.get? b = some o → ∃ o', h'.get? b = some o') : Inv X [] σ H { s with heap := h' } := by
  have nL : ∀ b o vs', s.heap.get? b = some o → o.data = .fields vs' → b ≠ X.env.locals := fun b o vs' q d z => by
    obtain ⟨m, ⟨o', es, ep, ho, hd, _⟩, _⟩ := I.loc
    rw [z, ho] at q; cases q; rw [hd] at d; cases d
  have nC : ∀ b o vs', s.heap.get? b = some o → o.data = .fields vs' → ∀ x c, X.env.cells.lookup x = some c → c ≠ b := fun b o vs' q d x c hx z => by
    obtain ⟨v, o', ho, hd⟩ := I.cell x c hx
    rw [z, q] at ho; cases ho; rw [d] at hd; cases hd
  have u : Un (frs X.stack) [e, T] H H s.heap h' := ⟨fun b o q n hb hx => keep b o hb (fun z => hx (by simp [z])) (fun z => hx (by simp [z])) q, fun b o q n hb hx => slot b o hb q, fun b o q n hx => n, fun b o q hx => there b o q, fun b xs q => q, fun b o u q => q, fun b ps q => ⟨#[], by rw [q]; simp⟩⟩
  have hok : HOk X.prog X.w H h' := fun a o q => (I.hok a o q).stay (fun b u hb z => by
    have hb' : ∃ o', H b = some o' := by
      rcases hb with z1 | z1
      · exact ⟨o, by rw [z1]; exact q⟩
      · exact ⟨_, z1⟩
    obtain ⟨o', hb'⟩ := hb'
    refine keep b u (fun z2 => ?_) (fun z2 => ?_) (fun z2 => ?_) z
    · rw [I.stkFree b z2] at hb'; cases hb'
    · rw [z2, he] at hb'; cases hb'
    · rw [z2, hT] at hb'; cases hb') (fun _ q => q) fun _ _ q => q
  refine I.callN (g' := s.gens) (t' := s.toks) (d' := s.drawn) u hok I.bare fun b hb => ?_
  have hb' : b = e ∨ b = T := by simpa using hb
  have fin : ∀ {b : Addr} {o : Obj} {vs' : Array Value}, s.heap.get? b = some o → o.data = .fields vs' → X.nw b → (b ∈ X.ex ∨ X.s_0.heap.get? b = none) ∧ b ≠ X.env.locals ∧ (∀ x c, X.env.cells.lookup x = some c → c ≠ b) ∧ ∀ p ∈ X.pn ++ ([] : List (Addr × Obj)), p.1 ≠ b :=
    fun {b o vs'} q d n => ⟨n, nL b o vs' q d, nC b o vs' q d, fun p hp => by rw [hpn] at hp; exact absurd hp (by simp)⟩
  rcases hb' with z | z
  · rw [z]; exact fin ge de ne
  · rw [z]; exact fin gT dT nT

theorem Inv.note {M : Model} {E : Value → Shared → Prop} {Q : Unit → Shared → Prop} {env : Env} (I : Inv X [] σ H s) (hpn : X.pn = []) (fr : FrIs X L) (hf : env.frame = some L) (F : Fly X.nw H s.heap e C tb)
    (h : ∀ s', s'.os = s.os → s'.gens = s.gens → Inv X [] σ H s' → Fly X.nw H s'.heap e C true → Q () s') : wpAny M X.A (noteFrame (.ref e) env) Q E s := by
  obtain ⟨ne, he, oe, vs, ge, hc, de, tbo⟩ := F
  obtain ⟨_, env1, outer1, hst, hf1⟩ := fr
  refine note_raw I.ok.frames hst hf1 hf I.stack ge de ?_ fun h' N => ?_
  · rcases tbo with ⟨_, z⟩ | ⟨T, oT, ts, z, _, _, nTe, gT, dT, hz⟩
    · exact .inl z
    · exact .inr ⟨T, oT, ts, z, nTe, gT, dT, hz⟩
  obtain ⟨oe', vs', T', oT', ts', q1, q2, q3, q4, q5, q6, q7, q8, q9⟩ := N.tb
  -- the elder traceback, or the exception itself where there is none
  obtain ⟨T, oT, ts, gT, dT, nT, uT, only⟩ : ∃ T oT ts, s.heap.get? T = some oT ∧ oT.data = .fields ts ∧ X.nw T ∧ H T = none ∧ ∀ b, vs[1]? = some (Value.ref b) → b = T := by
    rcases tbo with ⟨_, z⟩ | ⟨T, oT, ts, z, nT, uT, _, gT, dT, _⟩
    · exact ⟨e, oe, vs, ge, de, ne, he, fun b q => by rw [z] at q; cases q⟩
    · exact ⟨T, oT, ts, gT, dT, nT, uT, fun b q => by rw [z] at q; cases q; rfl⟩
  have I' : Inv X [] σ H { s with heap := h' } := I.rec2 hpn ge de gT dT ne nT he uT (fun b o hb h1 h2 q => N.keep b o hb h1 (fun z => h2 (only b z)) q) N.slot N.there
  have nT' : X.nw T' := by
    rcases q5 with z | z
    · rw [only T' z]; exact nT
    · by_cases hx : T' ∈ X.ex
      · exact .inl hx
      · refine .inr ?_
        cases q : X.s_0.heap.get? T' with
        | none => rfl
        | some o =>
          obtain ⟨o', q'⟩ := I.base.there T' o q hx
          rw [z] at q'; cases q'
  have uT' : H T' = none := by
    rcases q5 with z | z
    · rw [only T' z]; exact uT
    · exact I.hok.none_of z
  exact h _ rfl rfl I' ⟨ne, he, oe', vs', q1, q2.trans hc, q3, .inr ⟨T', oT', ts', q4, nT', uT', q6, q7, q8, q9⟩⟩

theorem Inv.flight {M : Model} {A : Around} {E : Value → Shared → Prop} {Q : Unit → Shared → Prop} {fl : Option Addr} (I : Inv X [] σ H s) (hpn : X.pn = []) (F : Fly X.nw H s.heap e C true)
    (h : ∀ s', s'.os = s.os → s'.gens = s.gens → Inv X [] σ H s' → Fly X.nw H s'.heap e C true → Q () s') : wpAny M A (setFlight (.ref e) fl) Q E s := by
  obtain ⟨ne, he, oe, vs, ge, hc, de, tbo⟩ := F
  rcases tbo with ⟨z, _⟩ | ⟨T, oT, ts, h1, nT, uT, nTe, gT, dT, hz⟩
  · cases z
  unfold setFlight
  refine wpAny_bind (wpAny_field ge de h1 ?_)
  rw [if_pos (show (Value.ref T != Value.none) = true from by simp)]
  refine wpAny_setField gT dT hz ?_
  have other : ∀ b, b ≠ T → ∀ (x : Value), (s.heap.update T (Obj.mapFields (·.setIfInBounds 3 x))).get? b = s.heap.get? b := fun b hb x => Heap.get?_update_other _ _ (Ne.symm hb)
  generalize (Option.elim fl Value.none fun f => rawInt f) = x
  have hT' := Heap.get?_update_self (Obj.mapFields (·.setIfInBounds 3 x)) gT (Obj.isFreed_of_fields (Obj.data_mapFields dT _))
  have nfr : T ∉ frs X.stack := fun hm => by
    obtain ⟨_, o', ho, hnf⟩ := I.stack.mem hm
    rw [gT] at ho; cases ho; exact hnf _ dT
  refine h _ rfl rfl (I.rec2 hpn ge de gT dT ne nT he uT (fun b o _ _ hb q => (other b hb x).trans q) (fun b o hb q => ⟨o.slots, (other b (fun z => nfr (z ▸ hb)) x).trans q⟩) fun b o q => ?_) ⟨ne, he, oe, vs, (other e (Ne.symm nTe) x).trans ge, hc, de, .inr ⟨T, _, _, h1, nT, uT, nTe, hT', Obj.data_mapFields dT _, by simpa using hz⟩⟩
  by_cases z : b = T
  · subst z; exact ⟨_, hT'⟩
  · exact ⟨o, (other b z x).trans q⟩
end

def noS (X : Cx) : St := List.replicate X.N.length none
theorem Inv.forget {X : Cx} {pins : List (Addr × Obj)} {σ : St} {H : Hp} {s : Shared} (I : Inv X pins σ H s) : Inv X [] (noS X) H s :=
  (I.pins_of (pins' := []) fun p hp => absurd hp (by simp)).weak (by rw [noS, List.length_replicate, I.len]) fun i v e => by
    unfold noS at e
    rw [List.getElem?_replicate] at e
    split at e <;> cases e
def XIn (X : Cx) (E : XK) (tb : Bool) (e : Value) (s' : Shared) : Prop :=
  ∃ ea C H', e = .ref ea ∧ X.pn = [] ∧ (∃ L, FrIs X L) ∧ Inv X [] (noS X) H' s' ∧ Fly X.nw H' s'.heap ea C tb ∧ E C none H'
abbrev Cx.exn (X : Cx) (E : XK) : Cx := X.wish (XIn X E false)
def CXE (P : Program) (w : World) : CXT := fun outer H s E e s' =>
  ∃ ea C H', e = .ref ea ∧ s'.os = s.os ∧ AllBare s'.gens ∧ Un (frs outer) [] H H' s.heap s'.heap ∧ HOk P w H' s'.heap ∧ Fly (fun b => s.heap.get? b = none) H' s'.heap ea C true ∧ E C none H'

theorem XIn.any {X : Cx} {E : XK} {tb : Bool} {e : Value} {s' : Shared} (h : XIn X E tb e s') : XIn X E false e s' :=
  let ⟨ea, C, H', a, b, c, d, f, g⟩ := h; ⟨ea, C, H', a, b, c, d, f.any, g⟩
theorem XIn.noted {X : Cx} {E : XK} {tb : Bool} {e : Value} {s : Shared} {M : Model} {E' : Value → Shared → Prop} {Q : Unit → Shared → Prop} {env : Env} (h : XIn X E tb e s) (hf : env.frame = X.env.frame) (q : ∀ s', XIn X E true e s' → Q () s') :
    wpAny M X.A (noteFrame e env) Q E' s := by
  obtain ⟨ea, C, H', rfl, hpn, ⟨L, fr⟩, I, F, x⟩ := h
  exact I.note hpn fr (hf.trans fr.1) F fun s' _ _ I' F' => q s' ⟨ea, C, H', rfl, hpn, ⟨L, fr⟩, I', F', x⟩
theorem XIn.flown {X : Cx} {E : XK} {e : Value} {s : Shared} {M : Model} {A : Around} {E' : Value → Shared → Prop} {Q : Unit → Shared → Prop} {fl : Option Addr} (h : XIn X E true e s) (q : ∀ s', XIn X E true e s' → Q () s') :
    wpAny M A (setFlight e fl) Q E' s := by
  obtain ⟨ea, C, H', rfl, hpn, fr, I, F, x⟩ := h
  exact I.flight hpn F fun s' _ _ I' F' => q s' ⟨ea, C, H', rfl, hpn, fr, I', F', x⟩
theorem XIn.head {X : Cx} {E : XK} {e : Value} {s : Shared} {M : Model} {A : Around} {E' : Value → Shared → Prop} {Q : Value → Shared → Prop} (h : XIn X E true e s) (q : ∀ T, Q (.ref T) s) : wpAny M A (field e 1) Q E' s := by
  obtain ⟨ea, C, H', rfl, hpn, fr, I, ⟨_, _, oe, vs, ge, _, de, tbo⟩, x⟩ := h
  rcases tbo with ⟨z, _⟩ | ⟨T, _, _, h1, _⟩
  · cases z
  · exact wpAny_field ge de h1 (q T)
theorem XIn.cameBack {X : Cx} {E : XK} {e : Value} {s : Shared} {M : Model} (h : XIn X E true e s) : cameBackBy M X.A X.env (XIn X E false) e s := by
  unfold cameBackBy
  refine wpAny_bind (XIn.head h fun T => ?_)
  rw [if_neg (by simp)]
  exact XIn.flown h fun s' h' => h'.any
theorem passes_own_x {X : Cx} {E : XK} : PassesOwn (model X.prog X.w) X.A X.env (XIn X E false) := fun e s' h =>
  XIn.noted h rfl fun s'' h' => h'.cameBack

theorem passX {X : Cx} {E : XK} (hpn : X.pn = []) (fr : ∃ L, FrIs X L) : Passes (CXE X.prog X.w) (X.exn E) E := fun pins σ H s e s' I h => by
  have I := I.unwish
  obtain ⟨ea, C, H', rfl, os, bare, un, hok, F, x⟩ := h
  have I' : Inv X pins σ H' s' := I.callN' (ch := []) os un hok bare fun b hb => absurd hb (by simp)
  refine ⟨ea, C, H', rfl, hpn, fr, I'.forget, (F.mono fun b hb => ?_).any, x⟩
  by_cases hx : b ∈ X.ex
  · exact .inl hx
  · refine .inr ?_
    cases q : X.s_0.heap.get? b with
    | none => rfl
    | some o =>
      obtain ⟨o', q'⟩ := I.base.there b o q hx
      rw [hb] at q'; cases q'

theorem frIs_def {CX : CXT} {P : Program} {w : World} {K : PySem.W.Frag} {mg : Str → Option Value} {base : Heap} {N : List Str} {qual : Str} {scope : Scope} {f : Addr} {cd : Value} {A : Around} {outer : List Env} {s : Shared} {H : Hp} {E : XK} :
    ∃ L, FrIs (cxOf CX P w K mg base N qual scope f cd A outer s H E) L := ⟨s.heap.objs.size, rfl, _, _, rfl, rfl⟩
theorem exitX {P : Program} {w : World} {K : PySem.W.Frag} {mg : Str → Option Value} {base : Heap} {N : List Str} {qual : Str} {scope : Scope} {f : Addr} {cd : Value} {A : Around} {outer : List Env} {s : Shared} {H : Hp} {E : XK} {e : Value} {s' : Shared}
    (h : XIn (cxOf (CXE P w) P w K mg base N qual scope f cd A outer s H E) E false e s') : (cxOf (CXE P w) P w K mg base N qual scope f cd A outer s H E).xe e s' := by
  show wpAny (model P w) (A.deeper (envOfC qual scope s.heap.objs.size f cd)) (leaving (envOfC qual scope s.heap.objs.size f cd) e) _ _ s'
  unfold leaving
  refine wpAny_bind (XIn.noted h rfl fun s1 h1 => XIn.flown h1 fun s2 h2 => ?_)
  obtain ⟨ea, C, H', rfl, _, _, I, F, x⟩ := h2
  exact ⟨ea, C, H', rfl, I.os, I.bare, I.base, I.hok, F.mono fun b hb => hb.elim (fun z => absurd (show b ∈ ([] : List Addr) from z) (by simp)) id, x⟩
theorem PSs.exn {X : Cx} {E : Value → Shared → Prop} {st : List Stmt} {t : TS} (h : PSs (X.wish E) st t) (hx : ∀ e s', E e s' → X.xe e s') : PSs X st t := fun pins s σ H D I hw =>
  wpAny_mono (h pins s σ H D (I.wish _) hw) (fun _ _ q => q.unwish) hx
section
variable {P : Program} {w : World} {K : PySem.W.Frag} {mg : Str → Option Value} {base : Heap}
theorem Fun.okX {x qual : Str} {st : Stmt} {f : Addr} {fd : FuncData} {N ps : List Str} {k : Nat} {sp : Sp} (F : Fun K x qual st f fd) (S : FnScope N ps (defScope st)) (len : ∀ vs H Q E, sp vs H Q E → vs.length = ps.length)
    (hbody : ∀ (cdv : Value) (A : Around) (outer : List Env) (s : Shared) (H : Hp) (vs : List V) (Q : VK) (E : XK), Room k (A.deeper (envOfC qual (defScope st) s.heap.objs.size f cdv)) → sp vs H Q E →
      ∃ t, PSs ((cxOf (CXE P w) P w K mg base N qual (defScope st) f cdv A outer s H E).exn E) (defBody st) t ∧ t { nx := fun _ H' => Q .non H', rt := Q } (start N vs) H) : FnOk P w K mg base (CXE P w) (k + 1) f fd ps sp := by
  obtain ⟨oc, od, kV, doc, pm, an, cdv, ct, osl, rfl, lk, hcd⟩ := F.ex
  refine fn_of lk hcd S len fun A outer s H vs Q E hr hsp => ?_
  obtain ⟨t, h, q⟩ := hbody cdv A outer s H vs Q E hr hsp
  exact ⟨t, PSs.exn h fun e s' => exitX, q⟩
end
end L2

set_option linter.all false
set_option maxRecDepth 100000
namespace L2
open PySem PySem.Spec PyProof.Rows

def tRaise (E : XK) (C : Addr) (ta : TA) : TS := fun _ σ H => ta σ H fun vs H1 => vs.length ≤ sizeLine ∧ E (.ref C) none H1
theorem Inv.nw_of {X : Cx} {pins : List (Addr × Obj)} {σ : St} {H : Hp} {s : Shared} {b : Addr} (I : Inv X pins σ H s) (h : s.heap.get? b = none) : X.nw b := by
  by_cases hx : b ∈ X.ex
  · exact .inl hx
  · refine .inr ?_
    cases q : X.s_0.heap.get? b with
    | none => rfl
    | some o =>
      obtain ⟨o', q'⟩ := I.base.there b o q hx
      rw [h] at q'; cases q'
theorem ps_raise {X : Cx} {E : XK} {x : Str} {C : Addr} {bm : List Value} {B newId initId : String} {e0 : Expr} {rest : List Expr} {ta : TA} {np cpos pos : Pos} (hpn : X.pn = []) (fr : ∃ L, FrIs X L) (hc : X.calm = true)
    (hg : Gl X x) (O : OwnCls x C bm newId X.mg X.base) (FB : ExcBaseFacts B newId initId bm) (ha : PA (X.exn E) (e0 :: rest) ta)
    (hst : starEach (e0 :: rest) X.env = (false, eval e0 X.env) :: starEach rest X.env := by rfl) (hpl : (backTo cpos (starEach rest X.env)).any (·.1) = false := by rfl) (hd : (x == ("__debug__" : Str)) = false := by decide) :
    PS (X.exn E) (.Raise (some (.Call (.Name x np) (e0 :: rest) [] cpos)) none pos) (tRaise E C ta) := by
  intro pins s σ H D I h
  obtain ⟨tl, N, nm, q, bs, hdct, sn, sub, ab, col, dd, k0, k1, k2, k3, k5, mN, hC, hN, hni, T⟩ := O.obj
  refine wpAny_Raise_call_subT (C := C) (nm := nm) (q := q) (N := N) (bs := bs) (bm := tl) (hdct := hdct) (sn := sn) (sub := sub) (ab := ab) (col := col) (dd := dd) (k0 := k0) (k1 := k1) (k2 := k2) (k3 := k3) (k5 := k5)
    FB (mN := mN) (T.hasType FB.hasBase) (I.ok.hd hc) (by rw [hst]; show (false || (backTo cpos (starEach rest X.env)).any (·.1)) = false; rw [hpl]; rfl) hni (ld_glob I hg O.bound ⟨rfl, ?_⟩ hd)
  have h2 := ha cpos pins s σ H _ I h
  rw [hst] at h2 ⊢
  refine Calls.evalArgs_plain (wpAny_mono h2 (fun us s2 hq => ?_) fun _ _ y => y)
  obtain ⟨vs, H2, I2, r2, z2, x2⟩ := hq
  have k := I2.bk
  refine ⟨rfl, by rw [← r2.length]; exact z2, k _ _ hC, hN.keeps k, T.keeps k, fun h' e hm => ?_⟩
  have J := I2.unwish
  obtain ⟨t, g, _, _⟩ := hm.there
  exact ⟨e, .ref C, H2, rfl, hpn, fr, (J.kept (t' := s2.toks) hm.keeps).forget, ⟨J.nw_of hm.new, J.hok.none_of hm.new, _, _, g, rfl, rfl, .inl ⟨rfl, rfl⟩⟩, x2⟩

def PlainX (h : Heap) (C : Addr) : Prop := ∃ nm q N bs bm hdct sn sub ab col dd k0 k1 k2 k3 k5 newId, h.get? C = some (excClassObj nm q C N bs bm hdct sn sub ab col dd k0 k1 k2 k3 k5 newId) ∧ bm.contains (.type "BaseException") = true ∧ ∀ a : Addr, bm.contains (.ref a) = false
theorem excMatches_own {M : Model} {A : Around} {E : Value → Shared → Prop} {s : Shared} {e C C1 : Addr} {oe : Obj} {Q : Bool → Shared → Prop} (hC : PlainX s.heap C) (hC1 : PlainX s.heap C1) (he : s.heap.get? e = some oe) (hcls : oe.cls = .ref C)
    (hq : Q (decide (C = C1)) s) : wpAny M A (excMatches (.ref e) (.ref C1)) Q E s := by
  obtain ⟨h, g, d, t, os⟩ := s
  by_cases c : C = C1
  · subst c
    obtain ⟨nm, q, N, bs, bm, hdct, sn, sub, ab, col, dd, k0, k1, k2, k3, k5, newId, hC, hb, hr⟩ := hC
    rw [decide_eq_true rfl] at hq
    exact wpAny_excMatches_sub_self hC he hcls hb hq
  · obtain ⟨nm, q, N, bs, bm, hdct, sn, sub, ab, col, dd, k0, k1, k2, k3, k5, newId, hC, hb, hr⟩ := hC
    obtain ⟨nm', q', N', bs', bm', hdct', sn', sub', ab', col', dd', k0', k1', k2', k3', k5', newId', hC1, hb', _⟩ := hC1
    rw [decide_eq_false c] at hq
    have hcB : (Value.ref C1 :: bm').contains (.type "BaseException") = true := by rw [List.contains_cons, hb', Bool.or_true]
    have hcC : (Value.ref C :: bm).contains (.ref C1) = false := by
      rw [List.contains_cons, hr C1, Bool.or_false]
      simp [Ne.symm c]
    have f := tc_notTuple
    unfold excMatches
    repeat (first | (with_reducible refine wpAny_loadPart_at he ?_; rw [hcls]) | with_reducible refine wpAny_loadPart_at hC1 ?_ | with_reducible refine wpAny_loadPart_at hC ?_ | (with_reducible refine wpAny_isSubtype_exc hC1 ?_; rw [hcB]) | (with_reducible refine wpAny_isSubtype_exc hC ?_; rw [hcC]) | wp_step)
    exact hq

abbrev Cx.suite (X : Cx) (e : Addr) : Cx := { X with A := X.A.mark (some (.ref e)), calm := false, xe := fun _ _ => False }
theorem Inv.suite {X : Cx} {pins : List (Addr × Obj)} {σ : St} {H : Hp} {s : Shared} (I : Inv X pins σ H s) (e : Addr) : Inv (X.suite e) pins σ H s :=
  ⟨⟨I.ok.mod, I.ok.kind, I.ok.glob, I.ok.blt, I.ok.above, I.ok.inj, I.ok.has, I.ok.cab, (fun z => by cases z), I.ok.frames, I.ok.stk, I.ok.exf, I.ok.bs, I.ok.bsz, I.ok.noex, I.ok.exfs, I.ok.funs, I.ok.frf⟩, I.os, I.bare, I.base, I.loc, I.cell, I.free, I.freeC, I.pin, I.hok, I.len⟩
theorem Inv.unsuite {X : Cx} {pins : List (Addr × Obj)} {σ : St} {H : Hp} {s : Shared} {e : Addr} (I : Inv (X.suite e) pins σ H s) (ok : X.Ok) : Inv X pins σ H s :=
  ⟨ok, I.os, I.bare, I.base, I.loc, I.cell, I.free, I.freeC, I.pin, I.hok, I.len⟩
theorem SP.unsuite {X : Cx} {D : Ends} {f : Flow} {s' : Shared} {e : Addr} {pins : List (Addr × Obj)} (h : SP (X.suite e) pins D f s') (ok : X.Ok) : SP X pins D f s' := by
  cases f with
  | next => obtain ⟨σ', H', I, q⟩ := h; exact ⟨σ', H', I.unsuite ok, q⟩
  | brk => obtain ⟨σ', H', I, q⟩ := h; exact ⟨σ', H', I.unsuite ok, q⟩
  | cont => obtain ⟨σ', H', I, q⟩ := h; exact ⟨σ', H', I.unsuite ok, q⟩
  | ret u => obtain ⟨v, σ', H', I, r, q⟩ := h; exact ⟨v, σ', H', I.unsuite ok, r, q⟩

abbrev THs := Ends → Value → Hp → Prop
def hEnd : THs := fun _ _ _ => False
def hCl (base : Heap) (n : Nat) (C1 : Addr) (t : TS) (r : THs) : THs := fun D C H => ∃ C0, C = .ref C0 ∧ PlainX base C0 ∧ ((C0 = C1 ∧ t D (List.replicate n none) H) ∨ (C0 ≠ C1 ∧ r D C H))
def PHs (X : Cx) (hs : List ExceptHandler) (r : THs) : Prop := ∀ (s : Shared) (e : Addr) (C : Value) (H : Hp) (D : Ends), X.pn = [] → Inv X [] (noS X) H s → Fly X.nw H s.heap e C true → r D C H → wpAny (model X.prog X.w) X.A (handleBy (.ref e) X.env hs) (SP X [] D) X.xe s
theorem PlainX.keeps {h h' : Heap} {C : Addr} (x : PlainX h C) (k : ∀ b o, h.get? b = some o → h'.get? b = some o) : PlainX h' C := by
  obtain ⟨nm, q, N, bs, bm, hdct, sn, sub, ab, col, dd, k0, k1, k2, k3, k5, newId, hC, hb, hr⟩ := x
  exact ⟨nm, q, N, bs, bm, hdct, sn, sub, ab, col, dd, k0, k1, k2, k3, k5, newId, k _ _ hC, hb, hr⟩
theorem phs_nil {X : Cx} : PHs X [] hEnd := fun _ _ _ _ _ _ _ _ h => h.elim
theorem phs_cons {X : Cx} {x : Str} {C1 : Addr} {b0 : Stmt} {suite : List Stmt} {np pos : Pos} {hs : List ExceptHandler} {t : TS} {r : THs} (hg : Gl X x) (hm : X.mg x = some (.ref C1)) (p1 : PlainX X.base C1) (hsu : ∀ e, PSs (X.suite e) (b0 :: suite) t) (hr : PHs X hs r)
    (hd : (x == ("__debug__" : Str)) = false := by decide) : PHs X (.ExceptHandler (some (.Name x np)) none (b0 :: suite) pos :: hs) (hCl X.base X.N.length C1 t r) := by
  intro s e C H D hpn I F h
  obtain ⟨C0, rfl, p0, h⟩ := h
  refine wpAny_handleBy_cons (codeAny_handlers_test (ld_glob (X := X.suite e) (I.suite e) hg hm ?_ hd)) (by intro q; cases q)
  obtain ⟨oe, vs, ge, hc, _⟩ := F.obj
  refine excMatches_own (p0.keeps I.bk) (p1.keeps I.bk) ge hc ?_
  rcases h with ⟨c, h⟩ | ⟨c, h⟩
  · rw [decide_eq_true c]
    refine codeAny_handlers_suite (I.flight hpn F fun s1 _ _ I1 F1 => ?_)
    refine wpAny_mono (hsu e [] s1 (noS X) H D (I1.suite e) h) (fun f s2 q => q.unsuite I.ok) fun _ _ z => z.elim
  · rw [decide_eq_false c]
    exact hr s e _ H D hpn I F h
def PSs0 (X : Cx) (st : List Stmt) (t : TS) : Prop :=
  ∀ (s : Shared) (σ : St) (H : Hp) (D : Ends), Inv X [] σ H s → t D σ H → wpAny (model X.prog X.w) X.A (execs st X.env) (SP X [] D) X.xe s
def tTry (tb : XK → TS) (r : THs) : TS := fun D σ H => tb (fun C _ H' => r D C H') D σ H
theorem pss0_try {X : Cx} {body : List Stmt} {h0 : ExceptHandler} {hs : List ExceptHandler} {pos : Pos} {tb : XK → TS} {r : THs} (hpn : X.pn = []) (fr : ∃ L, FrIs X L) (hb : ∀ E2, PSs (X.exn E2) body (tb E2)) (hh : PHs X (h0 :: hs) r) :
    PSs0 X [.Try body (h0 :: hs) [] [] pos] (tTry tb r) := by
  intro s σ H D I h
  have main : wpAny (model X.prog X.w) X.A (exec (.Try body (h0 :: hs) [] [] pos) X.env) (SP X [] D) X.xe s := by
    refine wpAny_Try_except (wpAny_mono (hb _ [] s σ H D (I.wish _) h) (fun f s1 q => ?_) fun e s1 hx => ?_)
    · have q' := q.unwish
      cases f with
      | next => exact wpAny_execs_nil q'
      | ret v => exact q'
      | brk => exact q'
      | cont => exact q'
    · refine XIn.noted (X := X) (E := fun C _ H' => r D C H') hx rfl fun s2 h2 => XIn.flown h2 fun s3 h3 => ?_
      obtain ⟨ea, C, H3, rfl, _, _, I3, F3, x3⟩ := h3
      exact hh s3 ea C H3 D hpn I3 F3 x3
  refine wpAny_execs_cons (thn main fun f s1 q => ?_)
  cases f with
  | next => exact wpAny_execs_nil q
  | ret v => exact q
  | brk => exact q
  | cont => exact q

section
variable {X : Cx}
theorem blk_out {E : XK} {pins : List (Addr × Obj)} {σ : St} {H3 : Hp} {s3 s' : Shared} {scope : Scope} {ce : Env} {fp : List Addr} {e : Value} {use : Option (Value → Sem Unit)} {Qf : Value → Shared → Prop} {D : Value}
    (hpn : X.pn = []) (fr : ∃ L, FrIs X L) (hxe : ∀ e s', XIn X E true e s' → X.xe e s') (I3 : Inv X pins σ H3 s3) (f3 : ∀ b ∈ fp, FpOk X pins H3 b ∧ b < s3.heap.objs.size) (cf : ce.frame = X.env.frame) (cL : ce.locals = s3.heap.objs.size)
    (h : XIn (X.blk s3 H3 scope ce fp) E true e s') : compPost (model X.prog X.w) X.A X.xe use Qf D s3.heap.objs.size (.error e) s' := by
  obtain ⟨ea, C, H', rfl, _, _, J, F, x⟩ := h
  have I7 : Inv X pins σ H' s' := I3.call' (ch := fp) J.os J.base J.hok J.bare fun b hb => ⟨(f3 b hb).1.2.2.2.1, (f3 b hb).1.2.1, (f3 b hb).1.2.2.2.2.1, (f3 b hb).1.2.2.2.2.2⟩
  have nC : H' s3.heap.objs.size = none := by
    have z : H' ce.locals = none := J.free
    rw [cL] at z
    exact z
  obtain ⟨m, hn, _⟩ := J.loc
  have hn : s'.heap.Ns ce.locals m := hn
  rw [cL] at hn
  refine ⟨m, hn, fun h' sb cenv hce => ?_⟩
  obtain ⟨f0, f1, f2, f3', f4, f5⟩ := I3.fpOk (Nat.le_refl _) nC
  have I8 : Inv X pins σ H' { s' with heap := h' } := I7.turned (t' := s'.toks) (fun b o hb q => (sb.2 b hb).trans q) f0 f1 f3' f4 f5
  have nF : ∀ b o vs, s'.heap.get? b = some o → o.data = .fields vs → b ≠ s3.heap.objs.size := fun b o vs q d z => by
    obtain ⟨o', es, ep, ho, hd, _⟩ := hn
    rw [z, ho] at q; cases q; rw [hd] at d; cases d
  have nw : ∀ b, (X.blk s3 H3 scope ce fp).nw b → X.nw b := fun b hb => by
    rcases hb with hb | hb
    · rcases (f3 b hb).1.2.2.2.1 with z | z
      · exact .inl z
      · exact .inr (Heap.get?_none_of_le z)
    · exact I3.nw_of hb
  have F' : Fly X.nw H' h' ea C true := by
    obtain ⟨n, u, oe, vs, g, c, d, tb⟩ := F.mono nw
    refine ⟨n, u, oe, vs, (sb.2 _ (nF ea oe vs g d)).trans g, c, d, ?_⟩
    rcases tb with ⟨z, _⟩ | ⟨T, oT, ts, a1, a2, a3, a4, a5, a6, a7⟩
    · cases z
    · exact .inr ⟨T, oT, ts, a1, a2, a3, a4, (sb.2 _ (nF T oT ts a5 a6)).trans a5, a6, a7⟩
  have hx : XIn X E true (.ref ea) { s' with heap := h' } := ⟨ea, C, H', rfl, hpn, fr, I8.forget, F', x⟩
  unfold PySem.passOn
  refine wpAny_bind (XIn.head hx fun T => ?_)
  rw [if_neg (by simp)]
  exact wpAny_bind (XIn.flown hx fun s4 h4 => wpAny_throw (hxe _ _ h4))
theorem lc_coreX {E : XK} {L : Addr} {pins : List (Addr × Obj)} {s : Shared} {σ : St} {H : Hp} {Q : VK} {elt tg iter : Expr} {ifs : List Expr} {scope : Scope} {own : List (Str × Nat)} {pos pos' : Pos} {wi : TI} {g : TG} {tt : TT} {te : TE} {use : Option (Value → Sem Unit)} {Qf : Value → Shared → Prop}
    (hc : X.calm = true) (hpn : X.pn = []) (fr : FrIs X L) (hxe : ∀ e s', XIn X E true e s' → X.xe e s') (hN : X.N.Nodup) (I : Inv X pins σ H s) (hi : PI X tg iter wi) (ok : BlkOk X.N X.env.scope scope own)
    (hg : ∀ (s : Shared) (H : Hp) (C : Addr) (cl : List (Str × Addr)) (fp : List Addr), PG (X.blk s H scope (compEnvC scope cl C X.env) fp) tg g) (ht : ∀ (s : Shared) (H : Hp) (C : Addr) (cl : List (Str × Addr)) (fp : List Addr), PTs (X.blk s H scope (compEnvC scope cl C X.env) fp) ifs tt)
    (he : ∀ (s : Shared) (H : Hp) (C : Addr) (cl : List (Str × Addr)) (fp : List Addr), PE ((X.blk s H scope (compEnvC scope cl C X.env) fp).exn E) elt te) (hs : ∀ x, foldedSetIterable iter X.env x = pure x)
    (h : tLc wi g tt te (own.map (·.2)) σ H Q)
    (hRR : ∀ D C s' m H', Inv X pins σ H' s' → Q (.ref D) H' → s'.heap.Ns C m → FpOk X pins H' C → compPost (model X.prog X.w) X.A X.xe use Qf (.ref D) C (.ok .next) s') :
    wpAny (model X.prog X.w) X.A (comprehension (.ListComp elt [⟨tg, iter, ifs, 0⟩] scope pos) scope X.env pos' (newList []) false (eval iter X.env) use) Qf X.xe s := by
  have hfree : ∀ y ∈ scope.names, y.2 = .free → ∃ c, X.env.cells.lookup y.1 = some c := fun y hy e => by
    rcases ok.free y hy e with k | k
    · exact I.ok.has _ (.inl k)
    · exact I.ok.has _ (.inr k)
  refine wpAny_comprehension_free (use := use) rfl hs (closure_ok hfree) ok.kind (fun y hy e => by rw [ok.uniq y hy, e])
    (thn (hi pins s σ H _ I h) fun xv s1 hx => thn hx fun itv s2 h2 => ?_)
  obtain ⟨it, fp, tn, J, H2, e, I2, T, st2, f2, q⟩ := h2
  subst e
  refine wpAny_newObj_type (newEnv_comp ?_) (by show 0 ≤ sizeLine; decide)
  generalize hD : s2.heap.objs.size = D
  have hDn : H2 D = none := I2.hok.fresh (Nat.le_of_eq hD)
  obtain ⟨W, ⟨m0, w0⟩, turn⟩ := q D hDn
  -- the new list
  generalize hs3 : ({ s2 with heap := s2.heap.push { cls := .type "list", data := .seq ([] : List Value).toArray } } : Shared) = s3
  have I3 : Inv X pins σ (upd H2 D (.lst [])) s3 := by
    rw [← hs3]
    refine I2.laid (t' := s2.toks) (fun b o e => Heap.get?_push_of_some _ e) (Nat.le_of_eq hD) ⟨Nat.zero_le _, [], 0, .nil, ?_⟩
    rw [← hD]
    exact Heap.get?_push_size _ rfl
  have h3 : s3.heap = s2.heap.push { cls := .type "list", data := .seq ([] : List Value).toArray } := by rw [← hs3]
  have sz : ∀ b ∈ fp, b < s2.heap.objs.size := fun b hb => by
    obtain ⟨o, e, _⟩ := T.obj _ _ st2 b hb
    exact Heap.lt_size e
  have f3 : ∀ b ∈ fp, FpOk X pins (upd H2 D (.lst [])) b ∧ b < s3.heap.objs.size := fun b hb => by
    have hlt := sz b hb
    refine ⟨⟨?_, (f2 b hb).2⟩, by rw [h3, Heap.size_push]; exact Nat.lt_succ_of_lt hlt⟩
    rw [upd_ne (by rw [← hD]; exact Nat.ne_of_lt hlt)]
    exact (f2 b hb).1
  have st3 : tn 0 s3.heap := T.keep _ _ _ st2 fun b _ o e => by rw [h3]; exact Heap.get?_push_of_some _ e
  have I4 := block_start I3 ok hN f3
  have pg := hg s3 (upd H2 D (.lst [])) s3.heap.objs.size (cellsFrom (s3.heap.objs.size + 1) scope.names (cloFrom X.env.cells scope.names [])) fp
  have pt := ht s3 (upd H2 D (.lst [])) s3.heap.objs.size (cellsFrom (s3.heap.objs.size + 1) scope.names (cloFrom X.env.cells scope.names [])) fp
  have pe := he s3 (upd H2 D (.lst [])) s3.heap.objs.size (cellsFrom (s3.heap.objs.size + 1) scope.names (cloFrom X.env.cells scope.names [])) fp
  show codeAny _ _ (.compStart (.ListComp elt [⟨tg, iter, ifs, 0⟩] scope pos) 0 (.ref it) (.ref D) (compEnvC scope (cellsFrom (s3.heap.objs.size + 1) scope.names (cloFrom X.env.cells scope.names [])) s3.heap.objs.size X.env)) (compPost (model X.prog X.w) X.A X.xe use Qf (.ref D) s3.heap.objs.size) { s3 with heap := pushCells (s3.heap.push { cls := .type "dict", data := .dict #[] }) scope.names }
  have nfp : ∀ b ∈ fp, (upd H2 D (.lst [])) b = none := fun b hb => (f3 b hb).1.1
  generalize hce : compEnvC scope (cellsFrom (s3.heap.objs.size + 1) scope.names (cloFrom X.env.cells scope.names [])) s3.heap.objs.size X.env = ce at I4 pg pt pe ⊢
  have cL : ce.locals = s3.heap.objs.size := by subst hce; rfl
  generalize hH3 : upd H2 D (.lst []) = H3 at I3 I4 pg pt pe w0 nfp f3
  generalize hs4 : ({ s3 with heap := pushCells (s3.heap.push { cls := .type "dict", data := .dict #[] }) scope.names } : Shared) = s4 at I4 ⊢
  have st4 : tn 0 s4.heap := T.keep _ _ _ st3 fun b _ o e => by rw [← hs4]; exact pushCells_keeps _ _ _ _ (Heap.get?_push_of_some _ e)
  have stat : ∀ {σ' : St} {H' : Hp} {s' : Shared}, Inv (X.blk s3 H3 scope ce fp) [] σ' H' s' → (∀ b ∈ fp, H' b = none) → ∀ b ∈ fp, FpOk (X.blk s3 H3 scope ce fp) [] H' b := fun {σ' H' s'} I' hn b hb =>
    ⟨hn b hb, (I'.ok.exf b hb).1, I'.ok.exfs b hb, .inl hb, fun x c e => (I'.ok.exf b hb).2 x c e, fun p hp => absurd (show p ∈ ([] : List (Addr × Obj)) ++ [] from hp) (by simp)⟩
  have loop : codeAny (model X.prog X.w) X.A (.compLoop (.ListComp elt [⟨tg, iter, ifs, 0⟩] scope pos) 0 (.ref it) (.ref D) ce) (compPost (model X.prog X.w) X.A X.xe use Qf (.ref D) s3.heap.objs.size) s4 := by
    refine compLoop_any (fun n s' => ∃ i H', Inv (X.blk s3 H3 scope ce fp) [] (wipe σ (own.map (·.2))) H' s' ∧ tn i s'.heap ∧ (∀ b ∈ fp, H' b = none) ∧ W i n H') ?_ m0 ⟨0, H3, I4, st4, nfp, w0⟩
    rintro n s5 ⟨i, H5, I5, st5, n5, w5⟩
    rcases turn i n H5 w5 with ⟨stop, qq⟩ | ⟨go, Nx, hNx, step⟩
    · have td := T.done (X.blk s3 H3 scope ce fp) rfl rfl rfl hc i [] s5 _ H5 (fun _ _ => False) I5 (stat I5 n5) st5 stop
      refine thnF td fun r s6 ⟨hr, I6⟩ => ?_
      subst hr
      -- back in the def's context
      have I7 : Inv X pins σ H5 s6 := I3.call' (ch := fp) I6.os I6.base I6.hok I6.bare fun b hb => ⟨(f3 b hb).1.2.2.2.1, (f3 b hb).1.2.1, (f3 b hb).1.2.2.2.2.1, (f3 b hb).1.2.2.2.2.2⟩
      have nC : H5 s3.heap.objs.size = none := by
        have z : H5 ce.locals = none := I6.free
        rw [cL] at z
        exact z
      obtain ⟨m, hn, _⟩ := I6.loc
      have hn : s6.heap.Ns ce.locals m := hn
      rw [cL] at hn
      exact hRR D s3.heap.objs.size s6 m H5 I7 qq hn (I3.fpOk (Nat.le_refl _) nC)
    · have ti := T.item (X.blk s3 H3 scope ce fp) rfl rfl rfl hc i [] s5 _ H5 (fun _ _ => False) I5 (stat I5 n5) st5 go
      refine thnF ti fun r s6 ⟨u, hr, h6⟩ => ?_
      subst hr
      refine thnF h6 fun _ s7 ⟨x, H7, I7, r7, y7, st7, n7⟩ => ?_
      have I7' := I7.pinned (stat I7 n7) (T.obj _ _ st7)
      refine thnF (pg _ s7 _ H7 x u _ I7' r7 (step x H7 y7)) fun _ s8 ⟨σ8, H8, I8, hw8, q8⟩ => ?_
      refine thnF (pt _ s8 σ8 H8 _ I8 q8) fun b s9 ⟨H9, I9, q9⟩ => ?_
      -- the turn's end
      have fin : ∀ {s' : Shared} {H' : Hp}, Inv (X.blk s3 H3 scope ce fp) ([] ++ pinsAt fp s7.heap) σ8 H' s' → Nx H' → ∃ m, m < n ∧ ∃ i H', Inv (X.blk s3 H3 scope ce fp) [] (wipe σ (own.map (·.2))) H' s' ∧ tn i s'.heap ∧ (∀ b ∈ fp, H' b = none) ∧ W i m H' := fun {s' H'} I' nx => by
        obtain ⟨m', hm, w'⟩ := hNx H' nx
        have pin' : ∀ b ∈ fp, ∀ o, s7.heap.get? b = some o → s'.heap.get? b = some o ∧ H' b = none := fun b hb o e =>
          let z := I'.pin (b, o) (List.mem_append_right _ (List.mem_append_right _ (mem_pinsAt hb e)))
          ⟨z.1, z.2.1⟩
        have hl : (wipe σ (own.map (·.2))).length = σ8.length := by rw [← hw8, wipe_length]
        refine ⟨m', hm, i + 1, H', (I'.unpinned (pins := [])).weak hl (fun j v e => ?_), T.keep _ _ _ st7 fun b hb o e => (pin' b hb o e).1, fun b hb => ?_, w'⟩
        · rw [← hw8] at e
          exact (wipe_some e).1
        · obtain ⟨o, e, _⟩ := T.obj _ _ st7 b hb
          exact (pin' b hb o e).2
      cases b with
      | false =>
        simp only [Bool.false_eq_true, if_false] at q9 ⊢
        exact fin I9 q9
      | true =>
        simp only [if_true] at q9 ⊢
        refine wpAny_mono (pe _ s9 σ8 H9 _ (I9.wish _) q9) (fun z s10 ⟨yv, H10, I10, r10, acc, hD10, hz10, nx⟩ => ?_) fun e s10 hx => ?_
        · exact app_ok (X := X.blk s3 H3 scope ce fp) I10.unwish hD10 hz10 r10 fun s11 I11 => fin I11 nx
        · exact XIn.noted (X := X.blk s3 H3 scope ce fp) (E := E) hx rfl fun s11 hy => blk_out hpn ⟨L, fr⟩ hxe I3 f3 (by rw [← hce]; rfl) cL hy
  exact codeAny_compStart_list loop (T.self X.A 0 _ _ _ st4 loop)
theorem pe_lcX {E : XK} {L : Addr} {elt tg iter : Expr} {ifs : List Expr} {scope : Scope} {own : List (Str × Nat)} {pos : Pos} {wi : TI} {g : TG} {tt : TT} {te : TE} (hc : X.calm = true) (hpn : X.pn = []) (fr : FrIs X L) (hxe : ∀ e s', XIn X E true e s' → X.xe e s') (hN : X.N.Nodup) (hi : PI X tg iter wi) (ok : BlkOk X.N X.env.scope scope own)
    (hg : ∀ (s : Shared) (H : Hp) (C : Addr) (cl : List (Str × Addr)) (fp : List Addr), PG (X.blk s H scope (compEnvC scope cl C X.env) fp) tg g) (ht : ∀ (s : Shared) (H : Hp) (C : Addr) (cl : List (Str × Addr)) (fp : List Addr), PTs (X.blk s H scope (compEnvC scope cl C X.env) fp) ifs tt)
    (he : ∀ (s : Shared) (H : Hp) (C : Addr) (cl : List (Str × Addr)) (fp : List Addr), PE ((X.blk s H scope (compEnvC scope cl C X.env) fp).exn E) elt te) (hs : ∀ x, foldedSetIterable iter X.env x = pure x := by intro _; rfl) :
    PE X (.ListComp elt [⟨tg, iter, ifs, 0⟩] scope pos) (tLc wi g tt te (own.map (·.2))) := by
  intro pins s σ H Q I h
  rw [eval_ListComp]
  refine lc_coreX hc hpn fr hxe hN I hi ok hg ht he hs h fun D C s' m H' I' q hn f => ⟨m, hn, fun h'' sb => ?_⟩
  obtain ⟨f0, f1, f2, f3, f4, f5⟩ := f
  exact ⟨.ref D, H', I'.turned (t' := s'.toks) (fun b o hb e => (sb.2 b hb).trans e) f0 f1 f3 f4 f5, rfl, q⟩
end
end L2

set_option linter.all false
set_option maxRecDepth 100000
namespace L2
open PySem PySem.Spec PyProof.Rows

theorem PSs.zero {X : Cx} {st : List Stmt} {t : TS} (h : PSs X st t) : PSs0 X st t := fun s σ H D I q => h [] s σ H D I q
theorem fn_of0 {P : Program} {w : World} {K : PySem.W.Frag} {mg : Str → Option Value} {base : Heap} {k : Nat} {f : Addr} {name qual : Str} {params : Arguments} {body : List Stmt} {scope : Scope} {dV kV doc pm cdv ct oc : Value} {an od : Option Addr}
    {osl : Array (Option Value)} {N ps : List Str} {sp : Sp} (lk : K.lookup f = some ⟨oc, od, .func (PySem.W.fnOf name qual params body scope dV kV doc pm an cdv ct), osl⟩) (hcd : PySem.W.codeIn K cdv qual = true) (S : FnScope N ps scope)
    (len : ∀ vs H Q E, sp vs H Q E → vs.length = ps.length)
    (hbody : ∀ (A : Around) (outer : List Env) (s : Shared) (H : Hp) (vs : List V) (Q : VK) (E : XK), Room k (A.deeper (envOfC qual scope s.heap.objs.size f cdv)) → sp vs H Q E →
      ∃ t, PSs0 ((cxOf (CXE P w) P w K mg base N qual scope f cdv A outer s H E).exn E) body t ∧ t { nx := fun _ H' => Q .non H', rt := Q } (start N vs) H) :
    FnOk P w K mg base (CXE P w) (k + 1) f (PySem.W.fnOf name qual params body scope dV kV doc pm an cdv ct) ps sp := by
  refine ⟨len, fun A outer s H args us vs Q E hr e0 hb r hsp => ?_⟩
  have hl := len _ _ _ _ hsp
  have KX : K.In s.heap := e0.mod.kin.keeps fun b o e => (e0.bs b o e).1
  have lim : s.heap.NoLimit := e0.mod.nolimit.keeps fun b o e => (e0.bs b o e).1
  have hkind : ∀ y ∈ ps.zip us, scope.names.lookup y.1 = some .local ∨ (scope.names.lookup y.1 = some .cell ∧ ((cellsFrom (s.heap.objs.size + 1) scope.names []).lookup y.1).isSome = true) := fun ⟨n, v⟩ hy => by
    rcases S.par n (List.of_mem_zip hy).1 with q | q
    · exact .inl q
    · exact .inr ⟨q, PySem.W.cellsFrom_some _ _ _ (.inl q)⟩
  refine codeAny_call_function hr.depth (KX _ _ lk) rfl S.co S.gen rfl (PySem.W.codeRec_of KX hcd) (hb _ _ _ _ ?_)
  refine wpAny_newFunctionEnv_cells S.kind hkind fun env he s1 x => ?_
  subst he
  refine ⟨lim.keeps x.toInCall.keep, codeAny_func ?_⟩
  obtain ⟨t, ht, hq⟩ := hbody A outer s H vs Q E (hr.deeper _) hsp
  have I : Inv (cxOf (CXE P w) P w K mg base N qual scope f cdv A outer s H E) [] (start N vs) H s1 := inv_start S hr.hd e0 hl r x
  refine wpAny_mono (ht s1 (start N vs) H _ (I.wish _) hq) (fun fl s' hs => ?_) fun e s' hs => exitX hs
  have hs := hs.unwish
  have fin : ∀ {σ' : St} {H' : Hp} {v : V} {u : Value}, Inv (cxOf (CXE P w) P w K mg base N qual scope f cdv A outer s H E) [] σ' H' s' → RelV v u → Q v H' → CE outer P w H s Q u s' :=
    fun {σ' H' v u} J rv q => ⟨v, H', J.os, J.bare, J.base, J.hok, rv, q⟩
  cases fl with
  | ret u =>
    obtain ⟨v, σ', H', J, rv, q⟩ := hs
    exact fin J rv q
  | next =>
    obtain ⟨σ', H', J, q⟩ := hs
    exact fin (v := V.non) (u := Value.none) J rfl q
  | brk =>
    obtain ⟨_, _, _, q⟩ := hs
    exact False.elim q
  | cont =>
    obtain ⟨_, _, _, q⟩ := hs
    exact False.elim q

def fnAt (f : Addr) (fo : Obj) : HO := .ext fun h => h.get? f = some fo
def codeAt (c : Addr) (qual : Str) : HO := .ext fun h => h.CodeRec (.ref c) qual
structure Clo (P : Program) (w : World) (K : PySem.W.Frag) (mg : Str → Option Value) (base : Heap) (k : Nat) (f : Addr) (fo : Obj) (c' : Addr) (qual : Str) (sp : Hp → VK → XK → Prop) : Prop where
  fn : ∃ fd, fo.data = .func fd
  run : ∀ (A : Around) (outer : List Env) (s : Shared) (H : Hp) (Q : VK) (E : XK), Room k A → Env0 P w K mg base A outer s H → s.heap.get? f = some fo → s.heap.CodeRec (.ref c') qual → sp H Q E →
    codeAny (model P w) A (.call (.ref f) ⟨[], []⟩) (CR (CXE P w) outer P w H s Q E) s
def tCallV (P : Program) (w : World) (K : PySem.W.Frag) (mg : Str → Option Value) (base : Heap) (k i : Nat) (E : XK) : TE := fun σ H Q =>
  ∃ f fo c' qual sp E0, σ[i]? = some (some (.ref f)) ∧ Clo P w K mg base k f fo c' qual sp ∧ H f = some (fnAt f fo) ∧ H c' = some (codeAt c' qual) ∧ sp H Q E0 ∧ ∀ C d H', E0 C d H' → E C d H'
theorem pe_callV0 {X : Cx} {E : XK} {i k : Nat} {x : Str} {p pos : Pos} (hpn : X.pn = []) (fr : ∃ L, FrIs X L) (hr : Room k X.A) (hN : X.N[i]? = some x) (hv : Vis X.env.scope x) (hd : (x == ("__debug__" : Str)) = false := by decide) (hcd : (x == ("__classdict__" : Str)) = false := by decide) :
    PE (X.exn E) (.Call (.Name x p) [] [] pos) (tCallV X.prog X.w X.K X.mg X.base k i E) := by
  intro pins s σ H Q I h
  obtain ⟨f, fo, c', qual, sp, E0, hi, C, hf, hc, hsp, hE⟩ := h
  refine wpAny_Call_Name_kw (thn (pe_var (X := X.exn E) (pos := p) hN hv hd hcd pins s σ H (fun v H' => v = .ref f ∧ H' = H) I ⟨_, hi, rfl, rfl⟩) fun u s1 hq => ?_)
  obtain ⟨v, H1, I1, r, rfl, rfl⟩ := hq
  obtain rfl : u = Value.ref f := r
  obtain ⟨gf, _, _⟩ := I1.hok f _ hf
  obtain ⟨gc, _, _⟩ := I1.hok c' _ hc
  refine PySem.W.callWith_of (P := fun h => h.get? f = some fo) (first := []) (args := backTo pos (starEach [] X.env)) (keywords := []) rfl (fun h e => ?_) (PyProof.Rows.evalArgs_nil3 ⟨gf, ?_⟩)
  · obtain ⟨fd, hfd⟩ := C.fn
    obtain ⟨oc, od, dt, sl⟩ := fo
    have hfd : dt = .func fd := hfd
    subst hfd
    exact ⟨.frame, .inl rfl, (PySem.W.Looks.ld (part := none) e).andThen .now⟩
  · refine wpAny_call (codeAny_mono (C.run X.A X.stack s1 H1 Q E0 hr I1.unwish.env0 gf gc hsp) fun r s' hq => ?_)
    cases r with
    | error e =>
      obtain ⟨ea, cl, H', a1, a2, a3, a4, a5, a6, a7⟩ := hq
      exact passX hpn fr pins σ H1 s1 e s' I1 ⟨ea, cl, H', a1, a2, a3, a4, a5, a6, hE _ _ _ a7⟩
    | ok fl =>
      cases fl with
      | ret u => exact I1.after hq
      | next => exact False.elim hq
      | brk => exact False.elim hq
      | cont => exact False.elim hq

def lamCx (P : Program) (w : World) (K : PySem.W.Frag) (mg : Str → Option Value) (base : Heap) (N : List Str) (qual : Str) (scope : Scope) (f : Addr) (cd : Value) (cl : List (Str × Addr)) (A : Around) (outer : List Env) (s : Shared) (H : Hp) : Cx where
  prog := P
  w := w
  K := K
  mg := mg
  base := base
  A := A.deeper (PySem.W.envX qual scope s.heap.objs.size f cd cl)
  N := N
  s_0 := s
  H_0 := H
  env := PySem.W.envX qual scope s.heap.objs.size f cd cl
  outer := outer
  stack := PySem.W.envX qual scope s.heap.objs.size f cd cl :: outer
  ex := []
  calm := true
  fn := fun _ => false
  pn := []
  xe := fun _ _ => False
theorem frIs_lam {P : Program} {w : World} {K : PySem.W.Frag} {mg : Str → Option Value} {base : Heap} {N : List Str} {qual : Str} {scope : Scope} {f : Addr} {cd : Value} {cl : List (Str × Addr)} {A : Around} {outer : List Env} {s : Shared} {H : Hp} :
    ∃ L, FrIs (lamCx P w K mg base N qual scope f cd cl A outer s H) L := ⟨s.heap.objs.size, rfl, _, _, rfl, rfl⟩
structure LamScope (scope : Scope) : Prop where
  kind : scope.kind = .function
  co : scope.isCoroutine = false
  gen : scope.isGenerator = false
  uniq : ∀ y ∈ scope.names, scope.names.lookup y.1 = some y.2
  only : ∀ y ∈ scope.names, y.2 ≠ .local ∧ y.2 ≠ .cell
theorem clo_of {P : Program} {w : World} {K : PySem.W.Frag} {mg : Str → Option Value} {base : Heap} {k : Nat} {f c' : Addr} {name qual : Str} {params : Arguments} {body : Expr} {scope : Scope} {cl : List (Str × Addr)} {pm ct : Value} {N : List Str} {σ : St} {sp : Hp → VK → XK → Prop}
    (S : LamScope scope) (hbind : bindArgs (PySem.W.kla_fn name qual params body scope cl pm (.ref c') ct) ⟨[], []⟩ = pure [])
    (inj : ∀ x y c, cl.lookup x = some c → cl.lookup y = some c → x = y) (has : ∀ x, scope.names.lookup x = some .free → ∃ c, cl.lookup x = some c) (cb : ∀ x c, cl.lookup x = some c → ∃ v, base.IsCell c v)
    (caps : ∀ (i : Nat) (x : Str) (v : V), N[i]? = some x → σ[i]? = some (some v) → scope.names.lookup x = some .free → ∃ c u, cl.lookup x = some c ∧ RelV v u ∧ base.IsCell c (some u)) (hlen : σ.length = N.length)
    (hbody : ∀ (A : Around) (outer : List Env) (s : Shared) (H : Hp) (Q : VK) (E : XK), Room k (A.deeper (PySem.W.envX qual scope s.heap.objs.size f (.ref c') cl)) → sp H Q E →
      ∃ t, PE ((lamCx P w K mg base N qual scope f (.ref c') cl A outer s H).exn E) body t ∧ t σ H Q) :
    Clo P w K mg base (k + 1) f (PySem.W.kla_obj name qual params body scope cl pm c' ct) c' qual sp := by
  refine ⟨⟨_, rfl⟩, fun A outer s H Q E hr e0 gf gc hsp => ?_⟩
  have lim : s.heap.NoLimit := e0.mod.nolimit.keeps fun b o e => (e0.bs b o e).1
  refine PySem.W.kla_callFunE hr.depth gf rfl S.co S.gen rfl gc ?_
  rw [hbind]
  refine wpAny_pure (wpAny_newFunctionEnv (fun x hx => (S.only x hx).2) (fun y hy => absurd hy (by simp)) (fun h₁ hns hsb => ⟨lim.fresh _ hsb, ?_⟩) S.kind)
  show codeAny _ _ (.expr body (PySem.W.envX qual scope s.heap.objs.size f (.ref c') cl)) _ _
  have hk : ∀ b o, s.heap.get? b = some o → h₁.get? b = some o := fun b o e => hsb.extBut b o (Nat.ne_of_lt (Heap.lt_size e)) (Heap.get?_push_of_some _ e)
  obtain ⟨t, ht, hq⟩ := hbody A outer s H Q E (hr.deeper _) hsp
  have cellAt : ∀ {c v}, base.IsCell c v → s.heap.IsCell c v ∧ H c = none := fun {c v} ⟨o, ho, hd⟩ => ⟨⟨o, (e0.bs c o ho).1, hd⟩, (e0.bs c o ho).2⟩
  have noA : ∀ b : Addr, b ∉ ([] : List Addr) := fun b z => absurd z (by simp)
  have I : Inv (lamCx P w K mg base N qual scope f (.ref c') cl A outer s H) [] σ H { s with heap := h₁, toks := s.toks + ([] : List (Str × Value)).length } := by
    refine ⟨⟨e0.mod, S.kind, rfl, rfl, Nat.le_refl _, inj, fun y hy => ?_, (fun y c z _ => by cases z), fun _ => hr.hd, Around.frames_deeper e0.frames, .inr ⟨rfl, rfl⟩, fun b z => absurd z (noA b), e0.bs, e0.bsz, fun b _ _ => noA b, fun b z => absurd z (noA b), e0.funs, e0.frf⟩,
      rfl, e0.bare, Un.kept hk, ⟨fun _ => none, ?_, fun i y v h1 h2 h3 => ?_⟩, fun y c h => ?_, e0.hok.fresh (Nat.le_refl _), fun y c h => ?_, fun p hp => absurd (show p ∈ ([] : List (Addr × Obj)) from hp) (by simp), e0.hok.kept hk, hlen⟩
    · have hy : scope.names.lookup y = some .cell ∨ scope.names.lookup y = some .free := hy
      rcases hy with hy | hy
      · exact absurd rfl (S.only _ (PySem.mem_of_lookup hy)).2
      · exact has y hy
    · exact hns
    · have h3 : scope.names.lookup y = some .local ∨ scope.names.lookup y = some .cell ∨ scope.names.lookup y = some .free := h3
      rcases h3 with h3 | h3 | h3
      · exact absurd rfl (S.only _ (PySem.mem_of_lookup h3)).1
      · exact absurd rfl (S.only _ (PySem.mem_of_lookup h3)).2
      · obtain ⟨c, u, e1, r, z⟩ := caps i y v h1 h2 h3
        exact ⟨u, r, .inr ⟨.inr h3, c, e1, (cellAt z).1.keeps hk⟩⟩
    · obtain ⟨v, z⟩ := cb y c h
      exact ⟨v, (cellAt z).1.keeps hk⟩
    · obtain ⟨v, z⟩ := cb y c h
      exact (cellAt z).2
  refine PySem.W.kla_codeExpr (wpAny_mono (ht [] _ σ H Q (I.wish _) hq) (fun u s' hs => ?_) fun e s' hs => ?_)
  · obtain ⟨v, H', J, rv, q⟩ := hs
    have J := J.unwish
    exact ⟨v, H', J.os, J.bare, J.base, J.hok, rv, q⟩
  · unfold leaving
    refine wpAny_bind (XIn.noted (X := lamCx P w K mg base N qual scope f (.ref c') cl A outer s H) hs rfl fun s1 h1 => XIn.flown h1 fun s2 h2 => ?_)
    obtain ⟨ea, C, H', rfl, _, _, J, F, x⟩ := h2
    exact ⟨ea, C, H', rfl, J.os, J.bare, J.base, J.hok, F.mono fun b hb => hb.elim (fun z => absurd (show b ∈ ([] : List Addr) from z) (by simp)) id, x⟩

theorem clo_look {cells : List (Str × Addr)} {names : List (Str × NameKind)} {x : Str} {c : Addr} (h : (x, NameKind.free) ∈ names) (e : cells.lookup x = some c) : (cloFrom cells names []).lookup x = some c := by
  obtain ⟨c', e'⟩ := mem_lookup (cloFrom_has (cells := cells) (acc := []) h)
  rcases cloFrom_mem (PySem.mem_of_lookup e') with z | ⟨_, z⟩
  · cases z
  · rw [e] at z
    rw [e', z]; rfl
theorem clo_unlook {cells : List (Str × Addr)} {names : List (Str × NameKind)} {x : Str} {c : Addr} (hf : ∀ y ∈ names, y.2 = .free → ∃ c, cells.lookup y.1 = some c) (h : (cloFrom cells names []).lookup x = some c) : cells.lookup x = some c := by
  rcases cloFrom_mem (PySem.mem_of_lookup h) with z | ⟨h1, z⟩
  · cases z
  · obtain ⟨c1, e1⟩ := hf _ h1 rfl
    have e1 : cells.lookup x = some c1 := e1
    rw [e1] at z
    rw [e1, z]; rfl
theorem funFrames_to {h base base2 : Heap} : ∀ {l : List Env}, h.FunFrames base l → (∀ b ∈ frs l, base2.get? b = none) → h.FunFrames base2 l
  | [], _, _ => trivial
  | env :: r, ⟨hk, ⟨L, o, hf, _, ho, hd⟩, hr⟩, hn => ⟨hk, ⟨L, o, hf, hn L (by unfold frs; rw [List.filterMap_cons, hf]; exact List.mem_cons_self), ho, hd⟩, funFrames_to hr fun b hb => hn b (by unfold frs; rw [List.filterMap_cons, hf]; exact List.mem_cons_of_mem _ hb)⟩
theorem Mod.keeps {K : PySem.W.Frag} {mg : Str → Option Value} {base base2 : Heap} (m : Mod K mg base) (k : ∀ b o, base.get? b = some o → base2.get? b = some o) : Mod K mg base2 :=
  ⟨m.kin.keeps k, m.glob.keeps k, let ⟨mb, h1, h2⟩ := m.blt; ⟨mb, h1.keeps k, h2⟩, m.nolimit.keeps k⟩
def spTakes (P : Program) (w : World) (K : PySem.W.Frag) (mg : Str → Option Value) (base : Heap) (k : Nat) (ansE : VK → XK) : Sp := fun vs H Q _ =>
  ∃ f fo c' qual sp, vs = [.ref f] ∧ Clo P w K mg base k f fo c' qual sp ∧ H f = some (fnAt f fo) ∧ H c' = some (codeAt c' qual) ∧ sp H Q (ansE Q)
def tAnsw (P : Addr) (lpos : Pos) (ansE : VK → XK) (te : XK → TE) : TE := fun σ H Q => ∃ ps : Array Value, H P = some (.tbl ps) ∧ TriplesOk ps.toList ∧ codeAmong lpos ps.toList = none ∧
  ∀ H1, (∀ b o, b ≠ P → H b = some o → H1 b = some o) → te (ansE Q) σ H1 Q
theorem pe_answ {X : Cx} {k k2 : Nat} {g P c : Addr} {gd : FuncData} {x y : Str} {lps : Arguments} {lbody : Expr} {lscope : Scope} {lpos p cpos : Pos} {te : XK → TE} {ansE : VK → XK} {E : XK} (hxe : Passes (CXE X.prog X.w) X E)
    (hg : Gl X x) (hm : X.mg x = some (.ref g)) (hk : PySem.W.keepIn X.K (.ref g) = true) (hr : Room k X.A) (hb : Binds X.K gd [y] []) (hfn : ∀ z, X.fn z = true)
    (hcode : X.env.code = .ref c) (hC : PySem.W.CodeHd X.base c P) (hbm : ∃ bm ob, X.mg "__builtins__" = some (.ref bm) ∧ bm ≠ builtinsNs ∧ X.base.get? bm = some ob ∧ ob.cls = .type "module" ∧ ob.dict = some builtinsNs ∧ ob.data = .plain)
    {sc : Scope} (hsc : X.env.scope = sc) (S : LamScope lscope) (hfree : ∀ z ∈ lscope.names, z.2 = .free → sc.names.lookup z.1 = some .cell)
    (hbind : ∀ cl pm cd ct, bindArgs (PySem.W.kla_fn "<lambda>" (X.env.qual ++ "<lambda>") lps lbody lscope cl pm cd ct) ⟨[], []⟩ = pure []) (hdef : defaultsOf lps X.env = ([], []))
    (F : ∀ base2 : Heap, (∀ b o, X.base.get? b = some o → base2.get? b = some o) → Mod X.K X.mg base2 → FnOk X.prog X.w X.K X.mg base2 (CXE X.prog X.w) k g gd [y] (spTakes X.prog X.w X.K X.mg base2 (k2 + 1) ansE))
    (hte : ∀ (base2 : Heap) (A : Around) (outer : List Env) (s : Shared) (H : Hp) (f : Addr) (cd : Value) (cl : List (Str × Addr)) (E : XK), (∀ b o, X.base.get? b = some o → base2.get? b = some o) → Mod X.K X.mg base2 → Room k2 (A.deeper (PySem.W.envX (X.env.qual ++ "<lambda>") lscope s.heap.objs.size f cd cl)) →
      PE ((lamCx X.prog X.w X.K X.mg base2 X.N (X.env.qual ++ "<lambda>") lscope f cd cl A outer s H).exn E) lbody (te E))
    (hdb : (x == ("__debug__" : Str)) = false := by decide) :
    PE X (.Call (.Name x p) [.Lambda lps lbody lscope lpos] [] cpos) (tAnsw P lpos ansE te) := by
  subst hsc
  intro pins s σ H Q I h
  obtain ⟨ps, hP, ht, hnf, h⟩ := h
  refine wpAny_Call_Name_kw (ld_glob I hg hm ?_ hdb)
  refine PySem.W.callWith_K (h₀ := X.base) I.ok.mod.kin hk ?_ rfl rfl
  refine Calls.spliced_cons (PySem.W.kla_eval hdef ?_)
  have hfc : ∀ y ∈ lscope.names, y.2 = .free → ∃ c, X.env.cells.lookup y.1 = some c := fun y hy e => I.ok.has _ (.inl (hfree y hy e))
  have gP : s.heap.get? P = some (PySem.W.tabObj ps) := I.hok P _ hP
  obtain ⟨bm, ob, b1, b2, b3, b4, b5, b6⟩ := hbm
  have hgs : s.heap.Ns mainGlobals X.mg := I.mod.glob.keeps I.bk
  have nP : ∀ b o, X.base.get? b = some o → b ≠ P := fun b o e z => by
    have q := (I.bs b o e).2
    rw [z, hP] at q; cases q
  have hgP : mainGlobals ≠ P := by
    obtain ⟨o, es, ep, e, hd, _⟩ := I.mod.glob
    exact nP _ _ e
  have hbG : bm ≠ mainGlobals := fun q => by
    obtain ⟨o, es, ep, e, hd, _⟩ := I.mod.glob
    rw [q, e] at b3; cases b3; rw [hd] at b6; cases b6
  refine PySem.W.kla_makeFunction (mg := X.mg) (closure_ok hfc) I.ok.glob hgs hcode (hC.keeps I.bk) gP ht hnf hgP ⟨bm, ob, b1, b2, hbG, nP _ _ b3, I.bk _ _ b3, b4, b5, b6⟩ fun c' ctv h' tk hx hge hlt hrec htb => ?_
  generalize hcl : cloFrom X.env.cells lscope.names [] = cl
  generalize hfo : PySem.W.kla_obj "<lambda>" (X.env.qual ++ "<lambda>") lps lbody lscope cl ((X.mg "__name__").getD .none) c' ctv = fo
  have gFree : fo.isFreed = false := by rw [← hfo]; rfl
  generalize hf : h'.objs.size = f
  have fge : s.heap.objs.size ≤ f := by rw [← hf]; exact Nat.le_trans hge (Nat.le_of_lt hlt)
  have ltP : P < s.heap.objs.size := Heap.lt_size gP
  have fnc : f ≠ c' := by rw [← hf]; exact Nat.ne_of_gt hlt
  have fnP : f ≠ P := Nat.ne_of_gt (Nat.lt_of_lt_of_le ltP fge)
  have cnP : c' ≠ P := Nat.ne_of_gt (Nat.lt_of_lt_of_le ltP hge)
  have kp : ∀ b o, b ≠ P → s.heap.get? b = some o → (h'.push fo).get? b = some o := fun b o hb e => Heap.get?_push_of_some _ (hx b o hb e)
  have old : ∀ b o, s.heap.get? b = some o → b ≠ f ∧ b ≠ c' := fun b o e => ⟨Nat.ne_of_lt (Nat.lt_of_lt_of_le (Heap.lt_size e) fge), Nat.ne_of_lt (Nat.lt_of_lt_of_le (Heap.lt_size e) hge)⟩
  have oldT : ∀ b o, H b = some o → b ≠ f ∧ b ≠ c' := fun b o e => let ⟨ob', z⟩ := (I.hok b o e).there; old b ob' z
  generalize hH1 : upd (upd (upd H P (.tbl (ps ++ #[rawInt lpos.line, rawInt lpos.col, .ref c']))) c' (codeAt c' (X.env.qual ++ "<lambda>"))) f (fnAt f fo) = H1
  have H1f : H1 f = some (fnAt f fo) := by rw [← hH1]; exact upd_same
  have H1c : H1 c' = some (codeAt c' (X.env.qual ++ "<lambda>")) := by rw [← hH1, upd_ne (Ne.symm fnc)]; exact upd_same
  have H1P : H1 P = some (.tbl (ps ++ #[rawInt lpos.line, rawInt lpos.col, .ref c'])) := by rw [← hH1, upd_ne (Ne.symm fnP), upd_ne (Ne.symm cnP)]; exact upd_same
  have H1o : ∀ b, b ≠ f → b ≠ c' → b ≠ P → H1 b = H b := fun b h1 h2 h3 => by rw [← hH1, upd_ne h1, upd_ne h2, upd_ne h3]
  have gPn : (h'.push fo).get? P = some (PySem.W.tabObj (ps ++ #[rawInt lpos.line, rawInt lpos.col, .ref c'])) := Heap.get?_push_of_some _ htb
  have gf : (h'.push fo).get? f = some fo := by rw [← hf]; exact Heap.get?_push_size h' gFree
  have gc : (h'.push fo).CodeRec (.ref c') (X.env.qual ++ "<lambda>") := Heap.CodeRec.at hrec fun o e => Heap.get?_push_of_some _ e
  have un : Un X.fs [] H H1 s.heap (h'.push fo) := by
    refine ⟨fun b o q n _ _ => kp b o (fun z => by rw [z, hP] at n; cases n) q, fun b o q n _ _ => ⟨o.slots, kp b o (fun z => by rw [z, hP] at n; cases n) q⟩, fun b o q n _ => ?_, fun b o q _ => ?_, fun b xs q => ?_, fun b o u q => ?_, fun b ps' q => ?_⟩
    · rw [H1o b (old b o q).1 (old b o q).2 fun z => by rw [z, hP] at n; cases n]; exact n
    · by_cases z : b = P
      · exact ⟨_, by rw [z]; exact gPn⟩
      · exact ⟨o, kp b o z q⟩
    · rw [H1o b (oldT b _ q).1 (oldT b _ q).2 fun z => by rw [z, hP] at q; cases q]; exact q
    · rw [H1o b (oldT b _ q).1 (oldT b _ q).2 fun z => by rw [z, hP] at q; cases q]; exact q
    · by_cases z : b = P
      · subst z
        rw [hP] at q; cases q
        exact ⟨_, H1P⟩
      · exact ⟨#[], by rw [H1o b (oldT b _ q).1 (oldT b _ q).2 z, q]; simp⟩
  have hok : HOk X.prog X.w H1 (h'.push fo) := fun a o q => by
    by_cases z1 : a = f
    · subst z1
      rw [H1f] at q; cases q
      exact ⟨gf, ⟨_, gf⟩, fun h1 h2 e k => k _ e⟩
    · by_cases z2 : a = c'
      · subst z2
        rw [H1c] at q; cases q
        refine ⟨gc, ?_, fun h1 h2 e k => Heap.CodeRec.at e k⟩
        obtain ⟨c2, o, vs, t, e2, g2, _⟩ := gc
        cases e2
        exact ⟨o, g2⟩
      · by_cases z3 : a = P
        · subst z3
          rw [H1P] at q; cases q
          exact gPn
        · rw [H1o a z1 z2 z3] at q
          refine (I.hok a o q).stay (fun b u hb e => kp b u ?_ e) (fun b hb => ?_) fun b xs hb => ?_
          · rcases hb with z | z
            · rw [z]; exact z3
            · intro zz; rw [zz, hP] at z; cases z
          · rw [H1o b (oldT b _ hb).1 (oldT b _ hb).2 fun z => by rw [z, hP] at hb; cases hb]; exact hb
          · rw [H1o b (oldT b _ hb).1 (oldT b _ hb).2 fun z => by rw [z, hP] at hb; cases hb]; exact hb
  have I1 : Inv X pins σ H1 { s with heap := h'.push fo, toks := tk } := I.un (t' := tk) un hok
  generalize ({ s with heap := h'.push fo, toks := tk } : Shared) = s1 at I1
  refine Calls.spliced_nil ⟨I1.kIn, ?_⟩
  -- the base of what runs below: all that is not tracked and no frame
  have nfr : ∀ b o, X.base.get? b = some o → b ∉ frs X.stack := fun b o e hb => by
    rcases List.mem_cons.mp (I1.stkSub b hb) with z | z
    · have l := Heap.lt_size e
      rw [z] at l
      exact absurd (Nat.lt_of_lt_of_le l (Nat.le_trans I1.ok.bsz I1.ok.above)) (Nat.lt_irrefl _)
    · exact I1.ok.nofr e z
  generalize hb2 : PySem.W.hideAll (hidT s1.heap H1) (frs X.stack) = base2
  have B1 : ∀ b o, base2.get? b = some o → s1.heap.get? b = some o ∧ H1 b = none := fun b o e => by
    rw [← hb2] at e
    exact of_hidT (PySem.W.of_hideAll _ e)
  have B2 : ∀ b o, s1.heap.get? b = some o → H1 b = none → b ∉ frs X.stack → base2.get? b = some o := fun b o e n hb => by
    rw [← hb2]
    exact PySem.W.hideAll_get _ (hidT_get e n) hb
  have sub : ∀ b o, X.base.get? b = some o → base2.get? b = some o := fun b o e => B2 b o (I1.bs b o e).1 (I1.bs b o e).2 (nfr b o e)
  have e0 : Env0 X.prog X.w X.K X.mg base2 X.A X.stack s1 H1 := by
    refine ⟨I1.ok.frames, I1.mod.keeps sub, B1, ?_, funFrames_to I1.stack fun b hb => ?_, I1.stkFree, I1.hok, I1.bare⟩
    · rw [← hb2, PySem.W.hideAll_size, hidT_size]; exact Nat.le_refl _
    · rw [← hb2]; exact PySem.W.hideAll_none _ hb
  -- the cells stand in that base
  have cellB : ∀ z c v, X.env.cells.lookup z = some c → s1.heap.IsCell c v → base2.IsCell c v := fun z c v e ⟨o, ho, hd⟩ => by
    refine ⟨o, B2 c o ho (I1.freeC z c e) fun hb => ?_, hd⟩
    rcases List.mem_cons.mp (I1.stkSub c hb) with q | q
    · exact I1.cne z c e q
    · obtain ⟨_, o', ho', _⟩ := I1.ok.funs.mem q
      exact absurd (Nat.lt_of_lt_of_le (Heap.lt_size ho') (I1.ok.cab z c (hfn z) e)) (Nat.lt_irrefl _)
  have clo : Clo X.prog X.w X.K X.mg base2 (k2 + 1) f fo c' (X.env.qual ++ "<lambda>") (fun H' Q' E' => te E' σ H' Q') := by
    rw [← hfo]
    refine clo_of (N := X.N) (σ := σ) S (hbind _ _ _ _) (fun z1 z2 c h1 h2 => ?_) (fun z hz => ?_) (fun z c hz => ?_) (fun i z v h1 h2 h3 => ?_) I1.len (fun A outer s2 H2 Q2 E2 hr2 hs2 => ⟨te E2, hte base2 A outer s2 H2 f (.ref c') cl E2 sub (I1.mod.keeps sub) hr2, hs2⟩)
    · rw [← hcl] at h1 h2
      exact I1.ok.inj z1 z2 c (clo_unlook hfc h1) (clo_unlook hfc h2)
    · have hm' : (z, NameKind.free) ∈ lscope.names := PySem.mem_of_lookup hz
      obtain ⟨c, e⟩ := hfc _ hm' rfl
      exact ⟨c, by rw [← hcl]; exact clo_look hm' e⟩
    · rw [← hcl] at hz
      have e := clo_unlook hfc hz
      obtain ⟨v, q⟩ := I1.cell z c e
      exact ⟨v, cellB z c v e q⟩
    · have hm' : (z, NameKind.free) ∈ lscope.names := PySem.mem_of_lookup h3
      have hk' := hfree _ hm' rfl
      obtain ⟨m, hn, hl⟩ := I1.loc
      obtain ⟨u, r, l⟩ := hl i z v h1 h2 (.inr (.inl hk'))
      rcases l with ⟨l, _⟩ | ⟨_, c, e, q⟩
      · have l : X.env.scope.names.lookup z = some .local := l
        rw [hk'] at l; cases l
      · exact ⟨c, u, by rw [← hcl]; exact clo_look hm' e, r, cellB z c _ e q⟩
  have hsp : spTakes X.prog X.w X.K X.mg base2 (k2 + 1) ansE [.ref f] H1 Q E := ⟨f, fo, c', _, _, rfl, clo, H1f, H1c, h H1 fun b o hb e => by rw [H1o b (oldT b _ e).1 (oldT b _ e).2 hb]; exact e⟩
  have F2 := F base2 sub (I1.mod.keeps sub)
  refine wpAny_call (codeAny_mono (F2.run X.A X.stack s1 H1 ⟨[.ref f], []⟩ [.ref f] [.ref f] Q E hr e0 (hb s1 [.ref f] I1.kIn rfl) (.cons rfl .nil) hsp) fun r s' hq => ?_)
  cases r with
  | error e => exact hxe pins σ H1 s1 e s' I1 hq
  | ok fl =>
    cases fl with
    | ret u => exact I1.after hq
    | next => exact False.elim hq
    | brk => exact False.elim hq
    | cont => exact False.elim hq
theorem Fun.ok0 {P : Program} {w : World} {K : PySem.W.Frag} {mg : Str → Option Value} {base : Heap} {x qual : Str} {st : Stmt} {f : Addr} {fd : FuncData} {N ps : List Str} {k : Nat} {sp : Sp} (F : Fun K x qual st f fd) (S : FnScope N ps (defScope st)) (len : ∀ vs H Q E, sp vs H Q E → vs.length = ps.length)
    (hbody : ∀ (cdv : Value) (A : Around) (outer : List Env) (s : Shared) (H : Hp) (vs : List V) (Q : VK) (E : XK), Room k (A.deeper (envOfC qual (defScope st) s.heap.objs.size f cdv)) → sp vs H Q E →
      ∃ t, PSs0 ((cxOf (CXE P w) P w K mg base N qual (defScope st) f cdv A outer s H E).exn E) (defBody st) t ∧ t { nx := fun _ H' => Q .non H', rt := Q } (start N vs) H) : FnOk P w K mg base (CXE P w) (k + 1) f fd ps sp := by
  obtain ⟨oc, od, kV, doc, pm, an, cdv, ct, osl, rfl, lk, hcd⟩ := F.ex
  exact fn_of0 lk hcd S len fun A outer s H vs Q E hr hsp => hbody cdv A outer s H vs Q E hr hsp
end L2

set_option linter.all false
set_option maxRecDepth 100000
namespace L2
open PySem PySem.Spec PyProof.Rows

inductive AD where
  | int (z : Int)
  | lst (l : List Int)
def AD.w : AD → PySem.W.WData
  | .int z => .int z
  | .lst l => .list (l.map .int)
def RelA (K : PySem.W.Frag) (H : Hp) : AD → V → Prop
  | .int z, v => v = .int z
  | .lst l, v => ∃ a, v = .ref a ∧ SqL K H a (l.map V.int)
def absL (o : Obj) : List V := match o.data with
  | .seq its _ => its.toList.map fun v => (absV v).getD .non
  | _ => []
theorem absL_ints {vs : List Value} {l : List Int} (h : IntsAre vs l) : (vs.map fun v => (absV v).getD V.non) = l.map V.int := by
  induction h with
  | nil => rfl
  | cons n t _ ih => rw [List.map_cons, List.map_cons, ih]; rfl
def refsOf (vals : List Value) : List Addr := vals.filterMap fun v => match v with | .ref a => some a | _ => none
def argH (K : PySem.W.Frag) (h : Heap) (P : Addr) (as : List Addr) : Hp := fun b => if b = P then some (.tbl #[]) else if b ∈ as ∧ K.lookup b = none then (h.get? b).map (fun o => .frz o (.lst (absL o))) else none
def LiesAt (h : Heap) (a : Addr) (l : List Int) : Prop := ∃ vs, h.get? a = some { cls := .type "list", data := .seq vs.toArray } ∧ IntsAre vs l
theorem shapes {Pm : Params} {h : Heap} : ∀ {ds : List AD} {vals : List Value}, PySem.W.WellAll Pm h vals (ds.map AD.w) → ∀ a ∈ refsOf vals, ∃ l, AD.lst l ∈ ds ∧ LiesAt h a l
  | [], vals, w, a, ha => by
    rw [List.map_nil] at w
    cases w
    exact absurd ha (by simp [refsOf])
  | d :: ds, vals, w, a, ha => by
    rw [List.map_cons] at w
    cases w with
    | @cons v vs _ _ w1 w2 =>
      have go : a ∈ refsOf vs → ∃ l, AD.lst l ∈ d :: ds ∧ LiesAt h a l := fun z =>
        let ⟨l, h1, h2⟩ := shapes w2 a z
        ⟨l, List.mem_cons_of_mem _ h1, h2⟩
      cases d with
      | int z =>
        cases w1
        exact go (by simpa [refsOf] using ha)
      | lst l =>
        have w1 : PySem.W.Well Pm h v (.list (l.map .int)) := w1
        cases w1 with
        | list ho hall =>
          rename_i a' vs'
          have ha' : a = a' ∨ a ∈ refsOf vs := by simpa [refsOf] using ha
          rcases ha' with z | z
          · subst z
            exact ⟨l, List.mem_cons_self, vs', ho, Att.ints_of_wellAll l vs' hall⟩
          · exact go z
theorem relAs {K : PySem.W.Frag} {Pm : Params} {h : Heap} {H : Hp} {as : List Addr} (hS : ∀ a l, LiesAt h a l → a ∈ as → l.length ≤ sizeLine → SqL K H a (l.map V.int)) :
    ∀ {ds : List AD} {vals : List Value}, PySem.W.WellAll Pm h vals (ds.map AD.w) → (∀ a ∈ refsOf vals, a ∈ as) → (∀ l, AD.lst l ∈ ds → l.length ≤ sizeLine) → ∃ vs, Vals vs vals ∧ Paired (RelA K H) ds vs
  | [], vals, w, _, _ => by
    rw [List.map_nil] at w
    cases w
    exact ⟨[], .nil, .nil⟩
  | d :: ds, vals, w, hin, hl => by
    rw [List.map_cons] at w
    cases w with
    | @cons v vs _ _ w1 w2 =>
      have sub : ∀ a ∈ refsOf vs, a ∈ as := fun a ha => hin a (by
        unfold refsOf at ha ⊢
        rw [List.filterMap_cons]
        split
        · exact ha
        · exact List.mem_cons_of_mem _ ha)
      obtain ⟨us, r, p⟩ := relAs hS w2 sub fun l hm => hl l (List.mem_cons_of_mem _ hm)
      cases d with
      | int z =>
        have w1 : PySem.W.Well Pm h v (.int z) := w1
        cases w1 with
        | int _ t => exact ⟨.int z :: us, .cons ⟨t, rfl⟩ r, .cons rfl p⟩
      | lst l =>
        have w1 : PySem.W.Well Pm h v (.list (l.map .int)) := w1
        cases w1 with
        | list ho hall =>
          rename_i a' vs'
          refine ⟨.ref a' :: us, .cons rfl r, .cons ⟨a', rfl, hS a' l ⟨vs', ho, Att.ints_of_wellAll l vs' hall⟩ (hin a' (by simp [refsOf])) (hl l List.mem_cons_self)⟩ p⟩
theorem reads_ints {cl : Str → Option Addr} {h : Heap} : ∀ {vs : List Value} {l : List Int}, IntsAre vs l → PySem.W.ReadsAllW [] cl h vs (l.map .int) []
  | _, _, .nil => .nil
  | _, _, .cons n t r => PySem.W.ReadsAllW.cons (as := []) (bs := []) (.int n t) (reads_ints r)
theorem spec_call {P : Program} {w : World} {K : PySem.W.Frag} {mg mb : Str → Option Value} {k : Nat} {fa c Pt : Addr} {fd : FuncData} {ps : List Str} {sp : Sp} {s₁ : Shared} {vals : List Value} {ds : List AD} {res : List Int} {cl : Str → Option Addr}
    (KX : K.In s₁.heap) (hKt : K.lookup Pt = none) (hns : s₁.heap.Ns mainGlobals mg) (hb : s₁.heap.Ns builtinsNs mb) (hbb : ∀ x : Str, x ≠ "__name__" → mb x = bootBuiltins x) (hlim : s₁.heap.NoLimit) (hg : s₁.gens = #[])
    (hC : PySem.W.CodeHd s₁.heap c Pt) (hPt : s₁.heap.get? Pt = some (PySem.W.tabObj #[])) (hwl : PySem.W.WellAll w.params s₁.heap vals (ds.map AD.w)) (hl : ∀ l, AD.lst l ∈ ds → l.length ≤ sizeLine) (hr : Room k callerA)
    (F : ∀ base : Heap, (∀ b o, s₁.heap.get? b = some o → b ≠ Pt → (∀ its n, o.data ≠ .seq its n) → base.get? b = some o) → Mod K mg base → FnOk P w K mg base (CXE P w) k fa fd ps sp) (hbind : Binds K fd ps []) (hlen : ds.length = ps.length)
    (hsp : ∀ (H : Hp) (vs : List V), H Pt = some (.tbl #[]) → Paired (RelA K H) ds vs → sp vs H (fun v H' => ∃ a, v = .ref a ∧ H' a = some (.lst (res.map V.int))) fun _ _ _ => False) :
    codeAny (model P w) callerA (.call (.ref fa) ⟨vals, []⟩) (fun r s' => ∃ a as, r = .ok (.ret (.ref a)) ∧ PySem.W.ReadsW [] cl s'.heap (.ref a) (.list (res.map .int)) as ∧ OldK s₁.heap s'.heap ∧ s'.os = s₁.os ∧ AllBare s'.gens) s₁ := by
  have shp := shapes hwl
  generalize hH : argH K s₁.heap Pt (refsOf vals) = H
  have HP : H Pt = some (.tbl #[]) := by rw [← hH]; exact if_pos rfl
  have Hcases : ∀ b o, H b = some o → (b = Pt ∧ o = .tbl #[]) ∨ (b ≠ Pt ∧ K.lookup b = none ∧ ∃ l vs, l.length ≤ sizeLine ∧ s₁.heap.get? b = some { cls := .type "list", data := .seq vs.toArray } ∧ IntsAre vs l ∧ o = .frz { cls := .type "list", data := .seq vs.toArray } (.lst (l.map V.int))) := fun b o e => by
    rw [← hH] at e
    unfold argH at e
    by_cases z : b = Pt
    · rw [if_pos z] at e; cases e
      exact .inl ⟨z, rfl⟩
    · rw [if_neg z] at e
      by_cases y : b ∈ refsOf vals ∧ K.lookup b = none
      · rw [if_pos y] at e
        obtain ⟨l, hm, vs, ho, hi⟩ := shp b y.1
        rw [ho] at e
        have e' : HO.frz { cls := .type "list", data := .seq vs.toArray } (.lst (absL { cls := .type "list", data := .seq vs.toArray })) = o := Option.some.inj e
        refine .inr ⟨z, y.2, l, vs, hl l hm, ho, hi, ?_⟩
        rw [← e']
        congr 2
        show (vs.toArray.toList.map _) = _
        rw [List.toList_toArray]
        exact absL_ints hi
      · rw [if_neg y] at e; cases e
  have hok : HOk P w H s₁.heap := fun b o e => by
    rcases Hcases b o e with ⟨z, rfl⟩ | ⟨_, _, l, vs, hz, ho, hi, rfl⟩
    · rw [z]; exact hPt
    · exact ⟨ho, by rw [List.length_map]; exact hz, vs, 0, vals_ints hi, ho⟩
  have hS : ∀ a l, LiesAt s₁.heap a l → a ∈ refsOf vals → l.length ≤ sizeLine → SqL K H a (l.map V.int) := fun a l ⟨vs, ho, hi⟩ ha hz => by
    have rv := vals_ints hi
    cases hk : K.lookup a with
    | some o =>
      have e := KX a o hk
      rw [ho] at e
      cases e
      exact .inr ⟨_, vs.toArray, _, hk, rfl, rfl, rfl, by rw [List.size_toArray, ← rv.length, List.length_map]; exact hz, by simpa using rv⟩
    | none =>
      have nP : a ≠ Pt := fun z => by rw [z, hPt] at ho; cases ho
      refine .inl (.inr ⟨{ cls := .type "list", data := .seq vs.toArray }, ?_⟩)
      rw [← hH]
      unfold argH
      rw [if_neg nP, if_pos ⟨ha, hk⟩, ho]
      show some (HO.frz _ (.lst (absL _))) = _
      congr 3
      show (vs.toArray.toList.map _) = _
      rw [List.toList_toArray]
      exact absL_ints hi
  obtain ⟨vs, rv, ra⟩ := relAs hS hwl (fun a ha => ha) hl
  have none_of : ∀ b o, s₁.heap.get? b = some o → b ≠ Pt → (∀ its n, o.data ≠ .seq its n) → H b = none := fun b o e nb nd => by
    cases q : H b with
    | none => rfl
    | some u =>
      rcases Hcases b u q with ⟨z, _⟩ | ⟨_, _, l, vs, _, ho, _⟩
      · exact absurd z nb
      · rw [e] at ho; cases ho
        exact absurd rfl (nd _ _)
  have noK : ∀ b o, K.lookup b = some o → H b = none := fun b o e => by
    cases q : H b with
    | none => rfl
    | some u =>
      rcases Hcases b u q with ⟨z, _⟩ | ⟨_, hk, _⟩
      · rw [z, hKt] at e; cases e
      · rw [hk] at e; cases e
  have nsK : ∀ {b : Addr} {m : Str → Option Value}, s₁.heap.Ns b m → (hidT s₁.heap H).Ns b m := fun {b m} ⟨o, es, ep, e, d, r⟩ => ⟨o, es, ep, hidT_get e (none_of b o e (fun z => by rw [z, hPt] at e; cases e; cases d) fun its n q => by rw [d] at q; cases q), d, r⟩
  have hKb : K.In (hidT s₁.heap H) := fun b o e => hidT_get (KX b o e) (noK b o e)
  have hM : Mod K mg (hidT s₁.heap H) := ⟨hKb, nsK hns, ⟨mb, nsK hb, hbb⟩, let ⟨mc, h1, h2⟩ := hlim; ⟨mc, nsK h1, h2⟩⟩
  have e0 : Env0 P w K mg (hidT s₁.heap H) callerA [] s₁ H := ⟨rfl, hM, fun b o e => of_hidT e, Nat.le_of_eq (hidT_size _ _), trivial, fun b hb => absurd (show b ∈ ([] : List Addr) from hb) (by simp), hok, .of_eq hg⟩
  have lenV : vals.length = ps.length := by
    rw [← hlen, ra.length]
    exact rv.length.symm
  have hbd := hbind s₁ vals KX (by rw [List.append_nil]; exact lenV)
  rw [List.append_nil] at hbd
  refine codeAny_mono ((F _ (fun b o e nb nd => hidT_get e (none_of b o e nb nd)) hM).run callerA [] s₁ H ⟨vals, []⟩ vals vs _ _ hr e0 hbd rv (hsp H vs HP ra)) fun r s' h => ?_
  cases r with
  | error e =>
    obtain ⟨_, _, _, _, _, _, _, _, _, z⟩ := h
    exact z.elim
  | ok fl =>
    cases fl with
    | next => exact False.elim h
    | brk => exact False.elim h
    | cont => exact False.elim h
    | ret u =>
      obtain ⟨v, H', os, bare, un, hok', r', a, rfl, ha⟩ := h
      obtain rfl : u = Value.ref a := r'
      obtain ⟨_, its, n, ri, go⟩ := hok' a _ ha
      have hi := ri.ints
      have noF : ∀ b : Addr, b ∉ frs ([] : List Env) := fun b z => absurd (show b ∈ ([] : List Addr) from z) (by simp)
      refine ⟨a, _, rfl, .list go rfl rfl (by rw [List.toList_toArray]; exact reads_ints hi), ⟨fun b o e => ?_, fun b o e => un.there b o e (by simp)⟩, os, bare⟩
      cases q : H b with
      | none => exact .inl (un.keep b o e q (noF b) (by simp))
      | some u =>
        rcases Hcases b u q with ⟨z, rfl⟩ | ⟨_, _, l, vs, _, ho, _, rfl⟩
        · subst z
          rw [hPt] at e; cases e
          obtain ⟨more, q2⟩ := un.tbls b _ q
          have g2 : s'.heap.get? b = some { cls := .none, data := .fields (#[] ++ more) } := hok' b _ q2
          obtain ⟨oc, ovs, _, _, _, _, _, _, _, c1, c2, c3, c4, _⟩ := hC
          exact .inr (.inl ⟨⟨c, oc, ovs, c1, c2, c3, c4⟩, rfl, #[], more, rfl, g2⟩)
        · have z2 := un.frzs b _ _ q
          obtain ⟨e2, _⟩ := hok' b _ z2
          rw [ho] at e; cases e
          exact .inl e2
end L2

set_option linter.all false
set_option maxRecDepth 100000
namespace L2
open PySem PySem.Spec PyProof.Rows

def Has (P : Program) (w : World) (K : PySem.W.Frag) (mg : Str → Option Value) (base : Heap) (k : Nat) (x : Str) (ps : List Str) (sp : Sp) : Prop :=
  ∃ f fd, FnOk P w K mg base (CXE P w) k f fd ps sp ∧ Binds K fd ps [] ∧ PySem.W.keepIn K (.ref f) = true ∧ mg x = some (.ref f)
theorem Has.mono {P : Program} {w : World} {K : PySem.W.Frag} {mg : Str → Option Value} {base : Heap} {j k : Nat} {x : Str} {ps : List Str} {sp : Sp} (h : Has P w K mg base j x ps sp) (hjk : j ≤ k) : Has P w K mg base k x ps sp :=
  let ⟨f, fd, F, r⟩ := h; ⟨f, fd, F.mono hjk, r⟩
theorem Has.imp {P : Program} {w : World} {K : PySem.W.Frag} {mg : Str → Option Value} {base : Heap} {k : Nat} {x : Str} {ps : List Str} {sp sp' : Sp} (h : Has P w K mg base k x ps sp) (i : ∀ vs H Q E, sp' vs H Q E → sp vs H Q E) : Has P w K mg base k x ps sp' :=
  let ⟨f, fd, F, r⟩ := h; ⟨f, fd, F.imp i, r⟩
theorem pe_callH {X : Cx} {E : XK} {k : Nat} {x : Str} {ps : List Str} {sp : Sp} {p pos : Pos} {e : Expr} {es : List Expr} {t : TA} (h : Has X.prog X.w X.K X.mg X.base k x ps sp) (hr : Room k X.A) (hx : Passes (CXE X.prog X.w) X E) (ha : PA X (e :: es) t)
    (hg : Gl X x := by rfl) (hdb : (x == ("__debug__" : Str)) = false := by decide) (he : starEach (e :: es) X.env = (false, eval e X.env) :: starEach es X.env := by rfl) (hpl : (backTo pos (starEach es X.env)).any (·.1) = false := by rfl) :
    PE X (.Call (.Name x p) (e :: es) [] pos) (tCall sp [] E t) := by
  obtain ⟨f, fd, F, hb, hk, hm⟩ := h
  exact pe_call F hr hg hm hk hb .nil hx ha hdb he hpl
theorem FrIs.blk {X : Cx} {L : Addr} (fr : FrIs X L) {s : Shared} {H : Hp} {scope : Scope} {cl : List (Str × Addr)} {C : Addr} {fp : List Addr} : FrIs (X.blk s H scope (compEnvC scope cl C X.env) fp) L := ⟨fr.1, fr.2⟩

def B20 (i : Int) : Prop := Builtin.Int.intBits i ≤ 1048576
theorem b20_of {i : Int} {k : Nat} (h : i.natAbs < 2 ^ k) (hk : k ≤ 1048576) : B20 i := by
  unfold B20 Builtin.Int.intBits
  by_cases c : i = 0
  · subst c; simp
  · have c' : (i == 0) = false := by simpa using c
    rw [c', if_neg (by decide)]
    have : i.natAbs.log2 < k := (Nat.log2_lt (by omega)).mpr h
    omega
section
variable {X : Cx}
theorem op_mulB : OpR X (binaryOp .Mult) (rI (fun i j => B20 i ∧ B20 j) fun i j => .int (i * j)) := opI fun _ _ _ _ _ _ _ hc q => mul_int q (IntMulOk.of_bits hc.1 hc.2)
theorem op_shlB : OpR X (binaryOp .LShift) (rI (fun i j => 0 ≤ j ∧ j ≤ 1048576 ∧ B20 i) fun i j => .int (i * 2 ^ j.toNat)) := opI fun i j _ _ _ _ _ hc q => lshift_int hc.1 (by
  have h := hc.2.2
  unfold B20 at h
  have h1 := hc.2.1
  have e : (2 : Int) ^ 27 = 134217728 := by decide
  rw [e]
  omega) q
end

theorem Same.new {H : Hp} {p : Addr} (h : H p = none) (o : HO) : Same H (upd H p o) := fun b u q => by rw [upd_ne (ne_of_none q h)]; exact q
theorem Same.upd_new {H H' : Hp} {p : Addr} {o : HO} (g : Same H H') (h : H p = none) : Same H (upd H' p o) := fun b u q => by rw [upd_ne (ne_of_none q h)]; exact g b u q
theorem Same.seqT {K : PySem.W.Frag} {H H' : Hp} {a : Addr} {xs : List V} (e : Same H H') (h : SqT K H a xs) : SqT K H' a xs := by
  rcases h with (h | ⟨o, h⟩) | h
  · exact .inl (.inl (e _ _ h))
  · exact .inl (.inr ⟨o, e _ _ h⟩)
  · exact .inr h
abbrev LI (K : PySem.W.Frag) (H : Hp) (v : V) (l : List Int) : Prop := ∃ a, v = .ref a ∧ SqL K H a (l.map V.int)
theorem LI.same {K : PySem.W.Frag} {H H' : Hp} {v : V} {l : List Int} (g : Same H H') (h : LI K H v l) : LI K H' v l := let ⟨a, e, q⟩ := h; ⟨a, e, g.seq q⟩
theorem LI.of {K : PySem.W.Frag} {H : Hp} {a : Addr} {l : List Int} (h : H a = some (.lst (l.map V.int))) : LI K H (.ref a) l := ⟨a, rfl, SqL.of h⟩
abbrev LLI (K : PySem.W.Frag) (H : Hp) (v : V) (l : List (List Int)) : Prop := ∃ a xs, v = .ref a ∧ SqL K H a xs ∧ Paired (LI K H) xs l
theorem Paired.sameLI {K : PySem.W.Frag} {H H' : Hp} {xs : List V} {l : List (List Int)} (g : Same H H') (h : Paired (LI K H) xs l) : Paired (LI K H') xs l := Paired.imp' (fun _ _ z => LI.same g z) h
theorem LLI.same {K : PySem.W.Frag} {H H' : Hp} {v : V} {l : List (List Int)} (g : Same H H') (h : LLI K H v l) : LLI K H' v l := let ⟨a, xs, e, q, p⟩ := h; ⟨a, xs, e, g.seq q, Paired.sameLI g p⟩

theorem for_enum {K : PySem.W.Frag} {a : Addr} {xs : List V} {g : TG} {tb : TS} {D : Ends} {σ : St} {H : Hp} (Pv : Nat → St → Hp → Prop) (h0 : Pv 0 σ H) (hl : ∀ i σ H, i ≤ xs.length → Pv i σ H → SqL K H a xs)
    (hs : ∀ i x T σ H, xs[i]? = some x → Pv i σ H → H T = none → g (.ref T) σ (upd H T (.tup [.int (i : Nat), x])) fun σ2 H2 => tb { D with nx := Pv (i + 1), ct := Pv (i + 1), bk := D.nx } σ2 H2) (hd : ∀ σ H, Pv xs.length σ H → D.nx σ H) :
    ∃ W : Nat → Nat → St → Hp → Prop, (∃ m, W 0 m σ H) ∧ ∀ i m σ H, W i m σ H →
      ((Ite K a).stop i H ∧ D.nx σ H) ∨ ((Ite K a).go i H ∧ ∃ N : St → Hp → Prop, (∀ σ' H', N σ' H' → ∃ m', m' < m ∧ W (i + 1) m' σ' H') ∧ ∀ x H', (Ite K a).yld i H x H' → g x σ H' fun σ2 H2 => tb { D with nx := N, ct := N, bk := D.nx } σ2 H2) := by
  refine ⟨fun i m σ H => m = xs.length - i ∧ i ≤ xs.length ∧ Pv i σ H, ⟨xs.length, by simp, Nat.zero_le _, h0⟩, ?_⟩
  rintro i m σ H ⟨rfl, hi, p⟩
  have q := hl i σ H hi p
  by_cases hlt : i < xs.length
  · refine .inr ⟨⟨xs, xs[i], q, by simp [hlt]⟩, Pv (i + 1), fun σ' H' p' => ⟨xs.length - (i + 1), by omega, rfl, hlt, p'⟩, fun x H' y => ?_⟩
    obtain ⟨T, x', rfl, hT, rfl, y⟩ := y
    exact hs i x' T σ _ (y xs q) p hT
  · have e : i = xs.length := by omega
    subst e
    exact .inl ⟨⟨xs, q, Nat.le_refl _⟩, hd σ H p⟩
def SameX (D : Addr) (H H' : Hp) : Prop := ∀ b o, b ≠ D → H b = some o → H' b = some o
theorem Same.x {D : Addr} {H H' : Hp} (g : Same H H') : SameX D H H' := fun b o _ e => g b o e
theorem SameX.upd {D : Addr} {H H' : Hp} {o : HO} (g : SameX D H H') : SameX D H (upd H' D o) := fun b u hb e => by rw [upd_ne hb]; exact g b u hb e
theorem SameX.trans {D : Addr} {H H1 H2 : Hp} (a : SameX D H H1) (b : SameX D H1 H2) : SameX D H H2 := fun c o hc e => b c o hc (a c o hc e)
theorem lc_any {J : It} {n : Nat} {g : TG} {te : TE} {vs : List Nat} {σ : St} {H1 : Hp} {D : Addr} {Qd : Hp → Prop} (R : Nat → Hp → V → Prop) (hR : ∀ i H H' v, SameX D H H' → R i H v → R i H' v) (hD : H1 D = none) (hz : n ≤ sizeLine)
    (hst : ∀ H, Same H1 H → J.stop n H) (hgo : ∀ i H, i < n → Same H1 H → J.go i H)
    (hs : ∀ i x H H' (Q : VK), i < n → Same H1 H → H D ≠ none → J.yld i H x H' → (∀ v H'', Same H H'' → R i H'' v → Q v H'') → g x (wipe σ vs) H' fun σ2 H2 => wipe σ2 vs = wipe σ vs ∧ te σ2 H2 Q)
    (hd : ∀ H ys, Same H1 H → H D = some (.lst ys) → ys.length = n → (∀ (i : Nat) (v : V), ys[i]? = some v → R i H v) → Qd H) :
    ∃ W : Nat → Nat → Hp → Prop, (∃ m, W 0 m (upd H1 D (.lst []))) ∧ ∀ i m H, W i m H →
      (J.stop i H ∧ Qd H) ∨ (J.go i H ∧ ∃ Nx : Hp → Prop, (∀ H', Nx H' → ∃ m', m' < m ∧ W (i + 1) m' H') ∧ ∀ x H', J.yld i H x H' → g x (wipe σ vs) H' fun σ2 H2 => wipe σ2 vs = wipe σ vs ∧ tYes σ2 H2 fun b H3 =>
        if b = true then te σ2 H3 fun y H4 => ∃ acc, H4 D = some (.lst acc) ∧ acc.length < sizeLine ∧ Nx (upd H4 D (.lst (acc ++ [y]))) else Nx H3) := by
  let Pv : Nat → Hp → Prop := fun i H => Same H1 H ∧ ∃ ys, H D = some (.lst ys) ∧ ys.length = i ∧ ∀ j v, ys[j]? = some v → R j H v
  refine ⟨fun i m H => m = n - i ∧ i ≤ n ∧ Pv i H, ⟨n, by simp, Nat.zero_le _, Same.upd_new (Same.refl _) hD, [], upd_same, rfl, fun j v e => by simp at e⟩, ?_⟩
  rintro i m H ⟨rfl, hi, g1, ys, eD, ely, er⟩
  by_cases hlt : i < n
  · refine .inr ⟨hgo i H hlt g1, Pv (i + 1), fun H' p' => ⟨n - (i + 1), by omega, rfl, hlt, p'⟩, fun x H' y => ?_⟩
    refine hs i x H H' _ hlt g1 (by rw [eD]; simp) y fun v H'' g2 r => ?_
    refine ⟨ys, g2 _ _ eD, by omega, (g1.trans g2).upd_new hD, ys ++ [v], upd_same, by rw [List.length_append, ely]; rfl, fun j u eu => ?_⟩
    by_cases hj : j < ys.length
    · rw [List.getElem?_append_left hj] at eu
      exact hR j H _ u (SameX.upd g2.x) (er j u eu)
    · have ej : j = ys.length := by
        have := (List.getElem?_eq_some_iff.mp eu).1
        rw [List.length_append, List.length_singleton] at this
        omega
      subst ej
      rw [List.getElem?_append_right (Nat.le_refl _), Nat.sub_self] at eu
      cases eu
      rw [ely]
      exact hR i H'' _ _ (SameX.upd (fun b o _ e => e)) r
  · have e : i = n := by omega
    subst e
    exact .inl ⟨hst H g1, hd H ys g1 eD ely er⟩
theorem ints_of {ys : List V} {l : List Int} (hl : ys.length = l.length) (h : ∀ (i : Nat) (v : V), ys[i]? = some v → ∃ z : Int, l[i]? = some z ∧ v = .int z) : ys = l.map V.int := by
  refine List.ext_getElem? fun i => ?_
  rw [List.getElem?_map]
  cases e : ys[i]? with
  | none =>
    have : l[i]? = none := List.getElem?_eq_none_iff.mpr (by have := List.getElem?_eq_none_iff.mp e; omega)
    rw [this]; rfl
  | some v =>
    obtain ⟨z, e1, rfl⟩ := h i v e
    rw [e1]; rfl
theorem paired_of {α : Type} {R : V → α → Prop} : ∀ {ys : List V} {l : List α}, ys.length = l.length → (∀ (i : Nat) (v : V), ys[i]? = some v → ∃ z, l[i]? = some z ∧ R v z) → Paired R ys l
  | [], [], _, _ => .nil
  | [], _ :: _, h, _ => by cases h
  | _ :: _, [], h, _ => by cases h
  | y :: ys, z :: l, h, k => by
    obtain ⟨z', e, r⟩ := k 0 y rfl
    cases e
    exact .cons r (paired_of (Nat.succ.inj h) fun i v e => k (i + 1) v e)
theorem pgI {X : Cx} {x : Str} {i : Int} {t : Tok} {pos : Pos} (hm : X.mg x = some (.int i t)) (hg : Gl X x := by rfl) (hd : (x == ("__debug__" : Str)) = false := by decide) : PE X (.Name x pos) (tC (.int i)) := pe_glob hg hm ⟨_, rfl⟩ hd
section
variable {C : Int → Int → Prop} {g : Int → Int → V} {u : Int → V} {a b : Int} {H : Hp} {Q : VK}
theorem rI_int : rI C g (.int a) (.int b) H Q = (C a b ∧ Q (g a b) H) := propext ⟨fun ⟨i, j, e1, e2, c, q⟩ => by cases e1; cases e2; exact ⟨c, q⟩, fun ⟨c, q⟩ => ⟨a, b, rfl, rfl, c, q⟩⟩
theorem rI0_int : rI0 g (.int a) (.int b) H Q = Q (g a b) H := propext ⟨fun ⟨i, j, e1, e2, q⟩ => by cases e1; cases e2; exact q, fun q => ⟨a, b, rfl, rfl, q⟩⟩
theorem rU_int : rU u (.int a) H Q = Q (u a) H := propext ⟨fun ⟨i, e1, q⟩ => by cases e1; exact q, fun q => ⟨a, rfl, q⟩⟩
theorem rEq_int : rEq (.int a) (.int b) H Q = Q (.bl (decide (a = b))) H := by
  unfold rEq scal
  simp only [V.int.injEq, true_and]
theorem rNe_int : rNe (.int a) (.int b) H Q = Q (.bl (!decide (a = b))) H := by
  unfold rNe scal
  simp only [V.int.injEq, true_and]
end
theorem XIn.unwish {X : Cx} {E : XK} {tb : Bool} {e : Value} {s' : Shared} {E' : Value → Shared → Prop} (h : XIn (X.wish E') E tb e s') : XIn X E tb e s' :=
  let ⟨ea, C, H', a, b, c, d, f, g⟩ := h; ⟨ea, C, H', a, b, c, d.unwish, f, g⟩
theorem pe_lcE {X : Cx} {E : XK} {L : Addr} {elt tg iter : Expr} {scope : Scope} {own : List (Str × Nat)} {pos : Pos} {wi : TI} {g : TG} {te : TE} (hc : X.calm = true) (hpn : X.pn = []) (fr : FrIs X L) (hN : X.N.Nodup) (hi : PI (X.exn E) tg iter wi) (ok : BlkOk X.N X.env.scope scope own)
    (hg : ∀ (s : Shared) (H : Hp) (C : Addr) (cl : List (Str × Addr)) (fp : List Addr), PG ((X.exn E).blk s H scope (compEnvC scope cl C X.env) fp) tg g)
    (he : ∀ (s : Shared) (H : Hp) (C : Addr) (cl : List (Str × Addr)) (fp : List Addr), PE (((X.exn E).blk s H scope (compEnvC scope cl C X.env) fp).exn E) elt te) (hs : ∀ x, foldedSetIterable iter X.env x = pure x := by intro _; rfl) :
    PE (X.exn E) (.ListComp elt [⟨tg, iter, [], 0⟩] scope pos) (tLc wi g tYes te (own.map (·.2))) :=
  pe_lcX (X := X.exn E) hc hpn ⟨fr.1, fr.2⟩ (fun _ _ h => h.any.unwish) hN hi ok hg (fun _ _ _ _ _ => pts_nil) he hs
theorem cxOf_K {CX : CXT} {P : Program} {w : World} {K : PySem.W.Frag} {mg : Str → Option Value} {base : Heap} {N : List Str} {qual : Str} {scope : Scope} {f : Addr} {cd : Value} {A : Around} {outer : List Env} {s : Shared} {H : Hp} {E : XK} :
    (cxOf CX P w K mg base N qual scope f cd A outer s H E).K = K := rfl
theorem lamCx_K {P : Program} {w : World} {K : PySem.W.Frag} {mg : Str → Option Value} {base : Heap} {N : List Str} {qual : Str} {scope : Scope} {f : Addr} {cd : Value} {cl : List (Str × Addr)} {A : Around} {outer : List Env} {s : Shared} {H : Hp} :
    (lamCx P w K mg base N qual scope f cd cl A outer s H).K = K := rfl
theorem pg_two {X : Cx} (K : PySem.W.Frag) (i j : Nat) {x y : Str} {p1 p2 pos : Pos} {k : Nat} (hc : X.calm = true) (hN : X.N.Nodup) (hK : X.K = K := by rfl) (hi : X.N[i]? = some x := by rfl) (hj : X.N[j]? = some y := by rfl) (hx : Loc X.env.scope x := by first | exact Or.inl rfl | exact Or.inr rfl) (hy : Loc X.env.scope y := by first | exact Or.inl rfl | exact Or.inr rfl)
    (hf : X.fn x = true ∨ X.env.scope.names.lookup x = some .local := by first | exact .inl rfl | exact .inr rfl) (hg : X.fn y = true ∨ X.env.scope.names.lookup y = some .local := by first | exact .inl rfl | exact .inr rfl) :
    PG X (.Tuple [.Name x p1, .Name y p2] k pos) (gTup K 2 (gCons (gName i) (gCons (gName j) gNil))) := by
  subst hK
  exact pg_tup hc (pgs_cons (pg_name hN hi hx hf) (pgs_cons (pg_name hN hj hy hg) pgs_nil))
section
variable {X : Cx} (K : PySem.W.Frag)
theorem ixL (hK : X.K = K := by rfl) : IxR X (rIxL K) := by subst hK; exact ix_list
theorem ixT (hK : X.K = K := by rfl) : IxR X (rIxT K) := by subst hK; exact ix_tup
theorem slL (hK : X.K = K := by rfl) : SlR X (rSlL K) := by subst hK; exact sl_list
theorem lenS (hK : X.K = K := by rfl) : CallR X (.builtin "len") (fun xs H Q => ∃ p ys, xs = [.ref p] ∧ (SqL K H p ys ∨ SqT K H p ys) ∧ Q (.int ys.length) H) := by subst hK; exact call_len_seq
theorem notInS (hK : X.K = K := by rfl) : OpR X (compareOp .NotIn) (rIn K true) := by subst hK; exact op_notIn_seq
end
theorem cutV_to {xs : List V} {j : Nat} : cutV xs none (some (j : Int)) = xs.take j := by
  unfold cutV
  rw [HT.sIx_none, HT.sIx_nat, List.drop_zero, Nat.sub_zero, List.take_eq_take_iff]
  omega
theorem cutV_from {xs : List V} {j : Nat} : cutV xs (some (j : Int)) none = xs.drop j := by
  unfold cutV
  rw [HT.sIx_none, HT.sIx_nat]
  by_cases h : j ≤ xs.length
  · rw [Nat.min_eq_left h]
    exact List.take_of_length_le (by rw [List.length_drop]; exact Nat.le_refl _)
  · rw [Nat.min_eq_right (by omega), List.drop_of_length_le (by omega : xs.length ≤ j), List.drop_of_length_le (Nat.le_refl _)]
    simp
theorem SqL.sameX {K : PySem.W.Frag} {D : Addr} {H H' : Hp} {a : Addr} {xs : List V} (g : SameX D H H') (na : a ≠ D) (h : SqL K H a xs) : SqL K H' a xs := by
  rcases h with (h | ⟨o, h⟩) | h
  · exact .inl (.inl (g _ _ na h))
  · exact .inl (.inr ⟨o, g _ _ na h⟩)
  · exact .inr h
theorem Paired.get {α : Type} {R : V → α → Prop} : ∀ {xs : List V} {l : List α} {i : Nat} {x : V}, Paired R xs l → xs[i]? = some x → ∃ z, l[i]? = some z ∧ R x z
  | _, _, 0, _, .cons r _, e => by cases e; exact ⟨_, rfl, r⟩
  | _, _, i + 1, x, .cons _ t, e => Paired.get (i := i) (x := x) t (by simpa using e)
  | _, _, _, _, .nil, e => by simp at e
theorem ipI_int {f : Int → Int → Int} {a b : Int} {H : Hp} {Q : VK} : ipI f (.int a) (.int b) H Q = Q (.int (f a b)) H := propext ⟨fun ⟨i, j, e1, e2, q⟩ => by cases e1; cases e2; exact q, fun q => ⟨a, b, rfl, rfl, q⟩⟩
end L2

set_option linter.all false
set_option maxRecDepth 100000
namespace L2
open PySem PySem.Spec PyProof.Rows

abbrev Plainly (h base : Heap) : Prop := ∀ b o, h.get? b = some o → (∀ vs, o.data ≠ .fields vs) → (∀ its n, o.data ≠ .seq its n) → base.get? b = some o
theorem ns_to {h base : Heap} (k : Plainly h base) {a : Addr} {m : Str → Option Value} (n : h.Ns a m) : base.Ns a m := by
  obtain ⟨o, es, ep, e, d, r⟩ := n
  exact ⟨o, es, ep, k _ _ e (fun vs q => by rw [d] at q; cases q) (fun its n q => by rw [d] at q; cases q), d, r⟩
theorem ownTail_to {h base : Heap} (k : Plainly h base) {bmB tl : List Value} (T : OwnTail h bmB tl) : OwnTail base bmB tl := by
  induction T with
  | base => exact .base
  | own g n i _ ih => exact .own (k _ _ g (fun vs q => by cases q) (fun its n q => by cases q)) (ns_to k n) i ih
theorem OwnCls.to {h base : Heap} (k : Plainly h base) {x : Str} {C : Addr} {bm : List Value} {newId : String} {mg : Str → Option Value} (O : OwnCls x C bm newId mg h) : OwnCls x C bm newId mg base := by
  obtain ⟨bm', N, nm, q, bs, hdct, sn, sub, ab, col, dd, k0, k1, k2, k3, k5, mN, hC, hN, hni, T⟩ := O.obj
  exact ⟨O.bound, bm', N, nm, q, bs, hdct, sn, sub, ab, col, dd, k0, k1, k2, k3, k5, mN, k _ _ hC (fun vs q => by cases q) (fun its n q => by cases q), ns_to k hN, hni, ownTail_to k T⟩
theorem plainX_of {K : PySem.W.Frag} {base : Heap} (X : K.In base) {nm q : Str} {C N : Addr} {bs bm : List Value} {hdct : Bool} {sn : List Str} {sub : List Value} {ab : Bool} {col : Option Bool} {dd : Option Addr} {k0 k1 k2 k3 k5 : Option Value} {newId : String}
    (e : K.lookup C = some (excClassObj nm q C N bs bm hdct sn sub ab col dd k0 k1 k2 k3 k5 newId)) (h1 : bm.contains (.type "BaseException") = true) (h2 : ∀ a : Addr, bm.contains (.ref a) = false) : PlainX base C :=
  ⟨nm, q, N, bs, bm, hdct, sn, sub, ab, col, dd, k0, k1, k2, k3, k5, newId, X _ _ e, h1, h2⟩

def spEnt (K : PySem.W.Frag) (Pt : Addr) (ok : List AD → List Int → Prop) : Sp := fun vs H Q _ => ∃ ds res, ok ds res ∧ Paired (RelA K H) ds vs ∧ H Pt = some (.tbl #[]) ∧ ∀ r H', H' r = some (.lst (res.map V.int)) → Q (.ref r) H'
theorem walk_spec {r : PySem.W.OpenSpec} {q : Program} {loose : List Str} {XP : (Str → Option Value) → Heap → Prop} {YP : World → Heap → Prop} {d : DefRec} {kwd : List (Str × Expr)} {K : Params → PySem.W.Frag} {k : Nat} {ps : List Str} {ok : List AD → List Int → Prop}
    (hY : ∀ (w : World) (h : Heap), YP w h → (K w.params).In h) (hr : Room k callerA)
    (hd : ∀ args, r.pre args = true → ∃ ds res, args = ds.map AD.w ∧ ok ds res ∧ (∀ l, AD.lst l ∈ ds → l.length ≤ sizeLine) ∧ ds.length = ps.length ∧ r.claim.post args (.list (res.map .int)) args = true)
    (F : ∀ (w : World) (s₀ : Shared) (mg mb : Str → Option Value) (fa : Addr) (h : Heap), (K w.params).In h → Top q (PySem.W.looseW q loose) (ExcName.means s₀.heap) mg mb h → mg d.name = some (.ref fa) →
      ∃ fd c Pt, Binds (K w.params) fd ps [] ∧ (K w.params).lookup Pt = none ∧ PySem.W.CodeHd h c Pt ∧ h.get? Pt = some (PySem.W.tabObj #[]) ∧
        ∀ base : Heap, Plainly h base → (∀ o, h.get? c = some o → base.get? c = some o) → Mod (K w.params) mg base → FnOk r.prog w (K w.params) mg base (CXE r.prog w) k fa fd ps (spEnt (K w.params) Pt ok)) :
    PySem.W.WalkOS q loose XP YP r d kwd (fun f vs => PySem.call f vs) := by
  intro w s₀ s₁ mg mb G Y fa o pm cd doc dV kV ho hdd hcd hD hmg hg args vals as hpre hlay hrd hwl hlo
  have KX := hY w _ Y
  obtain ⟨fd, c, Pt, hb, hKt, hC, hPt, hF⟩ := F w s₀ mg mb fa _ KX G.T hmg
  obtain ⟨ds, res, rfl, hok, hl, hlen, hpost⟩ := hd args hpre
  show wpAny (model r.prog w) callerA (PySem.call (Value.ref fa) vals) _ _ s₁
  refine PySem.W.enter_call (codeAny_mono (spec_call (res := res) (cl := classAt s₀.heap) KX hKt G.T.g G.T.b G.T.builtins G.T.nolimit hg hC hPt hwl hl hr (fun base k M => hF base (fun b o e h1 h2 => k b o e (fun z => ?_) h2) (fun o e => k c o e ?_ ?_) M) hb hlen (fun H vs h1 h2 => ⟨ds, res, hok, h2, h1, fun r H' e => ⟨r, rfl, e⟩⟩)) fun rr s' hq => ?_)
  · rw [z, hPt] at e
    cases e
    exact h1 _ rfl
  · obtain ⟨o', vs, _, _, _, _, _, _, _, c1, c2, _⟩ := hC
    intro z
    rw [z, hPt] at c1
    cases c1
    cases c2
  · obtain ⟨o', vs, _, _, _, _, _, _, _, c1, _, c3, _⟩ := hC
    rw [e] at c1
    cases c1
    intro its n z
    rw [c3] at z
    cases z
  · obtain ⟨a, as', rfl, hrd', hold, hos, hbare⟩ := hq
    exact ⟨.inl ⟨.ref a, _, as', rfl, fun _ => rfl, hrd', hpost, fun z => by cases z⟩, hold, hos, hbare⟩
end L2

set_option linter.all false
set_option maxRecDepth 100000
namespace L2
open PySem PySem.Spec PyProof.Rows
section
open PySem.SeqAt PySem.AutoSeq1 PySem.MeetsSeq PySem.MeetsSeq2 PySem.MeetsSeq3
end
section
variable {X : Cx}
end
end L2

set_option linter.all false
set_option maxRecDepth 100000
namespace L2
open PySem PySem.Spec PyProof.Rows
section
variable {prog : Program} {w : World} {A : Around} {R : Result → Shared → Prop} {I : Addr} {fp wr : List Addr} {n : Nat} {P : Nat → Value → Prop} {St : Nat → Heap → Prop}
abbrev Bx (v : List Value) (c : Nat) : Obj := { cls := .type "list", dict := none, data := .seq v.toArray c, slots := #[] }
end
section
variable {X : Cx}
end
end L2

set_option linter.all false
set_option maxRecDepth 100000
namespace L2
open PySem PySem.Spec PyProof.Rows
section
variable {X : Cx}
def D9 (j : Int) : Prop := 0 < j ∧ j.natAbs < 2 ^ 9000
theorem D9.plain {i j : Int} (h : D9 j) : Builtin.divisionGoesByPylong i j = false := PyProof.noPylong_of_log2 ((Nat.log2_lt (by have := h.1; omega)).mpr h.2)
end
end L2

set_option linter.all false
set_option maxRecDepth 100000
namespace L2
open PySem PySem.Spec PyProof.Rows
section
variable {X : Cx}
def DZ (j : Int) : Prop := j ≠ 0 ∧ j.natAbs < 2 ^ 9000
theorem DZ.plain {i j : Int} (h : DZ j) : Builtin.divisionGoesByPylong i j = false := PyProof.noPylong_of_log2 ((Nat.log2_lt (by have := h.1; omega)).mpr h.2)
theorem op_fdivZ : OpR X (binaryOp .FloorDiv) (rI (fun _ j => DZ j) fun i j => .int (i.fdiv j)) := opI fun i j _ _ _ _ _ hc q => floordiv_int hc.1 q (.inl hc.plain)
def tBits (to : TE) : TE := fun σ H Q => to σ H fun x H1 => ∃ i, x = .int i ∧ Q (.int ((Builtin.Int.intBits i : Nat) : Int)) H1
theorem pe_bits {o : Expr} {to : TE} {apos pos : Pos} (ho : PE X o to) (hbase : attributeBase o "bit_length" X.env (eval o X.env) = eval o X.env := by rfl) (hline : (apos.endLine == pos.line) = true := by rfl) :
    PE X (.Call (.Attribute o "bit_length" apos) [] [] pos) (tBits to) := by
  intro pins s σ H Q I h
  refine PySem.Call_method0 hbase hline (thn (ho pins s σ H _ I h) fun v s1 ⟨x, H1, I1, r1, q1⟩ => ?_)
  obtain ⟨i, rfl, q1⟩ := q1
  obtain ⟨t, rfl⟩ := _root_.id r1
  exact ⟨"int", _, F.plainAttrs_int, F.slot_int_bit_length, F.type_int_bit_length, typeIs_int _ _ _, (fun _ e => nomatch e), Calls.callWith_builtin rfl (PySem.evalArgs_none (call_int_bit_length ⟨.int _, H1, I1.tok _, ⟨_, rfl⟩, q1⟩))⟩
def rAbs : List V → Hp → VK → Prop := fun xs H Q => ∃ i, xs = [.int i] ∧ Q (.int (if i < 0 then -i else i)) H
def rMax2 : List V → Hp → VK → Prop := fun xs H Q => ∃ i j, xs = [.int i, .int j] ∧ Q (.int (if j > i then j else i)) H
def rMin2 : List V → Hp → VK → Prop := fun xs H Q => ∃ i j, xs = [.int i, .int j] ∧ Q (.int (if j < i then j else i)) H
theorem cr_abs : CallR X (.builtin "abs") rAbs := call_abs
theorem cr_max2 (hc : X.calm = true) : CallR X (.builtin "max") rMax2 := call_max2 hc
theorem cr_min2 (hc : X.calm = true) : CallR X (.builtin "min") rMin2 := call_min2 hc
theorem rAbs_int {a : Int} {H : Hp} {Q : VK} : rAbs [.int a] H Q = Q (.int (if a < 0 then -a else a)) H := propext ⟨fun ⟨i, e, q⟩ => by cases e; exact q, fun q => ⟨a, rfl, q⟩⟩
theorem rMax2_int {a b : Int} {H : Hp} {Q : VK} : rMax2 [.int a, .int b] H Q = Q (.int (if b > a then b else a)) H := propext ⟨fun ⟨i, j, e, q⟩ => by cases e; exact q, fun q => ⟨a, b, rfl, q⟩⟩
theorem rMin2_int {a b : Int} {H : Hp} {Q : VK} : rMin2 [.int a, .int b] H Q = Q (.int (if b < a then b else a)) H := propext ⟨fun ⟨i, j, e, q⟩ => by cases e; exact q, fun q => ⟨a, b, rfl, q⟩⟩
variable (K : PySem.W.Frag)
theorem cr_sumK (hc : X.calm = true) (hK : X.K = K := by rfl) : CallR X (.builtin "sum") (rSum K) := by subst hK; exact cr_sum hc
end
abbrev EV (K : PySem.W.Frag) (H : Hp) (v : V) (x : Int × Int) : Prop := ∃ a, v = .ref a ∧ SqT K H a [.int x.1, .int x.2]
theorem EV.same {K : PySem.W.Frag} {H H' : Hp} {v : V} {x : Int × Int} (g : Same H H') (h : EV K H v x) : EV K H' v x := let ⟨a, e, q⟩ := h; ⟨a, e, g.seqT q⟩
theorem EV.of {K : PySem.W.Frag} {H : Hp} {a : Addr} {v p : Int} (h : H a = some (.tup [.int v, .int p])) : EV K H (.ref a) (v, p) := ⟨a, rfl, SqT.of h⟩
abbrev LEV (K : PySem.W.Frag) (H : Hp) (v : V) (xs : List (Int × Int)) : Prop := ∃ a ys, v = .ref a ∧ SqL K H a ys ∧ Paired (EV K H) ys xs
theorem LEV.same {K : PySem.W.Frag} {H H' : Hp} {v : V} {l : List (Int × Int)} (g : Same H H') (h : LEV K H v l) : LEV K H' v l := let ⟨a, xs, e, q, p⟩ := h; ⟨a, xs, e, g.seq q, Paired.imp' (fun _ _ z => EV.same g z) p⟩
theorem lc_zipV {K : PySem.W.Frag} {a b : Addr} {xs ys : List V} {n : Nat} {g : TG} {te : TE} {vs : List Nat} {σ : St} {H1 : Hp} {D : Addr} {Qd : Hp → Prop} (R : Nat → Hp → V → Prop) (hR : ∀ i H H' v, SameX D H H' → R i H v → R i H' v) (hD : H1 D = none) (hx : xs.length = n) (hy : ys.length = n) (hz : n ≤ sizeLine) (ha : SqL K H1 a xs) (hb : SqL K H1 b ys)
    (hg : ∀ (i : Nat) (x y : V) (T : Addr) (H : Hp) (Q : VK), xs[i]? = some x → ys[i]? = some y → Same H1 H → H D ≠ none → H T = none → (∀ v H'', Same H H'' → R i H'' v → Q v H'') → g (.ref T) (wipe σ vs) (upd H T (.tup [x, y])) fun σ2 H2 => wipe σ2 vs = wipe σ vs ∧ te σ2 H2 Q)
    (hd : ∀ H zs, Same H1 H → H D = some (.lst zs) → zs.length = n → (∀ (i : Nat) (v : V), zs[i]? = some v → R i H v) → Qd H) :
    ∃ W : Nat → Nat → Hp → Prop, (∃ m, W 0 m (upd H1 D (.lst []))) ∧ ∀ i m H, W i m H →
      ((Itz K a b).stop i H ∧ Qd H) ∨ ((Itz K a b).go i H ∧ ∃ Nx : Hp → Prop, (∀ H', Nx H' → ∃ m', m' < m ∧ W (i + 1) m' H') ∧ ∀ x H', (Itz K a b).yld i H x H' → g x (wipe σ vs) H' fun σ2 H2 => wipe σ2 vs = wipe σ vs ∧ tYes σ2 H2 fun b H3 =>
        if b = true then te σ2 H3 fun y H4 => ∃ acc, H4 D = some (.lst acc) ∧ acc.length < sizeLine ∧ Nx (upd H4 D (.lst (acc ++ [y]))) else Nx H3) := by
  refine lc_any (n := n) R hR hD hz (fun H2 g2 => ⟨_, _, g2.seq ha, g2.seq hb, .inl (by omega)⟩)
    (fun i H2 hi g2 => ⟨_, _, _, _, g2.seq ha, g2.seq hb, List.getElem?_eq_getElem (by omega), List.getElem?_eq_getElem (by omega)⟩) (fun i x H2 H3 Q' hi g2 nD y hQ => ?_) hd
  obtain ⟨T, x', y', rfl, hT, rfl, e1, e2⟩ := y
  exact hg i _ _ T H2 Q' (e1 _ (g2.seq ha)) (e2 _ (g2.seq hb)) g2 nD hT hQ
theorem ix_at {K : PySem.W.Frag} {H : Hp} {u : Addr} {l : List Int} {i : Nat} {z : Int} {Q : VK} (h : SqL K H u (l.map V.int)) (hz : z = (i : Int)) (hi : i < l.length) (q : Q (.int (l.getD i 0)) H) : rIxL K (.ref u) (.int z) H Q := by
  refine ⟨u, _, z, _, rfl, rfl, h, ?_, q⟩
  rw [hz]
  refine atI_nat ?_
  rw [List.getElem?_map, List.getD_eq_getElem?_getD, List.getElem?_eq_getElem hi]
  rfl
theorem ix_get {K : PySem.W.Frag} {H : Hp} {u : Addr} {xs : List V} {i : Nat} {z : Int} {x : V} {Q : VK} (h : SqL K H u xs) (hz : z = (i : Int)) (hx : xs[i]? = some x) (q : Q x H) : rIxL K (.ref u) (.int z) H Q :=
  ⟨u, _, z, _, rfl, rfl, h, by rw [hz]; exact atI_nat hx, q⟩
theorem ps_setLcX {X : Cx} {E : XK} {L : Addr} {i : Nat} {y : Str} {py : Pos} {elt tg iter : Expr} {ifs : List Expr} {scope : Scope} {own : List (Str × Nat)} {pos spos : Pos} {wi : TI} {g : TG} {tt : TT} {te : TE} (hc : X.calm = true) (hpn : X.pn = []) (fr : FrIs X L) (hxe : ∀ e s', XIn X E true e s' → X.xe e s') (hN : X.N.Nodup) (hy : X.N[i]? = some y) (hyl : X.env.scope.names.lookup y = some .local)
    (hsw : swapsWith (.ListComp elt [⟨tg, iter, ifs, 0⟩] scope pos) (some (.Name y py)) spos.line X.env = pure true) (hi : PI X tg iter wi) (ok : BlkOk X.N X.env.scope scope own)
    (hg : ∀ (s : Shared) (H : Hp) (C : Addr) (cl : List (Str × Addr)) (fp : List Addr), PG (X.blk s H scope (compEnvC scope cl C X.env) fp) tg g) (ht : ∀ (s : Shared) (H : Hp) (C : Addr) (cl : List (Str × Addr)) (fp : List Addr), PTs (X.blk s H scope (compEnvC scope cl C X.env) fp) ifs tt)
    (he : ∀ (s : Shared) (H : Hp) (C : Addr) (cl : List (Str × Addr)) (fp : List Addr), PE ((X.blk s H scope (compEnvC scope cl C X.env) fp).exn E) elt te) (hs : ∀ x, foldedSetIterable iter X.env x = pure x := by intro _; rfl) :
    PS X (.Assign [.Name y py] (.ListComp elt [⟨tg, iter, ifs, 0⟩] scope pos) spos) (tAsg (tLc wi g tt te (own.map (·.2))) (gName i)) := by
  intro pins s σ H D I h
  rw [exec_Assign_Name_used _ _ _ _ hsw]
  refine wpAny_bind (wpAny_standAt (wpAny_bind ?_))
  show wpAny _ X.A (do let _ ← comprehension (.ListComp elt [⟨tg, iter, ifs, 0⟩] scope pos) scope X.env (firstIterPos [⟨tg, iter, ifs, 0⟩] pos) (newList []) false (eval iter X.env) (some (assign (.Name y py) X.env))) _ _ s
  have h : tLc wi g tt te (own.map (·.2)) σ H (fun x H1 => gName i x σ H1 D.nx) := h
  refine wpAny_bind (thn (lc_coreX (Qf := fun _ s' => SP X pins D .next s') hc hpn fr hxe hN I hi ok hg ht he hs h fun L C s' m H' I' q hn f => ?_) fun _ s' hq => wpAny_pure (wpAny_pure hq))
  show wpAny _ _ (assign (.Name y py) X.env (.ref L)) _ _ _
  refine wpAny_assign_Name (store_ok2 (v := V.ref L) I' hN hy (.inl hyl) rfl (fun s2 I2 ⟨a, sb, ha⟩ => ?_) (.inr hyl))
  obtain ⟨f0, f1, f2, f3, f4, f5⟩ := f
  have haC : C ≠ a := by
    rcases ha with z | z
    · rw [z]; exact f1
    · exact fun e => f4 y a z e.symm
  refine ⟨m, hn.sameBut sb haC, fun h3 sb3 => ?_⟩
  exact ⟨_, H', I2.turned (t' := s2.toks) (fun b o hb e => (sb3.2 b hb).trans e) f0 f1 f3 f4 f5, q⟩
theorem ps_setLcE {X : Cx} {E : XK} {L : Addr} {i : Nat} {y : Str} {py : Pos} {elt tg iter : Expr} {scope : Scope} {own : List (Str × Nat)} {pos spos : Pos} {wi : TI} {g : TG} {te : TE} (hc : X.calm = true) (hpn : X.pn = []) (fr : FrIs X L) (hN : X.N.Nodup) (hy : X.N[i]? = some y) (hk : X.env.scope.kind = .function) (hyl : X.env.scope.names.lookup y = some .local)
    (hl : (py.line == pos.line) = true) (ha : (scope.names.any fun (n, k) => n == y && (k == .local || k == .cell)) = false) (hi : PI (X.exn E) tg iter wi) (ok : BlkOk X.N X.env.scope scope own)
    (hg : ∀ (s : Shared) (H : Hp) (C : Addr) (cl : List (Str × Addr)) (fp : List Addr), PG ((X.exn E).blk s H scope (compEnvC scope cl C X.env) fp) tg g)
    (he : ∀ (s : Shared) (H : Hp) (C : Addr) (cl : List (Str × Addr)) (fp : List Addr), PE (((X.exn E).blk s H scope (compEnvC scope cl C X.env) fp).exn E) elt te) (hs : ∀ x, foldedSetIterable iter X.env x = pure x := by intro _; rfl) :
    PS (X.exn E) (.Assign [.Name y py] (.ListComp elt [⟨tg, iter, [], 0⟩] scope pos) spos) (tAsg (tLc wi g tYes te (own.map (·.2))) (gName i)) :=
  ps_setLcX (X := X.exn E) hc hpn ⟨fr.1, fr.2⟩ (fun _ _ h => h.any.unwish) hN hy hyl (sw_true hk hyl hl ha) hi ok hg (fun _ _ _ _ _ => pts_nil) he hs
end L2

set_option linter.all false
set_option maxRecDepth 100000
namespace L2
open PySem PySem.Spec PyProof.Rows
section
variable {prog : Program} {w : World} {A : Around} {E : Value → Shared → Prop}
end
end L2

set_option linter.all false
set_option maxRecDepth 100000
namespace L2
open PySem PySem.Spec PyProof.Rows
def rIxP (K : PySem.W.Frag) : R2 := fun x y H Q => rIxL K x y H Q ∨ rIxT K x y H Q
theorem ixP {X : Cx} (K : PySem.W.Frag) (hK : X.K = K := by rfl) : IxR X (rIxP K) := IxR.or (ixL K hK) (ixT K hK)
abbrev Pr (K : PySem.W.Frag) (H : Hp) (v : V) (x : Int × Int) : Prop := ∃ a, v = .ref a ∧ (SqL K H a [.int x.1, .int x.2] ∨ SqT K H a [.int x.1, .int x.2])
theorem Pr.same {K : PySem.W.Frag} {H H' : Hp} {v : V} {x : Int × Int} (g : Same H H') (h : Pr K H v x) : Pr K H' v x := let ⟨a, e, q⟩ := h; ⟨a, e, q.imp g.seq g.seqT⟩
theorem Pr.tup {K : PySem.W.Frag} {H : Hp} {a : Addr} {x y : Int} (h : H a = some (.tup [.int x, .int y])) : Pr K H (.ref a) (x, y) := ⟨a, rfl, .inr (SqT.of h)⟩
theorem Pr.lst {K : PySem.W.Frag} {H : Hp} {a : Addr} {x y : Int} (h : H a = some (.lst [.int x, .int y])) : Pr K H (.ref a) (x, y) := ⟨a, rfl, .inl (SqL.of h)⟩
theorem ix_lo {K : PySem.W.Frag} {H : Hp} {v : V} {x : Int × Int} {Q : VK} (h : Pr K H v x) (q : Q (.int x.1) H) : rIxP K v (.int 0) H Q := by
  obtain ⟨a, rfl, h | h⟩ := h
  · exact .inl ⟨a, _, 0, _, rfl, rfl, h, atI_nat (j := 0) rfl, q⟩
  · exact .inr ⟨a, _, 0, _, rfl, rfl, h, atI_nat (j := 0) rfl, q⟩
theorem ix_hi {K : PySem.W.Frag} {H : Hp} {v : V} {x : Int × Int} {Q : VK} (h : Pr K H v x) (q : Q (.int x.2) H) : rIxP K v (.int 1) H Q := by
  obtain ⟨a, rfl, h | h⟩ := h
  · exact .inl ⟨a, _, 1, _, rfl, rfl, h, atI_nat (j := 1) rfl, q⟩
  · exact .inr ⟨a, _, 1, _, rfl, rfl, h, atI_nat (j := 1) rfl, q⟩
abbrev LP (K : PySem.W.Frag) (H : Hp) (v : V) (xs : List (Int × Int)) : Prop := ∃ a ys, v = .ref a ∧ SqL K H a ys ∧ Paired (Pr K H) ys xs
theorem Paired.sameP {K : PySem.W.Frag} {H H' : Hp} {xs : List V} {l : List (Int × Int)} (g : Same H H') (h : Paired (Pr K H) xs l) : Paired (Pr K H') xs l := Paired.imp' (fun _ _ z => Pr.same g z) h
theorem LP.same {K : PySem.W.Frag} {H H' : Hp} {v : V} {l : List (Int × Int)} (g : Same H H') (h : LP K H v l) : LP K H' v l := let ⟨a, xs, e, q, p⟩ := h; ⟨a, xs, e, g.seq q, Paired.sameP g p⟩
end L2

set_option linter.all false
set_option maxRecDepth 100000
namespace L2
open PySem PySem.Spec PyProof.Rows
section
variable {prog : Program} {w : World} {A : Around} {E : Value → Shared → Prop} {s : Shared}
theorem wpAny_loadIfAlive {a : Addr} {Q : Option Obj → Shared → Prop} (h : Q (s.heap.get? a) s) : wpAny (model prog w) A (loadIfAlive a) Q E s := fun Γ p hΓ => by
  unfold loadIfAlive
  rw [Sem.wp_loadIfAlive]
  exact wpAny_pure h Γ p hΓ
abbrev IsZipK (h : Heap) (z TI TO T0 : Addr) (f1 : Bool) : Prop :=
  h.get? z = some { cls := .type "zip", dict := none, data := .fields #[rawInt T0, .bool f1, .bool false, .ref TI, .ref TO], slots := #[] }

theorem owned_kept {z TI TO T0 : Addr} {f1 : Bool} {o0 : Obj} {Q : Bool → Shared → Prop} (hz : IsZipK s.heap z TI TO T0 f1) (h0 : s.heap.get? T0 = some o0)
    (hQ : ∀ h', IsZipK h' z TI TO T0 true → Heap.SameBut z s.heap h' → Q false { s with heap := h' }) : wpAny (model prog w) A (Builtin.SmallTypes.ownedTupleIsFree (.ref z)) Q E s := by
  unfold Builtin.SmallTypes.ownedTupleIsFree
  refine wpAny_bind (wpAny_field hz rfl (x := rawInt T0) rfl ?_)
  show wpAny _ _ (loadIfAlive T0 >>= _) _ _ _
  refine wpAny_bind (wpAny_loadIfAlive ?_)
  rw [h0]
  show wpAny _ _ (field (.ref z) 1 >>= _) _ _ _
  refine wpAny_bind (wpAny_field hz rfl (x := .bool f1) rfl ?_)
  cases f1 with
  | true => exact wpAny_pure (hQ s.heap hz ⟨rfl, fun _ _ => rfl⟩)
  | false =>
    show wpAny _ _ (setField (.ref z) 1 (.bool true) >>= fun _ => pure false) _ _ _
    exact wpAny_bind (wpAny_setField_rec hz (by simp) fun h₁ hz₁ hs₁ => wpAny_pure (hQ h₁ hz₁ hs₁))
theorem zip_next_keptEnd {z TI TO i1 i2 l1 l2 T0 : Addr} {k1 k2 : Nat} {f1 : Bool} {xs ys : Array Value} {o0 : Obj} {Q : Fin → Shared → Prop} (hh : A.handled = none) (D : ZipApart z TI TO i1 i2 l1 l2)
    (hz : IsZipK s.heap z TI TO T0 f1) (h0 : s.heap.get? T0 = some o0) (hTI : IsPair s.heap TI (.ref i1) (.ref i2))
    (h1 : s.heap.IsListIter i1 l1 k1) (h2 : s.heap.IsListIter i2 l2 k2) (hl1 : s.heap.IsList l1 xs) (hl2 : s.heap.IsList l2 ys) (hend : xs[k1]? = none ∨ ys[k2]? = none)
    (hE : ∀ h' e, (∀ c o, c ≠ z → c ≠ i1 → c ≠ i2 → s.heap.get? c = some o → h'.get? c = some o) → (∃ o, h'.get? e = some o ∧ o.cls = .type "StopIteration") → E (.ref e) { s with heap := h' }) :
    wpAny (model prog w) A (Builtin.«zip.__next__» ⟨[.ref z], []⟩) Q E s := by
  show wpAny _ _ (field (.ref z) 2 >>= _) _ _ _
  refine wpAny_bind (wpAny_field hz rfl (x := .bool false) rfl ?_)
  show wpAny _ _ (field (.ref z) 3 >>= _) _ _ _
  refine wpAny_bind (wpAny_field hz rfl (x := .ref TI) rfl ?_)
  refine wpAny_bind (wpAny_seqItems hTI rfl ?_)
  show wpAny _ _ (Builtin.SmallTypes.ownedTupleIsFree (.ref z) >>= _) _ _ _
  refine wpAny_bind (owned_kept hz h0 fun h₁ hz₁ hs₁ => ?_)
  simp only [Bool.false_eq_true, if_false]
  refine wpAny_bind ?_
  simp only [← Array.forIn_toList, List.forIn_cons, List.forIn_nil]
  refine wpAny_bind (wpAny_bind (wpAny_holding ?_))
  show wpAny _ _ (Builtin.SmallTypes.nextOf (.ref i1) >>= _) _ _ _
  cases hx : xs[k1]? with
  | none =>
    exact wpAny_bind (wpAny_nextOf_list_end hh (h1.extBut hs₁.extBut D.i1z) (hl1.extBut hs₁.extBut D.l1z) hx fun h₂ e hs₂ he => hE h₂ e (fun c o c1 c3 _ x => hs₂ _ _ c3 (hs₁.extBut _ _ c1 x)) he)
  | some x =>
    have hy : ys[k2]? = none := by rcases hend with h | h; rw [hx] at h; cases h; exact h
    refine wpAny_bind (wpAny_nextOf_list_item (h1.extBut hs₁.extBut D.i1z) (hl1.extBut hs₁.extBut D.l1z) hx fun h₂ h1₂ hs₂ => wpAny_pure ?_)
    refine wpAny_pure ?_
    refine wpAny_bind (wpAny_bind (wpAny_holding ?_))
    show wpAny _ _ (Builtin.SmallTypes.nextOf (.ref i2) >>= _) _ _ _
    exact wpAny_bind (wpAny_nextOf_list_end hh ((h2.extBut hs₁.extBut D.i2z).extBut hs₂.extBut D.i12.symm) ((hl2.extBut hs₁.extBut D.l2z).extBut hs₂.extBut D.l2i1) hy fun h₄ e hs₄ he => hE h₄ e (fun c o c1 c3 c4 x => hs₄ _ _ c4 (hs₂.extBut _ _ c3 (hs₁.extBut _ _ c1 x))) he)
theorem wpAny_pyNext_keptEnd {z TI TO i1 i2 l1 l2 T0 : Addr} {k1 k2 : Nat} {f1 : Bool} {xs ys : Array Value} {o0 : Obj} {Q : Option Value → Shared → Prop} (hh : A.handled = none) (D : ZipApart z TI TO i1 i2 l1 l2)
    (hz : IsZipK s.heap z TI TO T0 f1) (h0 : s.heap.get? T0 = some o0) (hTI : IsPair s.heap TI (.ref i1) (.ref i2))
    (h1 : s.heap.IsListIter i1 l1 k1) (h2 : s.heap.IsListIter i2 l2 k2) (hl1 : s.heap.IsList l1 xs) (hl2 : s.heap.IsList l2 ys) (hend : xs[k1]? = none ∨ ys[k2]? = none)
    (hQ : ∀ h', (∀ c o, c ≠ z → c ≠ i1 → c ≠ i2 → s.heap.get? c = some o → h'.get? c = some o) → Q none { s with heap := h' }) : wpAny (model prog w) A (pyNext (.ref z)) Q E s := by
  have hT : s.TypeIs (.ref z) "zip" := ⟨_, hz, rfl⟩
  unfold pyNext
  refine wpAny_bind (wpAny_attempt (wpAny_callSpecial?_slot (name := Str.ofString "__next__") hT F.slot_zip_next
    (wpAny_call_entry F.slot_zip_next hT F.entry_zip_next (zip_next_keptEnd hh D hz h0 hTI h1 h2 hl1 hl2 hend fun h' e hk he => ?_) (F.args_zip_next_1 _))))
  obtain ⟨o, ho, hc⟩ := he
  refine wpAny_bind (wpAny_isInstance (T := "StopIteration") (b := true) ⟨o, ho, hc⟩ isSubtype_stop ?_)
  exact wpAny_pure (hQ _ hk)
end

def ZS (h : Heap) (H : Hp) (z TI TO i1 i2 a b : Addr) (i : Nat) : Prop :=
  (IsZip h z TI TO .none ∨ ∃ T0 f1 l, IsZipK h z TI TO T0 f1 ∧ H T0 = some (.tup l)) ∧ (∃ p q, IsPair h TO p q) ∧ IsPair h TI (.ref i1) (.ref i2) ∧ h.IsListIter i1 a i ∧ h.IsListIter i2 b i
theorem ZS.last {X : Cx} {A : Around} (hh : A.handled = none) {pins : List (Addr × Obj)} {σ : St} {H : Hp} {s : Shared} {z TI TO i1 i2 a b : Addr} {i : Nat} {its its2 : Array Value} {Q : Option Value → Shared → Prop} {E : Value → Shared → Prop} (D : ZipApart z TI TO i1 i2 a b)
    (I : Inv X pins σ H s) (Z : ZS s.heap H z TI TO i1 i2 a b i) (ha : s.heap.IsList a its) (hb : s.heap.IsList b its2) (he : its[i]? = none ∨ its2[i]? = none)
    (hQ : ∀ (h' : Heap), (∀ c o, c ≠ z → c ≠ TO → c ≠ i1 → c ≠ i2 → s.heap.get? c = some o → h'.get? c = some o) → Q none { s with heap := h' }) :
    wpAny (model X.prog X.w) A (pyNext (.ref z)) Q E s := by
  obtain ⟨hz | ⟨T0, f1, l, hz, hT0⟩, ⟨p, q, hTO⟩, hTI, h1, h2⟩ := Z
  · exact wpAny_pyNext_zip_end hh D hz hTI hTO h1 h2 ha hb he hQ
  · obtain ⟨_, its3, _, o, ho, _⟩ := I.hok T0 _ hT0
    exact wpAny_pyNext_keptEnd hh D hz ho hTI h1 h2 ha hb he fun h' k => hQ h' fun c o c1 _ c3 c4 e => k c o c1 c3 c4 e
def Zipped (H : Hp) (xs ys : List V) (ts : List Addr) : Prop := ∀ (i : Nat) (t : Addr), ts[i]? = some t → ∃ x y, xs[i]? = some x ∧ ys[i]? = some y ∧ H t = some (.tup [x, y])
theorem FpOk.upd {X : Cx} {pins : List (Addr × Obj)} {H : Hp} {c T : Addr} {o : HO} (h : FpOk X pins H c) (n : c ≠ T) : FpOk X pins (upd H T o) c := ⟨(upd_ne n).trans h.1, h.2⟩
def tListZip (K : PySem.W.Frag) (ta : TA) : TE := fun σ H Q => ta σ H fun vs H1 => ∃ a b xs ys, vs = [.ref a, .ref b] ∧ SqL K H1 a xs ∧ SqL K H1 b ys ∧
  ∀ H' D ts, Same H1 H' → H1 D = none → H' D = some (.lst (ts.map V.ref)) → ts.length = min xs.length ys.length → Zipped H' xs ys ts → Q (.ref D) H'
theorem Paired.dropV {α : Type} {R : V → α → Prop} : ∀ (n : Nat) {xs : List V} {l : List α}, Paired R xs l → Paired R (xs.drop n) (l.drop n)
  | 0, _, _, h => h
  | _ + 1, _, _, .nil => .nil
  | n + 1, _, _, .cons _ t => Paired.dropV n t
theorem Paired.takeV {α : Type} {R : V → α → Prop} : ∀ (n : Nat) {xs : List V} {l : List α}, Paired R xs l → Paired R (xs.take n) (l.take n)
  | 0, _, _, _ => .nil
  | _ + 1, _, _, .nil => .nil
  | n + 1, _, _, .cons r t => .cons r (Paired.takeV n t)
end L2

set_option linter.all false
set_option maxRecDepth 100000
namespace L2
open PySem PySem.Spec PyProof.Rows
section
open PySem.SeqAt PySem.AutoSeq1 PySem.MeetsSeq PySem.MeetsSeq2 PySem.MeetsSeq3
end
section
variable {X : Cx}
end
end L2

set_option linter.all false
set_option maxRecDepth 100000
namespace L2
open PySem PySem.Spec PyProof.Rows
def tCallF (P : Program) (w : World) (K : PySem.W.Frag) (mg : Str → Option Value) (base : Heap) (k i : Nat) (E : XK) (t : TA) : TE := fun σ H Q =>
  ∃ f fd ps sp, σ[i]? = some (some (V.ref f)) ∧ FnOk P w K mg base (CXE P w) k f fd ps sp ∧ Binds K fd ps [] ∧ PySem.W.keepIn K (.ref f) = true ∧ tCall sp [] E t σ H Q
theorem pe_callF {X : Cx} {E : XK} {i k : Nat} {x : Str} {p pos : Pos} {e : Expr} {es : List Expr} {t : TA} (hr : Room k X.A) (hx : Passes (CXE X.prog X.w) X E) (ha : PA X (e :: es) t) (hN : X.N[i]? = some x := by rfl) (hv : Vis X.env.scope x := by first | exact Or.inl rfl | exact Or.inr (Or.inl rfl) | exact Or.inr (Or.inr rfl)) (hd : (x == ("__debug__" : Str)) = false := by decide) (hcd : (x == ("__classdict__" : Str)) = false := by decide)
    (he : starEach (e :: es) X.env = (false, eval e X.env) :: starEach es X.env := by rfl) (hpl : (backTo pos (starEach es X.env)).any (·.1) = false := by rfl) :
    PE X (.Call (.Name x p) (e :: es) [] pos) (tCallF X.prog X.w X.K X.mg X.base k i E t) := by
  intro pins s σ H Q I h
  obtain ⟨f, fd, ps, sp, hi, F, hb, hk, h⟩ := h
  refine wpAny_Call_Name_kw (thn (pe_var (X := X) (pos := p) hN hv hd hcd pins s σ H (fun v H' => v = .ref f ∧ H' = H) I ⟨_, hi, rfl, rfl⟩) fun u s1 hq => ?_)
  obtain ⟨v, H1, I1, r, rfl, rfl⟩ := hq
  obtain rfl : u = Value.ref f := r
  refine PySem.W.callWith_K (h₀ := X.base) I1.ok.mod.kin hk (thn (ha pos pins s1 σ H1 _ I1 h) fun us s2 ⟨vs, H2, I2, r, q⟩ => ⟨I2.kIn, ?_⟩) he hpl
  exact run_fn F hr hb .nil hx I2 r q
theorem pi_listK {X : Cx} {tg e : Expr} {te : TE} (K : PySem.W.Frag) (h : PE X e te) (hK : X.K = K := by rfl) : PI X tg e (iList K te) := by
  subst hK
  exact pi_list h
end L2

set_option linter.all false
set_option maxRecDepth 100000
set_option maxHeartbeats 4000000
namespace L2
open PySem PySem.Spec PyProof.Rows
section
variable {prog : Program} {w : World} {A : Around} {R : Result → Shared → Prop} {I : Addr} {fp wr : List Addr} {n : Nat} {P : Nat → Value → Prop} {St : Nat → Heap → Prop}

end
section
variable {X : Cx}
def KPost (X : Cx) (pins : List (Addr × Obj)) (σ : St) (n0 : Nat) (u1 u2 : Value) (i : Nat) (l : List Value) (c : Nat) (H1 : Hp) (p : Int × Int) (u' : Value) (s' : Shared) : Prop := ∃ H2 t, u' = .ref t ∧ Inv X pins σ H2 s' ∧ Same H1 H2 ∧ H2 t = some (.tup [.int p.1, .int p.2]) ∧ (s'.heap.IsTupleIter (n0 + 1) n0 i ∧ s'.heap.IsTuple n0 #[u1, u2]) ∧ s'.heap.get? (n0 + 2) = some (Bx l c) ∧ ∀ b ∈ [n0, n0 + 1, n0 + 2], H2 b = none
theorem KPost.S {pins : List (Addr × Obj)} {σ : St} {n0 : Nat} {u1 u2 : Value} {i : Nat} {l : List Value} {c : Nat} {H1 : Hp} {p : Int × Int} {u' : Value} {s' : Shared} (h : KPost X pins σ n0 u1 u2 i l c H1 p u' s') : s'.heap.get? (n0 + 2) = some (Bx l c) := let ⟨_, _, _, _, _, _, _, h, _⟩ := h; h
end
end L2

set_option linter.all false
set_option maxRecDepth 100000
namespace L2
open PySem PySem.Spec PyProof.Rows

end L2

set_option linter.all false
set_option maxRecDepth 100000
set_option maxHeartbeats 4000000
namespace L2
open PySem PySem.Spec PyProof.Rows
section
variable {prog : Program} {w : World} {A : Around} {E : Value → Shared → Prop} {s : Shared}
theorem nextOf_tup {I T : Addr} {j : Nat} {vs : Array Value} {v : Value} {Q : Value → Shared → Prop} (hI : s.heap.IsTupleIter I T j) (hT : s.heap.IsTuple T vs) (hv : vs[j]? = some v) (hQ : ∀ h', h'.IsTupleIter I T (j + 1) → Heap.SameBut I s.heap h' → Q v { s with heap := h' }) : wpAny (model prog w) A (Builtin.SmallTypes.nextOf (.ref I)) Q E s := by
  obtain ⟨oi, e1, e2, e3⟩ := id hI; obtain ⟨ot, f1, _, m, f3⟩ := hT
  unfold Builtin.SmallTypes.nextOf; refine wpAny_bind (wpAny_callSpecial?_slot (name := Str.ofString "__next__") hI.typeIs F.slot_tuple_iterator_next (wpAny_call_entry F.slot_tuple_iterator_next hI.typeIs F.entry_tuple_iterator_next ?_ (F.args_tuple_iterator_next_1 _)))
  show wpAny _ _ (field (.ref I) 0 >>= _) _ _ s; refine wpAny_bind (wpAny_field e1 e3 (x := .ref T) rfl ?_)
  show wpAny _ _ (if (Value.ref T == Value.none) = true then _ else _) _ _ s; rw [if_neg (show ¬ ((Value.ref T == Value.none) = true) from Bool.false_ne_true)]
  show wpAny _ _ (field (.ref I) 1 >>= _) _ _ s; refine wpAny_bind (wpAny_field e1 e3 (x := .int j 0) rfl ?_)
  show wpAny _ _ (seqItems? (.ref T) >>= _) _ _ s; refine wpAny_bind (wpAny_seqItems f1 f3 ?_); simp only [Int.toNat_natCast, hv]
  refine wpAny_bind (wpAny_setField e1 e3 (by simp) (wpAny_pure ⟨v, rfl, wpAny_pure (hQ _ ⟨_, Heap.get?_update_self _ e1 (Obj.isFreed_of_fields (Obj.data_mapFields e3 _)), (Obj.cls_mapFields ..).trans e2, by rw [Obj.data_mapFields e3]; simp [rawInt]⟩ (Heap.SameBut.update ..))⟩))
abbrev IsTrip (h : Heap) (T : Addr) (a b c : Value) : Prop := h.get? T = some { cls := .type "tuple", data := .seq #[a, b, c] }
theorem updTrip {T : Addr} {a b c x : Value} {k : Nat} {Q : Unit → Shared → Prop} (hT : IsTrip s.heap T a b c) (h : ∀ h', h'.get? T = some { cls := .type "tuple", data := .seq ((#[a, b, c] : Array Value).setIfInBounds k x) } → Heap.SameBut T s.heap h' → Q () { s with heap := h' }) :
    wpAny (model prog w) A (updateSeq T (·.setIfInBounds k x)) Q E s := by
  refine wpAny_updateSeq hT rfl (h _ (by rw [Heap.get?_update_self _ hT rfl]; simp [Obj.mapSeq]) (Heap.SameBut.update ..))
structure Ap3 (z TI TO i1 i2 i3 l1 t2 t3 : Addr) : Prop where
  nd : [z, TI, TO, i1, i2, i3].Nodup
  a1 : l1 ∉ [z, TI, TO, i1, i2, i3]
  a2 : t2 ∉ [z, TI, TO, i1, i2, i3]
  a3 : t3 ∉ [z, TI, TO, i1, i2, i3]
theorem zip3_item {z TI TO i1 i2 i3 l1 t2 t3 : Addr} {k : Nat} {xs ys zs : Array Value} {x y v a b c : Value} {Q : Value → Shared → Prop} (D : Ap3 z TI TO i1 i2 i3 l1 t2 t3)
    (hz : IsZip s.heap z TI TO .none) (hTI : IsTrip s.heap TI (.ref i1) (.ref i2) (.ref i3)) (hTO : IsTrip s.heap TO a b c) (h1 : s.heap.IsListIter i1 l1 k) (h2 : s.heap.IsTupleIter i2 t2 k) (h3 : s.heap.IsTupleIter i3 t3 k)
    (hl1 : s.heap.IsList l1 xs) (hl2 : s.heap.IsTuple t2 ys) (hl3 : s.heap.IsTuple t3 zs) (hx : xs[k]? = some x) (hy : ys[k]? = some y) (hv : zs[k]? = some v)
    (hQ : ∀ h', IsZip h' z TI TO (rawInt s.heap.objs.size) → IsTrip h' TO x y v → h'.IsListIter i1 l1 (k + 1) → h'.IsTupleIter i2 t2 (k + 1) → h'.IsTupleIter i3 t3 (k + 1) → IsTrip h' s.heap.objs.size x y v → h'.objs.size = s.heap.objs.size + 1 →
      (∀ c o, c ∉ [z, TO, i1, i2, i3] → s.heap.get? c = some o → h'.get? c = some o) → Q (.ref s.heap.objs.size) { s with heap := h' }) :
    wpAny (model prog w) A (Builtin.«zip.__next__» ⟨[.ref z], []⟩) (fun fin s' => ∃ v, fin = .done (.ret v) ∧ Q v s') E s := by
  obtain ⟨nd, b1, b2, b3⟩ := D
  simp only [List.nodup_cons, List.mem_cons, List.not_mem_nil, or_false, not_or, not_false_eq_true, List.nodup_nil, and_true] at nd b1 b2 b3
  obtain ⟨⟨n1, n2, n3, n4, n5⟩, ⟨n6, n7, n8, n9⟩, ⟨n10, n11, n12⟩, ⟨n13, n14⟩, n15⟩ := nd
  obtain ⟨c1, c2, c3, c4, c5, c6⟩ := b1
  obtain ⟨d1, d2, d3, d4, d5, d6⟩ := b2
  obtain ⟨f1, f2, f3, f4, f5, f6⟩ := b3
  show wpAny _ _ (field (.ref z) 2 >>= _) _ _ _; refine wpAny_bind (wpAny_field hz rfl (x := .bool false) rfl ?_)
  show wpAny _ _ (field (.ref z) 3 >>= _) _ _ _; refine wpAny_bind (wpAny_field hz rfl (x := .ref TI) rfl (wpAny_bind (wpAny_seqItems hTI rfl ?_)))
  show wpAny _ _ (Builtin.SmallTypes.ownedTupleIsFree (.ref z) >>= _) _ _ _; refine wpAny_bind ?_
  unfold Builtin.SmallTypes.ownedTupleIsFree; refine wpAny_bind (wpAny_field hz rfl (x := .none) rfl (wpAny_pure ?_)); simp only [if_true]
  refine wpAny_bind (wpAny_rule (wpAny_bind (wpAny_field hz rfl (x := .ref TO) rfl (wpAny_bind (wpAny_setField_rec hz (by simp) fun g1 hz1 s1 => ?_))))); replace hz1 : IsZip g1 z TI TO .ellipsis := hz1
  refine wpAny_bind ?_; simp only [List.zipIdx_cons, List.zipIdx_nil, List.forIn_cons, List.forIn_nil]
  -- the first
  refine wpAny_bind (wpAny_bind (wpAny_onRaise ?_)); show wpAny _ _ (Builtin.SmallTypes.nextOf (.ref i1) >>= _) _ _ _
  refine wpAny_bind (wpAny_nextOf_list_item (h1.extBut s1.extBut (Ne.symm n3)) (hl1.extBut s1.extBut c1) hx fun g2 q1 s2 => wpAny_pure ?_)
  have w2 : IsTrip g2 TO a b c := s2.extBut _ _ n10 (s1.extBut _ _ (Ne.symm n2) hTO)
  refine wpAny_bind (wpAny_seqItems w2 rfl (wpAny_bind (updTrip w2 fun g3 w3 s3 => wpAny_bind (wpAny_letGo (wpAny_pure ?_))))); replace w3 : IsTrip g3 TO x b c := w3
  -- the second
  refine wpAny_bind (wpAny_bind (wpAny_onRaise ?_)); show wpAny _ _ (Builtin.SmallTypes.nextOf (.ref i2) >>= _) _ _ _
  refine wpAny_bind (nextOf_tup (((h2.extBut s1.extBut (Ne.symm n4)).extBut s2.extBut (Ne.symm n13)).extBut s3.extBut (Ne.symm n11)) (((hl2.extBut s1.extBut d1).extBut s2.extBut d4).extBut s3.extBut d3) hy fun g4 q2 s4 => wpAny_pure ?_)
  have w4 : IsTrip g4 TO x b c := s4.extBut _ _ n11 w3
  refine wpAny_bind (wpAny_seqItems w4 rfl (wpAny_bind (updTrip w4 fun g5 w5 s5 => wpAny_bind (wpAny_letGo (wpAny_pure ?_))))); replace w5 : IsTrip g5 TO x y c := w5
  -- the third
  refine wpAny_bind (wpAny_bind (wpAny_onRaise ?_)); show wpAny _ _ (Builtin.SmallTypes.nextOf (.ref i3) >>= _) _ _ _
  refine wpAny_bind (nextOf_tup (((((h3.extBut s1.extBut (Ne.symm n5)).extBut s2.extBut (Ne.symm n14)).extBut s3.extBut (Ne.symm n12)).extBut s4.extBut (Ne.symm n15)).extBut s5.extBut (Ne.symm n12)) (((((hl3.extBut s1.extBut f1).extBut s2.extBut f4).extBut s3.extBut f3).extBut s4.extBut f5).extBut s5.extBut f3) hv fun g6 q3 s6 => wpAny_pure ?_)
  have w6 : IsTrip g6 TO x y c := s6.extBut _ _ n12 w5
  refine wpAny_bind (wpAny_seqItems w6 rfl (wpAny_bind (updTrip w6 fun g7 w7 s7 => wpAny_bind (wpAny_letGo (wpAny_pure (wpAny_pure ?_)))))); replace w7 : IsTrip g7 TO x y v := w7
  refine wpAny_bind (wpAny_seqItems w7 rfl (wpAny_bind (wpAny_newTuple ?_)))
  have hsz : g7.objs.size = s.heap.objs.size := by rw [s7.1, s6.1, s5.1, s4.1, s3.1, s2.1, s1.1]
  have hz7 : IsZip g7 z TI TO .ellipsis := s7.extBut _ _ n2 (s6.extBut _ _ n5 (s5.extBut _ _ n2 (s4.extBut _ _ n4 (s3.extBut _ _ n2 (s2.extBut _ _ n3 hz1)))))
  have kp : ∀ c o, c ∉ [z, TO, i1, i2, i3] → s.heap.get? c = some o → g7.get? c = some o := fun c o hc e => by
    simp only [List.mem_cons, List.not_mem_nil, or_false, not_or] at hc
    exact s7.extBut _ _ hc.2.1 (s6.extBut _ _ hc.2.2.2.2 (s5.extBut _ _ hc.2.1 (s4.extBut _ _ hc.2.2.2.1 (s3.extBut _ _ hc.2.1 (s2.extBut _ _ hc.2.2.1 (s1.extBut _ _ hc.1 e))))))
  have r1 : g7.IsListIter i1 l1 (k + 1) := ((((q1.extBut s3.extBut (Ne.symm n10)).extBut s4.extBut n13).extBut s5.extBut (Ne.symm n10)).extBut s6.extBut n14).extBut s7.extBut (Ne.symm n10)
  have r2 : g7.IsTupleIter i2 t2 (k + 1) := ((q2.extBut s5.extBut (Ne.symm n11)).extBut s6.extBut n15).extBut s7.extBut (Ne.symm n11)
  have r3 : g7.IsTupleIter i3 t3 (k + 1) := q3.extBut s7.extBut (Ne.symm n12)
  have zl : z < g7.objs.size := Heap.lt_size hz7
  show wpAny _ _ (Builtin.SmallTypes.ownedTupleHandOut (.ref z) (.ref g7.objs.size) >>= _) _ _ _; refine wpAny_bind ?_; unfold Builtin.SmallTypes.ownedTupleHandOut
  have hz8 : IsZip (g7.push { cls := .type "tuple", data := .seq #[x, y, v] }) z TI TO .ellipsis := Heap.get?_push_of_some _ hz7
  refine wpAny_bind (wpAny_setField_rec hz8 (by simp) fun g9 hz9 s9 => ?_); replace hz9 : IsZip g9 z TI TO (rawInt g7.objs.size) := hz9
  refine wpAny_setField_rec hz9 (by simp) fun g10 hz10 s10 => ?_; replace hz10 : IsZip g10 z TI TO (rawInt g7.objs.size) := hz10
  have up : ∀ c o, c ≠ z → g7.get? c = some o → g10.get? c = some o := fun c o c1 e => s10.extBut _ _ c1 (s9.extBut _ _ c1 (Heap.get?_push_of_some _ e))
  have hT10 : IsTrip g10 g7.objs.size x y v := s10.extBut _ _ (Nat.ne_of_gt zl) (s9.extBut _ _ (Nat.ne_of_gt zl) (Heap.get?_push_size _ rfl))
  have sz10 : g10.objs.size = g7.objs.size + 1 := by rw [s10.1, s9.1, Heap.size_push]
  rw [hsz] at hz10 hT10 sz10; refine wpAny_pure ⟨_, rfl, ?_⟩; show Q (.ref g7.objs.size) _; rw [hsz]
  exact hQ g10 hz10 (up _ _ (Ne.symm n2) w7) (r1.at fun o e => up _ o (Ne.symm n3) e) (r2.at fun o e => up _ o (Ne.symm n4) e) (r3.at fun o e => up _ o (Ne.symm n5) e) hT10 sz10 fun c o hc e => up c o (fun q => hc (by simp [q])) (kp c o hc e)
theorem zip3_end {z TI TO i1 i2 i3 l1 t2 t3 : Addr} {k : Nat} {xs : Array Value} {a b c : Value} {Q : Fin → Shared → Prop} (hh : A.handled = none) (D : Ap3 z TI TO i1 i2 i3 l1 t2 t3)
    (hz : IsZip s.heap z TI TO .none) (hTI : IsTrip s.heap TI (.ref i1) (.ref i2) (.ref i3)) (h1 : s.heap.IsListIter i1 l1 k) (hl1 : s.heap.IsList l1 xs) (hx : xs[k]? = none)
    (hE : ∀ h' e, (∀ c o, c ∉ [z, TO, i1, i2, i3] → s.heap.get? c = some o → h'.get? c = some o) → (∃ o, h'.get? e = some o ∧ o.cls = .type "StopIteration") → E (.ref e) { s with heap := h' }) :
    wpAny (model prog w) A (Builtin.«zip.__next__» ⟨[.ref z], []⟩) Q E s := by
  obtain ⟨nd, b1, _, _⟩ := D
  simp only [List.nodup_cons, List.mem_cons, List.not_mem_nil, or_false, not_or, not_false_eq_true, List.nodup_nil, and_true] at nd b1
  obtain ⟨⟨n1, n2, n3, n4, n5⟩, _⟩ := nd
  show wpAny _ _ (field (.ref z) 2 >>= _) _ _ _; refine wpAny_bind (wpAny_field hz rfl (x := .bool false) rfl ?_)
  show wpAny _ _ (field (.ref z) 3 >>= _) _ _ _; refine wpAny_bind (wpAny_field hz rfl (x := .ref TI) rfl (wpAny_bind (wpAny_seqItems hTI rfl ?_)))
  show wpAny _ _ (Builtin.SmallTypes.ownedTupleIsFree (.ref z) >>= _) _ _ _; refine wpAny_bind ?_
  unfold Builtin.SmallTypes.ownedTupleIsFree; refine wpAny_bind (wpAny_field hz rfl (x := .none) rfl (wpAny_pure ?_)); simp only [if_true]
  refine wpAny_bind (wpAny_rule (wpAny_bind (wpAny_field hz rfl (x := .ref TO) rfl (wpAny_bind (wpAny_setField_rec hz (by simp) fun g1 hz1 s1 => ?_))))); replace hz1 : IsZip g1 z TI TO .ellipsis := hz1
  refine wpAny_bind ?_; simp only [List.zipIdx_cons, List.zipIdx_nil, List.forIn_cons, List.forIn_nil]
  refine wpAny_bind (wpAny_bind (wpAny_onRaise ?_)); show wpAny _ _ (Builtin.SmallTypes.nextOf (.ref i1) >>= _) _ _ _
  refine wpAny_bind (wpAny_nextOf_list_end hh (h1.extBut s1.extBut (Ne.symm n3)) (hl1.extBut s1.extBut b1.1) hx fun g2 e s2 he => ?_); obtain ⟨oe, hoe, hce⟩ := he
  have hz2 : IsZip g2 z TI TO .ellipsis := s2 _ _ n3 hz1
  have hez : e ≠ z := fun q => by subst q; rw [hz2] at hoe; cases hoe; simp at hce
  refine wpAny_setField_rec hz2 (by simp) fun g3 _ s3 => hE g3 e (fun c o hc q => ?_) ⟨oe, s3.extBut _ _ hez hoe, hce⟩
  simp only [List.mem_cons, List.not_mem_nil, or_false, not_or] at hc
  exact s3.extBut _ _ hc.1 (s2 _ _ hc.2.2.1 (s1.extBut _ _ hc.1 q))
theorem next3_item {z TI TO i1 i2 i3 l1 t2 t3 : Addr} {k : Nat} {xs ys zs : Array Value} {x y v a b c : Value} {Q : Option Value → Shared → Prop} (D : Ap3 z TI TO i1 i2 i3 l1 t2 t3)
    (hz : IsZip s.heap z TI TO .none) (hTI : IsTrip s.heap TI (.ref i1) (.ref i2) (.ref i3)) (hTO : IsTrip s.heap TO a b c) (h1 : s.heap.IsListIter i1 l1 k) (h2 : s.heap.IsTupleIter i2 t2 k) (h3 : s.heap.IsTupleIter i3 t3 k)
    (hl1 : s.heap.IsList l1 xs) (hl2 : s.heap.IsTuple t2 ys) (hl3 : s.heap.IsTuple t3 zs) (hx : xs[k]? = some x) (hy : ys[k]? = some y) (hv : zs[k]? = some v)
    (hQ : ∀ h', IsZip h' z TI TO (rawInt s.heap.objs.size) → IsTrip h' TO x y v → h'.IsListIter i1 l1 (k + 1) → h'.IsTupleIter i2 t2 (k + 1) → h'.IsTupleIter i3 t3 (k + 1) → IsTrip h' s.heap.objs.size x y v → h'.objs.size = s.heap.objs.size + 1 →
      (∀ c o, c ∉ [z, TO, i1, i2, i3] → s.heap.get? c = some o → h'.get? c = some o) → Q (some (.ref s.heap.objs.size)) { s with heap := h' }) : wpAny (model prog w) A (pyNext (.ref z)) Q E s := by
  have hT : s.TypeIs (.ref z) "zip" := ⟨_, hz, rfl⟩; unfold pyNext
  exact wpAny_bind (wpAny_attempt (wpAny_callSpecial?_slot (name := Str.ofString "__next__") hT F.slot_zip_next (wpAny_call_entry F.slot_zip_next hT F.entry_zip_next (zip3_item D hz hTI hTO h1 h2 h3 hl1 hl2 hl3 hx hy hv fun h' a1 a2 a3 a4 a5 a6 a7 a8 => wpAny_pure (hQ h' a1 a2 a3 a4 a5 a6 a7 a8)) (F.args_zip_next_1 _))))
theorem next3_end {z TI TO i1 i2 i3 l1 t2 t3 : Addr} {k : Nat} {xs : Array Value} {Q : Option Value → Shared → Prop} (hh : A.handled = none) (D : Ap3 z TI TO i1 i2 i3 l1 t2 t3)
    (hz : IsZip s.heap z TI TO .none) (hTI : IsTrip s.heap TI (.ref i1) (.ref i2) (.ref i3)) (h1 : s.heap.IsListIter i1 l1 k) (hl1 : s.heap.IsList l1 xs) (hx : xs[k]? = none)
    (hQ : ∀ h', (∀ c o, c ∉ [z, TO, i1, i2, i3] → s.heap.get? c = some o → h'.get? c = some o) → Q none { s with heap := h' }) : wpAny (model prog w) A (pyNext (.ref z)) Q E s := by
  have hT : s.TypeIs (.ref z) "zip" := ⟨_, hz, rfl⟩; unfold pyNext
  refine wpAny_bind (wpAny_attempt (wpAny_callSpecial?_slot (name := Str.ofString "__next__") hT F.slot_zip_next (wpAny_call_entry F.slot_zip_next hT F.entry_zip_next (zip3_end (a := .none) (b := .none) (c := .none) hh D hz hTI h1 hl1 hx fun h' e hk he => ?_) (F.args_zip_next_1 _))))
  obtain ⟨o, ho, hc⟩ := he; exact wpAny_bind (wpAny_isInstance (T := "StopIteration") (b := true) ⟨o, ho, hc⟩ isSubtype_stop (wpAny_pure (hQ _ hk)))
theorem typeCall_zip_3 (a b c : Value) : checkTypeCall "zip" ⟨[a, b, c], []⟩ = pure () := by kernel_rfl
theorem newCall_zip_3 (a b c : Value) : checkBuiltinCall "zip.__new__" ⟨[.type "zip", a, b, c], []⟩ = pure () := by kernel_rfl
theorem args_init_4 (a b c d : Value) : argsOk "object.__init__" ⟨[a, b, c, d], []⟩ := by unfold argsOk; rw [signature?_of (id := "object.__init__") (n := ['_', '_', 't', 'i', 'n', 'i', '_', '_']) (o := ['t', 'c', 'e', 'j', 'b', 'o']) (by kernel_rfl) F.owner_object]; kernel_rfl
abbrev zp1 (h : Heap) (l : Addr) : Heap := h.push { cls := .type "list_iterator", data := .fields #[.ref l, .int 0 0] }
abbrev zp2 (h : Heap) (l t : Addr) : Heap := (zp1 h l).push { cls := .type "tuple_iterator", data := .fields #[.ref t, .int 0 0] }
abbrev zp3 (h : Heap) (l t u : Addr) : Heap := (zp2 h l t).push { cls := .type "tuple_iterator", data := .fields #[.ref u, .int 0 0] }
abbrev zp4 (h : Heap) (l t u : Addr) : Heap := (zp3 h l t u).push { cls := .type "tuple", data := .seq #[.ref h.objs.size, .ref (zp1 h l).objs.size, .ref (zp2 h l t).objs.size] }
abbrev zp5 (h : Heap) (l t u : Addr) : Heap := (zp4 h l t u).push { cls := .type "tuple", data := .seq #[.none, .none, .none] }
abbrev zp6 (h : Heap) (l t u : Addr) : Heap := (zp5 h l t u).push { cls := .type "zip", data := .fields #[.none, .bool false, .bool false, .ref (zp3 h l t u).objs.size, .ref (zp4 h l t u).objs.size] }
theorem zip_new3 (l t u : Addr) (xs ys zs : Array Value) : Meets (Builtin.«zip.__new__» ⟨[.type "zip", .ref l, .ref t, .ref u], []⟩) (fun _ R s => s.heap.IsList l xs ∧ s.heap.IsTuple t ys ∧ s.heap.IsTuple u zs ∧ R (.ok (.ret (.ref (zp5 s.heap l t u).objs.size))) { s with heap := zp6 s.heap l t u }) :=
  .of_wp fun prog w A R s h => by
    obtain ⟨hp, g, d, tk, os⟩ := s; obtain ⟨hl, ht, hu, h⟩ := h
    have hsub := sub_zip
    have k1 : Heap.IsList (Shared.heap ⟨hp, g, d, tk, os⟩) l xs := hl
    have k2 : Heap.IsTuple (Shared.heap ⟨zp1 hp l, g, d, tk, os⟩) t ys := Heap.IsTuple.push ht _
    have k3 : Heap.IsTuple (Shared.heap ⟨zp2 hp l t, g, d, tk, os⟩) u zs := Heap.IsTuple.push (Heap.IsTuple.push hu _) _
    wp_walk using wpAny_pyIter_list k1, wpAny_pyIter_tuple k2, wpAny_pyIter_tuple k3
    exact ⟨_, rfl, h⟩
theorem call_zip3 {l t u : Addr} {xs ys zs : Array Value} {Q : Value → Shared → Prop} (hl : s.heap.IsList l xs) (ht : s.heap.IsTuple t ys) (hu : s.heap.IsTuple u zs)
    (h : ∀ h', IsZip h' (s.heap.objs.size + 5) (s.heap.objs.size + 3) (s.heap.objs.size + 4) .none → IsTrip h' (s.heap.objs.size + 3) (.ref s.heap.objs.size) (.ref (s.heap.objs.size + 1)) (.ref (s.heap.objs.size + 2)) → IsTrip h' (s.heap.objs.size + 4) .none .none .none →
      h'.IsListIter s.heap.objs.size l 0 → h'.IsTupleIter (s.heap.objs.size + 1) t 0 → h'.IsTupleIter (s.heap.objs.size + 2) u 0 → h'.objs.size = s.heap.objs.size + 6 → (∀ c o, s.heap.get? c = some o → h'.get? c = some o) → Q (.ref (s.heap.objs.size + 5)) { s with heap := h' }) :
    wpAny (model prog w) A (call (.type "zip") [.ref l, .ref t, .ref u]) Q E s := by
  refine callType_new F.called_zip (by decide) (typeCall_zip_3 _ _ _) (newCall_zip_3 _ _ _) (fun obj => args_init_4 obj _ _ _) F.entry_zip_new (zip_new3 l t u xs ys zs) ⟨hl, ht, hu, ?_⟩
  have z1 : (zp1 s.heap l).objs.size = s.heap.objs.size + 1 := Heap.size_push ..
  have z2 : (zp2 s.heap l t).objs.size = s.heap.objs.size + 2 := by rw [Heap.size_push, z1]
  have z3 : (zp3 s.heap l t u).objs.size = s.heap.objs.size + 3 := by rw [Heap.size_push, z2]
  have z4 : (zp4 s.heap l t u).objs.size = s.heap.objs.size + 4 := by rw [Heap.size_push, z3]
  have z5 : (zp5 s.heap l t u).objs.size = s.heap.objs.size + 5 := by rw [Heap.size_push, z4]
  have z6 : (zp6 s.heap l t u).objs.size = s.heap.objs.size + 6 := by rw [Heap.size_push, z5]
  have P : ∀ {h : Heap} {c : Addr} {o o' : Obj}, h.get? c = some o → (h.push o').get? c = some o := fun e => Heap.get?_push_of_some _ e
  have g6 : (zp6 s.heap l t u).get? (zp5 s.heap l t u).objs.size = some _ := Heap.get?_push_size _ rfl
  have g5 : (zp6 s.heap l t u).get? (zp4 s.heap l t u).objs.size = some _ := P (Heap.get?_push_size _ rfl)
  have g4 : (zp6 s.heap l t u).get? (zp3 s.heap l t u).objs.size = some _ := P (P (Heap.get?_push_size _ rfl))
  have g3 : (zp6 s.heap l t u).get? (zp2 s.heap l t).objs.size = some _ := P (P (P (Heap.get?_push_size _ rfl)))
  have g2 : (zp6 s.heap l t u).get? (zp1 s.heap l).objs.size = some _ := P (P (P (P (Heap.get?_push_size _ rfl))))
  have g1 : (zp6 s.heap l t u).get? s.heap.objs.size = some _ := P (P (P (P (P (Heap.get?_push_size _ rfl)))))
  show _ ∧ _
  rw [z3, z4, z5] at g6
  rw [z1, z2, z3] at g4
  rw [z4] at g5
  rw [z1] at g2
  rw [z2] at g3
  rw [z5]
  exact ⟨⟨_, g6, rfl⟩, h _ g6 g4 g5 ⟨_, g1, rfl, rfl⟩ ⟨_, g2, rfl, rfl⟩ ⟨_, g3, rfl, rfl⟩ z6 fun c o x => P (P (P (P (P (P x)))))⟩
end
def Itz3 (K : PySem.W.Frag) (a b c : Addr) : It :=
  ⟨fun i H => ∃ (xs ys zs : List V) (x y v : V), SqL K H a xs ∧ SqT K H b ys ∧ SqT K H c zs ∧ xs[i]? = some x ∧ ys[i]? = some y ∧ zs[i]? = some v,
    fun i H v H' => ∃ T x y u, v = .ref T ∧ H T = none ∧ H' = upd H T (.tup [x, y, u]) ∧ (∀ xs, SqL K H a xs → xs[i]? = some x) ∧ (∀ ys, SqT K H b ys → ys[i]? = some y) ∧ ∀ zs, SqT K H c zs → zs[i]? = some u,
    fun i H => ∃ xs : List V, SqL K H a xs ∧ xs.length ≤ i⟩
theorem turn_zip3 {P : Program} {w : World} {K : PySem.W.Frag} {elts : List Expr} {kk : Nat} {tpos : Pos} {a b c z TI TO i1 i2 i3 : Addr} (D : Ap3 z TI TO i1 i2 i3 a b c) :
    Turn P w K (.Tuple elts kk tpos) (Itz3 K a b c) [z, TI, TO, i1, i2, i3] z (fun i h => IsZip h z TI TO .none ∧ IsTrip h TI (.ref i1) (.ref i2) (.ref i3) ∧ (∃ x y v, IsTrip h TO x y v) ∧ h.IsListIter i1 a i ∧ h.IsTupleIter i2 b i ∧ h.IsTupleIter i3 c i) where
  mem := by simp
  obj := fun i h st d hd => by
    obtain ⟨hz, hTI, ⟨x, y, v, hTO⟩, ⟨o1, e1, _, d1⟩, ⟨o2, e2, _, d2⟩, ⟨o3, e3, _, d3⟩⟩ := st
    have e' : d = z ∨ d = TI ∨ d = TO ∨ d = i1 ∨ d = i2 ∨ d = i3 := by simpa using hd
    rcases e' with q | q | q | q | q | q
    · rw [q]; exact ⟨_, hz, fun v q => nomatch q⟩
    · rw [q]; exact ⟨_, hTI, fun v q => nomatch q⟩
    · rw [q]; exact ⟨_, hTO, fun v q => nomatch q⟩
    · rw [q]; exact ⟨o1, e1, fun v q => by rw [d1] at q; cases q⟩
    · rw [q]; exact ⟨o2, e2, fun v q => by rw [d2] at q; cases q⟩
    · rw [q]; exact ⟨o3, e3, fun v q => by rw [d3] at q; cases q⟩
  keep := fun i h h' st k => by
    obtain ⟨hz, hTI, ⟨x, y, v, hTO⟩, h1, h2, h3⟩ := st
    exact ⟨k z (by simp) _ hz, k TI (by simp) _ hTI, ⟨x, y, v, k TO (by simp) _ hTO⟩, h1.at fun o q => k i1 (by simp) o q, h2.at fun o q => k i2 (by simp) o q, h3.at fun o q => k i3 (by simp) o q⟩
  item := by
    intro X hP hw hK hc i pins s σ H E I hf st hg
    subst hP hw hK
    obtain ⟨hz, hTI, ⟨x0, y0, v0, hTO⟩, h1, h2, h3⟩ := st
    obtain ⟨xs, ys, zs, x, y, v, hqx, hqy, hqz, hx, hy, hv⟩ := hg
    obtain ⟨its, rv, p, _⟩ := I.list hqx
    obtain ⟨its2, rv2, p2, _⟩ := I.tuple hqy
    obtain ⟨its3, rv3, p3, _⟩ := I.tuple hqz
    obtain ⟨u, hu, ru⟩ := rv.get hx
    obtain ⟨u2, hu2, ru2⟩ := rv2.get hy
    obtain ⟨u3, hu3, ru3⟩ := rv3.get hv
    have hzl : z < s.heap.objs.size := Heap.lt_size hz
    refine next3_item D hz hTI hTO h1 h2 h3 p.isList p2 p3 (x := u) (y := u2) (v := u3) (by simpa using hu) (by simpa using hu2) (by simpa using hu3) fun h' z' TO' h1' h2' h3' hT hsz hk => ?_
    refine ⟨_, rfl, wpAny_letOwnedTupleGo_zip (s := { s with heap := h' }) z' fun h'' z'' sb => ?_⟩
    have hT2 : h''.get? s.heap.objs.size = some { cls := .type "tuple", data := .seq #[u, u2, u3] } := (sb.2 _ (Nat.ne_of_gt hzl)).trans hT
    have new : ObjOk X.prog X.w (upd H s.heap.objs.size (.tup [x, y, v])) h'' s.heap.objs.size (.tup [x, y, v]) :=
      ⟨by show 3 ≤ sizeLine; decide, [u, u2, u3], .cons ru (.cons ru2 (.cons ru3 .nil)), ⟨_, hT2, rfl, _, rfl⟩⟩
    have nin : ∀ d, d ∉ [z, TI, TO, i1, i2, i3] → d ∉ [z, TO, i1, i2, i3] := fun d hd q => hd (by simp at q ⊢; rcases q with q | q | q | q | q <;> simp [q])
    have I1 : Inv X pins σ (upd H s.heap.objs.size (.tup [x, y, v])) { s with heap := h'' } :=
      I.turnedNew (t' := s.toks) (ch := [z, TI, TO, i1, i2, i3]) (fun d o hb q => (sb.2 d (fun q' => hb (by simp [q']))).trans (hk d o (nin d hb) q)) hf (Nat.le_refl _) new
    have nd := D.nd
    simp only [List.nodup_cons, List.mem_cons, List.not_mem_nil, or_false, not_or, not_false_eq_true, List.nodup_nil, and_true] at nd
    obtain ⟨⟨n1, n2, n3, n4, n5⟩, ⟨n6, n7, n8, n9⟩, _⟩ := nd
    have hTI' : TI ∉ [z, TO, i1, i2, i3] := by simp [Ne.symm n1, n6, n7, n8, n9]
    refine ⟨.ref s.heap.objs.size, _, I1, rfl, ⟨_, x, y, v, rfl, I.hok.fresh (Nat.le_refl _), rfl, fun l hl => by rw [I.list_inj hl hqx]; exact hx, fun l hl => by rw [I.tuple_inj hl hqy]; exact hy, fun l hl => by rw [I.tuple_inj hl hqz]; exact hv⟩, ⟨z'', ?_, ⟨u, u2, u3, ?_⟩, ?_, ?_, ?_⟩, fun d hcm => ?_⟩
    · exact (sb.2 _ (Ne.symm n1)).trans (hk _ _ hTI' hTI)
    · exact (sb.2 _ (Ne.symm n2)).trans TO'
    · exact h1'.at fun o q => (sb.2 _ (Ne.symm n3)).trans q
    · exact h2'.at fun o q => (sb.2 _ (Ne.symm n4)).trans q
    · exact h3'.at fun o q => (sb.2 _ (Ne.symm n5)).trans q
    · have hlt : d < s.heap.objs.size := by
        have e' : d = z ∨ d = TI ∨ d = TO ∨ d = i1 ∨ d = i2 ∨ d = i3 := by simpa using hcm
        rcases e' with q | q | q | q | q | q
        · rw [q]; exact hzl
        · rw [q]; exact Heap.lt_size hTI
        · rw [q]; exact Heap.lt_size hTO
        · rw [q]; obtain ⟨_, e1, _⟩ := h1; exact Heap.lt_size e1
        · rw [q]; obtain ⟨_, e2, _⟩ := h2; exact Heap.lt_size e2
        · rw [q]; obtain ⟨_, e3, _⟩ := h3; exact Heap.lt_size e3
      rw [upd_ne (Nat.ne_of_lt hlt)]
      exact (hf d hcm).1
  done := by
    intro X hP hw hK hc i pins s σ H E I hf st hg
    subst hP hw hK
    obtain ⟨hz, hTI, ⟨x0, y0, v0, hTO⟩, h1, h2, h3⟩ := st
    obtain ⟨xs, hqx, hend⟩ := hg
    obtain ⟨its, rv, p, _⟩ := I.list hqx
    have l1 := rv.length
    have nin : ∀ d, d ∉ [z, TI, TO, i1, i2, i3] → d ∉ [z, TO, i1, i2, i3] := fun d hd q => hd (by simp at q ⊢; rcases q with q | q | q | q | q <;> simp [q])
    exact next3_end (I.ok.hd hc) D hz hTI h1 p.isList (by simp; omega) fun h' hk => ⟨rfl, I.turnedL (t' := s.toks) (ch := [z, TI, TO, i1, i2, i3]) (fun d o hb q => hk d o (nin d hb) q) hf⟩
  self := fun A i s Q E st h => wpAny_pyIter_zip st.1 h
def iZip3 (K : PySem.W.Frag) (ta : TA) : TI := fun σ H R => ta σ H fun vs H1 => ∃ a b c xs ys zs, vs = [.ref a, .ref b, .ref c] ∧ SqL K H1 a xs ∧ SqT K H1 b ys ∧ SqT K H1 c zs ∧ R (Itz3 K a b c) H1
theorem pi_zip3 {X : Cx} {e e2 e3 : Expr} {ta : TA} {p pos tpos : Pos} {elts : List Expr} {kk : Nat} (hg : Gl X "zip") (hm : X.mg "zip" = none) (ha : PA X [e, e2, e3] ta)
    (hs : starEach [e, e2, e3] X.env = (false, eval e X.env) :: starEach [e2, e3] X.env := by rfl) (hpl : (backTo pos (starEach [e2, e3] X.env)).any (·.1) = false := by rfl) :
    PI X (.Tuple elts kk tpos) (.Call (.Name "zip" p) [e, e2, e3] [] pos) (iZip3 X.K ta) := by
  intro pins s σ H R I h
  refine Call_ (ld_blt I hg hm boot_zip5 (PyProof.Rows.callWith_type1 (thn (ha pos pins s σ H _ I h) fun us s1 ⟨vs, H1, I1, r1, q1⟩ => ?_) hs hpl))
  obtain ⟨a, b, c, xs, ys, zs, ex, hqx, hqy, hqz, q⟩ := q1
  subst ex
  cases r1 with
  | cons r rr =>
  cases rr with
  | cons r' rr =>
  cases rr with
  | cons r'' rr =>
  cases rr
  cases r
  cases r'
  cases r''
  obtain ⟨its, rv, p1, _⟩ := I1.list hqx
  obtain ⟨its2, rv2, p2, _⟩ := I1.tuple hqy
  obtain ⟨its3, rv3, p3, _⟩ := I1.tuple hqz
  have la : a < s1.heap.objs.size := p1.lt
  have lb : b < s1.heap.objs.size := by obtain ⟨_, e, _⟩ := p2; exact Heap.lt_size e
  have lc : c < s1.heap.objs.size := by obtain ⟨_, e, _⟩ := p3; exact Heap.lt_size e
  refine call_zip3 p1.isList p2 p3 fun h' hz hTI hTO h1 h2 h3 hsz hk => wpAny_pyIter_zip hz ?_
  have I2 : Inv X pins σ H1 { s1 with heap := h' } := I1.kept (t' := s1.toks) hk
  have big : ∀ {d : Addr}, d ∈ [s1.heap.objs.size + 5, s1.heap.objs.size + 3, s1.heap.objs.size + 4, s1.heap.objs.size, s1.heap.objs.size + 1, s1.heap.objs.size + 2] → s1.heap.objs.size ≤ d := fun {d} hd => by
    have e' : d = s1.heap.objs.size + 5 ∨ d = s1.heap.objs.size + 3 ∨ d = s1.heap.objs.size + 4 ∨ d = s1.heap.objs.size ∨ d = s1.heap.objs.size + 1 ∨ d = s1.heap.objs.size + 2 := by simpa using hd
    rcases e' with q | q | q | q | q | q
    · rw [q]; exact Nat.le_add_right _ _
    · rw [q]; exact Nat.le_add_right _ _
    · rw [q]; exact Nat.le_add_right _ _
    · rw [q]; exact Nat.le_refl _
    · rw [q]; exact Nat.le_add_right _ _
    · rw [q]; exact Nat.le_add_right _ _
  have far : ∀ {d : Addr}, d < s1.heap.objs.size → d ∉ [s1.heap.objs.size + 5, s1.heap.objs.size + 3, s1.heap.objs.size + 4, s1.heap.objs.size, s1.heap.objs.size + 1, s1.heap.objs.size + 2] := fun h q => absurd (big q) (Nat.not_le.mpr h)
  refine ⟨s1.heap.objs.size + 5, [s1.heap.objs.size + 5, s1.heap.objs.size + 3, s1.heap.objs.size + 4, s1.heap.objs.size, s1.heap.objs.size + 1, s1.heap.objs.size + 2], _, _, H1, rfl, I2, turn_zip3 ⟨by simp, ?_, ?_, ?_⟩, ⟨hz, hTI, ⟨_, _, _, hTO⟩, h1, h2, h3⟩, fun d hcm => ?_, q⟩
  · exact far la
  · exact far lb
  · exact far lc
  · have hle := big hcm
    exact I1.fpOk hle (I1.hok.fresh hle)
theorem lc_zip3 {K : PySem.W.Frag} {a b c : Addr} {xs ys zs : List V} {n : Nat} {g : TG} {te : TE} {vs : List Nat} {σ : St} {H1 : Hp} {D : Addr} {Qd : Hp → Prop} (R : Nat → Hp → V → Prop) (hR : ∀ i H H' v, SameX D H H' → R i H v → R i H' v) (hD : H1 D = none) (lx : xs.length = n) (ly : ys.length = n) (lz : zs.length = n) (hz : n ≤ sizeLine) (ha : SqL K H1 a xs) (hb : SqT K H1 b ys) (hc : SqT K H1 c zs)
    (hs : ∀ (i : Nat) (x y u : V) (T : Addr) (H : Hp) (Q : VK), xs[i]? = some x → ys[i]? = some y → zs[i]? = some u → Same H1 H → H D ≠ none → H T = none → (∀ v H'', Same H H'' → R i H'' v → Q v H'') → g (.ref T) (wipe σ vs) (upd H T (.tup [x, y, u])) fun σ2 H2 => wipe σ2 vs = wipe σ vs ∧ te σ2 H2 Q)
    (hd : ∀ H ws, Same H1 H → H D = some (.lst ws) → ws.length = n → (∀ (i : Nat) (v : V), ws[i]? = some v → R i H v) → Qd H) :
    ∃ W : Nat → Nat → Hp → Prop, (∃ m, W 0 m (upd H1 D (.lst []))) ∧ ∀ i m H, W i m H →
      ((Itz3 K a b c).stop i H ∧ Qd H) ∨ ((Itz3 K a b c).go i H ∧ ∃ Nx : Hp → Prop, (∀ H', Nx H' → ∃ m', m' < m ∧ W (i + 1) m' H') ∧ ∀ x H', (Itz3 K a b c).yld i H x H' → g x (wipe σ vs) H' fun σ2 H2 => wipe σ2 vs = wipe σ vs ∧ tYes σ2 H2 fun b H3 =>
        if b = true then te σ2 H3 fun y H4 => ∃ acc, H4 D = some (.lst acc) ∧ acc.length < sizeLine ∧ Nx (upd H4 D (.lst (acc ++ [y]))) else Nx H3) := by
  refine lc_any (J := Itz3 K a b c) (n := n) R hR hD hz (fun H g => ⟨xs, g.seq ha, Nat.le_of_eq lx⟩) (fun i H hi g => ⟨xs, ys, zs, _, _, _, g.seq ha, g.seqT hb, g.seqT hc, List.getElem?_eq_getElem (by omega), List.getElem?_eq_getElem (by omega), List.getElem?_eq_getElem (by omega)⟩) (fun i x H H' Q hi g nD y hQ => ?_) hd
  obtain ⟨T, x', y', u', rfl, nT, rfl, q1, q2, q3⟩ := y
  exact hs i x' y' u' T H Q (q1 _ (g.seq ha)) (q2 _ (g.seqT hb)) (q3 _ (g.seqT hc)) g nD nT hQ
theorem pg_three {X : Cx} (K : PySem.W.Frag) (i j l : Nat) {x y z : Str} {p1 p2 p3 pos : Pos} {k : Nat} (hc : X.calm = true) (hN : X.N.Nodup) (hK : X.K = K := by rfl) (hi : X.N[i]? = some x := by rfl) (hj : X.N[j]? = some y := by rfl) (hl : X.N[l]? = some z := by rfl)
    (hx : Loc X.env.scope x := by first | exact Or.inl rfl | exact Or.inr rfl) (hy : Loc X.env.scope y := by first | exact Or.inl rfl | exact Or.inr rfl) (hz : Loc X.env.scope z := by first | exact Or.inl rfl | exact Or.inr rfl)
    (hf : X.fn x = true ∨ X.env.scope.names.lookup x = some .local := by first | exact .inl rfl | exact .inr rfl) (hg : X.fn y = true ∨ X.env.scope.names.lookup y = some .local := by first | exact .inl rfl | exact .inr rfl) (hh : X.fn z = true ∨ X.env.scope.names.lookup z = some .local := by first | exact .inl rfl | exact .inr rfl) :
    PG X (.Tuple [.Name x p1, .Name y p2, .Name z p3] k pos) (gTup K 3 (gCons (gName i) (gCons (gName j) (gCons (gName l) gNil)))) := by
  subst hK
  exact pg_tup hc (pgs_cons (pg_name hN hi hx hf) (pgs_cons (pg_name hN hj hy hg) (pgs_cons (pg_name hN hl hz hh) pgs_nil)))
def SqK (K : PySem.W.Frag) (a : Addr) (xs : List V) : Prop := ∃ (o : Obj) (its : Array Value) (n : Nat), K.lookup a = some o ∧ o.cls = .type "tuple" ∧ o.data = .seq its n ∧ its.size ≤ sizeLine ∧ Vals xs its.toList
theorem SqK.sq {K : PySem.W.Frag} {a : Addr} {xs : List V} (h : SqK K a xs) {H : Hp} : SqT K H a xs := .inr h
def PaK (K : PySem.W.Frag) (a : Addr) (l : List (Int × Int)) : Prop := ∃ ps : List Addr, SqK K a (ps.map V.ref) ∧ Paired (fun (p : Addr) (x : Int × Int) => SqK K p [V.int x.1, V.int x.2]) ps l
end L2

namespace M
open Sh25
theorem num_iff {b : Nat} (hb : b < 2 ^ 64) : isNum b = true ↔ (b / 2 ^ 52) % 2048 ≠ 2047 := by
  unfold isNum SIGN INF
  rw [Bool.and_eq_true, decide_eq_true_eq, decide_eq_true_eq]
  omega
def szI (b : Nat) : Int := if 0 < b / 2 ^ 52 % 2048 then (((b % 2 ^ 52 : Nat) : Int) + 4503599627370496) * 2 ^ (b / 2 ^ 52 % 2048 - 1) else ((b % 2 ^ 52 : Nat) : Int)
theorem val_eq {b : Nat} (hb : b < 2 ^ 64) : val b = if b / 2 ^ 63 = 1 then -(szI b) else szI b := by
  unfold val SIGN
  have un : ∀ r : Nat, r < 2 ^ 63 → r % 2 ^ 52 = b % 2 ^ 52 → r / 2 ^ 52 = (b / 2 ^ 52) % 2048 → (units r : Int) = szI b := by
    intro r h0 h1 h2
    unfold units szI
    by_cases c : r < 2 ^ 52
    · rw [if_pos c, if_neg (by omega)]; omega
    · rw [if_neg c, if_pos (by omega), h1, h2, Nat.add_comm, Int.natCast_mul, Int.natCast_add, Int.natCast_pow]
      rfl
  by_cases c : b < 2 ^ 63
  · rw [if_pos c, if_neg (by omega), un b c rfl (by omega)]
  · rw [if_neg c, if_pos (by omega), un (b - 2 ^ 63) (by omega) (by omega) (by omega)]
end M

namespace M
open Sh25
theorem at_get {l : Vec} {i : Nat} {z : Int} (h : l[i]? = some z) : at_ l i = z := by
  unfold at_
  rw [List.getD_eq_getElem?_getD, h]; rfl
theorem sub_length (a b : Vec) : (sub a b).length = a.length := by unfold sub; rw [List.length_map, List.length_range]
def LB (B : Nat) (l : List Int) : Prop := ∀ z ∈ l, z.natAbs < 2 ^ B
theorem at_lb {B : Nat} {l : List Int} (h : LB B l) (i : Nat) : (at_ l i).natAbs < 2 ^ B := by
  unfold at_
  rw [List.getD_eq_getElem?_getD]
  cases e : l[i]? with
  | none => simp; exact Nat.two_pow_pos B
  | some z => exact h z (List.mem_of_getElem? e)
theorem lb_sub {B : Nat} {a b : List Int} (ha : LB B a) (hb : LB B b) : LB (B + 1) (sub a b) := by
  intro z hz
  unfold sub at hz
  obtain ⟨i, _, rfl⟩ := List.mem_map.mp hz
  have h1 := at_lb ha i
  have h2 := at_lb hb i
  rw [Nat.pow_succ]
  omega
theorem sum_bound {α : Type} {f : α → Int} {m : Nat} : ∀ {l : List α}, (∀ x ∈ l, (f x).natAbs ≤ m) → (l.map f).sum.natAbs ≤ l.length * m
  | [], _ => by simp
  | x :: r, h => by
    have h1 := h x List.mem_cons_self
    have h2 := sum_bound (l := r) fun y hy => h y (List.mem_cons_of_mem _ hy)
    rw [List.map_cons, List.sum_cons, List.length_cons, Nat.succ_mul]
    omega
theorem lb_minor {B : Nat} {m : List Vec} (h : ∀ r ∈ m, LB B r) (j : Nat) : ∀ r ∈ minor m j, LB B r := by
  intro r hr z hz
  unfold minor at hr
  obtain ⟨r', h1, rfl⟩ := List.mem_map.mp hr
  exact h r' h1 z (List.mem_of_mem_eraseIdx hz)
theorem det_bound {B : Nat} : ∀ {n : Nat} {m : List Vec}, n ≤ 7 → (∀ r ∈ m, LB B r) → (det n m).natAbs < 2 ^ (n * (B + 3) + 1)
  | 0, m, _, _ => by unfold det; rw [Nat.zero_mul]; decide
  | n + 1, [], _, _ => by unfold det; simp; exact Nat.two_pow_pos _
  | n + 1, r :: q, hn, h => by
    unfold det
    have hr := h r List.mem_cons_self
    have hq := fun j => lb_minor (fun r hr => h r (List.mem_cons_of_mem _ hr)) (m := q) j
    have key : ∀ j ∈ List.range (n + 1), ((if j % 2 = 0 then (1 : Int) else -1) * at_ r j * det n (minor q j)).natAbs ≤ 2 ^ B * 2 ^ (n * (B + 3) + 1) := by
      intro j _
      rw [Int.natAbs_mul, Int.natAbs_mul]
      have e : (if j % 2 = 0 then (1 : Int) else -1).natAbs = 1 := by split <;> rfl
      rw [e, Nat.one_mul]
      exact Nat.mul_le_mul (Nat.le_of_lt (at_lb hr j)) (Nat.le_of_lt (det_bound (by omega) (hq j)))
    have := sum_bound key
    rw [List.length_range] at this
    refine Nat.lt_of_le_of_lt this ?_
    have e1 : (n + 1) * (B + 3) + 1 = 3 + B + (n * (B + 3) + 1) := by rw [Nat.succ_mul]; omega
    have e2 : 2 ^ (3 + B + (n * (B + 3) + 1)) = 8 * (2 ^ B * 2 ^ (n * (B + 3) + 1)) := by
      rw [Nat.pow_add 2 (3 + B), Nat.pow_add 2 3, Nat.mul_assoc]
    rw [e1, e2]
    have p : 0 < 2 ^ B * 2 ^ (n * (B + 3) + 1) := Nat.mul_pos (Nat.two_pow_pos _) (Nat.two_pow_pos _)
    exact Nat.mul_lt_mul_of_pos_right (by omega) p
theorem units_lt {r : Nat} (h : r < INF) : units r < 2 ^ 2098 := by
  unfold units
  unfold INF at h
  split
  · rename_i c
    exact Nat.lt_of_lt_of_le c (Nat.pow_le_pow_right (by decide) (by decide))
  · have h1 : 2 ^ 52 + r % 2 ^ 52 < 2 ^ 53 := by omega
    have h2 : 2 ^ (r / 2 ^ 52 - 1) ≤ 2 ^ 2045 := Nat.pow_le_pow_right (by decide) (by omega)
    calc (2 ^ 52 + r % 2 ^ 52) * 2 ^ (r / 2 ^ 52 - 1) < 2 ^ 53 * 2 ^ (r / 2 ^ 52 - 1) := Nat.mul_lt_mul_of_pos_right h1 (Nat.two_pow_pos _)
      _ ≤ 2 ^ 53 * 2 ^ 2045 := Nat.mul_le_mul_left _ h2
      _ = 2 ^ 2098 := by rw [← Nat.pow_add]
theorem val_lt {b : Nat} (h : isNum b = true) : (val b).natAbs < 2 ^ 2098 := by
  unfold isNum at h
  rw [Bool.and_eq_true, decide_eq_true_eq, decide_eq_true_eq] at h
  unfold val
  split
  · rename_i c
    rw [Int.natAbs_natCast]
    exact units_lt (by rw [Nat.mod_eq_of_lt c] at h; exact h.2)
  · rename_i c
    rw [Int.natAbs_neg, Int.natAbs_natCast]
    refine units_lt ?_
    have : b % SIGN = b - SIGN := by unfold SIGN at *; omega
    rw [← this]; exact h.2
theorem lb_ex {l : List Nat} (h : ∀ b ∈ l, isNum b = true) : LB 2098 (ex l) := by
  intro z hz
  unfold ex at hz
  obtain ⟨b, hb, rfl⟩ := List.mem_map.mp hz
  exact val_lt (h b hb)
end M

namespace M
open PySem L2
def inW (a : List Int) : Prop := (∀ z ∈ a, 0 ≤ z ∧ z ≤ 18446744073709551615) ∧ a.length ≤ 12500
theorem ints_nats {a : List Int} (h : inW a) : Sh25.ints (Sh25Neutral.nats a) = a := by
  unfold Sh25.ints Sh25Neutral.nats
  rw [List.map_map]
  conv => rhs; rw [← List.map_id a]
  refine List.map_congr_left fun z hz => ?_
  have := (h.1 z hz).1
  show ((z.toNat : Nat) : Int) = z
  omega
theorem nats_lt {a : List Int} (h : inW a) : ∀ b ∈ Sh25Neutral.nats a, b < 2 ^ 64 := fun b hb => by
  unfold Sh25Neutral.nats at hb
  obtain ⟨z, hz, rfl⟩ := List.mem_map.mp hb
  have := h.1 z hz
  omega
theorem nats_len {a : List Int} (h : inW a) : (Sh25Neutral.nats a).length ≤ 100000 := by
  unfold Sh25Neutral.nats
  rw [List.length_map]
  have := h.2
  omega
def ansOf (x : Sh25.Ans) : List Int := if x.v < 0 then [x.v] else x.v :: x.l
theorem pt_lb {k : Nat} {l : List Nat} (h : Sh25.pt k l = true) : (Sh25.ex l).length = k ∧ LB 2098 (Sh25.ex l) := by
  unfold Sh25.pt at h
  rw [Bool.and_eq_true, beq_iff_eq, List.all_eq_true] at h
  exact ⟨by unfold Sh25.ex; rw [List.length_map]; exact h.1, lb_ex h.2⟩
theorem inW_of {least most : Nat} {a : List Int} (h : PySem.W.Codec.within (.list least most (.int 0 18446744073709551615)) a = true) (hm : most ≤ 12500) : inW a ∧ a.length ≤ sizeLine := by
  have h1 := PySem.W.Codec.and_of (show (PySem.W.Codec.inLen least most a && a.all (PySem.W.Codec.inInt 0 18446744073709551615)) = true from h)
  have h2 := PySem.W.Codec.inNat_iff.mp h1.1
  refine ⟨⟨fun z hz => PySem.W.Codec.inInt_iff.mp (List.all_eq_true.mp h1.2 z hz), by omega⟩, Nat.le_trans (by omega : a.length ≤ 12500) (by decide)⟩
theorem keepLI {K : PySem.W.Frag} {H H1 : Hp} {Pt : Addr} (hP : H Pt = some (.tbl #[])) (k1 : ∀ b o, b ≠ Pt → H b = some o → H1 b = some o) {v : V} {l : List Int} (h : LI K H v l) : LI K H1 v l := by
  obtain ⟨x, e, q⟩ := h
  refine ⟨x, e, ?_⟩
  rcases q with (q | ⟨o, q⟩) | q
  · exact .inl (.inl (k1 _ _ (fun z => by rw [z, hP] at q; cases q) q))
  · exact .inl (.inr ⟨o, k1 _ _ (fun z => by rw [z, hP] at q; cases q) q⟩)
  · exact .inr q
theorem dot_bound {B : Nat} {a b : List Int} (ha : LB B a) (hb : LB B b) (hl : a.length ≤ 7) : (Sh25.dot a b).natAbs < 2 ^ (2 * B + 3) := by
  unfold Sh25.dot
  have key : ∀ i ∈ List.range a.length, (Sh25.at_ a i * Sh25.at_ b i).natAbs ≤ 2 ^ B * 2 ^ B := fun i _ => by
    rw [Int.natAbs_mul]
    exact Nat.mul_le_mul (Nat.le_of_lt (at_lb ha i)) (Nat.le_of_lt (at_lb hb i))
  have := sum_bound key
  rw [List.length_range] at this
  refine Nat.lt_of_le_of_lt this ?_
  have e : 2 ^ (2 * B + 3) = 8 * (2 ^ B * 2 ^ B) := by
    rw [Nat.pow_add, Nat.mul_comm 2 B, Nat.pow_mul, Nat.pow_two, Nat.mul_comm]
  rw [e]
  exact Nat.mul_lt_mul_of_pos_right (by omega) (Nat.mul_pos (Nat.two_pow_pos _) (Nat.two_pow_pos _))
theorem far_sym (a b : List Int) (h : a.length = b.length) : Sh25.dot (Sh25.sub b a) (Sh25.sub b a) = Sh25.far a b := by
  unfold Sh25.far Sh25.dot
  rw [sub_length, sub_length, h]
  congr 1
  refine List.map_congr_left fun i hi => ?_
  have hi : i < b.length := List.mem_range.mp hi
  have e1 : Sh25.at_ (Sh25.sub b a) i = Sh25.at_ b i - Sh25.at_ a i := at_get (by unfold Sh25.sub; rw [List.getElem?_map, List.getElem?_range hi]; rfl)
  have e2 : Sh25.at_ (Sh25.sub a b) i = Sh25.at_ a i - Sh25.at_ b i := at_get (by unfold Sh25.sub; rw [List.getElem?_map, List.getElem?_range (by omega)]; rfl)
  rw [e1, e2, show Sh25.at_ a i - Sh25.at_ b i = -(Sh25.at_ b i - Sh25.at_ a i) by omega, Int.neg_mul_neg]
end M

set_option linter.all false
namespace M
open PySem L2
section
variable {a b c d : List Int} (la : a.length = 2) (lb : b.length = 2) (lc : c.length = 2) (ld : d.length = 2)
include la lb lc ld
end
end M

set_option linter.all false
namespace M
open Sh25
def bitsN (n : Nat) : Nat := if n = 0 then 0 else n.log2 + 1
theorem bits_le {n k : Nat} : bitsN n ≤ k ↔ n < 2 ^ k := by
  unfold bitsN
  by_cases h : n = 0
  · subst h; simp [Nat.two_pow_pos]
  · rw [if_neg h, Nat.succ_le_iff, Nat.log2_lt h]
theorem lt_bits {n k : Nat} : k < bitsN n ↔ 2 ^ k ≤ n := by
  have := @bits_le n k; omega
theorem bits_eq {n k : Nat} (h1 : 2 ^ k ≤ n) (h2 : n < 2 ^ (k + 1)) : bitsN n = k + 1 := by
  have a := lt_bits.mpr h1
  have b := bits_le.mpr h2
  omega
theorem last_bits (q : Nat) : last q = bitsN q - 53 := by
  unfold last
  split
  · rename_i h
    have := bits_le.mpr h; omega
  · rename_i h
    unfold bitsN
    split
    · omega
    · omega
def RDn (N D z : Int) : Prop := z * D ≤ N ∧ N < z * D + D
def RUp (N D z : Int) : Prop := N ≤ z * D ∧ z * D < N + D
def RNr (N D z : Int) : Prop := 2 * N ≤ 2 * (z * D) + D ∧ 2 * (z * D) ≤ 2 * N + D ∧ ((2 * N = 2 * (z * D) + D ∨ 2 * (z * D) = 2 * N + D) → z % 2 = 0)
def Rel (way : Nat) (N D z : Int) : Prop := if way = 0 then RNr N D z else if way = 1 then RDn N D z else if way = 2 then RUp N D z else if N < 0 then RUp N D z else RDn N D z
theorem step_mul {z y D : Int} (h : 0 < D) (c : z < y) : z * D + D ≤ y * D := by
  have := Int.mul_le_mul_of_nonneg_right (show z + 1 ≤ y from c) (Int.le_of_lt h)
  rw [Int.add_mul, Int.one_mul] at this; exact this
theorem RDn.uniq {N D z y : Int} (h : 0 < D) (a : RDn N D z) (b : RDn N D y) : z = y := by
  unfold RDn at *
  rcases Int.lt_trichotomy z y with c | c | c
  · have := step_mul h c; omega
  · exact c
  · have := step_mul h c; omega
theorem RUp.uniq {N D z y : Int} (h : 0 < D) (a : RUp N D z) (b : RUp N D y) : z = y := by
  unfold RUp at *
  rcases Int.lt_trichotomy z y with c | c | c
  · have := step_mul h c; omega
  · exact c
  · have := step_mul h c; omega
theorem RNr.uniq1 {N D z y : Int} (h : 0 < D) (a : RNr N D z) (b : RNr N D y) (c : z < y) : False := by
  unfold RNr at *
  have := step_mul h c
  have e1 : z % 2 = 0 := a.2.2 (by omega)
  have e2 : y % 2 = 0 := b.2.2 (by omega)
  have := step_mul h (show z + 1 < y by omega)
  rw [Int.add_mul] at this
  omega
theorem RNr.uniq {N D z y : Int} (h : 0 < D) (a : RNr N D z) (b : RNr N D y) : z = y := by
  rcases Int.lt_trichotomy z y with c | c | c
  · exact (a.uniq1 h b c).elim
  · exact c
  · exact (b.uniq1 h a c).elim
theorem Rel.uniq {way : Nat} {N D z y : Int} (h : 0 < D) (a : Rel way N D z) (b : Rel way N D y) : z = y := by
  unfold Rel at *
  split at a
  · rw [if_pos (by assumption)] at b; exact a.uniq h b
  · rw [if_neg (by assumption)] at b
    split at a
    · rw [if_pos (by assumption)] at b; exact a.uniq h b
    · rw [if_neg (by assumption)] at b
      split at a
      · rw [if_pos (by assumption)] at b; exact a.uniq h b
      · rw [if_neg (by assumption)] at b
        split at a
        · rw [if_pos (by assumption)] at b; exact a.uniq h b
        · rw [if_neg (by assumption)] at b; exact a.uniq h b
theorem Rel.scale {way : Nat} {N D z c : Int} (hc : 0 < c) (a : Rel way N D z) : Rel way (N * c) (D * c) z := by
  have hl : ∀ {x y : Int}, x ≤ y → x * c ≤ y * c := fun h => Int.mul_le_mul_of_nonneg_right h (Int.le_of_lt hc)
  have hs : ∀ {x y : Int}, x < y → x * c < y * c := fun h => Int.mul_lt_mul_of_pos_right h hc
  have hi : ∀ {x y : Int}, x * c = y * c → x = y := fun h => Int.eq_of_mul_eq_mul_right (Int.ne_of_gt hc) h
  have sg : (N * c < 0) ↔ (N < 0) := ⟨fun h => by
      rcases Int.lt_or_le N 0 with z | z
      · exact z
      · have := Int.mul_nonneg z (Int.le_of_lt hc); omega, fun h => by have := hs h; omega⟩
  have e : z * (D * c) = z * D * c := (Int.mul_assoc _ _ _).symm
  have dn : RDn N D z → RDn (N * c) (D * c) z := fun h => by
    unfold RDn at *
    rw [e, ← Int.add_mul]; exact ⟨hl h.1, hs h.2⟩
  have up : RUp N D z → RUp (N * c) (D * c) z := fun h => by
    unfold RUp at *
    rw [e, ← Int.add_mul]; exact ⟨hl h.1, hs h.2⟩
  have nr : RNr N D z → RNr (N * c) (D * c) z := fun h => by
    unfold RNr at *
    have f1 : 2 * (N * c) = 2 * N * c := (Int.mul_assoc _ _ _).symm
    have f2 : 2 * (z * D * c) = 2 * (z * D) * c := (Int.mul_assoc _ _ _).symm
    rw [e, f1, f2, ← Int.add_mul, ← Int.add_mul]
    exact ⟨hl h.1, hl h.2.1, fun q => h.2.2 (q.imp hi hi)⟩
  unfold Rel at *
  simp only [sg]
  repeat' split
  all_goals simp_all
theorem wholeOf_rel (way : Nat) (N : Int) {D : Nat} (h : 0 < D) : Rel way N D (wholeOf way N D) := by
  have hm := Nat.div_add_mod N.natAbs D
  have hr := Nat.mod_lt N.natAbs h
  unfold wholeOf
  generalize N.natAbs / D = q at *
  generalize N.natAbs % D = r at *
  have hz : ((D * q + r : Nat) : Int) = (N.natAbs : Nat) := by rw [hm]
  rw [Int.natCast_add, Int.natCast_mul, Int.mul_comm] at hz
  have a1 : (((q + 1 : Nat) : Int)) * D = (q : Int) * D + D := by rw [Int.natCast_add, Int.add_mul]; simp
  have a2 : (((q + q % 2 : Nat) : Int)) * D = (q : Int) * D + ((q % 2 : Nat) : Int) * D := by rw [Int.natCast_add, Int.add_mul]
  have a3 : q % 2 = 0 ∨ q % 2 = 1 := by omega
  have a4 : ((q % 2 : Nat) : Int) * D = if q % 2 = 0 then 0 else D := by
    rcases a3 with e | e <;> rw [e] <;> simp
  rw [a4] at a2
  by_cases c : N < 0
  · have hn : (N.natAbs : Int) = -N := by omega
    simp only [c, decide_true, if_true]
    unfold cut Rel RNr RDn RUp
    simp only [c, if_true, true_and, Bool.true_eq_false, false_and, if_false, Int.neg_mul]
    generalize hP : (q : Int) * D = P at *
    repeat' split
    all_goals (try rw [a1]); (try rw [a2]); (try rw [hP]); (try split); all_goals omega
  · have hn : (N.natAbs : Int) = N := by omega
    simp only [c, decide_false, if_false]
    unfold cut Rel RNr RDn RUp
    simp only [c, if_false, true_and, Bool.false_eq_true, false_and]
    generalize hP : (q : Int) * D = P at *
    repeat' split
    all_goals (try rw [a1]); (try rw [a2]); (try rw [hP]); (try split); all_goals omega
end M

set_option linter.all false
namespace M
open Sh25
def cutP (v p : Int) (way : Nat) : Int := if p ≤ 0 then v * 2 ^ (-p).toNat else
  if v - v / 2 ^ p.toNat * 2 ^ p.toNat = 0 ∨ way = 1 then v / 2 ^ p.toNat else if way = 2 then v / 2 ^ p.toNat + 1 else if way = 3 then (if v < 0 then v / 2 ^ p.toNat + 1 else v / 2 ^ p.toNat) else
  if 2 ^ (p.toNat - 1) < v - v / 2 ^ p.toNat * 2 ^ p.toNat ∨ (v - v / 2 ^ p.toNat * 2 ^ p.toNat = 2 ^ (p.toNat - 1) ∧ v / 2 ^ p.toNat % 2 = 1) then v / 2 ^ p.toNat + 1 else v / 2 ^ p.toNat
theorem cutP_rel {v p : Int} {way : Nat} (hp : 0 < p) (hw : way ≤ 3) : Rel way v (2 ^ p.toNat) (cutP v p way) := by
  unfold cutP
  rw [if_neg (by omega)]
  obtain ⟨k, hk⟩ : ∃ k, p.toNat = k + 1 := ⟨p.toNat - 1, by omega⟩
  rw [hk, Nat.add_sub_cancel]
  have h2 : (2 : Int) ^ (k + 1) = 2 * 2 ^ k := by rw [Int.pow_succ, Int.mul_comm]
  have hpos : (0 : Int) < 2 ^ k := Int.pow_pos (by decide)
  rw [h2]
  generalize (2 : Int) ^ k = U at *
  have hm := Int.mul_ediv_add_emod v (2 * U)
  have h0 := Int.emod_nonneg v (show 2 * U ≠ 0 by omega)
  have h1 := Int.emod_lt_of_pos v (show 0 < 2 * U by omega)
  generalize v % (2 * U) = r at *
  generalize v / (2 * U) = w at *
  rw [Int.mul_comm] at hm
  have e1 : (w + 1) * (2 * U) = w * (2 * U) + 2 * U := by rw [Int.add_mul, Int.one_mul]
  unfold Rel RNr RDn RUp
  generalize hP : w * (2 * U) = P at *
  repeat' split
  all_goals (try rw [e1]); (try rw [hP]); all_goals omega
theorem rel_exact {way : Nat} {z D : Int} (h : 0 < D) : Rel way (z * D) D z := by
  unfold Rel RNr RDn RUp
  repeat' split
  all_goals omega
theorem bits_scale {n k : Nat} (h : n ≠ 0) : bitsN (n * 2 ^ k) = bitsN n + k := by
  have h0 : 0 < bitsN n := lt_bits.mpr (by omega)
  have h1 : 2 ^ (bitsN n - 1) ≤ n := lt_bits.mp (by omega)
  have h2 : n < 2 ^ bitsN n := bits_le.mp (Nat.le_refl _)
  have e : bitsN n + k = (bitsN n - 1 + k) + 1 := by omega
  rw [e]
  refine bits_eq ?_ ?_
  · rw [Nat.pow_add]; exact Nat.mul_le_mul_right _ h1
  · rw [← e, Nat.pow_add]; exact Nat.mul_lt_mul_of_pos_right h2 (Nat.two_pow_pos _)
theorem bits_div {n k : Nat} : bitsN (n / 2 ^ k) = bitsN n - k := by
  have le : ∀ j, bitsN (n / 2 ^ k) ≤ j ↔ bitsN n - k ≤ j := fun j => by
    rw [bits_le, Nat.div_lt_iff_lt_mul (Nat.two_pow_pos _), ← Nat.pow_add, ← bits_le]; omega
  exact Nat.le_antisymm ((le _).mpr (Nat.le_refl _)) ((le _).mp (Nat.le_refl _))
def tnN (v p : Int) : Int := v * 2 ^ (1074 - p).toNat
def tnD (p : Int) : Nat := 2 ^ (p - 1074).toNat
def tn (way : Nat) (v p : Int) : Option Nat := toNum way (tnN v p) (tnD p)
def keptP (v p : Int) : Int := if 1074 < 53 + p - bitsN v.natAbs then 1074 else 53 + p - bitsN v.natAbs
theorem tnN_abs (v p : Int) : (tnN v p).natAbs = v.natAbs * 2 ^ (1074 - p).toNat := by
  unfold tnN; rw [Int.natAbs_mul, Int.natAbs_pow]; rfl
theorem tnN_neg (v p : Int) : tnN v p < 0 ↔ v < 0 := by
  unfold tnN
  have hp : (0 : Int) < 2 ^ (1074 - p).toNat := Int.pow_pos (by decide)
  constructor
  · intro h
    rcases Int.lt_or_le v 0 with z | z
    · exact z
    · have := Int.mul_nonneg z (Int.le_of_lt hp); omega
  · intro h
    have := Int.mul_lt_mul_of_pos_right h hp
    omega
theorem tn_last {v p : Int} (hv : v ≠ 0) : (last ((tnN v p).natAbs / tnD p) : Int) = 1074 - keptP v p := by
  rw [last_bits, tnN_abs]
  unfold tnD keptP
  rw [bits_div, bits_scale (by omega)]
  split <;> omega
theorem tn_cut {v p : Int} {way : Nat} (hv : v ≠ 0) (hw : way ≤ 3) : cutP v (p - keptP v p) way = wholeOf way (tnN v p) (tnD p * 2 ^ last ((tnN v p).natAbs / tnD p)) := by
  have hE := tn_last (p := p) hv
  generalize last ((tnN v p).natAbs / tnD p) = E at *
  have hD : 0 < tnD p * 2 ^ E := Nat.mul_pos (Nat.two_pow_pos _) (Nat.two_pow_pos _)
  have ek : p - keptP v p = p - 1074 + E := by omega
  rw [ek]
  have hr := wholeOf_rel way (tnN v p) hD
  have hD' : (0 : Int) < ((tnD p * 2 ^ E : Nat) : Int) := by omega
  refine Rel.uniq hD' ?_ hr
  have eD : ((tnD p * 2 ^ E : Nat) : Int) = 2 ^ ((p - 1074).toNat + E) := by
    unfold tnD; rw [Int.natCast_mul, Int.pow_add]; simp
  rw [eD]
  unfold tnN
  by_cases c : p - 1074 + E ≤ 0
  · have e1 : (1074 - p).toNat = (-(p - 1074 + E)).toNat + ((p - 1074).toNat + E) := by omega
    rw [e1, Int.pow_add, ← Int.mul_assoc]
    unfold cutP
    rw [if_pos c]
    exact rel_exact (Int.pow_pos (by decide))
  · have e1 : (p - 1074).toNat + E = (p - 1074 + E).toNat + (1074 - p).toNat := by omega
    rw [e1, Int.pow_add]
    exact Rel.scale (Int.pow_pos (by decide)) (cutP_rel (by omega) hw)
theorem units_s {c E : Nat} (h : c ≤ 2 ^ 53) (h2 : E = 0 ∨ 2 ^ 52 ≤ c) : units (E * 2 ^ 52 + c) = c * 2 ^ E := by
  unfold units
  by_cases c1 : E * 2 ^ 52 + c < 2 ^ 52
  · rw [if_pos c1]
    have : E = 0 := by omega
    subst this; simp
  · rw [if_neg c1]
    by_cases c2 : c = 2 ^ 53
    · have e1 : (E * 2 ^ 52 + c) % 2 ^ 52 = 0 := by omega
      have e2 : (E * 2 ^ 52 + c) / 2 ^ 52 = E + 2 := by omega
      rw [e1, e2, c2, show E + 2 - 1 = E + 1 by omega, Nat.pow_succ 2 E]
      omega
    · have e1 : (E * 2 ^ 52 + c) % 2 ^ 52 = c - 2 ^ 52 := by omega
      have e2 : (E * 2 ^ 52 + c) / 2 ^ 52 = E + 1 := by omega
      rw [e1, e2, show 2 ^ 52 + (c - 2 ^ 52) = c by omega, Nat.add_sub_cancel]
theorem cut_le {way : Nat} {neg : Bool} {q r d : Nat} : q ≤ cut way neg q r d ∧ cut way neg q r d ≤ q + 1 := by
  unfold cut
  repeat' split
  all_goals omega
theorem cut_zero {way : Nat} {neg : Bool} {q d : Nat} (h : 0 < d) : cut way neg q 0 d = q := by
  unfold cut
  repeat' split
  all_goals omega
theorem cut_bnd {way : Nat} {neg : Bool} {n D : Nat} (hD : 0 < D) : let e := last (n / D)
    cut way neg (n / (D * 2 ^ e)) (n % (D * 2 ^ e)) (D * 2 ^ e) ≤ 2 ^ 53 ∧ (e = 0 ∨ 2 ^ 52 ≤ n / (D * 2 ^ e)) ∧ n / (D * 2 ^ e) < 2 ^ 53 := by
  intro e
  have he : e = bitsN (n / D) - 53 := last_bits _
  have hb : n / D < 2 ^ (53 + e) := bits_le.mp (by omega)
  have h1 : n / (D * 2 ^ e) < 2 ^ 53 := by
    rw [← Nat.div_div_eq_div_mul, Nat.div_lt_iff_lt_mul (Nat.two_pow_pos _), ← Nat.pow_add]; exact hb
  have h2 : e = 0 ∨ 2 ^ 52 ≤ n / (D * 2 ^ e) := by
    by_cases c : e = 0
    · exact .inl c
    · refine .inr ?_
      rw [← Nat.div_div_eq_div_mul, Nat.le_div_iff_mul_le (Nat.two_pow_pos _), ← Nat.pow_add]
      exact lt_bits.mp (by omega)
  have := @cut_le way neg (n / (D * 2 ^ e)) (n % (D * 2 ^ e)) (D * 2 ^ e)
  exact ⟨by omega, h2, h1⟩
theorem val_signed {neg : Bool} {s : Nat} (h : s < INF) : val (signed neg s) = if neg = true then -(units s : Int) else units s := by
  unfold val signed SIGN
  unfold INF at h
  have u0 : units 0 = 0 := by unfold units; simp
  cases neg with
  | false => simp only [Bool.false_eq_true, false_and, if_false]; rw [if_pos (by omega)]
  | true =>
    simp only [true_and, if_true]
    by_cases c : s = 0
    · subst c; simp [u0]
    · rw [if_pos c, if_neg (by omega), show 2 ^ 63 + s - 2 ^ 63 = s by omega]
theorem signed_num {neg : Bool} {s : Nat} (h : s < INF) : isNum (signed neg s) = true ∧ signed neg s ≠ SIGN := by
  unfold isNum signed SIGN
  unfold INF at *
  simp only [Bool.and_eq_true, decide_eq_true_eq]
  split <;> omega
theorem max_inf {n D : Nat} {way : Nat} {neg : Bool} (hD : 0 < D) (hw : way ≠ 0) (h : n ≤ MAX * D) : size way neg n D < INF := by
  unfold size
  obtain ⟨b1, b2, b3⟩ := @cut_bnd way neg n D hD
  generalize he : last (n / D) = e at *
  have hq : n / D ≤ MAX := by
    have := Nat.div_le_div_right (c := D) h
    rw [Nat.mul_div_cancel _ hD] at this
    exact this
  have hE : e ≤ 2045 := by
    rw [last_bits] at he
    have : bitsN (n / D) ≤ 2098 := bits_le.mpr (Nat.lt_of_le_of_lt hq (by unfold MAX; decide +kernel))
    omega
  unfold INF
  show e * 2 ^ 52 + _ < _
  by_cases c : e = 2045
  · subst c
    have hm : n ≤ (2 ^ 53 - 1) * (D * 2 ^ 2045) := by
      unfold MAX at h
      rw [Nat.mul_comm D, ← Nat.mul_assoc]
      exact h
    have hpos : 0 < D * 2 ^ 2045 := Nat.mul_pos hD (Nat.two_pow_pos _)
    have hq2 : n / (D * 2 ^ 2045) ≤ 2 ^ 53 - 1 := by
      have := Nat.div_le_div_right (c := D * 2 ^ 2045) hm
      rw [Nat.mul_div_cancel _ hpos] at this
      exact this
    by_cases c2 : n / (D * 2 ^ 2045) = 2 ^ 53 - 1
    · have hr : n % (D * 2 ^ 2045) = 0 := by
        have := Nat.div_add_mod n (D * 2 ^ 2045)
        rw [c2, Nat.mul_comm] at this
        omega
      rw [hr, cut_zero hpos, c2]
      decide
    · have := (@cut_le way neg (n / (D * 2 ^ 2045)) (n % (D * 2 ^ 2045)) (D * 2 ^ 2045)).2
      omega
  · omega
theorem toNum_some {way : Nat} {N : Int} {D b : Nat} (hD : 0 < D) (h : toNum way N D = some b) :
    val b = wholeOf way N (D * 2 ^ last (N.natAbs / D)) * 2 ^ last (N.natAbs / D) ∧ isNum b = true ∧ b ≠ SIGN := by
  unfold toNum at h
  have lt : size way (decide (N < 0)) N.natAbs D < INF ∧ signed (decide (N < 0)) (size way (decide (N < 0)) N.natAbs D) = b := by
    simp only at h
    by_cases hw : way = 0
    · simp only [hw, if_true, decide_eq_true_eq] at h ⊢
      split at h
      · exact ⟨by assumption, Option.some.inj h⟩
      · cases h
    · simp only [hw, if_false, decide_eq_true_eq] at h ⊢
      split at h
      · exact ⟨max_inf hD hw (by assumption), Option.some.inj h⟩
      · cases h
  obtain ⟨h1, rfl⟩ := lt
  refine ⟨?_, signed_num h1⟩
  rw [val_signed h1]
  obtain ⟨b1, b2, b3⟩ := @cut_bnd way (decide (N < 0)) N.natAbs D hD
  have hu : units (size way (decide (N < 0)) N.natAbs D) = _ := units_s b1 (b2.imp id fun z => Nat.le_trans z cut_le.1)
  rw [hu]
  unfold wholeOf
  simp only [decide_eq_true_eq]
  split
  · rw [Int.natCast_mul, Int.natCast_pow, Int.neg_mul]; rfl
  · rw [Int.natCast_mul, Int.natCast_pow]; rfl
end M

set_option linter.all false
namespace M
open Sh25
theorem bits_c {c : Nat} (h : c ≤ 2 ^ 53) (h2 : 2 ^ 52 ≤ c) : bitsN c = if c = 2 ^ 53 then 54 else 53 := by
  split
  · subst c; exact bits_eq (k := 53) (Nat.le_refl _) (by decide)
  · exact bits_eq (k := 52) h2 (by omega)
theorem ovf0 {c E : Nat} (h : c ≤ 2 ^ 53) (h2 : E = 0 ∨ 2 ^ 52 ≤ c) : (2098 < bitsN c + E) ↔ ¬ (E * 2 ^ 52 + c < INF) := by
  unfold INF
  by_cases c1 : 2 ^ 52 ≤ c
  · rw [bits_c h c1]
    split <;> omega
  · have : E = 0 := by omega
    subst this
    have : bitsN c ≤ 53 := bits_le.mpr (by omega)
    omega
theorem up_abs {n D : Nat} {m : Nat} (hm : m = D * 2 ^ last (n / D)) (hD : 0 < D) : (2098 < bitsN (cut 2 false (n / m) (n % m) m) + last (n / D)) ↔ ¬ (n ≤ MAX * D) := by
  subst hm
  obtain ⟨b1, b2, b3⟩ := @cut_bnd 2 false n D hD
  have hc := @cut_le 2 false (n / (D * 2 ^ last (n / D))) (n % (D * 2 ^ last (n / D))) (D * 2 ^ last (n / D))
  have key := ovf0 b1 (b2.imp id fun z => Nat.le_trans z hc.1)
  rw [key]
  have hpos : 0 < D * 2 ^ last (n / D) := Nat.mul_pos hD (Nat.two_pow_pos _)
  constructor
  · intro h1 h2
    exact h1 (max_inf (neg := false) hD (by decide) h2)
  · intro h1 h2
    apply h1
    -- below: n ≤ c * m
    have hn : n ≤ cut 2 false (n / (D * 2 ^ last (n / D))) (n % (D * 2 ^ last (n / D))) (D * 2 ^ last (n / D)) * (D * 2 ^ last (n / D)) := by
      have e := Nat.div_add_mod n (D * 2 ^ last (n / D))
      have hr := Nat.mod_lt n hpos
      generalize n / (D * 2 ^ last (n / D)) = q at *
      generalize n % (D * 2 ^ last (n / D)) = r at *
      generalize D * 2 ^ last (n / D) = m at *
      unfold cut
      simp only [show ¬ (2 : Nat) = 0 by decide, show ¬ (2 : Nat) = 1 by decide, if_false, if_true, true_and]
      split
      · rw [Nat.add_mul, Nat.mul_comm q, Nat.one_mul]; omega
      · rw [Nat.mul_comm q]; omega
    generalize cut 2 false (n / (D * 2 ^ last (n / D))) (n % (D * 2 ^ last (n / D))) (D * 2 ^ last (n / D)) = c at *
    generalize last (n / D) = e at *
    refine Nat.le_trans hn ?_
    rw [Nat.mul_comm D, ← Nat.mul_assoc]
    refine Nat.mul_le_mul_right _ ?_
    unfold INF at h2
    unfold MAX
    by_cases ce : e ≤ 2044
    · calc c * 2 ^ e ≤ 2 ^ 53 * 2 ^ 2044 := Nat.mul_le_mul b1 (Nat.pow_le_pow_right (by decide) ce)
        _ ≤ _ := by decide +kernel
    · have ee : e = 2045 := by omega
      subst ee
      exact Nat.mul_le_mul_right _ (by omega)
def nnP (way : Nat) (v p : Int) : Option Int := if v = 0 then some 0 else
  if 1024 < (bitsN (if way = 0 then cutP v (p - keptP v p) way else cutP (if v < 0 then -v else v) (p - keptP v p) 2).natAbs : Int) - keptP v p then none else some (cutP v (p - keptP v p) way * 2 ^ (1074 - keptP v p).toNat)
theorem wholeOf_abs {way : Nat} {N : Int} {D : Nat} : (wholeOf way N D).natAbs = cut way (decide (N < 0)) (N.natAbs / D) (N.natAbs % D) D := by
  unfold wholeOf
  simp only
  split <;> simp
theorem keptP_abs (v p : Int) : keptP (if v < 0 then -v else v) p = keptP v p := by
  unfold keptP
  rw [show (if v < 0 then -v else v).natAbs = v.natAbs by split <;> omega]
theorem nn_eq {way : Nat} {v p : Int} (hw : way ≤ 3) : nnP way v p = (tn way v p).map val := by
  unfold nnP
  by_cases hv : v = 0
  · rw [if_pos hv]
    subst hv
    have e0 : tnN 0 p = 0 := by unfold tnN; simp
    unfold tn
    rw [e0]
    have hD : 0 < tnD p := Nat.two_pow_pos _
    have s0 : size way (decide ((0 : Int) < 0)) (0 : Int).natAbs (tnD p) = 0 := by
      unfold size
      simp only [Int.natAbs_zero, Nat.zero_div, Nat.zero_mod]
      rw [cut_zero (Nat.mul_pos hD (Nat.two_pow_pos _))]
      decide
    unfold toNum
    simp only [s0]
    have : (if way = 0 then decide (0 < INF) else decide ((0 : Int).natAbs ≤ MAX * tnD p)) = true := by
      split <;> simp [INF]
    rw [if_pos this]
    decide
  · rw [if_neg hv]
    have hD : 0 < tnD p := Nat.two_pow_pos _
    have hE := tn_last (p := p) hv
    have hkc : ∀ w, w ≤ 3 → cutP v (p - keptP v p) w = wholeOf w (tnN v p) (tnD p * 2 ^ last ((tnN v p).natAbs / tnD p)) := fun w h => tn_cut hv h
    obtain ⟨b1, b2, b3⟩ := @cut_bnd way (decide (tnN v p < 0)) (tnN v p).natAbs (tnD p) hD
    have b2' := b2.imp id fun z => Nat.le_trans z (@cut_le way (decide (tnN v p < 0)) _ ((tnN v p).natAbs % (tnD p * 2 ^ last ((tnN v p).natAbs / tnD p))) (tnD p * 2 ^ last ((tnN v p).natAbs / tnD p))).1
    have test : (1024 < (bitsN (if way = 0 then cutP v (p - keptP v p) way else cutP (if v < 0 then -v else v) (p - keptP v p) 2).natAbs : Int) - keptP v p) ↔ tn way v p = none := by
      have none_iff : tn way v p = none ↔ ¬ (if way = 0 then size way (decide (tnN v p < 0)) (tnN v p).natAbs (tnD p) < INF else (tnN v p).natAbs ≤ MAX * tnD p) := by
        unfold tn toNum
        simp only
        by_cases c : way = 0
        · simp [c]
        · simp [c]
      rw [none_iff]
      by_cases c : way = 0
      · rw [if_pos c, if_pos c, hkc way hw, wholeOf_abs]
        have := ovf0 b1 b2'
        unfold size
        simp only
        rw [← this]
        omega
      · rw [if_neg c, if_neg c]
        have hva : (if v < 0 then -v else v) ≠ 0 := by split <;> omega
        have ha : (tnN (if v < 0 then -v else v) p).natAbs = (tnN v p).natAbs := by
          rw [tnN_abs, tnN_abs, show (if v < 0 then -v else v).natAbs = v.natAbs by split <;> omega]
        have hx := tn_cut (p := p) (way := 2) hva (by decide)
        rw [keptP_abs] at hx
        rw [hx, wholeOf_abs, ha]
        have hn : decide (tnN (if v < 0 then -v else v) p < 0) = false := by
          rw [decide_eq_false_iff_not, tnN_neg]
          split <;> omega
        rw [hn]
        have := up_abs (n := (tnN v p).natAbs) (D := tnD p) rfl hD
        rw [← this]
        omega
    cases ht : tn way v p with
    | none => rw [if_pos (test.mpr ht)]; rfl
    | some b =>
      rw [if_neg (fun z => by rw [test.mp z] at ht; cases ht)]
      have := (toNum_some hD ht).1
      show some _ = some (val b)
      rw [this, hkc way hw]
      congr 3
      omega
def wrP (z : Int) : Int := (if (0 : Int) > (bitsN (if z < 0 then -z else z).natAbs : Int) - 53 then 0 else (bitsN (if z < 0 then -z else z).natAbs : Int) - 53)
theorem units_inv {r : Nat} : (bitsN (units r) - 53) * 2 ^ 52 + units r / 2 ^ (bitsN (units r) - 53) = r := by
  unfold units
  by_cases c : r < 2 ^ 52
  · rw [if_pos c]
    have : bitsN r ≤ 52 := bits_le.mpr c
    rw [show bitsN r - 53 = 0 by omega]; simp
  · rw [if_neg c]
    have hb : bitsN ((2 ^ 52 + r % 2 ^ 52) * 2 ^ (r / 2 ^ 52 - 1)) = 53 + (r / 2 ^ 52 - 1) := by
      rw [bits_scale (by omega), bits_eq (k := 52) (by omega) (by omega)]
    rw [hb, Nat.add_sub_cancel_left, Nat.mul_div_cancel _ (Nat.two_pow_pos _)]
    omega
theorem units_pos {r : Nat} (hr : r ≠ 0) : 0 < units r := by
  unfold units
  split
  · omega
  · exact Nat.mul_pos (by omega) (Nat.two_pow_pos _)
theorem units_zero : units 0 = 0 := by unfold units; rw [if_pos (Nat.two_pow_pos _)]
theorem val_pos {b : Nat} (c : b < SIGN) : val b = units b := if_pos c
theorem val_neg {b : Nat} (c : ¬ b < SIGN) : val b = -(units (b - SIGN) : Int) := if_neg c
theorem val_plain {b : Nat} (h : isNum b = true) : ∃ r, r < INF ∧ (val b).natAbs = units r ∧ (plain b = if val b < 0 then SIGN + r else r) := by
  unfold isNum at h
  rw [Bool.and_eq_true, decide_eq_true_eq, decide_eq_true_eq] at h
  obtain ⟨_, h⟩ := h
  unfold plain
  by_cases c : b < SIGN
  · rw [val_pos c]
    rw [Nat.mod_eq_of_lt c] at h
    generalize SIGN = S at *
    refine ⟨b, h, Int.natAbs_natCast _, ?_⟩
    rw [if_neg (show ¬ b = S by omega), if_neg (show ¬ (units b : Int) < 0 by omega)]
  · have hm : b % SIGN = b - SIGN := by unfold SIGN at *; omega
    rw [val_neg c]
    rw [hm] at h
    generalize SIGN = S at *
    refine ⟨b - S, h, by rw [Int.natAbs_neg, Int.natAbs_natCast], ?_⟩
    by_cases c2 : b = S
    · rw [if_pos c2, c2, Nat.sub_self, units_zero, if_neg (show ¬ -((0 : Nat) : Int) < 0 by decide)]
    · have := units_pos (show b - S ≠ 0 by omega)
      rw [if_neg c2, if_pos (show -(units (b - S) : Int) < 0 by omega)]
      omega
theorem wr_eq {b : Nat} (h : isNum b = true) : (wrP (val b)).toNat * 2 ^ 52 + (val b).natAbs / 2 ^ (wrP (val b)).toNat + (if val b < 0 then SIGN else 0) = plain b := by
  obtain ⟨r, h1, h2, h3⟩ := val_plain h
  have e : (wrP (val b)).toNat = bitsN (units r) - 53 := by
    unfold wrP
    rw [show (if val b < 0 then -val b else val b).natAbs = (val b).natAbs by split <;> omega, h2]
    split <;> omega
  rw [e, h2, h3]
  have hi := @units_inv r
  generalize units r / 2 ^ (bitsN (units r) - 53) = u at *
  generalize (bitsN (units r) - 53) * 2 ^ 52 = v at *
  by_cases c : val b < 0
  · rw [if_pos c, if_pos c]; omega
  · rw [if_neg c, if_neg c]; omega
theorem told_plain {way : Nat} {N : Int} {D b : Nat} (hD : 0 < D) (h : toNum way N D = some b) : plain b = b := by
  unfold plain
  rw [if_neg (toNum_some hD h).2.2]
end M

set_option linter.all false
namespace M
open Sh25
theorem toNum_of {way : Nat} {N N1 : Int} {D D1 : Nat} (hD : 0 < D) (hD1 : 0 < D1) (hs : N < 0 ↔ N1 < 0) (hl : last (N.natAbs / D) = last (N1.natAbs / D1))
    (hw : ∀ w, wholeOf w N (D * 2 ^ last (N.natAbs / D)) = wholeOf w N1 (D1 * 2 ^ last (N.natAbs / D)))
    (ha : ∀ w, wholeOf w (N.natAbs : Int) (D * 2 ^ last (N.natAbs / D)) = wholeOf w (N1.natAbs : Int) (D1 * 2 ^ last (N.natAbs / D))) : toNum way N D = toNum way N1 D1 := by
  have e1 : decide (N < 0) = decide (N1 < 0) := by rw [decide_eq_decide]; exact hs
  have cw := congrArg Int.natAbs (hw way)
  rw [wholeOf_abs, wholeOf_abs] at cw
  have c2 := congrArg Int.natAbs (ha 2)
  rw [wholeOf_abs, wholeOf_abs, Int.natAbs_natCast, Int.natAbs_natCast] at c2
  have nn : ∀ n : Nat, decide ((n : Int) < 0) = false := fun n => by rw [decide_eq_false_iff_not]; omega
  rw [nn, nn] at c2
  have u1 := up_abs (n := N.natAbs) (D := D) rfl hD
  have u2 := up_abs (n := N1.natAbs) (D := D1) rfl hD1
  rw [← hl] at u2
  rw [c2] at u1
  have u3 : (N.natAbs ≤ MAX * D) ↔ (N1.natAbs ≤ MAX * D1) := Decidable.not_iff_not.mp (u1.symm.trans u2)
  have es : size way (decide (N < 0)) N.natAbs D = size way (decide (N1 < 0)) N1.natAbs D1 := by
    unfold size
    simp only
    rw [cw, ← hl]
  unfold toNum
  simp only
  rw [es, e1]
  simp only [u3]
theorem rel_unscale {way : Nat} {N z c : Int} {D : Nat} (hD : 0 < D) (hc : 0 < c) (h : Rel way (N * c) (D * c) z) : z = wholeOf way N D :=
  Rel.uniq (Int.mul_pos (by omega) hc) h (Rel.scale hc (wholeOf_rel way N hD))
theorem wholeOf_eq {way : Nat} {N N1 : Int} {D D1 : Nat} (hD : 0 < D) (hD1 : 0 < D1) (h : N * D1 = N1 * D) : wholeOf way N D = wholeOf way N1 D1 := by
  have h1 : (0 : Int) < D := by omega
  have h2 : (0 : Int) < D1 := by omega
  refine rel_unscale (c := (D : Int)) hD1 h1 ?_
  have := Rel.scale h2 (wholeOf_rel way N hD)
  rw [h, Int.mul_comm (D : Int)] at this
  exact this
theorem abs_mul_eq {N N1 : Int} {D D1 : Nat} (h : N * D1 = N1 * D) : N.natAbs * D1 = N1.natAbs * D := by
  have := congrArg Int.natAbs h
  rwa [Int.natAbs_mul, Int.natAbs_mul, Int.natAbs_natCast, Int.natAbs_natCast] at this
theorem neg_mul_iff {N : Int} {c : Int} (hc : 0 < c) : N * c < 0 ↔ N < 0 := by
  constructor
  · intro h
    rcases Int.lt_or_le N 0 with z | z
    · exact z
    · have := Int.mul_nonneg z (Int.le_of_lt hc); omega
  · intro h
    have := Int.mul_lt_mul_of_pos_right h hc
    omega
theorem toNum_eq {way : Nat} {N N1 : Int} {D D1 : Nat} (hD : 0 < D) (hD1 : 0 < D1) (h : N * D1 = N1 * D) : toNum way N D = toNum way N1 D1 := by
  have ha := abs_mul_eq h
  have hq : N.natAbs / D = N1.natAbs / D1 := by
    rw [← Nat.mul_div_mul_right N.natAbs D hD1, ha, Nat.mul_comm D D1, Nat.mul_div_mul_right _ _ hD]
  have hs : N < 0 ↔ N1 < 0 := by
    rw [← neg_mul_iff (N := N) (c := (D1 : Int)) (by omega), h, neg_mul_iff (by omega)]
  have hp : ∀ e, 0 < D * 2 ^ e := fun e => Nat.mul_pos hD (Nat.two_pow_pos _)
  have hp1 : ∀ e, 0 < D1 * 2 ^ e := fun e => Nat.mul_pos hD1 (Nat.two_pow_pos _)
  refine toNum_of hD hD1 hs (by rw [hq]) (fun w => wholeOf_eq (hp _) (hp1 _) ?_) fun w => wholeOf_eq (hp _) (hp1 _) ?_
  · rw [Int.natCast_mul, Int.natCast_mul, ← Int.mul_assoc, ← Int.mul_assoc, h]
  · rw [Int.natCast_mul, Int.natCast_mul, ← Int.mul_assoc, ← Int.mul_assoc, ← Int.natCast_mul N.natAbs, ← Int.natCast_mul N1.natAbs, ha]
theorem rel_near {way : Nat} {v G z A M : Int} (hG : 0 < G) (hA : 0 < A) (ho : v % 2 = 1) (h1 : (v - 1) * A < M) (h2 : M < (v + 1) * A) (hs : M < 0 ↔ v < 0) (h : Rel way v (4 * G) z) : Rel way M (4 * G * A) z := by
  have le : ∀ {x y : Int}, x ≤ y → x * A ≤ y * A := fun h => Int.mul_le_mul_of_nonneg_right h (Int.le_of_lt hA)
  have e : z * (4 * G * A) = z * (4 * G) * A := (Int.mul_assoc _ _ _).symm
  have ez : z * (4 * G) = 4 * (z * G) := by rw [← Int.mul_assoc, Int.mul_comm z, Int.mul_assoc]
  have f1 : (4 * (z * G) + 4 * G) * A = 4 * (z * G) * A + 4 * G * A := Int.add_mul _ _ _
  have f2 : (v - 1 + 4 * G) * A = (v - 1) * A + 4 * G * A := Int.add_mul _ _ _
  have f3 : (2 * (v + 1)) * A = 2 * ((v + 1) * A) := Int.mul_assoc _ _ _
  have f4 : (2 * (v - 1)) * A = 2 * ((v - 1) * A) := Int.mul_assoc _ _ _
  have f5 : (2 * (v - 1) + 4 * G) * A = 2 * (v - 1) * A + 4 * G * A := Int.add_mul _ _ _
  have f6 : (2 * (4 * (z * G)) + 4 * G) * A = 2 * (4 * (z * G)) * A + 4 * G * A := Int.add_mul _ _ _
  have f7 : 2 * (4 * (z * G)) * A = 2 * (4 * (z * G) * A) := Int.mul_assoc _ _ _
  have dn : RDn v (4 * G) z → RDn M (4 * G * A) z := fun h => by
    unfold RDn at *
    rw [e, ez] at *
    have g1 := le (show 4 * (z * G) ≤ v - 1 by omega)
    have g2 := le (show v + 1 ≤ 4 * (z * G) + 4 * G by omega)
    omega
  have up : RUp v (4 * G) z → RUp M (4 * G * A) z := fun h => by
    unfold RUp at *
    rw [e, ez] at *
    have g1 := le (show v + 1 ≤ 4 * (z * G) by omega)
    have g2 := le (show 4 * (z * G) ≤ v - 1 + 4 * G by omega)
    omega
  have nr : RNr v (4 * G) z → RNr M (4 * G * A) z := fun h => by
    unfold RNr at *
    rw [e, ez] at *
    have g1 := le (show 2 * (v + 1) ≤ 2 * (4 * (z * G)) + 4 * G by omega)
    have g2 := le (show 2 * (4 * (z * G)) ≤ 2 * (v - 1) + 4 * G by omega)
    exact ⟨by omega, by omega, fun q => by omega⟩
  unfold Rel at *
  simp only [hs]
  split at h
  · rw [if_pos (by assumption)]; exact nr h
  · rw [if_neg (by assumption)]
    split at h
    · rw [if_pos (by assumption)]; exact dn h
    · rw [if_neg (by assumption)]
      split at h
      · rw [if_pos (by assumption)]; exact up h
      · rw [if_neg (by assumption)]
        split at h
        · rw [if_pos (by assumption)]; exact up h
        · rw [if_neg (by assumption)]; exact dn h
theorem near_whole {way : Nat} {v N : Int} {D a b E : Nat} (hD : 0 < D) (hg : a + 2 ≤ b + E) (ho : v % 2 = 1) (h1 : (v - 1) * ((2 ^ a * D : Nat) : Int) < N * ((2 ^ b : Nat) : Int)) (h2 : N * ((2 ^ b : Nat) : Int) < (v + 1) * ((2 ^ a * D : Nat) : Int)) (hs : N < 0 ↔ v < 0) :
    wholeOf way (v * ((2 ^ a : Nat) : Int)) (2 ^ b * 2 ^ E) = wholeOf way N (D * 2 ^ E) := by
  obtain ⟨g, hg⟩ : ∃ g, b + E = a + 2 + g := ⟨b + E - (a + 2), by omega⟩
  have pa : (0 : Int) < ((2 ^ a : Nat) : Int) := by have := Nat.two_pow_pos a; omega
  have pb : (0 : Int) < ((2 ^ b : Nat) : Int) := by have := Nat.two_pow_pos b; omega
  have pA : (0 : Int) < ((2 ^ a * D : Nat) : Int) := by have := Nat.mul_pos (Nat.two_pow_pos a) hD; omega
  have pG : (0 : Int) < ((2 ^ g : Nat) : Int) := by have := Nat.two_pow_pos g; omega
  have r0 := wholeOf_rel way v (D := 4 * 2 ^ g) (by have := Nat.two_pow_pos g; omega)
  rw [Int.natCast_mul] at r0
  have r0 : Rel way v (4 * ((2 ^ g : Nat) : Int)) (wholeOf way v (4 * 2 ^ g)) := r0
  generalize wholeOf way v (4 * 2 ^ g) = z at r0
  have x1 := Rel.scale pa r0
  have x2 := rel_near pG pA ho h1 h2 ((neg_mul_iff pb).trans hs) r0
  have eD : (4 * ((2 ^ g : Nat) : Int)) * ((2 ^ a : Nat) : Int) = ((2 ^ b * 2 ^ E : Nat) : Int) := by
    rw [← Nat.pow_add, hg, Nat.pow_add, Nat.pow_add, Int.natCast_mul, Int.natCast_mul, Int.mul_comm, ← Int.mul_assoc]
    rfl
  have eD2 : (4 * ((2 ^ g : Nat) : Int)) * ((2 ^ a * D : Nat) : Int) = ((D * 2 ^ E : Nat) : Int) * ((2 ^ b : Nat) : Int) := by
    rw [Int.natCast_mul, ← Int.mul_assoc, eD, ← Int.natCast_mul, ← Int.natCast_mul]
    congr 1
    rw [Nat.mul_comm (2 ^ b), Nat.mul_comm D, Nat.mul_assoc, Nat.mul_comm (2 ^ b) D, ← Nat.mul_assoc]
  rw [eD] at x1
  rw [eD2] at x2
  have hDE : 0 < D * 2 ^ E := Nat.mul_pos hD (Nat.two_pow_pos _)
  have hbE : 0 < 2 ^ b * 2 ^ E := Nat.mul_pos (Nat.two_pow_pos _) (Nat.two_pow_pos _)
  have y1 := Rel.uniq (by omega) x1 (wholeOf_rel way _ hbE)
  have y2 := rel_unscale hDE pb x2
  exact y1.symm.trans y2
theorem near_bits {n D a b k v : Nat} (hD : 0 < D) (hk : 2 ^ k ≤ v - 1) (hk2 : v + 1 ≤ 2 ^ (k + 1)) (h1 : (v - 1) * (2 ^ a * D) ≤ n * 2 ^ b) (h2 : n * 2 ^ b < (v + 1) * (2 ^ a * D)) : bitsN (n / D) = k + 1 + a - b := by
  have le : ∀ j, bitsN (n / D) ≤ j ↔ k + 1 + a - b ≤ j := fun j => by
    rw [bits_le, Nat.div_lt_iff_lt_mul hD]
    constructor
    · intro h
      have h3 : n * 2 ^ b < 2 ^ (j + b) * D := by
        rw [Nat.pow_add, Nat.mul_assoc, Nat.mul_comm (2 ^ b), ← Nat.mul_assoc]
        exact Nat.mul_lt_mul_of_pos_right h (Nat.two_pow_pos _)
      have h4 : 2 ^ (k + a) * D ≤ n * 2 ^ b := by
        rw [Nat.pow_add, Nat.mul_assoc]
        exact Nat.le_trans (Nat.mul_le_mul_right _ hk) h1
      have h5 : 2 ^ (k + a) < 2 ^ (j + b) := Nat.lt_of_mul_lt_mul_right (Nat.lt_of_le_of_lt h4 h3)
      have := (Nat.pow_lt_pow_iff_right (by decide : 1 < 2)).mp h5
      omega
    · intro h
      have h3 : n * 2 ^ b < 2 ^ (j + b) * D := by
        refine Nat.lt_of_lt_of_le h2 ?_
        rw [← Nat.mul_assoc]
        refine Nat.mul_le_mul_right _ ?_
        refine Nat.le_trans (Nat.mul_le_mul_right _ hk2) ?_
        rw [← Nat.pow_add]
        exact Nat.pow_le_pow_right (by decide) (by omega)
      rw [Nat.pow_add, Nat.mul_assoc, Nat.mul_comm (2 ^ b), ← Nat.mul_assoc] at h3
      exact Nat.lt_of_mul_lt_mul_right h3
  exact Nat.le_antisymm ((le _).mpr (Nat.le_refl _)) ((le _).mp (Nat.le_refl _))
theorem near_tn {way : Nat} {v p N : Int} {D : Nat} (hD : 0 < D) (ho : v % 2 = 1) (hv : 2 ^ 64 ≤ v.natAbs)
    (h1 : (v - 1) * ((2 ^ (1074 - p).toNat * D : Nat) : Int) < N * ((2 ^ (p - 1074).toNat : Nat) : Int)) (h2 : N * ((2 ^ (p - 1074).toNat : Nat) : Int) < (v + 1) * ((2 ^ (1074 - p).toNat * D : Nat) : Int)) : tn way v p = toNum way N D := by
  have hA : (0 : Int) < ((2 ^ (1074 - p).toNat * D : Nat) : Int) := by have := Nat.mul_pos (Nat.two_pow_pos (1074 - p).toNat) hD; omega
  have hB : (0 : Int) < ((2 ^ (p - 1074).toNat : Nat) : Int) := by have := Nat.two_pow_pos (p - 1074).toNat; omega
  have hs : N < 0 ↔ v < 0 := by
    constructor
    · intro h
      rcases Int.lt_or_le v 0 with z | z
      · exact z
      · have q1 := Int.mul_nonneg (show 0 ≤ v - 1 by omega) (Int.le_of_lt hA)
        have q2 := (neg_mul_iff hB).mpr h
        omega
    · intro h
      refine (neg_mul_iff hB).mp (Int.lt_of_lt_of_le h2 ?_)
      have := Int.mul_le_mul_of_nonneg_right (show v + 1 ≤ 0 by omega) (Int.le_of_lt hA)
      omega
  -- sizes
  have a1 : ((v.natAbs : Int) - 1) * ((2 ^ (1074 - p).toNat * D : Nat) : Int) < (N.natAbs : Int) * ((2 ^ (p - 1074).toNat : Nat) : Int) ∧ (N.natAbs : Int) * ((2 ^ (p - 1074).toNat : Nat) : Int) < ((v.natAbs : Int) + 1) * ((2 ^ (1074 - p).toNat * D : Nat) : Int) := by
    generalize ((2 ^ (1074 - p).toNat * D : Nat) : Int) = A at *
    generalize ((2 ^ (p - 1074).toNat : Nat) : Int) = B at *
    by_cases c : v < 0
    · have e1 : (v.natAbs : Int) = -v := by omega
      have e2 : (N.natAbs : Int) = -N := by have := hs.mpr c; omega
      rw [e1, e2, show (-v - 1) = -(v + 1) by omega, show (-v + 1) = -(v - 1) by omega, Int.neg_mul, Int.neg_mul, Int.neg_mul]
      omega
    · have e1 : (v.natAbs : Int) = v := by omega
      have e2 : (N.natAbs : Int) = N := by have := mt hs.mp c; omega
      rw [e1, e2]; exact ⟨h1, h2⟩
  obtain ⟨k, hk⟩ : ∃ k, bitsN v.natAbs = k + 2 := ⟨bitsN v.natAbs - 2, by have := lt_bits.mpr hv; omega⟩
  have hk1 : 2 ^ (k + 1) ≤ v.natAbs - 1 := by
    have := lt_bits.mp (show k + 1 < bitsN v.natAbs by omega)
    have e : 2 ^ (k + 1) = 2 * 2 ^ k := by rw [Nat.pow_succ, Nat.mul_comm]
    omega
  have hk2 : v.natAbs + 1 ≤ 2 ^ (k + 1 + 1) := by
    have := bits_le.mp (show bitsN v.natAbs ≤ k + 1 + 1 by omega)
    omega
  have b1 := near_bits (n := N.natAbs) (a := (1074 - p).toNat) (b := (p - 1074).toNat) (v := v.natAbs) hD hk1 hk2
    (by have := Int.le_of_lt a1.1; rw [show ((v.natAbs : Int) - 1) = ((v.natAbs - 1 : Nat) : Int) by omega, ← Int.natCast_mul, ← Int.natCast_mul] at this; omega)
    (by have := a1.2; rw [show ((v.natAbs : Int) + 1) = ((v.natAbs + 1 : Nat) : Int) by omega, ← Int.natCast_mul, ← Int.natCast_mul] at this; omega)
  have hD1 : 0 < tnD p := Nat.two_pow_pos _
  have b2 : bitsN ((tnN v p).natAbs / tnD p) = k + 1 + 1 + (1074 - p).toNat - (p - 1074).toNat := by
    rw [tnN_abs]
    unfold tnD
    rw [bits_div, bits_scale (by omega), hk]
  have hl : last ((tnN v p).natAbs / tnD p) = last (N.natAbs / D) := by rw [last_bits, last_bits, b1, b2]
  have hE : last ((tnN v p).natAbs / tnD p) = k + 1 + 1 + (1074 - p).toNat - (p - 1074).toNat - 53 := by rw [last_bits, b2]
  have hkb : 64 < k + 2 := by have := lt_bits.mpr hv; omega
  refine toNum_of hD1 hD ((tnN_neg v p).trans hs.symm) hl (fun w => ?_) fun w => ?_
  · have := near_whole (way := w) (E := last ((tnN v p).natAbs / tnD p)) hD (by omega) ho h1 h2 hs
    unfold tnD tnN at *
    rw [← this, Int.natCast_pow]
    rfl
  · have := near_whole (way := w) (v := (v.natAbs : Int)) (N := (N.natAbs : Int)) (E := last ((tnN v p).natAbs / tnD p)) hD (by omega) (by omega) a1.1 a1.2 (by omega)
    generalize last ((tnN v p).natAbs / tnD p) = E at *
    rw [tnN_abs, ← this, Int.natCast_mul]
    unfold tnD
    rfl
end M

set_option linter.all false
namespace M
open Sh25
def qS (a b : Int) : Int := if (0 : Int) > 128 + bitsN b.natAbs - bitsN a.natAbs then 0 else 128 + bitsN b.natAbs - bitsN a.natAbs
theorem pow_AB (p : Int) (hp : 0 ≤ p) : ((2 ^ (p - 1074).toNat : Nat) : Int) * 2 ^ 1074 = ((2 ^ (1074 - p).toNat : Nat) : Int) * 2 ^ p.toNat := by
  rw [Int.natCast_pow, Int.natCast_pow]
  show (2 : Int) ^ _ * 2 ^ 1074 = 2 ^ _ * 2 ^ _
  rw [← Int.pow_add, ← Int.pow_add]
  congr 1
  omega
theorem fdiv_facts {x b : Int} (hb : b ≠ 0) : (0 < b → x.fdiv b * b ≤ x ∧ x < x.fdiv b * b + b) ∧ (b < 0 → x ≤ x.fdiv b * b ∧ x.fdiv b * b + b < x) := by
  have hm := Int.mul_ediv_add_emod x b
  have h0 := Int.emod_nonneg x hb
  rw [Int.fdiv_eq_ediv]
  refine ⟨fun h => ?_, fun h => ?_⟩
  · have h1 := Int.emod_lt_of_pos x h
    rw [if_pos (.inl (Int.le_of_lt h)), Int.sub_zero, Int.mul_comm]
    omega
  · have h1 := Int.emod_lt_of_neg x h
    by_cases c : b ∣ x
    · rw [if_pos (.inr c), Int.sub_zero, Int.ediv_mul_cancel c]
      omega
    · rw [if_neg (by omega), Int.sub_mul, Int.mul_comm (x / b)]
      have : x % b ≠ 0 := fun z => c (Int.dvd_of_emod_eq_zero z)
      omega
theorem abs_le_of {x y : Int} {n : Nat} (h : (x - y).natAbs < n) : x.natAbs < y.natAbs + n := by omega
theorem quo_tn {way : Nat} {a b N : Int} {D P s : Nat} (hb : b ≠ 0) (hD : 0 < D) (h : N * (b * 2 ^ P) = a * 2 ^ 1074 * D) (hs : (s : Int) = qS a b) :
    tn way (2 * (a * 2 ^ s).fdiv b + if (a * 2 ^ s).fdiv b * b ≠ a * 2 ^ s then 1 else 0) ((P : Int) + s + 1) = toNum way N D := by
  obtain ⟨f1, f2⟩ := @fdiv_facts (a * 2 ^ s) b hb
  have hAB := pow_AB ((P : Int) + s + 1) (by omega)
  rw [show ((P : Int) + s + 1).toNat = P + s + 1 by omega, Int.pow_add, Int.pow_add] at hAB
  have hA0 : (0 : Int) < ((2 ^ (1074 - ((P : Int) + s + 1)).toNat : Nat) : Int) := by have := Nat.two_pow_pos (1074 - ((P : Int) + s + 1)).toNat; omega
  have hP0 : (0 : Int) < 2 ^ P := Int.pow_pos (by decide)
  have hD0 : (0 : Int) < D := by omega
  have key : N * ((2 ^ ((P : Int) + s + 1 - 1074).toNat : Nat) : Int) * (b * 2 ^ P) = a * 2 ^ s * (2 * 2 ^ P * (((2 ^ (1074 - ((P : Int) + s + 1)).toNat : Nat) : Int) * D)) := by
    generalize ((2 ^ ((P : Int) + s + 1 - 1074).toNat : Nat) : Int) = B at *
    generalize ((2 ^ (1074 - ((P : Int) + s + 1)).toNat : Nat) : Int) = A at *
    generalize (2 : Int) ^ 1074 = T at *
    generalize (2 : Int) ^ P = Pw at *
    generalize (2 : Int) ^ s = S at *
    have hAB : B * T = A * (Pw * S * 2) := hAB
    calc N * B * (b * Pw) = N * (b * Pw) * B := by grind
      _ = a * T * D * B := by rw [h]
      _ = a * D * (B * T) := by grind
      _ = a * D * (A * (Pw * S * 2)) := by rw [hAB]
      _ = _ := by grind
  by_cases c : (a * 2 ^ s).fdiv b * b ≠ a * 2 ^ s
  · rw [if_pos c]
    have ha : a ≠ 0 := fun z => by
      subst z
      simp at c
    have hbig : 2 ^ 64 ≤ (2 * (a * 2 ^ s).fdiv b + 1).natAbs := by
      have hx : 2 ^ 127 * b.natAbs ≤ (a * 2 ^ s).natAbs := by
        rw [Int.natAbs_mul, Int.natAbs_pow]
        have ba : 2 ^ (bitsN a.natAbs - 1) ≤ a.natAbs := lt_bits.mp (by have := lt_bits.mpr (show 2 ^ 0 ≤ a.natAbs by omega); omega)
        have bb : b.natAbs < 2 ^ bitsN b.natAbs := bits_le.mp (Nat.le_refl _)
        have b0 := lt_bits.mpr (show 2 ^ 0 ≤ a.natAbs by omega)
        have hs' : 127 + bitsN b.natAbs ≤ bitsN a.natAbs - 1 + s := by
          unfold qS at hs
          split at hs <;> omega
        calc 2 ^ 127 * b.natAbs ≤ 2 ^ 127 * 2 ^ bitsN b.natAbs := Nat.mul_le_mul_left _ (Nat.le_of_lt bb)
          _ = 2 ^ (127 + bitsN b.natAbs) := (Nat.pow_add _ _ _).symm
          _ ≤ 2 ^ (bitsN a.natAbs - 1 + s) := Nat.pow_le_pow_right (by decide) hs'
          _ = 2 ^ (bitsN a.natAbs - 1) * 2 ^ s := Nat.pow_add _ _ _
          _ ≤ _ := Nat.mul_le_mul_right _ ba
      have hd : (a * 2 ^ s - (a * 2 ^ s).fdiv b * b).natAbs < b.natAbs := by
        rcases Int.lt_trichotomy b 0 with z | z | z
        · have := f2 z; omega
        · exact absurd z hb
        · have := f1 z; omega
      have h3 := abs_le_of hd
      rw [Int.natAbs_mul (Int.fdiv _ _)] at h3
      have h4 : 2 ^ 127 * b.natAbs < ((a * 2 ^ s).fdiv b).natAbs * b.natAbs + b.natAbs := by omega
      have h5 : 2 ^ 127 < ((a * 2 ^ s).fdiv b).natAbs + 1 := by
        refine Nat.lt_of_mul_lt_mul_right (a := b.natAbs) ?_
        rw [Nat.add_mul, Nat.one_mul]; exact h4
      omega
    have hAD : ((2 ^ (1074 - ((P : Int) + s + 1)).toNat * D : Nat) : Int) = ((2 ^ (1074 - ((P : Int) + s + 1)).toNat : Nat) : Int) * D := Int.natCast_mul _ _
    refine near_tn hD (by omega) hbig ?_ ?_
    · rw [hAD]
      generalize ((2 ^ ((P : Int) + s + 1 - 1074).toNat : Nat) : Int) = B at *
      generalize ((2 ^ (1074 - ((P : Int) + s + 1)).toNat : Nat) : Int) = A at *
      generalize (2 : Int) ^ P = Pw at *
      generalize a * (2 : Int) ^ s = x at *
      generalize x.fdiv b = w at *
      have hK : 0 < 2 * Pw * (A * D) := Int.mul_pos (by omega) (Int.mul_pos hA0 hD0)
      rw [show 2 * w + 1 - 1 = 2 * w by omega]
      rcases Int.lt_trichotomy b 0 with z | z | z
      · have hc : 0 < -b * Pw := Int.mul_pos (by omega) hP0
        refine Int.lt_of_mul_lt_mul_right (a := -b * Pw) ?_ (Int.le_of_lt hc)
        have := Int.mul_lt_mul_of_pos_right (show x < w * b by have := f2 z; omega) hK
        have e1 : 2 * w * (A * D) * (-b * Pw) = -(w * b * (2 * Pw * (A * D))) := by grind
        have e2 : N * B * (-b * Pw) = -(N * B * (b * Pw)) := by grind
        rw [e1, e2, key]
        omega
      · exact absurd z hb
      · have hc : 0 < b * Pw := Int.mul_pos z hP0
        refine Int.lt_of_mul_lt_mul_right (a := b * Pw) ?_ (Int.le_of_lt hc)
        have := Int.mul_lt_mul_of_pos_right (show w * b < x by have := f1 z; omega) hK
        have e1 : 2 * w * (A * D) * (b * Pw) = w * b * (2 * Pw * (A * D)) := by grind
        rw [e1, key]
        exact this
    · rw [hAD]
      generalize ((2 ^ ((P : Int) + s + 1 - 1074).toNat : Nat) : Int) = B at *
      generalize ((2 ^ (1074 - ((P : Int) + s + 1)).toNat : Nat) : Int) = A at *
      generalize (2 : Int) ^ P = Pw at *
      generalize a * (2 : Int) ^ s = x at *
      generalize x.fdiv b = w at *
      have hK : 0 < 2 * Pw * (A * D) := Int.mul_pos (by omega) (Int.mul_pos hA0 hD0)
      rw [show 2 * w + 1 + 1 = 2 * (w + 1) by omega]
      rcases Int.lt_trichotomy b 0 with z | z | z
      · have hc : 0 < -b * Pw := Int.mul_pos (by omega) hP0
        refine Int.lt_of_mul_lt_mul_right (a := -b * Pw) ?_ (Int.le_of_lt hc)
        have := Int.mul_lt_mul_of_pos_right (show (w + 1) * b < x by have := f2 z; rw [Int.add_mul]; omega) hK
        have e1 : 2 * (w + 1) * (A * D) * (-b * Pw) = -((w + 1) * b * (2 * Pw * (A * D))) := by grind
        have e2 : N * B * (-b * Pw) = -(N * B * (b * Pw)) := by grind
        rw [e1, e2, key]
        omega
      · exact absurd z hb
      · have hc : 0 < b * Pw := Int.mul_pos z hP0
        refine Int.lt_of_mul_lt_mul_right (a := b * Pw) ?_ (Int.le_of_lt hc)
        have := Int.mul_lt_mul_of_pos_right (show x < (w + 1) * b by have := f1 z; rw [Int.add_mul]; omega) hK
        have e1 : 2 * (w + 1) * (A * D) * (b * Pw) = (w + 1) * b * (2 * Pw * (A * D)) := by grind
        rw [e1, key]
        exact this
  · rw [if_neg c]
    have c : (a * 2 ^ s).fdiv b * b = a * 2 ^ s := Decidable.not_not.mp c
    refine toNum_eq (Nat.two_pow_pos _) hD ?_
    have hne : b * 2 ^ P ≠ 0 := Int.mul_ne_zero hb (Int.ne_of_gt hP0)
    refine Int.eq_of_mul_eq_mul_right hne ?_
    unfold tnN
    show _ * (2 : Int) ^ (1074 - ((P : Int) + s + 1)).toNat * D * _ = N * ((2 ^ ((P : Int) + s + 1 - 1074).toNat : Nat) : Int) * _
    rw [key, Int.natCast_pow]
    generalize (a * 2 ^ s).fdiv b = w at *
    rw [← c]
    show (2 * w + 0) * 2 ^ (1074 - ((P : Int) + s + 1)).toNat * D * (b * 2 ^ P) = w * b * (2 * 2 ^ P * (2 ^ (1074 - ((P : Int) + s + 1)).toNat * D))
    generalize (2 : Int) ^ (1074 - ((P : Int) + s + 1)).toNat = A at *
    generalize (2 : Int) ^ P = Pw at *
    grind
end M

set_option linter.all false
namespace M
open Sh25
theorem le_sqrt {m x : Nat} : m ≤ Nat.sqrt x ↔ m * m ≤ x := by
  constructor
  · intro h
    exact Nat.le_trans (Nat.mul_le_mul h h) (Nat.sqrt_le x)
  · intro h
    have h1 := Nat.lt_succ_sqrt x
    rcases Nat.lt_or_ge (Nat.sqrt x) m with c | c
    · have := Nat.mul_le_mul (show Nat.succ (Nat.sqrt x) ≤ m from c) (show Nat.succ (Nat.sqrt x) ≤ m from c)
      omega
    · exact c
theorem le_sqrt_div {m n d : Nat} (hd : 0 < d) : m ≤ Nat.sqrt (n / d) ↔ m * m * d ≤ n := by
  rw [le_sqrt, Nat.le_div_iff_mul_le hd]
def RK (v a b n d : Nat) : Prop := ∀ u : Nat, (4 * u ≤ v ↔ (4 * u * 2 ^ a) * (4 * u * 2 ^ a) * d ≤ n * (2 ^ b * 2 ^ b)) ∧ (4 * u = v ↔ (4 * u * 2 ^ a) * (4 * u * 2 ^ a) * d = n * (2 ^ b * 2 ^ b))
theorem sq_scale {x y d n B : Nat} (hB : 0 < B) (e : x * B = y) : (x * x * d ≤ n ↔ y * y * d ≤ n * (B * B)) ∧ (x * x * d = n ↔ y * y * d = n * (B * B)) := by
  have q : y * y * d = x * x * d * (B * B) := by rw [← e]; grind
  rw [q]
  have hp : 0 < B * B := Nat.mul_pos hB hB
  exact ⟨(Nat.mul_le_mul_right_iff hp).symm, ⟨fun h => by rw [h], fun h => Nat.eq_of_mul_eq_mul_right hp h⟩⟩
theorem RK.bits {v a b n d : Nat} (hd : 0 < d) (hv : 2 ^ 62 ≤ v) (h : RK v a b n d) : bitsN (Nat.sqrt (n / d)) = bitsN v + a - b := by
  have hk := lt_bits.mpr hv
  have le : ∀ j, bitsN (Nat.sqrt (n / d)) ≤ j ↔ bitsN v + a - b ≤ j := fun j => by
    rw [bits_le, ← Nat.not_le, le_sqrt_div hd]
    by_cases c : a + 2 ≤ j + b
    · have e : 2 ^ j * 2 ^ b = 4 * 2 ^ (j + b - a - 2) * 2 ^ a := by
        rw [show (4 : Nat) = 2 ^ 2 from rfl, ← Nat.pow_add, ← Nat.pow_add, ← Nat.pow_add]
        congr 1
        omega
      rw [(sq_scale (Nat.two_pow_pos b) e).1, ← (h _).1]
      have e2 : 4 * 2 ^ (j + b - a - 2) = 2 ^ (j + b - a) := by
        rw [show (4 : Nat) = 2 ^ 2 from rfl, ← Nat.pow_add]
        congr 1
        omega
      rw [e2, ← lt_bits]
      omega
    · constructor
      · intro hx
        exfalso
        apply hx
        have h4 := (h 1).1.mp (by omega)
        rw [(sq_scale (x := 2 ^ j) (Nat.two_pow_pos b) rfl).1]
        refine Nat.le_trans (Nat.mul_le_mul_right _ ?_) h4
        have : 2 ^ j * 2 ^ b ≤ 4 * 1 * 2 ^ a := by
          rw [← Nat.pow_add, show 4 * 1 * 2 ^ a = 2 ^ (2 + a) by rw [Nat.pow_add]]
          exact Nat.pow_le_pow_right (by decide) (by omega)
        exact Nat.mul_le_mul this this
      · intro hx
        omega
  exact Nat.le_antisymm ((le _).mpr (Nat.le_refl _)) ((le _).mp (Nat.le_refl _))
end M

set_option linter.all false
namespace M
open Sh25
end M

set_option linter.all false
set_option maxRecDepth 100000
namespace M
open PySem L2
theorem intBits_eq (i : Int) : Builtin.Int.intBits i = bitsN i.natAbs := by
  unfold Builtin.Int.intBits bitsN
  by_cases c : i = 0
  · subst c; rfl
  · have c' : (i == 0) = false := by simpa using c
    rw [c', if_neg (by decide), if_neg (by omega)]
theorem div_abs (v : Int) (k : Nat) : (v / 2 ^ k).natAbs ≤ v.natAbs + 1 := by
  have hp : (0 : Int) < 2 ^ k := Int.pow_pos (by decide)
  have h0 := Int.emod_nonneg v (Int.ne_of_gt hp)
  have h1 := Int.emod_lt_of_pos v hp
  have hm := Int.mul_ediv_add_emod v (2 ^ k)
  generalize v % 2 ^ k = r at *
  generalize (2 : Int) ^ k = T at *
  generalize v / T = q at *
  rcases Int.lt_or_le q 0 with c | c
  · have : T * q ≤ 1 * q := Int.mul_le_mul_of_nonpos_right (by omega) (by omega)
    have h2 : T * (q + 1) ≤ 1 * (q + 1) := Int.mul_le_mul_of_nonpos_right (by omega) (by omega)
    rw [Int.mul_add] at h2
    omega
  · have : 1 * q ≤ T * q := Int.mul_le_mul_of_nonneg_right (by omega) c
    omega
theorem cutP_abs {v p : Int} {way : Nat} (hp : 0 < p) : (cutP v p way).natAbs ≤ v.natAbs + 2 := by
  unfold cutP
  rw [if_neg (by omega)]
  have := div_abs v p.toNat
  generalize v / 2 ^ p.toNat = q at *
  repeat' split
  all_goals omega
theorem cutP_b20 {v p : Int} {way k : Nat} (hv : v.natAbs < 2 ^ k) (hp : (-200000 ≤ p ∧ p ≤ 200000) ∧ k ≤ 200000 := by omega) (hw : way ≤ 3) : B20 (cutP v p way) := by
  obtain ⟨hp, hk⟩ := hp
  have hv2 : v.natAbs < 2 ^ 200000 := Nat.lt_of_lt_of_le hv (Nat.pow_le_pow_right (by decide) hk)
  refine b20_of (k := 400001) ?_ (by decide)
  have p0 : 0 < 2 ^ 200000 := Nat.two_pow_pos _
  have e1 : 2 ^ 400001 = 2 * (2 ^ 200000 * 2 ^ 200000) := by rw [← Nat.pow_add, ← Nat.pow_succ']
  by_cases c : p ≤ 0
  · unfold cutP
    rw [if_pos c, Int.natAbs_mul, Int.natAbs_pow]
    have h1 : 2 ^ (-p).toNat ≤ 2 ^ 200000 := Nat.pow_le_pow_right (by decide) (by omega)
    have h2 : v.natAbs * 2 ^ (-p).toNat ≤ 2 ^ 200000 * 2 ^ 200000 := Nat.mul_le_mul (Nat.le_of_lt hv2) h1
    have h3 : 0 < 2 ^ 200000 * 2 ^ 200000 := Nat.mul_pos p0 p0
    rw [e1]
    show v.natAbs * 2 ^ (-p).toNat < _
    generalize 2 ^ 200000 * 2 ^ 200000 = T at *
    generalize v.natAbs * 2 ^ (-p).toNat = S at *
    omega
  · have := cutP_abs (way := way) (v := v) (show 0 < p by omega)
    have h4 : 2 ^ 200000 ≤ 2 ^ 200000 * 2 ^ 200000 := Nat.le_mul_of_pos_left _ p0
    have h5 : 4 ≤ 2 ^ 200000 := by
      have : 2 ^ 2 ≤ 2 ^ 200000 := Nat.pow_le_pow_right (by decide) (by decide)
      exact this
    rw [e1]
    generalize 2 ^ 200000 * 2 ^ 200000 = T at *
    generalize 2 ^ 200000 = S at *
    omega
theorem fdiv_abs {x b : Int} (hb : b ≠ 0) : (x.fdiv b).natAbs ≤ x.natAbs + 1 := by
  obtain ⟨f1, f2⟩ := @fdiv_facts x b hb
  generalize x.fdiv b = q at *
  rcases Int.lt_trichotomy b 0 with z | z | z
  · obtain ⟨g1, g2⟩ := f2 z
    rcases Int.lt_or_le q 0 with c | c
    · have h2 : 1 * (-(q + 1)) ≤ -b * (-(q + 1)) := Int.mul_le_mul_of_nonneg_right (by omega) (by omega)
      have e : -b * (-(q + 1)) = q * b + b := by grind
      rw [e] at h2
      omega
    · have : 1 * q ≤ -b * q := Int.mul_le_mul_of_nonneg_right (by omega) c
      rw [Int.neg_mul, Int.mul_comm b] at this
      omega
  · exact absurd z hb
  · obtain ⟨g1, g2⟩ := f1 z
    rcases Int.lt_or_le q 0 with c | c
    · have h2 : 1 * (-(q + 1)) ≤ b * (-(q + 1)) := Int.mul_le_mul_of_nonneg_right (by omega) (by omega)
      have e : b * (-(q + 1)) = -(q * b) - b := by grind
      rw [e] at h2
      omega
    · have : 1 * q ≤ b * q := Int.mul_le_mul_of_nonneg_right (by omega) c
      rw [Int.mul_comm b] at this
      omega
theorem all_some {α : Type} {l : List (Option α)} {r : List α} : Sh25.all? l = some r ↔ l = r.map some := by
  induction l generalizing r with
  | nil =>
    show some [] = some r ↔ _
    cases r with
    | nil => simp
    | cons => simp
  | cons x t ih =>
    show (x.bind fun a => (Sh25.all? t).map fun t => a :: t) = some r ↔ _
    cases x with
    | none => cases r <;> simp
    | some a =>
      simp only [Option.bind_some]
      constructor
      · intro h
        obtain ⟨t', e, rfl⟩ := Option.map_eq_some_iff.mp h
        rw [ih.mp e]; rfl
      · intro h
        cases r with
        | nil => simp at h
        | cons b s =>
          rw [List.map_cons, List.cons.injEq] at h
          cases h.1
          rw [ih.mpr h.2]; rfl
theorem all_none {α : Type} {l : List (Option α)} : Sh25.all? l = none ↔ none ∈ l := by
  induction l with
  | nil => show some [] = none ↔ _; simp
  | cons x t ih =>
    show (x.bind fun a => (Sh25.all? t).map fun t => a :: t) = none ↔ _
    cases x with
    | none => simp
    | some a =>
      simp only [Option.bind_some, Option.map_eq_none_iff, List.mem_cons, reduceCtorEq, false_or]
      exact ih
def res3 (ok th : Bool) (a : List Int) : List Int := if ok = true then (if th = true then a else [-5]) else [-8]
def vals (l : List (Option Nat)) : List Int := match Sh25.all? l with
  | some r => 0 :: Sh25.ints r
  | none => [-7]
theorem due_gen (ok th : Bool) (a : Sh25.Ans) : ansOf (Sh25.asked ok th a) = res3 ok th (ansOf a) := by
  cases ok
  · rfl
  · cases th <;> rfl
theorem due_vals (l : List (Option Nat)) : ansOf (Sh25.values l) = vals l := by
  unfold Sh25.values vals
  cases Sh25.all? l <;> rfl
theorem vals_some {l : List (Option Nat)} {r : List Nat} (h : Sh25.all? l = some r) : vals l = 0 :: Sh25.ints r := by unfold vals; rw [h]
theorem vals_none {l : List (Option Nat)} (h : Sh25.all? l = none) : vals l = [-7] := by unfold vals; rw [h]
theorem tn_told {way : Nat} {v N : Int} {p D : Nat} (hD : 0 < D) (h : N * 2 ^ p = v * 2 ^ 1074 * D) : tn way v p = Sh25.toNum way N D := by
  refine toNum_eq (Nat.two_pow_pos _) hD ?_
  have hAB := pow_AB p (by omega)
  rw [Int.toNat_natCast] at hAB
  have hp : (2 : Int) ^ p ≠ 0 := Int.ne_of_gt (Int.pow_pos (by decide))
  refine Int.eq_of_mul_eq_mul_right hp ?_
  unfold tnN tnD
  rw [show (2 : Int) ^ (1074 - (p : Int)).toNat = ((2 ^ (1074 - (p : Int)).toNat : Nat) : Int) by rw [Int.natCast_pow]; rfl]
  generalize ((2 ^ (1074 - (p : Int)).toNat : Nat) : Int) = A at *
  generalize ((2 ^ ((p : Int) - 1074).toNat : Nat) : Int) = B at *
  generalize (2 : Int) ^ 1074 = T at *
  generalize (2 : Int) ^ p = Q at *
  calc v * A * D * Q = v * D * (A * Q) := by grind
    _ = v * D * (B * T) := by rw [hAB]
    _ = (v * T * D) * B := by grind
    _ = (N * Q) * B := by rw [h]
    _ = N * B * Q := by grind
end M
namespace M
open PySem L2
theorem pieces_len {α : Type} {n : Nat} : ∀ {k : Nat} {l : List α}, (Sh25.pieces n k l).length = k
  | 0, _ => rfl
  | k + 1, l => by show (Sh25.pieces n k (l.drop n)).length + 1 = _; rw [pieces_len]
theorem pieces_get {α : Type} {n : Nat} : ∀ {k : Nat} {l : List α} {i : Nat}, i < k → (Sh25.pieces n k l)[i]? = some ((l.drop (i * n)).take n)
  | k + 1, l, 0, _ => by show some _ = _; simp
  | k + 1, l, i + 1, h => by
    show (Sh25.pieces n k (l.drop n))[i]? = _
    rw [pieces_get (by omega), List.drop_drop, Nat.succ_mul, Nat.add_comm]
theorem pieces_map {α β : Type} {n : Nat} (f : α → β) : ∀ {k : Nat} {l : List α}, Sh25.pieces n k (l.map f) = (Sh25.pieces n k l).map (List.map f)
  | 0, _ => rfl
  | k + 1, l => by
    show (l.map f).take n :: Sh25.pieces n k ((l.map f).drop n) = (l.take n).map f :: (Sh25.pieces n k (l.drop n)).map (List.map f)
    rw [← List.map_take, ← List.map_drop, pieces_map]
theorem paired_ints {K : PySem.W.Frag} {H : Hp} : ∀ {ys : List V} {l : List (List Int)}, Paired (fun y g => ∃ a, y = V.ref a ∧ H a = some (.lst g)) ys (l.map (List.map V.int)) → Paired (LI K H) ys l
  | [], [], _ => .nil
  | _ :: _, _ :: _, .cons ⟨a, e, q⟩ t => .cons ⟨a, e, SqL.of q⟩ (paired_ints t)
theorem rgc_groups {n s : Nat} (hs : 0 < s) (hs2 : s ≤ 100000) (hn : n ≤ 100000) (hd : n % s = 0) : RgC 0 (n : Int) (s : Int) (n / s) := by
  have e : Builtin.Range.rangeSize 0 (n : Int) (s : Int) = ((n / s : Nat) : Int) := by
    rw [PyProof.Rows.rangeSize_pos (by omega) (by omega)]
    obtain ⟨q, rfl⟩ := Nat.dvd_of_mod_eq_zero hd
    rw [Nat.mul_div_cancel_left _ hs, Int.natCast_mul, show (s : Int) * q + s - 1 = (s - 1) + s * q by omega, Int.add_mul_ediv_left _ _ (by omega), Int.ediv_eq_zero_of_lt (by omega) (by omega), Int.zero_add]
  refine ⟨by omega, by omega, ?_, e⟩
  unfold Builtin.Range.small
  rw [e]
  have hq : n / s ≤ n := Nat.div_le_self _ _
  simp only [Builtin.Range.rangeFitsLong, Bool.and_eq_true, Bool.or_eq_true, decide_eq_true_eq, beq_iff_eq, show (s : Int) > 0 by omega, if_true]
  have hm : n / s * s ≤ n := Nat.div_mul_le_self _ _
  have hm' : ((n / s : Nat) : Int) * (s : Int) ≤ n := by rw [← Int.natCast_mul]; omega
  have e2 : (n : Int) / (s : Int) = ((n / s : Nat) : Int) := by rw [Int.natCast_ediv]
  generalize n / s = q at *
  refine ⟨?_, ?_⟩ <;> omega
theorem cutV_mid {xs : List V} {a b : Nat} : cutV xs (some (a : Int)) (some (b : Int)) = (xs.drop a).take (b - a) := by
  unfold cutV
  rw [HT.sIx_nat, HT.sIx_nat]
  refine List.ext_getElem? fun i => ?_
  rw [List.getElem?_take, List.getElem?_take, List.getElem?_drop, List.getElem?_drop]
  by_cases h : a ≤ xs.length
  · rw [Nat.min_eq_left h]
    by_cases h2 : i < b - a
    · rw [if_pos h2]
      by_cases h3 : i < min b xs.length - a
      · rw [if_pos h3]
      · rw [if_neg h3, List.getElem?_eq_none (by omega)]
    · rw [if_neg h2, if_neg (by omega)]
  · rw [List.getElem?_eq_none (by omega : xs.length ≤ a + i), List.getElem?_eq_none (by omega : xs.length ≤ min a xs.length + i)]
    split <;> split <;> rfl
theorem dims_le {k : Nat} (h : Sh25.dims k = true) : 2 ≤ k ∧ k ≤ 3 := by
  unfold Sh25.dims at h
  rw [Bool.or_eq_true, beq_iff_eq, beq_iff_eq] at h
  omega
def okPts (k a b : Nat) (l : List Nat) : Bool := Sh25.among (Sh25Neutral.points k l).length a b && Sh25.pts k (Sh25Neutral.points k l)
def okNums (a b : Int) (l : List Nat) : Bool := decide (a ≤ l.length) && decide ((l.length : Int) ≤ b) && l.all Sh25.isNum
theorem pieces_pts {k : Nat} : ∀ {q : Nat} {l : List Nat}, l.length = k * q → Sh25.pts k (Sh25.pieces k q l) = l.all Sh25.isNum
  | 0, l, h => by
    have : l = [] := List.eq_nil_of_length_eq_zero (by omega)
    subst this; rfl
  | q + 1, l, h => by
    rw [Nat.mul_succ] at h
    show (Sh25.pt k (l.take k) && Sh25.pts k (Sh25.pieces k q (l.drop k))) = _
    rw [pieces_pts (by rw [List.length_drop]; omega)]
    unfold Sh25.pt
    rw [show ((l.take k).length == k) = true by rw [beq_iff_eq, List.length_take]; omega, Bool.true_and]
    conv => rhs; rw [← List.take_append_drop k l, List.all_append]
theorem points_q {k q : Nat} {l : List Nat} (hk : 0 < k) (h : l.length = k * q) : Sh25Neutral.points k l = Sh25.pieces k q l := by
  unfold Sh25Neutral.points
  congr 1
  rw [h, show k * q + k - 1 = (k - 1) + k * q by omega, Nat.add_mul_div_left _ _ hk, Nat.div_eq_of_lt (by omega), Nat.zero_add]
theorem okPts_eq {k a b : Nat} {l : List Nat} (hk : 0 < k) : okPts k a b l = (okNums ((a : Int) * k) ((b : Int) * k) l && decide (l.length % k = 0)) := by
  unfold okPts
  by_cases c : l.length % k = 0
  · obtain ⟨q, hq⟩ := Nat.dvd_of_mod_eq_zero c
    rw [points_q hk hq, pieces_len, pieces_pts hq, decide_eq_true c, Bool.and_true]
    unfold okNums Sh25.among
    congr 1
    rw [← Int.natCast_mul, ← Int.natCast_mul, Bool.eq_iff_iff]
    simp only [Bool.and_eq_true, decide_eq_true_eq]
    rw [hq]
    have e1 : a ≤ q ↔ a * k ≤ k * q := by rw [Nat.mul_comm k q]; exact (Nat.mul_le_mul_right_iff hk).symm
    have e2 : q ≤ b ↔ k * q ≤ b * k := by rw [Nat.mul_comm k q]; exact (Nat.mul_le_mul_right_iff hk).symm
    rw [e1, e2]
    omega
  · rw [decide_eq_false c, Bool.and_false, Bool.and_eq_false_iff]
    right
    rw [Bool.eq_false_iff]
    intro h
    unfold Sh25.pts Sh25Neutral.points at h
    rw [List.all_eq_true] at h
    have hq : l.length / k < (l.length + k - 1) / k := by
      have h1 := Nat.div_add_mod l.length k
      rw [show l.length + k - 1 = (l.length % k + k - 1) + k * (l.length / k) by omega, Nat.add_mul_div_left _ _ hk]
      have : 1 ≤ (l.length % k + k - 1) / k := (Nat.le_div_iff_mul_le hk).mpr (by omega)
      omega
    have h2 := h _ (List.mem_of_getElem? (pieces_get (n := k) (l := l) hq))
    unfold Sh25.pt at h2
    rw [Bool.and_eq_true, beq_iff_eq, List.length_take, List.length_drop] at h2
    have h1 := Nat.div_add_mod l.length k
    rw [Nat.mul_comm] at h1
    have := Nat.mod_lt l.length hk
    omega
theorem pieces_ex {k : Nat} {l : List Nat} (hk : 0 < k) (h : l.length % k = 0) : (Sh25Neutral.points k l).map Sh25.ex = Sh25.pieces k (l.length / k) (Sh25.ex l) := by
  obtain ⟨q, hq⟩ := Nat.dvd_of_mod_eq_zero h
  rw [points_q hk hq, hq, Nat.mul_div_cancel_left _ hk]
  unfold Sh25.ex
  rw [pieces_map]
end M
namespace M
open PySem L2
theorem pieces_each {α : Type} {n : Nat} : ∀ {k : Nat} {l : List α}, l.length = k * n → ∀ r ∈ Sh25.pieces n k l, r.length = n
  | 0, _, _, r, hr => by cases hr
  | k + 1, l, h, r, hr => by
    rw [Nat.succ_mul] at h
    rcases List.mem_cons.mp (show r ∈ l.take n :: Sh25.pieces n k (l.drop n) from hr) with rfl | hr
    · rw [List.length_take]; omega
    · exact pieces_each (by rw [List.length_drop]; omega) r hr
theorem pieces_sub {α : Type} {n : Nat} : ∀ {k : Nat} {l : List α}, ∀ r ∈ Sh25.pieces n k l, ∀ z ∈ r, z ∈ l
  | 0, _, r, hr => by cases hr
  | k + 1, l, r, hr => fun z hz => by
    rcases List.mem_cons.mp (show r ∈ l.take n :: Sh25.pieces n k (l.drop n) from hr) with rfl | hr
    · exact List.mem_of_mem_take hz
    · exact List.mem_of_mem_drop (pieces_sub r hr z hz)
end M

set_option linter.all false
namespace M
open Sh25
end M

set_option linter.all false
namespace M
open Sh25
end M

set_option linter.all false
namespace M
open Sh25
abbrev Q2 := Int × Int
def lt2 (x y : Q2) : Prop := x.1 * y.2 < y.1 * x.2
instance (x y : Q2) : Decidable (lt2 x y) := inferInstanceAs (Decidable (_ < _))
structure FE (x y : Q2) : Prop where
  px : 0 < x.2
  py : 0 < y.2
  eq : x.1 * y.2 = y.1 * x.2
theorem FE.refl {x : Q2} (h : 0 < x.2) : FE x x := ⟨h, h, rfl⟩
theorem FE.symm {x y : Q2} (h : FE x y) : FE y x := ⟨h.py, h.px, h.eq.symm⟩
theorem FE.trans {x y z : Q2} (h : FE x y) (g : FE y z) : FE x z := by
  obtain ⟨a, b, e⟩ := h
  obtain ⟨c, d, f⟩ := g
  refine ⟨a, d, ?_⟩
  have : x.1 * z.2 * y.2 = z.1 * x.2 * y.2 := by grind
  exact Int.eq_of_mul_eq_mul_right (by omega) this
def Sc (α β : Int) (y y' : Q2) : Prop := α * y.1 = β * y'.1 ∧ α * y.2 = β * y'.2
inductive Scs (α β : Int) : List Q2 → List Q2 → Prop
  | nil : Scs α β [] []
  | cons {y y' r r'} : Sc α β y y' → Scs α β r r' → Scs α β (y :: r) (y' :: r')
end M

set_option linter.all false
namespace M
open Sh25
def ar (k : Nat) (s t p : Vec) : Int := area2 (drop_ k s) (drop_ k t) (drop_ k p)
def nd (c d e s t : Vec) : Int := ar 0 c d e * (at_ t 0 - at_ s 0) - ar 1 c d e * (at_ t 1 - at_ s 1) + ar 2 c d e * (at_ t 2 - at_ s 2)
end M

set_option linter.all false
namespace M
open Sh25
end M

set_option linter.all false
namespace M
open Sh25
theorem mom_same (i : Nat) (a b c : Vec) : first i a b c * first i a b c + (at_ a i * at_ a i + (at_ b i * at_ b i + (at_ c i * at_ c i + 0))) = 2 * second i a b c := by
  unfold first second; grind
theorem mom_mixed (i j : Nat) (a b c : Vec) : first i a b c * first j a b c + (at_ a i * at_ a j + (at_ b i * at_ b j + (at_ c i * at_ c j + 0))) = mixed i j a b c := by
  unfold first mixed; grind
end M

set_option linter.all false
namespace M
open Sh25
end M

set_option linter.all false
set_option maxRecDepth 100000
set_option maxHeartbeats 2000000
namespace M
open PySem L2
local macro_rules | `(tactic| walk_at "rd") => `(tactic| try simp only [cxOf_K, lamCx_K, tCB, L2.wipe, L2.start, List.map_cons, List.map_nil, List.replicate_succ, List.replicate_zero, Nat.reduceAdd, Nat.reduceSub, Nat.zero_add, tSeq, tAsg, gName, tOp, tUn, tC, tVar, tTest, tIfS, tRet, tRetN, tNext, tDrop, tRaise, rI_int, rI0_int, rU_int, rEq_int, rNe_int, tCall, tCons, tNil, tLst, tTup, tSl, tPart, tNoPart, tBM, tBM0, tAug, ipI_int, tBits, tOr, tListZip, tAnd, tNot, tIf, tB, tOrV, tAndV, tNotV, tChain, Bool.false_eq_true, if_false, Bool.not_true, Bool.not_false, rAbs_int, rMax2_int, rMin2_int, List.getElem?_cons_zero, List.getElem?_cons_succ, Option.some.injEq, exists_eq_left, exists_eq_left', exists_eq_right, V.int.injEq, V.bl.injEq, V.ref.injEq, decide_eq_true_eq, Bool.not_eq_true', decide_eq_false_iff_not, and_true, true_and, List.set_cons_zero, List.set_cons_succ, List.nil_append, List.cons_append, List.append_nil, if_true, List.length_cons, List.length_nil])
def top (i : Nat) : Stmt := PySem.Challenge.pw_exactplaces_s22_mass.main.body.getD i (.Pass ⟨0, 0, 0, 0⟩)
abbrev s_without_column : Stmt := top 1
abbrev s_determinant : Stmt := top 2
abbrev s_answered : Stmt := top 7
abbrev s_cut : Stmt := top 18
abbrev s_number_near : Stmt := top 19
abbrev s_write_number : Stmt := top 20
abbrev s_told_by : Stmt := top 21
abbrev s_told : Stmt := top 22
abbrev s_marked : Stmt := top 23
abbrev s_quotient : Stmt := top 24
abbrev s_read_number : Stmt := top 29
abbrev s_read_choice : Stmt := top 30
abbrev s_read_numbers : Stmt := top 31
abbrev s_read_dimension : Stmt := top 32
abbrev s_in_groups : Stmt := top 33
abbrev s_read_points : Stmt := top 34
abbrev s_read_triangles : Stmt := top 35
abbrev s_axis_sums : Stmt := top 40
abbrev s_second_moment : Stmt := top 41
abbrev s_first_four : Stmt := top 42
abbrev s_all_ten : Stmt := top 43
abbrev s_added_over : Stmt := top 44
abbrev s_solid_mass : Stmt := top 45
abbrev s_mass : Stmt := top 47
section
variable {P : Program} {w : World} {K : PySem.W.Frag} {mg : Str → Option Value} {base : Heap}
/-! answered -/
theorem one_two : (2 : Int) ^ 1074 * ((Sh25.ONE : Nat) : Int) = 2 ^ 2148 := by
  unfold Sh25.ONE
  rw [Int.natCast_pow]
  show (2 : Int) ^ 1074 * 2 ^ 1074 = 2 ^ 2148
  rw [← Int.pow_add]
theorem dot_self_nonneg (l : List Int) : 0 ≤ Sh25.dot l l := by
  unfold Sh25.dot
  generalize List.range l.length = r
  induction r with
  | nil => simp
  | cons i t ih =>
    rw [List.map_cons, List.sum_cons]
    have : 0 ≤ Sh25.at_ l i * Sh25.at_ l i := by
      rcases Int.le_total 0 (Sh25.at_ l i) with z | z
      · exact Int.mul_nonneg z z
      · exact Int.mul_nonneg_of_nonpos_of_nonpos z z
    omega
theorem due_if (b : Bool) (l : List Int) : ansOf (if b = true then ⟨0, l⟩ else Sh25.num (-7)) = if b = true then 0 :: l else [-7] := by
  cases b <;> rfl
theorem due_parts (o : Option (List Nat)) : ansOf (match o with | some l => ⟨((l.length : Nat) : Int), Sh25.ints l⟩ | none => Sh25.num (-7)) = match o with | some l => (l.length : Int) :: Sh25.ints l | none => [-7] := by
  cases o with
  | none => rfl
  | some l =>
    show (if ((l.length : Nat) : Int) < 0 then _ else _) = _
    rw [if_neg (by omega)]
theorem due_nat (n : Nat) : ansOf (Sh25.num (n : Int)) = [(n : Int)] := by
  show (if (n : Int) < 0 then _ else _) = _
  rw [if_neg (by omega)]
  rfl
theorem told_one (z : Int) : tn 0 z 2148 = Sh25.told z Sh25.ONE := by
  refine tn_told (p := 2148) (Nat.two_pow_pos _) ?_
  rw [Int.mul_assoc, one_two]
theorem mul_lt_pow {x y : Int} {A B : Nat} (hx : x.natAbs < 2 ^ A) (hy : y.natAbs < 2 ^ B) : (x * y).natAbs < 2 ^ (A + B) := by
  rw [Int.natAbs_mul, Nat.pow_add]
  exact Nat.mul_lt_mul'' hx hy
theorem add_lt_pow {x y : Int} {A : Nat} (hx : x.natAbs < 2 ^ A) (hy : y.natAbs < 2 ^ A) : (x + y).natAbs < 2 ^ (A + 1) ∧ (x - y).natAbs < 2 ^ (A + 1) := by
  rw [Nat.pow_succ]
  omega
theorem far_facts {a b : List Int} (hl : a.length = b.length) (hz : a.length ≤ 7) (ba : LB 2098 a) (bb : LB 2098 b) : 0 ≤ Sh25.far a b ∧ (Sh25.far a b).natAbs < 2 ^ 4201 := by
  have lb := lb_sub bb ba
  have := dot_bound lb lb (by rw [sub_length]; omega)
  rw [far_sym a b hl] at this
  exact ⟨by rw [← far_sym a b hl]; exact dot_self_nonneg _, this⟩
theorem ev_list {K : PySem.W.Frag} {H : Hp} : ∀ {ys : List V} {P : Nat → Int → Int → Prop}, (∀ (i : Nat) (v : V), ys[i]? = some v → ∃ t w p, v = .ref t ∧ H t = some (.tup [.int w, .int p]) ∧ P i w p) → ∃ xs : List (Int × Int), xs.length = ys.length ∧ Paired (EV K H) ys xs ∧ ∀ (i : Nat) (x : Int × Int), xs[i]? = some x → P i x.1 x.2
  | [], P, _ => ⟨[], rfl, .nil, fun i x e => by simp at e⟩
  | y :: ys, P, h => by
    obtain ⟨t, w, p, rfl, e, hp⟩ := h 0 y rfl
    obtain ⟨xs, l, pr, hx⟩ := ev_list (ys := ys) (P := fun i => P (i + 1)) fun i v e => h (i + 1) v e
    refine ⟨(w, p) :: xs, by rw [List.length_cons, List.length_cons, l], .cons (EV.of e) pr, fun i x ex => ?_⟩
    cases i with
    | zero => cases ex; exact hp
    | succ i => exact hx i x ex
theorem choose_list {α : Type} : ∀ {ys : List V} {P : Nat → V → α → Prop}, (∀ (i : Nat) (v : V), ys[i]? = some v → ∃ b, P i v b) → ∃ bs : List α, bs.length = ys.length ∧ ∀ (i : Nat) (v : V), ys[i]? = some v → ∃ b, bs[i]? = some b ∧ P i v b
  | [], P, _ => ⟨[], rfl, fun i v e => by simp at e⟩
  | y :: ys, P, h => by
    obtain ⟨b, hb⟩ := h 0 y rfl
    obtain ⟨bs, l, hx⟩ := choose_list (ys := ys) (P := fun i => P (i + 1)) fun i v e => h (i + 1) v e
    refine ⟨b :: bs, by rw [List.length_cons, List.length_cons, l], fun i v e => ?_⟩
    cases i with
    | zero => cases e; exact ⟨b, rfl, hb⟩
    | succ i => exact hx i v e
/-- an interval as it's kept -/
def bx (b : Sh25.Box) : Int × Int := (Sh25.lo b, Sh25.hi b)
abbrev LLP (K : PySem.W.Frag) (H : Hp) (v : V) (m : List (List (Int × Int))) : Prop := ∃ a xs, v = .ref a ∧ SqL K H a xs ∧ Paired (LP K H) xs m
theorem LLP.same {K : PySem.W.Frag} {H H' : Hp} {v : V} {l : List (List (Int × Int))} (g : Same H H') (h : LLP K H v l) : LLP K H' v l := let ⟨a, xs, e, q, p⟩ := h; ⟨a, xs, e, g.seq q, Paired.imp' (fun _ _ z => LP.same g z) p⟩
def VB (v p : Int) : Prop := v.natAbs < 2 ^ 100000 ∧ -100000 ≤ p ∧ p ≤ 100000
/-- a span at r: what its low and its high are told as, outwards -/
def TS (H : Hp) (r : Addr) (f g : Option Nat) : Prop := ∃ a b v p w q, H r = some (.tup [.ref a, .ref b]) ∧ H a = some (.tup [.int v, .int p]) ∧ H b = some (.tup [.int w, .int q]) ∧ VB v p ∧ VB w q ∧ tn 1 v p = f ∧ tn 2 w q = g
theorem TS.same {H H' : Hp} {r : Addr} {f g : Option Nat} (s : Same H H') (h : TS H r f g) : TS H' r f g := let ⟨a, b, v, p, w, q, e1, e2, e3, e4⟩ := h; ⟨a, b, v, p, w, q, s _ _ e1, s _ _ e2, s _ _ e3, e4⟩
/-- one that is new behind H0 -/
def TSf (H0 H : Hp) (r : Addr) (f g : Option Nat) : Prop := ∃ a b v p w q, H0 r = none ∧ H0 a = none ∧ H0 b = none ∧ H r = some (.tup [.ref a, .ref b]) ∧ H a = some (.tup [.int v, .int p]) ∧ H b = some (.tup [.int w, .int q]) ∧ VB v p ∧ VB w q ∧ tn 1 v p = f ∧ tn 2 w q = g
theorem TSf.ts {H0 H : Hp} {r : Addr} {f g : Option Nat} (h : TSf H0 H r f g) : TS H r f g := let ⟨a, b, v, p, w, q, _, _, _, e⟩ := h; ⟨a, b, v, p, w, q, e⟩
theorem TSf.pre {H00 H0 H : Hp} {r : Addr} {f g : Option Nat} (s : Same H00 H0) (h : TSf H0 H r f g) : TSf H00 H r f g := let ⟨a, b, v, p, w, q, n1, n2, n3, e⟩ := h; ⟨a, b, v, p, w, q, s.free n1, s.free n2, s.free n3, e⟩
/-- one in a list that grows at D -/
def RS (D : Addr) (H : Hp) (z : V) (f g : Option Nat) : Prop := ∃ t a b v p w q, z = V.ref t ∧ t ≠ D ∧ a ≠ D ∧ b ≠ D ∧ H t = some (.tup [.ref a, .ref b]) ∧ H a = some (.tup [.int v, .int p]) ∧ H b = some (.tup [.int w, .int q]) ∧ VB v p ∧ VB w q ∧ tn 1 v p = f ∧ tn 2 w q = g
theorem RS.mono {D : Addr} {H H' : Hp} {z : V} {f g : Option Nat} (s : SameX D H H') (h : RS D H z f g) : RS D H' z f g := let ⟨t, a, b, v, p, w, q, e, n1, n2, n3, e1, e2, e3, r⟩ := h; ⟨t, a, b, v, p, w, q, e, n1, n2, n3, s _ _ n1 e1, s _ _ n2 e2, s _ _ n3 e3, r⟩
theorem RS.of {D t : Addr} {H0 H : Hp} {f g : Option Nat} (nD : H0 D ≠ none) (h : TSf H0 H t f g) : RS D H (.ref t) f g := let ⟨a, b, v, p, w, q, n1, n2, n3, e⟩ := h; ⟨t, a, b, v, p, w, q, rfl, fun z => nD (z ▸ n1), fun z => nD (z ▸ n2), fun z => nD (z ▸ n3), e⟩
theorem iv_list {D : Addr} {H : Hp} : ∀ {ys : List V} {fs : List (Option Nat × Option Nat)}, ys.length = fs.length → (∀ (i : Nat) (v : V), ys[i]? = some v → ∃ f, fs[i]? = some f ∧ RS D H v f.1 f.2) → ∃ rs : List Addr, ys = rs.map V.ref ∧ ∀ (i : Nat) (r : Addr) (f : Option Nat × Option Nat), rs[i]? = some r → fs[i]? = some f → TS H r f.1 f.2
  | [], [], _, _ => ⟨[], rfl, fun i r f e => by simp at e⟩
  | [], _ :: _, h, _ => by cases h
  | _ :: _, [], h, _ => by cases h
  | y :: ys, f :: fs, l, h => by
    obtain ⟨f', e0, t, a, b, v, p, w, q, rfl, _, _, _, e⟩ := h 0 y rfl
    cases e0
    obtain ⟨rs, er, hr⟩ := iv_list (ys := ys) (fs := fs) (Nat.succ.inj l) fun i v e => h (i + 1) v e
    refine ⟨t :: rs, by rw [er]; rfl, fun i r f e1 e2 => ?_⟩
    cases i with
    | zero => cases e1; cases e2; exact ⟨a, b, v, p, w, q, e⟩
    | succ i => exact hr i r f e1 e2
def outO (x : Option Nat × Option Nat) : Option Sh25.Box := x.1.bind fun a => x.2.map fun b => (a, b)
theorem TS.num {H : Hp} {r : Addr} {f g : Option Nat} (h : TS H r f g) : (∀ a, f = some a → Sh25.isNum a = true ∧ Sh25.plain a = a) ∧ ∀ a, g = some a → Sh25.isNum a = true ∧ Sh25.plain a = a := by
  obtain ⟨_, _, v, p, w, q, _, _, _, _, _, t1, t2⟩ := h
  refine ⟨fun a e => ?_, fun a e => ?_⟩
  · rw [← t1] at e
    exact ⟨(toNum_some (Nat.two_pow_pos _) e).2.1, told_plain (Nat.two_pow_pos _) e⟩
  · rw [← t2] at e
    exact ⟨(toNum_some (Nat.two_pow_pos _) e).2.1, told_plain (Nat.two_pow_pos _) e⟩
theorem outO_some {f : Option Nat × Option Nat} {b : Sh25.Box} : outO f = some b ↔ f = (some b.1, some b.2) := by
  obtain ⟨x, y⟩ := f
  cases x <;> cases y <;> simp [outO, Prod.ext_iff]
theorem outO_none {f : Option Nat × Option Nat} (h : f.1 = none ∨ f.2 = none) : outO f = none := by
  obtain ⟨x, y⟩ := f
  cases x <;> cases y <;> simp_all [outO]
def bvals (l : List (Option Sh25.Box)) : List Int := match Sh25.all? l with
  | some r => 0 :: Sh25.flat r
  | none => [-7]
theorem due_boxed (l : List (Option Sh25.Box)) : ansOf (Sh25.boxed l) = bvals l := by
  unfold Sh25.boxed bvals
  cases Sh25.all? l <;> rfl
theorem bvals_some {l : List (Option Sh25.Box)} {r : List Sh25.Box} (h : Sh25.all? l = some r) : bvals l = 0 :: Sh25.flat r := by unfold bvals; rw [h]
theorem bvals_none {l : List (Option Sh25.Box)} (h : Sh25.all? l = none) : bvals l = [-7] := by unfold bvals; rw [h]
theorem map_pair {f : Int → Int → Option Nat} {g : Int → Option Nat} {c : Int} {l : List Int} (h : ∀ z, f z c = g z) : (l.map fun z => (z, c)).map (fun x => f x.1 x.2) = l.map g := by
  rw [List.map_map]
  exact List.map_congr_left fun z _ => h z
def inZ (a : List Int) : Prop := (∀ z ∈ a, -9223372036854775808 ≤ z ∧ z ≤ 18446744073709551615) ∧ a.length ≤ 12500
theorem inZ_of {least most : Nat} {a : List Int} (h : PySem.W.Codec.within (.list least most (.int (-9223372036854775808) 18446744073709551615)) a = true) (hm : most ≤ 12500) : inZ a ∧ a.length ≤ sizeLine := by
  have h1 := PySem.W.Codec.and_of (show (PySem.W.Codec.inLen least most a && a.all (PySem.W.Codec.inInt (-9223372036854775808) 18446744073709551615)) = true from h)
  have h2 := PySem.W.Codec.inNat_iff.mp h1.1
  exact ⟨⟨fun z hz => PySem.W.Codec.inInt_iff.mp (List.all_eq_true.mp h1.2 z hz), by omega⟩, Nat.le_trans (by omega : a.length ≤ 12500) (by decide)⟩
def ansE (cs : List (Addr × Int)) : VK → XK := fun Q C _ H2 => ∃ c z, (c, z) ∈ cs ∧ C = .ref c ∧ ∀ p, H2 p = none → Q (.ref p) (upd H2 p (.lst [.int z]))
theorem scAN : FnScope ["work"] ["work"] (defScope s_answered) := ⟨rfl, rfl, rfl, by decide +kernel, rfl, by decide +kernel, by decide +kernel⟩
theorem okAN {f cW cN cT : Addr} {fd : FuncData} {k : Nat} (F : Fun K "answered" "answered" s_answered f fd) (mW : mg "WrongInput" = some (.ref cW)) (mN : mg "NotThere" = some (.ref cN)) (mT : mg "CantBeTold" = some (.ref cT)) (pW : PlainX base cW) (pN : PlainX base cN) (pT : PlainX base cT) (ne : cW ≠ cN) (ne2 : cW ≠ cT) (ne3 : cN ≠ cT) :
    FnOk P w K mg base (CXE P w) (k + 1) f fd ["work"] (spTakes P w K mg base k (ansE [(cW, -8), (cN, -5), (cT, -7)])) := by
  refine F.ok0 scAN (fun vs H Q E h => ?_) (fun cdv A outer s H vs Q E hr h => ?_)
  · obtain ⟨_, _, _, _, _, rfl, _⟩ := h
    rfl
  obtain ⟨g, fo, c', qual, sp, rfl, hC, hg, hc, h⟩ := h
  obtain ⟨L, fr⟩ := @frIs_def (CXE P w) P w K mg base ["work"] "answered" (defScope s_answered) f cdv A outer s H E
  refine ⟨_, pss0_try rfl ⟨L, fr⟩ (fun E2 => pss_one (ps_ret (pe_callV0 (i := 0) rfl ⟨L, fr⟩ hr rfl (Or.inl rfl))))
    (phs_cons rfl mW pW (fun e => pss_one (ps_ret (pe_lst (pa_cons (pe_un un_neg pe_int) pa_nil)))) (phs_cons rfl mN pN (fun e => pss_one (ps_ret (pe_lst (pa_cons (pe_un un_neg pe_int) pa_nil)))) (phs_cons rfl mT pT (fun e => pss_one (ps_ret (pe_lst (pa_cons (pe_un un_neg pe_int) pa_nil)))) phs_nil))), ?_⟩
  refine ⟨g, fo, c', qual, sp, _, rfl, hC, hg, hc, h, fun C d H' hx => ?_⟩
  obtain ⟨c, z, hm, rfl, hq⟩ := hx
  have hm : (c = cW ∧ z = -8) ∨ (c = cN ∧ z = -5) ∨ (c = cT ∧ z = -7) := by simpa using hm
  rcases hm with ⟨rfl, rfl⟩ | ⟨rfl, rfl⟩ | ⟨rfl, rfl⟩
  · refine ⟨_, rfl, pW, .inl ⟨rfl, ?_⟩⟩
    walk_at "rd"
    exact ⟨by decide, hq⟩
  · refine ⟨_, rfl, pN, .inr ⟨Ne.symm ne, _, rfl, pN, .inl ⟨rfl, ?_⟩⟩⟩
    walk_at "rd"
    exact ⟨by decide, hq⟩
  · refine ⟨_, rfl, pT, .inr ⟨Ne.symm ne2, _, rfl, pT, .inr ⟨Ne.symm ne3, _, rfl, pT, .inl ⟨rfl, ?_⟩⟩⟩⟩
    walk_at "rd"
    exact ⟨by decide, hq⟩
abbrev cls3 (cW cN cT : Addr) : List (Addr × Int) := [(cW, -8), (cN, -5), (cT, -7)]
section
variable {cW cN cT : Addr} {ok th : Bool} {a : List Int} {Q : VK}
theorem bad8 (h : ∀ (r : Addr) (H' : Hp), H' r = some (.lst ((res3 ok th a).map V.int)) → Q (.ref r) H') (c : ok = false) (H' : Hp) : ansE [(cW, -8), (cN, -5), (cT, -7)] Q (.ref cW) none H' :=
  ⟨cW, -8, by simp, rfl, fun p hp => h p _ (by rw [c]; exact upd_same)⟩
theorem bad5 (h : ∀ (r : Addr) (H' : Hp), H' r = some (.lst ((res3 ok th a).map V.int)) → Q (.ref r) H') (c : ok = true) (d : th = false) (H' : Hp) : ansE [(cW, -8), (cN, -5), (cT, -7)] Q (.ref cN) none H' :=
  ⟨cN, -5, by simp, rfl, fun p hp => h p _ (by rw [c, d]; exact upd_same)⟩
theorem bad7 (h : ∀ (r : Addr) (H' : Hp), H' r = some (.lst ((res3 ok th a).map V.int)) → Q (.ref r) H') (c : ok = true) (d : th = true) (e : a = [-7]) (H' : Hp) : ansE [(cW, -8), (cN, -5), (cT, -7)] Q (.ref cT) none H' :=
  ⟨cT, -7, by simp, rfl, fun p hp => h p _ (by rw [c, d, e]; exact upd_same)⟩
theorem good3 (h : ∀ (r : Addr) (H' : Hp), H' r = some (.lst ((res3 ok th a).map V.int)) → Q (.ref r) H') (c : ok = true) (d : th = true) (r : Addr) (H' : Hp) (e : H' r = some (.lst (a.map V.int))) : Q (.ref r) H' := h r H' (by rw [c, d]; exact e)
theorem told_end {way : Nat} {l : List (Option Nat)} {xs : List (Int × Int)} {H : Hp} (h : ∀ (r : Addr) (H' : Hp), H' r = some (.lst ((res3 ok th (vals l)).map V.int)) → Q (.ref r) H') (c : ok = true) (d : th = true) (e : xs.map (fun x => tn way x.1 x.2) = l) :
    (∀ r, Sh25.all? (xs.map fun x => tn way x.1 x.2) = some r → ∀ q H', Same H H' → H' q = some (.lst ((0 :: Sh25.ints r).map V.int)) → Q (.ref q) H') ∧ (Sh25.all? (xs.map fun x => tn way x.1 x.2) = none → ∀ H', Same H H' → ansE [(cW, -8), (cN, -5), (cT, -7)] Q (.ref cT) none H') := by
  rw [e]
  exact ⟨fun r hr q H' _ e' => good3 h c d q H' (by rw [vals_some hr]; exact e'), fun hr H' _ => bad7 h c d (vals_none hr) H'⟩
end

/-! without_column -/
def spWC (K : PySem.W.Frag) : Sp := fun vs H Q E => ∃ (u : V) (j : Nat) (rows : List (List Int)), vs = [u, .int (j : Int)] ∧ LLI K H u rows ∧ rows.length ≤ 1000 ∧ (∀ r ∈ rows, r.length ≤ 1000) ∧ ∀ r H', Same H H' → H r = none → LLI K H' (.ref r) (Sh25.minor rows j) → Q (.ref r) H'
theorem scWC : FnScope ["rows", "column", "row"] ["rows", "column"] (defScope s_without_column) := ⟨rfl, rfl, rfl, by decide +kernel, rfl, by decide +kernel, by decide +kernel⟩
theorem okWC {f : Addr} {fd : FuncData} (F : Fun K "without_column" "without_column" s_without_column f fd) : FnOk P w K mg base (CXE P w) 1 f fd ["rows", "column"] (spWC K) := by
  refine F.okX scWC (fun vs H Q E h => ?_) (fun cdv A outer s H vs Q E hr h => ?_)
  · obtain ⟨_, _, _, rfl, _⟩ := h
    rfl
  obtain ⟨_, j, rows, rfl, ⟨u, xs, rfl, hu, hp⟩, hz, hz2, h⟩ := h
  obtain ⟨L, fr⟩ := @frIs_def (CXE P w) P w K mg base ["rows", "column", "row"] "without_column" (defScope s_without_column) f cdv A outer s H E
  refine ⟨_, pss_one (ps_ret (pe_lcE (own := [("row", 2)]) rfl rfl fr scWC.nd (pi_list (pv 0)) (blkOk_by rfl) (fun _ _ _ _ _ => pg_name (i := 2) scWC.nd rfl (Or.inl rfl))
      (fun _ _ _ _ _ => pe_op op_cat (pe_slice (slL K) (pv 2) po_none (po_some (pv 1))) (pe_slice (slL K) (pv 2) (po_some (pe_op op_add (pv 1) pe_int)) po_none)))), ?_⟩
  refine ⟨_, rfl, u, rfl, ⟨_, hu⟩, fun D hD => ?_⟩
  have lx : xs.length = rows.length := hp.length
  refine lc_any (n := rows.length) (fun i H v => ∃ a row, rows[i]? = some row ∧ v = .ref a ∧ a ≠ D ∧ SqL K H a ((row.eraseIdx j).map V.int)) (fun i H H' v g ⟨a, row, e1, e2, e3, e4⟩ => ⟨a, row, e1, e2, e3, e4.sameX g e3⟩) hD (Nat.le_trans hz (by decide)) (fun H2 g2 => ⟨_, g2.seq hu, Nat.le_of_eq lx⟩)
    (fun i H2 hi g2 => ⟨_, _, g2.seq hu, List.getElem?_eq_getElem (by omega)⟩) (fun i x H2 H3 Q' hi g2 nD y hQ => ?_) fun H2 ys g2 hD2 ely hys => ?_
  · obtain ⟨rfl, y⟩ := y
    obtain ⟨row, er, ar, rfl, hrow⟩ := Paired.get hp (y _ (g2.seq hu))
    have hrow := g2.seq hrow
    have lr : row.length ≤ 1000 := hz2 row (List.mem_of_getElem? er)
    refine ⟨rfl, ⟨_, rfl, _, rfl, _, rfl, ar, _, rfl, hrow, fun p1 h1 => ?_⟩⟩
    have g3 : Same H3 (upd H3 p1 (.lst (cutV (row.map V.int) none (some (j : Int))))) := Same.new h1 _
    refine ⟨_, rfl, _, rfl, _, _, rfl, rfl, _, rfl, ar, _, rfl, g3.seq hrow, fun p2 h2 => ?_⟩
    have g4 := Same.new h2 (.lst (cutV (row.map V.int) (some ((j : Int) + 1)) none))
    refine ⟨p1, p2, _, _, rfl, rfl, g4 _ _ upd_same, upd_same, ?_, fun p3 h3 => ?_⟩
    · have := cutV_length (row.map V.int) none (some (j : Int))
      have := cutV_length (row.map V.int) (some ((j : Int) + 1)) none
      rw [List.length_map] at *
      exact Nat.le_trans (by omega : _ ≤ 2000) (by decide)
    · have g5 := Same.new h3 (.lst (cutV (row.map V.int) none (some (j : Int)) ++ cutV (row.map V.int) (some ((j : Int) + 1)) none))
      refine hQ _ _ (g3.trans (g4.trans g5)) ⟨p3, row, er, rfl, fun z => ?_, ?_⟩
      · rw [z] at h3
        exact nD ((g3.trans g4).free h3)
      · refine SqL.of ?_
        rw [upd_same, show ((j : Int) + 1) = ((j + 1 : Nat) : Int) by omega, cutV_to, cutV_from, List.eraseIdx_eq_take_drop_succ, List.map_append, List.map_take, List.map_drop]
  · refine h D H2 g2 hD ⟨D, ys, rfl, SqL.of hD2, paired_of (by unfold Sh25.minor; rw [List.length_map]; exact ely) fun i v e => ?_⟩
    obtain ⟨a, row, e1, e2, _, e4⟩ := hys i v e
    exact ⟨row.eraseIdx j, by unfold Sh25.minor; rw [List.getElem?_map, e1]; rfl, a, e2, e4⟩

/-! determinant -/
def spDet (K : PySem.W.Frag) (B n : Nat) : Sp := fun vs H Q E => ∃ (u : V) (rows : List (List Int)), vs = [u] ∧ LLI K H u rows ∧ rows.length = n ∧ (∀ r ∈ rows, r.length = n) ∧ 1 ≤ n ∧ (∀ r ∈ rows, LB B r) ∧ ∀ H', Same H H' → Q (.int (Sh25.det n rows)) H'
theorem scDT : FnScope ["rows", "total", "column", "entry", "term"] ["rows"] (defScope s_determinant) := ⟨rfl, rfl, rfl, by decide +kernel, rfl, by decide +kernel, by decide +kernel⟩
theorem okDT {f : Addr} {fd : FuncData} {B n k : Nat} (F : Fun K "determinant" "determinant" s_determinant f fd) (hB : B ≤ 20000) (hn : n + 1 ≤ 6) (ml : mg "len" = none) (me : mg "enumerate" = none)
    (hDT : Has P w K mg base k "determinant" ["rows"] (spDet K B n)) (hWC : Has P w K mg base k "without_column" ["rows", "column"] (spWC K)) : FnOk P w K mg base (CXE P w) (k + 1) f fd ["rows"] (spDet K B (n + 1)) := by
  refine F.okX scDT (fun vs H Q E h => ?_) (fun cdv A outer s H vs Q E hr h => ?_)
  · obtain ⟨_, _, rfl, _⟩ := h
    rfl
  obtain ⟨_, rows, rfl, ⟨u, xs, rfl, hu, hp⟩, hz, hz2, _, hlb, h⟩ := h
  obtain ⟨L, fr⟩ := @frIs_def (CXE P w) P w K mg base ["rows", "total", "column", "entry", "term"] "determinant" (defScope s_determinant) f cdv A outer s H E
  refine ⟨_, pss_cons (ps_if (pt_cmpR op_eq (pe_callB (lenS K) rfl ml PySem.boot_len (pa_cons (pv 0) pa_nil)) pe_int (nomark _)) (pss_one (ps_ret (pe_ix (ixL K) (pe_ix (ixL K) (pv 0) pe_int (fun _ _ => rfl)) pe_int (fun _ _ => rfl)))) pss_nil)
    (pss_cons (ps_set (i := 1) scDT.nd rfl (Or.inl rfl) pe_int)
    (pss_cons (ps_for passes_own_x rfl (pi_enum rfl me (pa_cons (pe_ix (ixL K) (pv 0) pe_int (fun _ _ => rfl)) pa_nil)) (pg_two K 2 3 rfl scDT.nd)
      (pss_cons (ps_set (i := 4) scDT.nd rfl (Or.inl rfl) (pe_op op_mulB (pv 3) (pe_callH hDT hr (passX rfl ⟨L, fr⟩) (pa_cons (pe_callH hWC hr (passX rfl ⟨L, fr⟩) (pa_cons (pe_slice (slL K) (pv 0) (po_some pe_int) po_none) (pa_cons (pv 2) pa_nil))) pa_nil))))
      (pss_one (ps_if (pt_cmpR op_eq (pe_op op_mod (pv 2) pe_int) pe_int (nomark _)) (pss_one (ps_aug (i := 1) scDT.nd rfl (Or.inl rfl) (pv 4) ip_add)) (pss_one (ps_aug (i := 1) scDT.nd rfl (Or.inl rfl) (pv 4) ip_sub))))))
    (pss_one (ps_ret (pv 1))))), ?_⟩
  walk_at "rd"
  obtain ⟨r, q, rfl⟩ : ∃ r q, rows = r :: q := by
    cases rows with
    | nil => cases hz
    | cons r q => exact ⟨r, q, rfl⟩
  cases hp with
  | @cons x0 _ xq _ hx0 hpq =>
  obtain ⟨a0, rfl, h0⟩ := hx0
  have lr : r.length = n + 1 := hz2 r List.mem_cons_self
  have lq : q.length = n := by simpa using hz
  have lxq : xq.length = n := by rw [hpq.length]; exact lq
  have lbr : LB B r := hlb r List.mem_cons_self
  have lbq : ∀ x ∈ q, LB B x := fun x hx => hlb x (List.mem_cons_of_mem _ hx)
  have at0 : ∀ (l : List V) (x : V), atI (x :: l) 0 = some x := fun l x => atI_nat (j := 0) rfl
  refine ⟨u, _, rfl, .inl hu, ?_⟩
  by_cases c : n = 0
  · subst c
    rw [if_pos (by rw [List.length_cons, lxq]; rfl)]
    have er : r = [Sh25.at_ r 0] := by
      cases r with
      | nil => cases lr
      | cons z t =>
        cases t with
        | nil => rfl
        | cons _ _ => simp at lr
    refine ⟨u, _, 0, _, rfl, rfl, hu, at0 _ _, a0, _, 0, .int (Sh25.at_ r 0), rfl, rfl, h0, ?_, ?_⟩
    · rw [er]; exact at0 _ _
    · have := h H (Same.refl _)
      have e : Sh25.det 1 (r :: q) = Sh25.at_ r 0 := by
        unfold Sh25.det
        simp [Sh25.det]
      rw [← e]; exact this
  · rw [if_neg (by rw [List.length_cons, lxq]; omega)]
    refine ⟨_, rfl, u, _, 0, _, rfl, rfl, hu, at0 _ _, a0, _, rfl, h0, ?_⟩
    let G : Nat → Int := fun j => (if j % 2 = 0 then (1 : Int) else -1) * Sh25.at_ r j * Sh25.det n (Sh25.minor q j)
    refine for_enum (xs := r.map V.int) (fun i σ H2 => ∃ o1 o2 o3, σ = [some (V.ref u), some (V.int ((List.range i).map G).sum), o1, o2, o3] ∧ Same H H2) ⟨none, none, none, rfl, Same.refl _⟩ (fun i σ H2 _ ⟨_, _, _, _, g⟩ => g.seq h0) (fun i x T σ H2 ex p hT => ?_) fun σ H2 p => ?_
    · obtain ⟨o1, o2, o3, rfl, g1⟩ := p
      rw [List.getElem?_map] at ex
      obtain ⟨z, ez, rfl⟩ := Option.map_eq_some_iff.mp ex
      have hi : i < r.length := (List.getElem?_eq_some_iff.mp ez).1
      have eat : Sh25.at_ r i = z := at_get ez
      refine ⟨T, _, rfl, SqT.of upd_same, rfl, _, _, rfl, _, _, rfl, rfl, ?_⟩
      have g2 := g1.trans (Same.new hT (.tup [.int (i : Nat), .int z]))
      generalize upd H2 T (.tup [.int (i : Nat), .int z]) = H3 at g2 ⊢
      walk_at "rd"
      refine ⟨u, _, rfl, g2.seq hu, fun p hp => ?_⟩
      have ecut : cutV (V.ref a0 :: xq) (some 1) none = xq := cutV_from (j := 1)
      rw [ecut]
      have g3 := g2.trans (Same.new hp (.lst xq))
      refine ⟨_, i, q, rfl, ⟨p, xq, rfl, SqL.of upd_same, Paired.sameLI g3 hpq⟩, by omega, fun x hx => by have := hz2 x (List.mem_cons_of_mem _ hx); omega, fun r' H5 g5 hr' hll => ?_⟩
      refine ⟨_, _, rfl, hll, by unfold Sh25.minor; rw [List.length_map]; exact lq, fun x hx => ?_, by omega, lb_minor lbq i, fun H6 g6 => ?_⟩
      · unfold Sh25.minor at hx
        obtain ⟨x', h1, rfl⟩ := List.mem_map.mp hx
        have l1 := hz2 x' (List.mem_cons_of_mem _ h1)
        rw [List.length_eraseIdx_of_lt (by omega)]
        omega
      walk_at "rd"
      have gs : Same H H6 := g3.trans (g5.trans g6)
      have es : ((List.range (i + 1)).map G).sum = ((List.range i).map G).sum + G i := by rw [List.range_succ, List.map_append, List.sum_append]; simp
      have bz : B20 z := b20_of (lbr z (List.mem_of_getElem? ez)) (by omega)
      have bd : B20 (Sh25.det n (Sh25.minor q i)) := b20_of (det_bound (by omega) (lb_minor lbq i)) (by
        have : n * (B + 3) ≤ 6 * (B + 3) := Nat.mul_le_mul_right _ (by omega)
        omega)
      refine ⟨⟨bz, bd⟩, by decide, ?_⟩
      by_cases c2 : i % 2 = 0
      · rw [if_pos (by omega)]
        have eG : G i = z * Sh25.det n (Sh25.minor q i) := by show (if i % 2 = 0 then (1 : Int) else -1) * Sh25.at_ r i * _ = _; rw [if_pos c2, eat, Int.one_mul]
        exact ⟨_, _, _, by rw [es, eG], gs⟩
      · rw [if_neg (by omega)]
        have eG : G i = -(z * Sh25.det n (Sh25.minor q i)) := by show (if i % 2 = 0 then (1 : Int) else -1) * Sh25.at_ r i * _ = _; rw [if_neg c2, eat, Int.neg_mul, Int.one_mul, Int.neg_mul]
        exact ⟨_, _, _, by rw [es, eG, ← Int.sub_eq_add_neg], gs⟩
    · obtain ⟨o1, o2, o3, rfl, g1⟩ := p
      rw [List.length_map, lr]
      have e : Sh25.det (n + 1) (r :: q) = ((List.range (n + 1)).map G).sum := by
        conv => lhs; unfold Sh25.det
      exact ⟨_, rfl, by rw [← e]; exact h H2 g1⟩
/-- nothing can be asked of an empty one -/
theorem okDT0 {f : Addr} {fd : FuncData} {B k : Nat} : FnOk P w K mg base (CXE P w) k f fd ["rows"] (spDet K B 0) := by
  have no : ∀ vs H Q E, ¬ spDet K B 0 vs H Q E := fun vs H Q E h => by
    obtain ⟨_, _, _, _, _, _, h1, _⟩ := h
    omega
  exact ⟨fun vs H Q E h => absurd h (no vs H Q E), fun A outer s H args us vs Q E _ _ _ _ h => absurd h (no vs H Q E)⟩
theorem hasDT {f : Addr} {fd : FuncData} {B : Nat} (F : Fun K "determinant" "determinant" s_determinant f fd) (bF : Binds K fd ["rows"] []) (mF : mg "determinant" = some (.ref f)) (hB : B ≤ 20000) (ml : mg "len" = none) (me : mg "enumerate" = none)
    (hWC : Has P w K mg base 1 "without_column" ["rows", "column"] (spWC K)) : ∀ n, n ≤ 6 → Has P w K mg base (n + 1) "determinant" ["rows"] (spDet K B n)
  | 0, _ => ⟨f, fd, okDT0, bF, F.kp, mF⟩
  | n + 1, hn => ⟨f, fd, okDT F hB hn ml me (hasDT F bF mF hB ml me hWC n (by omega)) (hWC.mono (by omega)), bF, F.kp, mF⟩
def spDetU (K : PySem.W.Frag) : Sp := fun vs H Q E => ∃ B n, B ≤ 20000 ∧ n ≤ 6 ∧ spDet K B n vs H Q E
theorem hasDTU {f : Addr} {fd : FuncData} (F : Fun K "determinant" "determinant" s_determinant f fd) (bF : Binds K fd ["rows"] []) (mF : mg "determinant" = some (.ref f)) (ml : mg "len" = none) (me : mg "enumerate" = none)
    (hWC : Has P w K mg base 1 "without_column" ["rows", "column"] (spWC K)) : Has P w K mg base 7 "determinant" ["rows"] (spDetU K) := by
  have each : ∀ B n, B ≤ 20000 → n ≤ 6 → FnOk P w K mg base (CXE P w) 7 f fd ["rows"] (spDet K B n) := fun B n hB hn => by
    obtain ⟨f', fd', o, b, k, m⟩ := hasDT F bF mF hB ml me hWC n hn
    cases n with
    | zero => exact okDT0
    | succ n => exact (okDT F hB hn ml me (hasDT F bF mF hB ml me hWC n (by omega)) (hWC.mono (by omega))).mono (by omega)
  refine ⟨f, fd, ⟨fun vs H Q E h => ?_, fun A outer s H args us vs Q E r1 e1 b1 v1 h => ?_⟩, bF, F.kp, mF⟩
  · obtain ⟨B, n, hB, hn, h⟩ := h
    exact (each B n hB hn).len vs H Q E h
  · obtain ⟨B, n, hB, hn, h⟩ := h
    exact (each B n hB hn).run A outer s H args us vs Q E r1 e1 b1 v1 h

/-! cut -/
def spCut : Sp := fun vs H Q E => ∃ (v p : Int) (way : Nat), vs = [.int v, .int p, .int (way : Int)] ∧ way ≤ 3 ∧ v.natAbs < 2 ^ 200000 ∧ (-200000 ≤ p ∧ p ≤ 200000) ∧ Q (.int (cutP v p way)) H
theorem sc_cut : FnScope ["value", "places", "way", "whole", "rest", "half"] ["value", "places", "way"] (defScope s_cut) := ⟨rfl, rfl, rfl, by decide +kernel, rfl, by decide +kernel, by decide +kernel⟩
theorem ok_cut {f : Addr} {fd : FuncData} {k : Nat} (F : Fun K "cut" "cut" s_cut f fd) {t_DOWN : Tok} (v_DOWN : mg "DOWN" = some (.int 1 t_DOWN)) {t_UP : Tok} (v_UP : mg "UP" = some (.int 2 t_UP)) {t_TOWARDS_ZERO : Tok} (v_TOWARDS_ZERO : mg "TOWARDS_ZERO" = some (.int 3 t_TOWARDS_ZERO)) : FnOk P w K mg base (CXE P w) (k + 1) f fd ["value", "places", "way"] spCut := by
  refine F.okX sc_cut (fun vs H Q E h => ?_) (fun cdv A outer s H vs Q E hr h => ?_)
  · obtain ⟨v, p, way, rfl, hw, bv, bp, h⟩ := h
    rfl
  obtain ⟨v, p, way, rfl, hw, bv, bp, h⟩ := h
  obtain ⟨L, fr⟩ := @frIs_def (CXE P w) P w K mg base ["value", "places", "way", "whole", "rest", "half"] "cut" (defScope s_cut) f cdv A outer s H E
  refine ⟨_, (pss_cons (ps_if (pt_cmpR op_le (pv 1) pe_int (nomark _)) (pss_one (ps_ret (pe_op op_shlB (pv 0) (pe_un un_neg (pv 1))))) pss_nil) (pss_cons (ps_set (i := 3) sc_cut.nd rfl (Or.inl rfl) (pe_op op_shr (pv 0) (pv 1))) (pss_cons (ps_set (i := 4) sc_cut.nd rfl (Or.inl rfl) (pe_op op_sub (pv 0) (pe_op op_shlB (pv 3) (pv 1)))) (pss_cons (ps_if (PW.pt (pw_or (pt_cmpR op_eq (pv 4) pe_int (nomark _)) (pw_or1 (pt_cmpR op_eq (pv 2) (pgI v_DOWN) (nomark _))))) (pss_one (ps_ret (pv 3))) pss_nil) (pss_cons (ps_if (pt_cmpR op_eq (pv 2) (pgI v_UP) (nomark _)) (pss_one (ps_ret (pe_op op_add (pv 3) pe_int))) pss_nil) (pss_cons (ps_if (pt_cmpR op_eq (pv 2) (pgI v_TOWARDS_ZERO) (nomark _)) (pss_one (ps_ret (pe_ifExp (pt_cmpR op_lt (pv 0) pe_int (nomark _)) (pe_op op_add (pv 3) pe_int) (pv 3)))) pss_nil) (pss_cons (ps_set (i := 5) sc_cut.nd rfl (Or.inl rfl) (pe_op op_shlB pe_int (pe_op op_sub (pv 1) pe_int))) (pss_cons (ps_if (PW.pt (pw_or (pt_cmpR op_gt (pv 4) (pv 5) (nomark _)) (pw_or1 (PW.pt (pw_and (pt_cmpR op_eq (pv 4) (pv 5) (nomark _)) (pw_and1 (pt_cmpR op_eq (pe_op op_mod (pv 3) pe_int) pe_int (nomark _)))))))) (pss_one (ps_ret (pe_op op_add (pv 3) pe_int))) pss_nil) (pss_one (ps_ret (pv 3))))))))))), ?_⟩
  walk_at "rd"
  have b20 : B20 v := b20_of bv (by decide)
  unfold cutP at h
  by_cases c : p ≤ 0
  · rw [if_pos c] at h
    rw [if_pos c]
    exact ⟨⟨by omega, by omega, b20⟩, h⟩
  rw [if_neg c] at h
  rw [if_neg c]
  refine ⟨by omega, ?_⟩
  have bw : B20 (v / 2 ^ p.toNat) := b20_of (k := 200001) (by
    have h1 : (v / 2 ^ p.toNat).natAbs ≤ v.natAbs + 1 := div_abs v p.toNat
    have h2 : 2 ^ 200001 = 2 * 2 ^ 200000 := by rw [Nat.pow_succ, Nat.mul_comm]
    have h3 : 0 < 2 ^ 200000 := Nat.two_pow_pos _
    rw [h2]
    generalize 2 ^ 200000 = T at *
    omega) (by decide)
  refine ⟨⟨by omega, by omega, bw⟩, ?_⟩
  generalize v / 2 ^ p.toNat = W at *
  generalize W * 2 ^ p.toNat = M at *
  by_cases c1 : v - M = 0 ∨ way = 1
  · rw [if_pos c1] at h
    rcases c1 with c1 | c1
    · rw [if_pos c1]; exact h
    · by_cases c1' : v - M = 0
      · rw [if_pos c1']; exact h
      · rw [if_neg c1', if_pos (by omega)]; exact h
  rw [if_neg c1] at h
  rw [if_neg (fun z => c1 (.inl z)), if_neg (by omega)]
  by_cases c2 : way = 2
  · rw [if_pos c2] at h
    rw [if_pos (by omega)]; exact h
  rw [if_neg c2] at h
  rw [if_neg (by omega)]
  by_cases c3 : way = 3
  · rw [if_pos c3] at h
    rw [if_pos (by omega)]
    by_cases c4 : v < 0
    · rw [if_pos c4] at h ⊢; exact h
    · rw [if_neg c4] at h ⊢; exact h
  rw [if_neg c3] at h
  rw [if_neg (by omega)]
  refine ⟨⟨by omega, by omega, b20_of (k := 1) (by decide) (by decide)⟩, ?_⟩
  have eh : (1 : Int) * 2 ^ (p - 1).toNat = 2 ^ (p.toNat - 1) := by
    rw [Int.one_mul, show (p - 1).toNat = p.toNat - 1 by omega]
  rw [eh]
  generalize (2 : Int) ^ (p.toNat - 1) = U at *
  by_cases c5 : U < v - M
  · rw [if_pos (.inl c5)] at h
    rw [if_pos c5]; exact h
  rw [if_neg c5]
  by_cases c6 : v - M = U
  · rw [if_pos c6]
    refine ⟨by decide, ?_⟩
    by_cases c7 : W % 2 = 1
    · rw [if_pos (.inr ⟨c6, c7⟩)] at h
      rw [if_pos c7]; exact h
    · rw [if_neg (fun z => z.elim c5 fun z => c7 z.2)] at h
      rw [if_neg c7]; exact h
  · rw [if_neg (fun z => z.elim c5 fun z => c6 z.1)] at h
    rw [if_neg c6]; exact h
/-! number_near -/
def spNN (cT : Addr) : Sp := fun vs H Q E => ∃ (v p : Int) (way : Nat), vs = [.int v, .int p, .int (way : Int)] ∧ way ≤ 3 ∧ VB v p ∧ (∀ b, tn way v p = some b → Q (.int (Sh25.val b)) H) ∧ (tn way v p = none → E (.ref cT) none H)
theorem sc_number_near : FnScope ["value", "places", "way", "kept", "number", "widest"] ["value", "places", "way"] (defScope s_number_near) := ⟨rfl, rfl, rfl, by decide +kernel, rfl, by decide +kernel, by decide +kernel⟩
theorem ok_number_near {f : Addr} {fd : FuncData} {k : Nat} (F : Fun K "number_near" "number_near" s_number_near f fd) {C_CantBeTold : Addr} {bm_CantBeTold : List Value} {B_CantBeTold nw_CantBeTold in_CantBeTold : String} (O_CantBeTold : PyProof.Rows.OwnCls "CantBeTold" C_CantBeTold bm_CantBeTold nw_CantBeTold mg base) (FB_CantBeTold : ExcBaseFacts B_CantBeTold nw_CantBeTold in_CantBeTold bm_CantBeTold) (m_min : mg "min" = none) (m_abs : mg "abs" = none) {t_PLACES : Tok} (v_PLACES : mg "PLACES" = some (.int 1074 t_PLACES)) {t_NUMBER_BITS : Tok} (v_NUMBER_BITS : mg "NUMBER_BITS" = some (.int 53 t_NUMBER_BITS)) {t_NEAREST : Tok} (v_NEAREST : mg "NEAREST" = some (.int 0 t_NEAREST)) {t_UP : Tok} (v_UP : mg "UP" = some (.int 2 t_UP)) {t_TOP_EXPONENT : Tok} (v_TOP_EXPONENT : mg "TOP_EXPONENT" = some (.int 1024 t_TOP_EXPONENT)) (h_cut : Has P w K mg base k "cut" ["value", "places", "way"] spCut) : FnOk P w K mg base (CXE P w) (k + 1) f fd ["value", "places", "way"] (spNN C_CantBeTold) := by
  refine F.okX sc_number_near (fun vs H Q E h => ?_) (fun cdv A outer s H vs Q E hr h => ?_)
  · obtain ⟨v, p, way, rfl, hw, bv, h⟩ := h
    rfl
  obtain ⟨v, p, way, rfl, hw, bv, h⟩ := h
  obtain ⟨L, fr⟩ := @frIs_def (CXE P w) P w K mg base ["value", "places", "way", "kept", "number", "widest"] "number_near" (defScope s_number_near) f cdv A outer s H E
  refine ⟨_, (pss_cons (ps_if (pt_cmpR op_eq (pv 0) pe_int (nomark _)) (pss_one (ps_ret pe_int)) pss_nil) (pss_cons (ps_set (i := 3) sc_number_near.nd rfl (Or.inl rfl) (pe_callB (cr_min2 rfl) rfl m_min (by decide +kernel) (pa_cons (pe_op op_sub (pe_op op_add (pgI v_NUMBER_BITS) (pv 1)) (pe_bits (pv 0))) (pa_cons (pgI v_PLACES) pa_nil)))) (pss_cons (ps_set (i := 4) sc_number_near.nd rfl (Or.inl rfl) (pe_callH h_cut hr (passX rfl ⟨L, fr⟩) (pa_cons (pv 0) (pa_cons (pe_op op_sub (pv 1) (pv 3)) (pa_cons (pv 2) pa_nil))))) (pss_cons (ps_set (i := 5) sc_number_near.nd rfl (Or.inl rfl) (pe_ifExp (pt_cmpR op_eq (pv 2) (pgI v_NEAREST) (nomark _)) (pv 4) (pe_callH h_cut hr (passX rfl ⟨L, fr⟩) (pa_cons (pe_callB cr_abs rfl m_abs (by decide +kernel) (pa_cons (pv 0) pa_nil)) (pa_cons (pe_op op_sub (pv 1) (pv 3)) (pa_cons (pgI v_UP) pa_nil)))))) (pss_cons (ps_if (pt_cmpR op_gt (pe_op op_sub (pe_bits (pv 5)) (pv 3)) (pgI v_TOP_EXPONENT) (nomark _)) (pss_one (ps_raise rfl ⟨L, fr⟩ rfl rfl O_CantBeTold FB_CantBeTold (pa_cons pe_str pa_nil))) pss_nil) (pss_one (ps_ret (pe_op op_shlB (pv 4) (pe_op op_sub (pgI v_PLACES) (pv 3)))))))))), ?_⟩
  walk_at "rd"
  have hn := nn_eq (v := v) (p := p) hw
  unfold nnP at hn
  obtain ⟨bv, bp⟩ := bv
  have give : ∀ z, some z = (tn way v p).map Sh25.val → Q (.int z) H := fun z e => by
    cases ht : tn way v p with
    | none => rw [ht] at e; cases e
    | some b => rw [ht] at e; cases e; exact h.1 b ht
  by_cases c : v = 0
  · rw [if_pos c] at hn ⊢
    exact give _ hn
  rw [if_neg c] at hn ⊢
  rw [intBits_eq, show (if 1074 < 53 + p - (bitsN v.natAbs : Int) then (1074 : Int) else 53 + p - (bitsN v.natAbs : Int)) = keptP v p from rfl]
  have hk : -300000 ≤ keptP v p ∧ keptP v p ≤ 1074 ∧ -150000 ≤ p - keptP v p ∧ p - keptP v p ≤ 150000 := by
    have := bits_le.mpr bv
    unfold keptP
    split <;> omega
  have bv2 : v.natAbs < 2 ^ 200000 := Nat.lt_of_lt_of_le bv (Nat.pow_le_pow_right (by decide) (by decide))
  refine ⟨v, p - keptP v p, way, rfl, hw, bv2, by omega, ?_⟩
  have bc : ∀ w x, x.natAbs = v.natAbs → w ≤ 3 → B20 (cutP x (p - keptP v p) w) := fun w x ex hw' => cutP_b20 (k := 200000) (by rw [ex]; exact bv2) (by omega) hw'
  have tail : ∀ W : Int, W = (if way = 0 then cutP v (p - keptP v p) way else cutP (if v < 0 then -v else v) (p - keptP v p) 2) →
      (if 1024 < ((Builtin.Int.intBits W : Nat) : Int) - keptP v p then 1 ≤ sizeLine ∧ E (.ref C_CantBeTold) none H else (0 ≤ 1074 - keptP v p ∧ 1074 - keptP v p ≤ 1048576 ∧ B20 (cutP v (p - keptP v p) way)) ∧ Q (.int (cutP v (p - keptP v p) way * 2 ^ (1074 - keptP v p).toNat)) H) := fun W eW => by
    rw [← eW] at hn
    rw [intBits_eq]
    by_cases c2 : 1024 < (bitsN W.natAbs : Int) - keptP v p
    · rw [if_pos c2] at hn ⊢
      refine ⟨by decide, h.2 ?_⟩
      cases ht : tn way v p with
      | none => rfl
      | some b => rw [ht] at hn; cases hn
    · rw [if_neg c2] at hn ⊢
      exact ⟨⟨by omega, by omega, bc _ _ rfl hw⟩, give _ hn⟩
  walk_at "rd"
  by_cases c3 : way = 0
  · rw [if_pos (show ((way : Nat) : Int) = 0 by omega)]
    exact tail _ (by rw [if_pos c3])
  · rw [if_neg (show ¬ ((way : Nat) : Int) = 0 by omega)]
    refine ⟨_, _, 2, rfl, by decide, by rw [show (if v < 0 then -v else v).natAbs = v.natAbs by split <;> omega]; exact bv2, by omega, ?_⟩
    walk_at "rd"
    exact tail _ (by rw [if_neg c3])
/-! write_number -/
def spWN : Sp := fun vs H Q E => ∃ b : Nat, vs = [.int (Sh25.val b)] ∧ Sh25.isNum b = true ∧ Q (.int ((Sh25.plain b : Nat) : Int)) H
theorem sc_write_number : FnScope ["number", "size", "shift", "bits"] ["number"] (defScope s_write_number) := ⟨rfl, rfl, rfl, by decide +kernel, rfl, by decide +kernel, by decide +kernel⟩
theorem ok_write_number {f : Addr} {fd : FuncData} {k : Nat} (F : Fun K "write_number" "write_number" s_write_number f fd) (m_abs : mg "abs" = none) (m_max : mg "max" = none) {t_NUMBER_BITS : Tok} (v_NUMBER_BITS : mg "NUMBER_BITS" = some (.int 53 t_NUMBER_BITS)) {t_SIGN_BIT : Tok} (v_SIGN_BIT : mg "SIGN_BIT" = some (.int 9223372036854775808 t_SIGN_BIT)) : FnOk P w K mg base (CXE P w) (k + 1) f fd ["number"] spWN := by
  refine F.okX sc_write_number (fun vs H Q E h => ?_) (fun cdv A outer s H vs Q E hr h => ?_)
  · obtain ⟨b, rfl, hb, h⟩ := h
    rfl
  obtain ⟨b, rfl, hb, h⟩ := h
  obtain ⟨L, fr⟩ := @frIs_def (CXE P w) P w K mg base ["number", "size", "shift", "bits"] "write_number" (defScope s_write_number) f cdv A outer s H E
  refine ⟨_, (pss_cons (ps_set (i := 1) sc_write_number.nd rfl (Or.inl rfl) (pe_callB cr_abs rfl m_abs (by decide +kernel) (pa_cons (pv 0) pa_nil))) (pss_cons (ps_set (i := 2) sc_write_number.nd rfl (Or.inl rfl) (pe_callB (cr_max2 rfl) rfl m_max (by decide +kernel) (pa_cons (pe_op op_sub (pe_bits (pv 1)) (pgI v_NUMBER_BITS)) (pa_cons pe_int pa_nil)))) (pss_cons (ps_set (i := 3) sc_write_number.nd rfl (Or.inl rfl) (pe_op op_add (pe_op op_shlB (pv 2) (pe_op op_sub (pgI v_NUMBER_BITS) pe_int)) (pe_op op_shr (pv 1) (pv 2)))) (pss_cons (ps_if (pt_cmpR op_lt (pv 0) pe_int (nomark _)) (pss_one (ps_ret (pe_op op_add (pv 3) (pgI v_SIGN_BIT)))) pss_nil) (pss_one (ps_ret (pv 3))))))), ?_⟩
  walk_at "rd"
  have hw := wr_eq hb
  have hlt := val_lt hb
  rw [intBits_eq, show (if (0 : Int) > (bitsN (if Sh25.val b < 0 then -Sh25.val b else Sh25.val b).natAbs : Int) - 53 then 0 else (bitsN (if Sh25.val b < 0 then -Sh25.val b else Sh25.val b).natAbs : Int) - 53) = wrP (Sh25.val b) from rfl]
  have hs : 0 ≤ wrP (Sh25.val b) ∧ wrP (Sh25.val b) ≤ 3000 := by
    have := bits_le.mpr (show (if Sh25.val b < 0 then -Sh25.val b else Sh25.val b).natAbs < 2 ^ 2098 by rw [show (if Sh25.val b < 0 then -Sh25.val b else Sh25.val b).natAbs = (Sh25.val b).natAbs by split <;> omega]; exact hlt)
    unfold wrP
    generalize bitsN (if Sh25.val b < 0 then -Sh25.val b else Sh25.val b).natAbs = m at *
    split <;> omega
  refine ⟨⟨by decide, by decide, b20_of (k := 20) (by omega) (by decide)⟩, by omega, ?_⟩
  have e1 : (if Sh25.val b < 0 then -Sh25.val b else Sh25.val b) = ((Sh25.val b).natAbs : Int) := by split <;> omega
  rw [e1]
  have e2 : ((Sh25.val b).natAbs : Int) / 2 ^ (wrP (Sh25.val b)).toNat = (((Sh25.val b).natAbs / 2 ^ (wrP (Sh25.val b)).toNat : Nat) : Int) := by
    rw [Int.natCast_ediv, Int.natCast_pow]; rfl
  rw [e2, show ((53 : Int) - 1).toNat = 52 from rfl]
  unfold Sh25.SIGN at hw
  have e3 : wrP (Sh25.val b) * 2 ^ 52 = (((wrP (Sh25.val b)).toNat * 2 ^ 52 : Nat) : Int) := by
    rw [Int.natCast_mul, Int.toNat_of_nonneg hs.1]; rfl
  rw [e3]
  generalize (wrP (Sh25.val b)).toNat * 2 ^ 52 = A at *
  generalize (Sh25.val b).natAbs / 2 ^ (wrP (Sh25.val b)).toNat = B at *
  by_cases c : Sh25.val b < 0
  · rw [if_pos c] at hw ⊢
    rw [show ((A : Int) + (B : Int) + 9223372036854775808) = ((Sh25.plain b : Nat) : Int) by omega]
    exact h
  · rw [if_neg c] at hw ⊢
    rw [show ((A : Int) + (B : Int)) = ((Sh25.plain b : Nat) : Int) by omega]
    exact h
/-! told_by -/
def spToldBy (K : PySem.W.Frag) (cT : Addr) : Sp := fun vs H Q E => ∃ (way : Nat) (v : V) (xs : List (Int × Int)), vs = [.int (way : Int), v] ∧ way ≤ 3 ∧ LEV K H v xs ∧ xs.length ≤ 100000 ∧ (∀ x ∈ xs, VB x.1 x.2) ∧
  (∀ r, Sh25.all? (xs.map fun x => tn way x.1 x.2) = some r → ∀ q H', Same H H' → H' q = some (.lst ((0 :: Sh25.ints r).map V.int)) → Q (.ref q) H') ∧ (Sh25.all? (xs.map fun x => tn way x.1 x.2) = none → ∀ H', Same H H' → E (.ref cT) none H')
theorem sc_told_by : FnScope ["way", "values", "numbers", "value", "places", "number"] ["way", "values"] (defScope s_told_by) := ⟨rfl, rfl, rfl, by decide +kernel, rfl, by decide +kernel, by decide +kernel⟩
theorem ok_told_by {f : Addr} {fd : FuncData} {k : Nat} (F : Fun K "told_by" "told_by" s_told_by f fd) {C_CantBeTold : Addr} (h_number_near : Has P w K mg base k "number_near" ["value", "places", "way"] (spNN C_CantBeTold)) (h_write_number : Has P w K mg base k "write_number" ["number"] spWN) : FnOk P w K mg base (CXE P w) (k + 1) f fd ["way", "values"] (spToldBy K C_CantBeTold) := by
  refine F.okX sc_told_by (fun vs H Q E h => ?_) (fun cdv A outer s H vs Q E hr h => ?_)
  · obtain ⟨way, _, xs, rfl, hw, ⟨u, us, rfl, hu, hp⟩, hz, hb, h1, h2⟩ := h
    rfl
  obtain ⟨way, _, xs, rfl, hw, ⟨u, us, rfl, hu, hp⟩, hz, hb, h1, h2⟩ := h
  obtain ⟨L, fr⟩ := @frIs_def (CXE P w) P w K mg base ["way", "values", "numbers", "value", "places", "number"] "told_by" (defScope s_told_by) f cdv A outer s H E
  refine ⟨_, (pss_cons (ps_setLcE (i := 2) (own := [("value", 3), ("places", 4)]) rfl rfl fr sc_told_by.nd rfl rfl rfl rfl rfl (pi_list (pv 1)) (blkOk_by rfl) (fun _ _ _ _ _ => (pg_two K 3 4 rfl sc_told_by.nd)) (fun _ _ _ _ _ => (pe_callH h_number_near hr (passX rfl ⟨L, fr.blk⟩) (pa_cons (pv 3) (pa_cons (pv 4) (pa_cons (pv 0) pa_nil)))))) (pss_one (ps_ret (pe_op op_cat (pe_lst (pa_cons pe_int pa_nil)) (pe_lcE (own := [("number", 5)]) rfl rfl fr sc_told_by.nd (pi_list (pv 2)) (blkOk_by rfl) (fun _ _ _ _ _ => (pg_name (i := 5) sc_told_by.nd rfl (Or.inl rfl))) (fun _ _ _ _ _ => (pe_callH h_write_number hr (passX rfl ⟨L, fr.blk⟩) (pa_cons (pv 5) pa_nil)))))))), ?_⟩
  walk_at "rd"
  refine ⟨_, rfl, u, rfl, ⟨_, hu⟩, fun D hD => ?_⟩
  have lu : us.length = xs.length := hp.length
  refine lc_any (n := xs.length) (fun i _ v => ∃ x b, xs[i]? = some x ∧ tn way x.1 x.2 = some b ∧ v = .int (Sh25.val b)) (fun i H H' v _ r => r) hD (Nat.le_trans hz (by decide)) (fun H2 g2 => ⟨_, g2.seq hu, Nat.le_of_eq lu⟩)
    (fun i H2 hi g2 => ⟨_, _, g2.seq hu, List.getElem?_eq_getElem (by omega)⟩) (fun i x H2 H3 Q' hi g2 _ y hQ => ?_) fun H2 ys g2 hD2 ely hys => ?_
  · obtain ⟨rfl, y⟩ := y
    obtain ⟨x1, e1, a1, rfl, s1⟩ := Paired.get hp (y _ (g2.seq hu))
    refine ⟨a1, _, rfl, g2.seqT s1, rfl, _, _, rfl, _, _, rfl, rfl, rfl, ?_⟩
    walk_at "rd"
    refine ⟨x1.1, x1.2, way, rfl, hw, hb _ (List.mem_of_getElem? e1), fun b eb => hQ _ _ (Same.refl _) ⟨x1, b, e1, eb, rfl⟩, fun en => h2 ?_ _ g2⟩
    rw [all_none]
    exact List.mem_map.mpr ⟨x1, List.mem_of_getElem? e1, en⟩
  · have hr : xs.map (fun x => tn way x.1 x.2) = (xs.map fun x => (tn way x.1 x.2).getD 0).map some := by
      rw [List.map_map]
      refine List.map_congr_left fun x hx => ?_
      obtain ⟨i, hi, rfl⟩ := List.getElem_of_mem hx
      obtain ⟨x', b, e1, e2, _⟩ := hys i ys[i] (List.getElem?_eq_getElem (by omega))
      rw [List.getElem?_eq_getElem hi] at e1
      cases e1
      show tn way _ _ = some ((tn way _ _).getD 0)
      rw [e2]; rfl
    have h1 := h1 _ (all_some.mpr hr)
    have hall : ∀ i b, (xs.map fun x => (tn way x.1 x.2).getD 0)[i]? = some b → Sh25.isNum b = true ∧ Sh25.plain b = b := fun i b e => by
      rw [List.getElem?_map] at e
      obtain ⟨x, e1, rfl⟩ := Option.map_eq_some_iff.mp e
      have hi : i < ys.length := by have := (List.getElem?_eq_some_iff.mp e1).1; omega
      obtain ⟨x', b, e3, e4, _⟩ := hys i ys[i] (List.getElem?_eq_getElem hi)
      rw [e1] at e3
      cases e3
      rw [e4]
      exact ⟨(toNum_some (Nat.two_pow_pos _) e4).2.1, told_plain (Nat.two_pow_pos _) e4⟩
    have ey : ys = ((xs.map fun x => (tn way x.1 x.2).getD 0).map Sh25.val).map V.int := ints_of (by rw [List.length_map, List.length_map]; exact ely) fun i v e => by
      obtain ⟨x, b, e1, e2, rfl⟩ := hys i v e
      exact ⟨Sh25.val b, by rw [List.getElem?_map, List.getElem?_map, e1]; show some (Sh25.val ((tn way x.1 x.2).getD 0)) = _; rw [e2]; rfl, rfl⟩
    have er : (xs.map fun x => (tn way x.1 x.2).getD 0).length = xs.length := by rw [List.length_map]
    generalize xs.map (fun x => (tn way x.1 x.2).getD 0) = r at h1 hall ey er
    walk_at "rd"
    refine ⟨by decide, fun p hp' => ?_⟩
    have g3 := Same.new hp' (.lst [.int 0])
    have sD : SqL K (upd H2 p (.lst [.int 0])) D ys := SqL.of (g3 _ _ hD2)
    have ep : upd H2 p (.lst [.int 0]) p = some (.lst [.int 0]) := upd_same
    generalize upd H2 p (.lst [.int 0]) = H3 at g3 sD ep ⊢
    refine ⟨_, rfl, D, rfl, ⟨_, sD⟩, fun D2 hD' => ?_⟩
    refine lc_any (n := xs.length) (fun i _ v => ∃ b : Nat, r[i]? = some b ∧ v = .int (b : Int)) (fun i H H' v _ r => r) hD' (Nat.le_trans hz (by decide)) (fun H4 g4 => ⟨_, g4.seq sD, Nat.le_of_eq ely⟩)
      (fun i H4 hi g4 => ⟨_, _, g4.seq sD, List.getElem?_eq_getElem (by omega)⟩) (fun i x H4 H5 Q' hi g4 _ y hQ => ?_) fun H4 zs g4 hD4 elz hzs => ?_
    · obtain ⟨rfl, y⟩ := y
      have ex := y _ (g4.seq sD)
      rw [ey, List.map_map, List.getElem?_map] at ex
      obtain ⟨b, eb, rfl⟩ := Option.map_eq_some_iff.mp ex
      obtain ⟨q1, q2⟩ := hall i b eb
      refine ⟨rfl, _, rfl, b, rfl, q1, ?_⟩
      rw [q2]
      exact hQ _ _ (Same.refl _) ⟨b, eb, rfl⟩
    · have ez : zs = (Sh25.ints r).map V.int := ints_of (by unfold Sh25.ints; rw [List.length_map]; omega) fun i v e => by
        obtain ⟨b, e1, rfl⟩ := hzs i v e
        exact ⟨b, by unfold Sh25.ints; rw [List.getElem?_map, e1]; rfl, rfl⟩
      refine ⟨p, D2, _, _, rfl, rfl, g4 _ _ ep, hD4, ?_, fun p2 h2' => h1 p2 _ (g2.trans (g3.trans (g4.trans (Same.new h2' _)))) ?_⟩
      · rw [elz]
        show 1 + _ ≤ _
        exact Nat.le_trans (show 1 + xs.length ≤ 200000 by omega) (by decide)
      · rw [ez]
        exact upd_same
/-! told -/
def spTold (K : PySem.W.Frag) (cT : Addr) : Sp := fun vs H Q E => ∃ (v : V) (xs : List (Int × Int)), vs = [v] ∧ LEV K H v xs ∧ xs.length ≤ 100000 ∧ (∀ x ∈ xs, VB x.1 x.2) ∧
  (∀ r, Sh25.all? (xs.map fun x => tn 0 x.1 x.2) = some r → ∀ q H', Same H H' → H' q = some (.lst ((0 :: Sh25.ints r).map V.int)) → Q (.ref q) H') ∧ (Sh25.all? (xs.map fun x => tn 0 x.1 x.2) = none → ∀ H', Same H H' → E (.ref cT) none H')
theorem sc_told : FnScope ["values"] ["values"] (defScope s_told) := ⟨rfl, rfl, rfl, by decide +kernel, rfl, by decide +kernel, by decide +kernel⟩
theorem ok_told {f : Addr} {fd : FuncData} {k : Nat} (F : Fun K "told" "told" s_told f fd) {C_CantBeTold : Addr} {t_NEAREST : Tok} (v_NEAREST : mg "NEAREST" = some (.int 0 t_NEAREST)) (h_told_by : Has P w K mg base k "told_by" ["way", "values"] (spToldBy K C_CantBeTold)) : FnOk P w K mg base (CXE P w) (k + 1) f fd ["values"] (spTold K C_CantBeTold) := by
  refine F.okX sc_told (fun vs H Q E h => ?_) (fun cdv A outer s H vs Q E hr h => ?_)
  · obtain ⟨v, xs, rfl, hv, hz, hb, h1, h2⟩ := h
    rfl
  obtain ⟨v, xs, rfl, hv, hz, hb, h1, h2⟩ := h
  obtain ⟨L, fr⟩ := @frIs_def (CXE P w) P w K mg base ["values"] "told" (defScope s_told) f cdv A outer s H E
  refine ⟨_, (pss_one (ps_ret (pe_callH h_told_by hr (passX rfl ⟨L, fr⟩) (pa_cons (pgI v_NEAREST) (pa_cons (pv 0) pa_nil))))), ?_⟩
  walk_at "rd"
  exact ⟨0, v, xs, rfl, by decide, hv, hz, hb, h1, h2⟩
/-! marked -/
def spMark : Sp := fun vs H Q E => ∃ (z p : Int) (b : Bool), vs = [.int z, .int p, .bl b] ∧ B20 z ∧ ∀ r H', Same H H' → H r = none → H' r = some (.tup [.int (2 * z + if b = true then 1 else 0), .int (p + 1)]) → Q (.ref r) H'
theorem sc_marked : FnScope ["whole", "places", "is_more"] ["whole", "places", "is_more"] (defScope s_marked) := ⟨rfl, rfl, rfl, by decide +kernel, rfl, by decide +kernel, by decide +kernel⟩
theorem ok_marked {f : Addr} {fd : FuncData} {k : Nat} (F : Fun K "marked" "marked" s_marked f fd)  : FnOk P w K mg base (CXE P w) (k + 1) f fd ["whole", "places", "is_more"] spMark := by
  refine F.okX sc_marked (fun vs H Q E h => ?_) (fun cdv A outer s H vs Q E hr h => ?_)
  · obtain ⟨z, p, b, rfl, bz, h⟩ := h
    rfl
  obtain ⟨z, p, b, rfl, bz, h⟩ := h
  obtain ⟨L, fr⟩ := @frIs_def (CXE P w) P w K mg base ["whole", "places", "is_more"] "marked" (defScope s_marked) f cdv A outer s H E
  refine ⟨_, (pss_one (ps_ret (pe_tup (pa_cons (pe_op op_add (pe_op op_mulB pe_int (pv 0)) (pe_ifExp (pt_val (pv 2)) pe_int pe_int)) (pa_cons (pe_op op_add (pv 1) pe_int) pa_nil))))), ?_⟩
  walk_at "rd"
  refine ⟨⟨b20_of (k := 2) (by decide) (by decide), bz⟩, ?_⟩
  cases b with
  | true => exact ⟨by decide, fun r hr => h r _ (Same.new hr _) hr upd_same⟩
  | false => exact ⟨by decide, fun r hr => h r _ (Same.new hr _) hr upd_same⟩
/-! quotient -/
def spQuo (K : PySem.W.Frag) : Sp := fun vs H Q E => ∃ (a b : Int) (p : Nat), vs = [.int a, .int b, .int (p : Int)] ∧ DZ b ∧ a.natAbs < 2 ^ 40000 ∧ p ≤ 20000 ∧
  ∀ r H' v q, Same H H' → H r = none → H' r = some (.tup [.int v, .int q]) → VB v q → (∀ way (N : Int) (D : Nat), 0 < D → N * (b * 2 ^ p) = a * 2 ^ 1074 * D → tn way v q = Sh25.toNum way N D) → (∃ s : Nat, (s : Int) = qS a b ∧ v = 2 * (a * 2 ^ s).fdiv b + (if (a * 2 ^ s).fdiv b * b ≠ a * 2 ^ s then 1 else 0) ∧ q = (p : Int) + s + 1) → Q (.ref r) H'
theorem sc_quotient : FnScope ["dividend", "divisor", "places", "shift", "scaled", "whole"] ["dividend", "divisor", "places"] (defScope s_quotient) := ⟨rfl, rfl, rfl, by decide +kernel, rfl, by decide +kernel, by decide +kernel⟩
theorem ok_quotient {f : Addr} {fd : FuncData} {k : Nat} (F : Fun K "quotient" "quotient" s_quotient f fd) (m_max : mg "max" = none) {t_KEPT_BITS : Tok} (v_KEPT_BITS : mg "KEPT_BITS" = some (.int 128 t_KEPT_BITS)) (h_marked : Has P w K mg base k "marked" ["whole", "places", "is_more"] spMark) : FnOk P w K mg base (CXE P w) (k + 1) f fd ["dividend", "divisor", "places"] (spQuo K) := by
  refine F.okX sc_quotient (fun vs H Q E h => ?_) (fun cdv A outer s H vs Q E hr h => ?_)
  · obtain ⟨a, b, p, rfl, hb, ba, bp, h⟩ := h
    rfl
  obtain ⟨a, b, p, rfl, hb, ba, bp, h⟩ := h
  obtain ⟨L, fr⟩ := @frIs_def (CXE P w) P w K mg base ["dividend", "divisor", "places", "shift", "scaled", "whole"] "quotient" (defScope s_quotient) f cdv A outer s H E
  refine ⟨_, (pss_cons (ps_set (i := 3) sc_quotient.nd rfl (Or.inl rfl) (pe_callB (cr_max2 rfl) rfl m_max (by decide +kernel) (pa_cons (pe_op op_sub (pe_op op_add (pgI v_KEPT_BITS) (pe_bits (pv 1))) (pe_bits (pv 0))) (pa_cons pe_int pa_nil)))) (pss_cons (ps_set (i := 4) sc_quotient.nd rfl (Or.inl rfl) (pe_op op_shlB (pv 0) (pv 3))) (pss_cons (ps_set (i := 5) sc_quotient.nd rfl (Or.inl rfl) (pe_op op_fdivZ (pv 4) (pv 1))) (pss_one (ps_ret (pe_callH h_marked hr (passX rfl ⟨L, fr⟩) (pa_cons (pv 5) (pa_cons (pe_op op_add (pv 2) (pv 3)) (pa_cons (pe_cmpR op_ne (pe_op op_mulB (pv 5) (pv 1)) (pv 4) (nomark _)) pa_nil))))))))), ?_⟩
  walk_at "rd"
  rw [intBits_eq, intBits_eq, show (if (0 : Int) > 128 + (bitsN b.natAbs : Int) - (bitsN a.natAbs : Int) then 0 else 128 + (bitsN b.natAbs : Int) - (bitsN a.natAbs : Int)) = qS a b from rfl]
  have hs : 0 ≤ qS a b ∧ qS a b ≤ 9200 := by
    have := bits_le.mpr hb.2
    unfold qS
    split <;> omega
  obtain ⟨s, es⟩ : ∃ s : Nat, qS a b = (s : Int) := ⟨(qS a b).toNat, by omega⟩
  rw [es] at hs ⊢
  rw [Int.toNat_natCast]
  have b1 : B20 a := b20_of ba (by decide)
  have bx : (a * 2 ^ s).natAbs < 2 ^ 50000 := by
    rw [Int.natAbs_mul, Int.natAbs_pow]
    have : 2 ^ s ≤ 2 ^ 9200 := Nat.pow_le_pow_right (by decide) (by omega)
    calc a.natAbs * 2 ^ s ≤ 2 ^ 40000 * 2 ^ 9200 := Nat.mul_le_mul (Nat.le_of_lt ba) this
      _ = 2 ^ 49200 := by rw [← Nat.pow_add]
      _ < 2 ^ 50000 := Nat.pow_lt_pow_right (by decide) (by decide)
  have bw : ((a * 2 ^ s).fdiv b).natAbs < 2 ^ 50001 := Nat.lt_of_le_of_lt (fdiv_abs hb.1) (by
    have e : 2 ^ 50001 = 2 * 2 ^ 50000 := by rw [Nat.pow_succ, Nat.mul_comm]
    have p0 : 0 < 2 ^ 50000 := Nat.two_pow_pos _
    rw [e]
    generalize 2 ^ 50000 = T at *
    omega)
  have bb : B20 b := b20_of hb.2 (by decide)
  refine ⟨⟨by omega, by omega, b1⟩, hb, ⟨b20_of bw (by decide), bb⟩, ?_⟩
  refine ⟨_, _, _, rfl, b20_of bw (by decide), fun r H1 g1 n1 e1 => ?_⟩
  have ei : (if (!decide ((a * 2 ^ s).fdiv b * b = a * 2 ^ s)) = true then (1 : Int) else 0) = if (a * 2 ^ s).fdiv b * b ≠ a * 2 ^ s then 1 else 0 := by
    simp only [Bool.not_eq_true', decide_eq_false_iff_not, ne_eq]
  rw [ei] at e1
  refine h r H1 _ _ g1 n1 e1 ⟨?_, by omega, by omega⟩ (fun way N D hD hN => ?_) ⟨s, es.symm, rfl, rfl⟩
  · have e : 2 ^ 50003 = 4 * 2 ^ 50001 := by rw [show 50003 = 2 + 50001 from rfl, Nat.pow_add]
    refine Nat.lt_trans (m := 2 ^ 50003) ?_ (Nat.pow_lt_pow_right (by decide) (by decide))
    rw [e]
    generalize 2 ^ 50001 = T at *
    split <;> omega
  · exact quo_tn (way := way) (s := s) hb.1 hD hN es.symm
/-! read_number -/
def spNum (cW : Addr) : Sp := fun vs H Q E => ∃ b : Nat, vs = [.int (b : Int)] ∧ b < 2 ^ 64 ∧ (if Sh25.isNum b = true then Q (.int (Sh25.val b)) H else E (.ref cW) none H)
theorem exp_eq {b : Nat} : Builtin.bitAnd ((b : Int) / 2 ^ (52 : Int).toNat) 2047 = ((b / 2 ^ 52 % 2048 : Nat) : Int) := by
  have h : (0 : Int) ≤ (b : Int) / 2 ^ (52 : Int).toNat := Int.ediv_nonneg (Int.natCast_nonneg _) (by decide)
  have := Bits.bitAnd_mask 11 h
  rw [show (2 : Int) ^ 11 - 1 = 2047 by decide] at this
  rw [this]
  show (b : Int) / 2 ^ 52 % 2 ^ 11 = _
  omega
theorem frac_eq {b : Nat} : Builtin.bitAnd (b : Int) 4503599627370495 = ((b % 2 ^ 52 : Nat) : Int) := by
  have := Bits.bitAnd_mask 52 (Int.natCast_nonneg b)
  rw [show (2 : Int) ^ 52 - 1 = 4503599627370495 by decide] at this
  rw [this]
  omega
theorem sc_read_number : FnScope ["bits", "exponent", "size"] ["bits"] (defScope s_read_number) := ⟨rfl, rfl, rfl, by decide +kernel, rfl, by decide +kernel, by decide +kernel⟩
theorem ok_read_number {f : Addr} {fd : FuncData} {k : Nat} (F : Fun K "read_number" "read_number" s_read_number f fd) {C_WrongInput : Addr} {bm_WrongInput : List Value} {B_WrongInput nw_WrongInput in_WrongInput : String} (O_WrongInput : PyProof.Rows.OwnCls "WrongInput" C_WrongInput bm_WrongInput nw_WrongInput mg base) (FB_WrongInput : ExcBaseFacts B_WrongInput nw_WrongInput in_WrongInput bm_WrongInput) {t_EXPONENT_MASK : Tok} (v_EXPONENT_MASK : mg "EXPONENT_MASK" = some (.int 2047 t_EXPONENT_MASK)) {t_FRACTION_MASK : Tok} (v_FRACTION_MASK : mg "FRACTION_MASK" = some (.int 4503599627370495 t_FRACTION_MASK)) {t_HIDDEN_BIT : Tok} (v_HIDDEN_BIT : mg "HIDDEN_BIT" = some (.int 4503599627370496 t_HIDDEN_BIT)) : FnOk P w K mg base (CXE P w) (k + 1) f fd ["bits"] (spNum C_WrongInput) := by
  refine F.okX sc_read_number (fun vs H Q E h => ?_) (fun cdv A outer s H vs Q E hr h => ?_)
  · obtain ⟨b, rfl, hb, h⟩ := h
    rfl
  obtain ⟨b, rfl, hb, h⟩ := h
  obtain ⟨L, fr⟩ := @frIs_def (CXE P w) P w K mg base ["bits", "exponent", "size"] "read_number" (defScope s_read_number) f cdv A outer s H E
  refine ⟨_, (pss_cons (ps_set (i := 1) sc_read_number.nd rfl (Or.inl rfl) (pe_op op_and (pe_op op_shr (pv 0) pe_int) (pgI v_EXPONENT_MASK))) (pss_cons (ps_if (PW.pt (pw_or (pt_cmpR op_eq (pv 1) (pgI v_EXPONENT_MASK) (nomark _)) (pw_or1 (pt_cmpR op_ne (pe_op op_shr (pv 0) pe_int) pe_int (nomark _))))) (pss_one (ps_raise rfl ⟨L, fr⟩ rfl rfl O_WrongInput FB_WrongInput (pa_cons pe_str pa_nil))) pss_nil) (pss_cons (ps_set (i := 2) sc_read_number.nd rfl (Or.inl rfl) (pe_op op_and (pv 0) (pgI v_FRACTION_MASK))) (pss_cons (ps_if (pt_cmpR op_gt (pv 1) pe_int (nomark _)) (pss_one (ps_set (i := 2) sc_read_number.nd rfl (Or.inl rfl) (pe_op op_shlB (pe_op op_add (pv 2) (pgI v_HIDDEN_BIT)) (pe_op op_sub (pv 1) pe_int)))) pss_nil) (pss_cons (ps_if (pt_cmpR op_eq (pe_op op_shr (pv 0) pe_int) pe_int (nomark _)) (pss_one (ps_ret (pe_un un_neg (pv 2)))) pss_nil) (pss_one (ps_ret (pv 2)))))))), ?_⟩
  walk_at "rd"
  rw [exp_eq, frac_eq, show ((b : Int) / 2 ^ Int.toNat 63) = ((b / 2 ^ 63 : Nat) : Int) by show (b : Int) / 2 ^ 63 = _; omega, show ((b : Int) / 2 ^ Int.toNat 64) = 0 by show (b : Int) / 2 ^ 64 = _; omega]
  refine ⟨by decide, ?_⟩
  have he : b / 2 ^ 52 % 2048 < 2048 := Nat.mod_lt _ (by decide)
  have hm : b % 2 ^ 52 < 2 ^ 52 := Nat.mod_lt _ (by decide)
  by_cases hn : Sh25.isNum b = true
  · rw [if_pos hn, val_eq hb] at h
    unfold szI at h
    have c := (num_iff hb).mp hn
    rw [if_neg (by omega)]
    refine ⟨by decide, ?_⟩
    rw [if_neg (by decide)]
    generalize b / 2 ^ 52 % 2048 = e at he c h ⊢
    generalize b % 2 ^ 52 = m at hm h ⊢
    by_cases c1 : 0 < e
    · rw [if_pos (by omega)]
      rw [if_pos c1] at h
      have et : ((e : Int) - 1).toNat = e - 1 := by omega
      refine ⟨⟨by omega, by omega, b20_of (k := 60) (by omega) (by decide)⟩, by decide, ?_⟩
      rw [et]
      by_cases c2 : b / 2 ^ 63 = 1
      · rw [if_pos c2] at h
        rw [if_pos (by omega)]
        exact h
      · rw [if_neg c2] at h
        rw [if_neg (by omega)]
        exact h
    · rw [if_neg (by omega)]
      rw [if_neg c1] at h
      refine ⟨by decide, ?_⟩
      by_cases c2 : b / 2 ^ 63 = 1
      · rw [if_pos c2] at h
        rw [if_pos (by omega)]
        exact h
      · rw [if_neg c2] at h
        rw [if_neg (by omega)]
        exact h
  · rw [if_neg hn] at h
    have c : b / 2 ^ 52 % 2048 = 2047 := Decidable.byContradiction fun z => hn ((num_iff hb).mpr z)
    rw [if_pos (by omega)]
    exact ⟨by decide, h⟩
/-! read_choice -/
def spChoice (cW : Addr) : Sp := fun vs H Q E => ∃ v a b : Int, vs = [.int v, .int a, .int b] ∧ (if a ≤ v ∧ v ≤ b then Q (.int v) H else E (.ref cW) none H)
theorem sc_read_choice : FnScope ["value", "least", "most"] ["value", "least", "most"] (defScope s_read_choice) := ⟨rfl, rfl, rfl, by decide +kernel, rfl, by decide +kernel, by decide +kernel⟩
theorem ok_read_choice {f : Addr} {fd : FuncData} {k : Nat} (F : Fun K "read_choice" "read_choice" s_read_choice f fd) {C_WrongInput : Addr} {bm_WrongInput : List Value} {B_WrongInput nw_WrongInput in_WrongInput : String} (O_WrongInput : PyProof.Rows.OwnCls "WrongInput" C_WrongInput bm_WrongInput nw_WrongInput mg base) (FB_WrongInput : ExcBaseFacts B_WrongInput nw_WrongInput in_WrongInput bm_WrongInput) : FnOk P w K mg base (CXE P w) (k + 1) f fd ["value", "least", "most"] (spChoice C_WrongInput) := by
  refine F.okX sc_read_choice (fun vs H Q E h => ?_) (fun cdv A outer s H vs Q E hr h => ?_)
  · obtain ⟨v, a, b, rfl, h⟩ := h
    rfl
  obtain ⟨v, a, b, rfl, h⟩ := h
  obtain ⟨L, fr⟩ := @frIs_def (CXE P w) P w K mg base ["value", "least", "most"] "read_choice" (defScope s_read_choice) f cdv A outer s H E
  refine ⟨_, (pss_cons (ps_if (PW.pt (pw_or (pt_cmpR op_lt (pv 0) (pv 1) (nomark _)) (pw_or1 (pt_cmpR op_gt (pv 0) (pv 2) (nomark _))))) (pss_one (ps_raise rfl ⟨L, fr⟩ rfl rfl O_WrongInput FB_WrongInput (pa_cons pe_str pa_nil))) pss_nil) (pss_one (ps_ret (pv 0)))), ?_⟩
  walk_at "rd"
  by_cases c : a ≤ v ∧ v ≤ b
  · rw [if_pos c] at h
    rw [if_neg (by omega), if_neg (by omega)]
    exact h
  · rw [if_neg c] at h
    by_cases c2 : v < a
    · rw [if_pos c2]
      exact ⟨by decide, h⟩
    · rw [if_neg c2, if_pos (by omega)]
      exact ⟨by decide, h⟩
/-! read_numbers -/
def spNums (K : PySem.W.Frag) (cW : Addr) : Sp := fun vs H Q E => ∃ (v : V) (l : List Nat) (a b : Int), vs = [v, .int a, .int b] ∧ LI K H v (Sh25.ints l) ∧ (∀ b ∈ l, b < 2 ^ 64) ∧ l.length ≤ 100000 ∧
  (if okNums a b l = true then ∀ r H', Same H H' → H r = none → H' r = some (.lst ((Sh25.ex l).map V.int)) → Q (.ref r) H' else ∀ H', Same H H' → E (.ref cW) none H')
theorem sc_read_numbers : FnScope ["numbers", "least", "most", "bits"] ["numbers", "least", "most"] (defScope s_read_numbers) := ⟨rfl, rfl, rfl, by decide +kernel, rfl, by decide +kernel, by decide +kernel⟩
theorem ok_read_numbers {f : Addr} {fd : FuncData} {k : Nat} (F : Fun K "read_numbers" "read_numbers" s_read_numbers f fd) {C_WrongInput : Addr} (m_len : mg "len" = none) (h_read_choice : Has P w K mg base k "read_choice" ["value", "least", "most"] (spChoice C_WrongInput)) (h_read_number : Has P w K mg base k "read_number" ["bits"] (spNum C_WrongInput)) : FnOk P w K mg base (CXE P w) (k + 1) f fd ["numbers", "least", "most"] (spNums K C_WrongInput) := by
  refine F.okX sc_read_numbers (fun vs H Q E h => ?_) (fun cdv A outer s H vs Q E hr h => ?_)
  · obtain ⟨_, l, a, b, rfl, ⟨u, rfl, hl⟩, hb, hlen, h⟩ := h
    rfl
  obtain ⟨_, l, a, b, rfl, ⟨u, rfl, hl⟩, hb, hlen, h⟩ := h
  obtain ⟨L, fr⟩ := @frIs_def (CXE P w) P w K mg base ["numbers", "least", "most", "bits"] "read_numbers" (defScope s_read_numbers) f cdv A outer s H E
  refine ⟨_, (pss_cons (ps_expr (pe_callH h_read_choice hr (passX rfl ⟨L, fr⟩) (pa_cons (pe_callB (lenS K) rfl m_len PySem.boot_len (pa_cons (pv 0) pa_nil)) (pa_cons (pv 1) (pa_cons (pv 2) pa_nil))))) (pss_one (ps_ret (pe_lcE (own := [("bits", 3)]) rfl rfl fr sc_read_numbers.nd (pi_list (pv 0)) (blkOk_by rfl) (fun _ _ _ _ _ => (pg_name (i := 3) sc_read_numbers.nd rfl (Or.inl rfl))) (fun _ _ _ _ _ => (pe_callH h_read_number hr (passX rfl ⟨L, fr.blk⟩) (pa_cons (pv 3) pa_nil))))))), ?_⟩
  walk_at "rd"
  have hno : ∀ {H'}, Same H H' → ¬ okNums a b l = true → E (.ref C_WrongInput) none H' := fun {H'} g c => by
    rw [if_neg c] at h
    exact h H' g
  have el : ((Sh25.ints l).map V.int).length = l.length := by unfold Sh25.ints; rw [List.length_map, List.length_map]
  refine ⟨u, _, rfl, .inl hl, ?_⟩
  rw [el]
  refine ⟨(l.length : Int), a, b, rfl, ?_⟩
  by_cases c : a ≤ l.length ∧ (l.length : Int) ≤ b
  rotate_left
  · rw [if_neg c]
    refine hno (Same.refl _) fun z => c ?_
    unfold okNums at z
    simp only [Bool.and_eq_true, decide_eq_true_eq] at z
    exact z.1
  rw [if_pos c]
  walk_at "rd"
  refine ⟨_, rfl, u, rfl, ⟨_, hl⟩, fun D hD => ?_⟩
  have get : ∀ i : Nat, ((Sh25.ints l).map V.int)[i]? = (l[i]?).map fun (b : Nat) => V.int (b : Int) := fun i => by
    unfold Sh25.ints
    rw [List.map_map, List.getElem?_map]
    rfl
  refine lc_any (n := l.length) (fun i _ v => ∃ b : Nat, l[i]? = some b ∧ Sh25.isNum b = true ∧ v = .int (Sh25.val b)) (fun i H H' v _ r => r) hD (Nat.le_trans hlen (by decide)) (fun H2 g2 => ⟨_, g2.seq hl, by rw [el]; exact Nat.le_refl _⟩)
    (fun i H2 hi g2 => ⟨_, .int (l[i] : Nat), g2.seq hl, by rw [get, List.getElem?_eq_getElem hi]; rfl⟩) (fun i x H2 H3 Q' hi g2 _ y hQ => ?_) fun H2 ys g2 hD2 ely hys => ?_
  · obtain ⟨rfl, y⟩ := y
    have ex := y _ (g2.seq hl)
    rw [get, List.getElem?_eq_getElem hi] at ex
    cases ex
    refine ⟨rfl, ⟨_, rfl, ⟨l[i], rfl, hb _ (List.getElem_mem hi), ?_⟩⟩⟩
    by_cases cn : Sh25.isNum l[i] = true
    · rw [if_pos cn]
      exact hQ _ _ (Same.refl _) ⟨l[i], List.getElem?_eq_getElem hi, cn, rfl⟩
    · rw [if_neg cn]
      refine hno g2 fun z => cn ?_
      unfold okNums at z
      rw [Bool.and_eq_true, List.all_eq_true] at z
      exact z.2 _ (List.getElem_mem hi)
  · have hp : okNums a b l = true := by
      unfold okNums
      rw [Bool.and_eq_true, List.all_eq_true]
      refine ⟨by simp only [Bool.and_eq_true, decide_eq_true_eq]; exact c, fun b hbm => ?_⟩
      obtain ⟨i, hi, rfl⟩ := List.getElem_of_mem hbm
      obtain ⟨b', e1, e2, _⟩ := hys i ys[i] (List.getElem?_eq_getElem (by omega))
      rw [List.getElem?_eq_getElem hi] at e1
      cases e1
      exact e2
    rw [if_pos hp] at h
    refine h D H2 g2 hD ?_
    have ey : ys = (Sh25.ex l).map V.int := ints_of (by unfold Sh25.ex; rw [List.length_map]; exact ely) fun i v e => by
      obtain ⟨b', e1, e2, rfl⟩ := hys i v e
      exact ⟨Sh25.val b', by unfold Sh25.ex; rw [List.getElem?_map, e1]; rfl, rfl⟩
    rw [hD2, ey]
/-! read_dimension -/
def spDim (cW : Addr) : Sp := fun vs H Q E => ∃ k : Nat, vs = [.int (k : Int)] ∧ (if Sh25.dims k = true then ∀ H', Same H H' → Q (.int (k : Int)) H' else ∀ H', Same H H' → E (.ref cW) none H')
theorem in_dims {k : Nat} : inV (V.int (k : Int)) [V.int 2, V.int 3] = Sh25.dims k := by
  show ((2 == (k : Int)) || ((3 == (k : Int)) || false)) = (k == 2 || k == 3)
  rw [Bool.or_false, Bool.eq_iff_iff]
  simp only [Bool.or_eq_true, beq_iff_eq]
  omega
theorem sc_read_dimension : FnScope ["k"] ["k"] (defScope s_read_dimension) := ⟨rfl, rfl, rfl, by decide +kernel, rfl, by decide +kernel, by decide +kernel⟩
theorem ok_read_dimension {f : Addr} {fd : FuncData} {k : Nat} (F : Fun K "read_dimension" "read_dimension" s_read_dimension f fd) {C_WrongInput : Addr} {bm_WrongInput : List Value} {B_WrongInput nw_WrongInput in_WrongInput : String} (O_WrongInput : PyProof.Rows.OwnCls "WrongInput" C_WrongInput bm_WrongInput nw_WrongInput mg base) (FB_WrongInput : ExcBaseFacts B_WrongInput nw_WrongInput in_WrongInput bm_WrongInput) : FnOk P w K mg base (CXE P w) (k + 1) f fd ["k"] (spDim C_WrongInput) := by
  refine F.okX sc_read_dimension (fun vs H Q E h => ?_) (fun cdv A outer s H vs Q E hr h => ?_)
  · obtain ⟨n, rfl, h⟩ := h
    rfl
  obtain ⟨n, rfl, h⟩ := h
  obtain ⟨L, fr⟩ := @frIs_def (CXE P w) P w K mg base ["k"] "read_dimension" (defScope s_read_dimension) f cdv A outer s H E
  refine ⟨_, (pss_cons (ps_if (pt_cmpR (notInS K) (pv 0) (pe_tup (pa_cons pe_int (pa_cons pe_int pa_nil))) (by with_unfolding_all rfl)) (pss_one (ps_raise rfl ⟨L, fr⟩ rfl rfl O_WrongInput FB_WrongInput (pa_cons pe_str pa_nil))) pss_nil) (pss_one (ps_ret (pv 0)))), ?_⟩
  walk_at "rd"
  refine ⟨by decide, fun p hp => ⟨p, _, rfl, .inr (SqT.of upd_same), rfl, rfl, _, rfl, ?_⟩⟩
  have g1 : Same H (upd H p (HO.tup [V.int 2, V.int 3])) := Same.new hp _
  generalize upd H p (HO.tup [V.int 2, V.int 3]) = H1 at g1 ⊢
  simp only [if_true, in_dims]
  cases hd : Sh25.dims n with
  | false =>
    rw [hd, if_neg Bool.false_ne_true] at h
    exact ⟨by decide, h H1 g1⟩
  | true =>
    rw [hd, if_pos rfl] at h
    simp only [Bool.not_true, Bool.false_eq_true, if_false]
    exact h H1 g1
/-! in_groups -/
def spGroups (K : PySem.W.Frag) (cW : Addr) : Sp := fun vs H Q E => ∃ (v : V) (xs : List V) (s : Nat), vs = [v, .int (s : Int)] ∧ (∃ a, v = .ref a ∧ SqL K H a xs) ∧ 0 < s ∧ s ≤ 100000 ∧ xs.length ≤ 100000 ∧
  (if xs.length % s = 0 then ∀ r H' ys, Same H H' → H r = none → H' r = some (.lst ys) → Paired (fun y g => ∃ a, y = V.ref a ∧ H' a = some (.lst g)) ys (Sh25.pieces s (xs.length / s) xs) → Q (.ref r) H' else ∀ H', Same H H' → E (.ref cW) none H')
theorem sc_in_groups : FnScope ["flat", "size", "start"] ["flat", "size"] (defScope s_in_groups) := ⟨rfl, rfl, rfl, by decide +kernel, rfl, by decide +kernel, by decide +kernel⟩
theorem ok_in_groups {f : Addr} {fd : FuncData} {k : Nat} (F : Fun K "in_groups" "in_groups" s_in_groups f fd) {C_WrongInput : Addr} {bm_WrongInput : List Value} {B_WrongInput nw_WrongInput in_WrongInput : String} (O_WrongInput : PyProof.Rows.OwnCls "WrongInput" C_WrongInput bm_WrongInput nw_WrongInput mg base) (FB_WrongInput : ExcBaseFacts B_WrongInput nw_WrongInput in_WrongInput bm_WrongInput) (m_len : mg "len" = none) (m_range : mg "range" = none) : FnOk P w K mg base (CXE P w) (k + 1) f fd ["flat", "size"] (spGroups K C_WrongInput) := by
  refine F.okX sc_in_groups (fun vs H Q E h => ?_) (fun cdv A outer s H vs Q E hr h => ?_)
  · obtain ⟨_, xs, z, rfl, ⟨u, rfl, hu⟩, hz, hz2, hx, h⟩ := h
    rfl
  obtain ⟨_, xs, z, rfl, ⟨u, rfl, hu⟩, hz, hz2, hx, h⟩ := h
  obtain ⟨L, fr⟩ := @frIs_def (CXE P w) P w K mg base ["flat", "size", "start"] "in_groups" (defScope s_in_groups) f cdv A outer s H E
  refine ⟨_, (pss_cons (ps_if (pt_cmpR op_ne (pe_op op_mod (pe_callB (lenS K) rfl m_len PySem.boot_len (pa_cons (pv 0) pa_nil)) (pv 1)) pe_int (nomark _)) (pss_one (ps_raise rfl ⟨L, fr⟩ rfl rfl O_WrongInput FB_WrongInput (pa_cons pe_str pa_nil))) pss_nil) (pss_one (ps_ret (pe_lcE (own := [("start", 2)]) rfl rfl fr sc_in_groups.nd (pi_range3 rfl m_range (pa_cons pe_int (pa_cons (pe_callB (lenS K) rfl m_len PySem.boot_len (pa_cons (pv 0) pa_nil)) (pa_cons (pv 1) pa_nil)))) (blkOk_by rfl) (fun _ _ _ _ _ => (pg_name (i := 2) sc_in_groups.nd rfl (Or.inl rfl))) (fun _ _ _ _ _ => (pe_slice (slL K) (pv 0) (po_some (pv 2)) (po_some (pe_op op_add (pv 2) (pv 1))))))))), ?_⟩
  walk_at "rd"
  refine ⟨u, _, rfl, .inl hu, by omega, ?_⟩
  by_cases c : xs.length % z = 0
  rotate_left
  · rw [if_neg c] at h
    rw [if_pos (by omega)]
    exact ⟨by decide, h H (Same.refl _)⟩
  rw [if_pos c] at h
  rw [if_neg (by omega)]
  refine ⟨_, rfl, u, _, rfl, .inl hu, _, rfl, 0, _, _, xs.length / z, rfl, rgc_groups hz hz2 hx c, fun D hD => ?_⟩
  refine lc_any (n := xs.length / z) (fun i H v => ∃ a, v = .ref a ∧ a ≠ D ∧ H a = some (.lst ((xs.drop (i * z)).take z))) (fun i H H' v g ⟨a, e1, e2, e3⟩ => ⟨a, e1, e2, g _ _ e2 e3⟩) hD (Nat.le_trans (Nat.div_le_self _ _) (Nat.le_trans hx (by decide))) (fun H2 g2 => Nat.le_refl _)
    (fun i H2 hi g2 => hi) (fun i x H2 H3 Q' hi g2 nD y hQ => ?_) fun H2 ys g2 hD2 ely hys => ?_
  · obtain ⟨rfl, rfl⟩ := y
    refine ⟨rfl, ?_⟩
    walk_at "rd"
    refine ⟨u, _, rfl, g2.seq hu, fun p hp => ?_⟩
    refine hQ _ _ (Same.new hp _) ⟨p, rfl, fun e => nD (by rw [e] at hp; exact hp), ?_⟩
    rw [upd_same, show (0 : Int) + ((i : Nat) : Int) * (z : Int) = ((i * z : Nat) : Int) by rw [Int.zero_add, Int.natCast_mul], show ((i * z : Nat) : Int) + (z : Int) = ((i * z + z : Nat) : Int) by omega, cutV_mid, Nat.add_sub_cancel_left]
  · refine h D H2 ys g2 hD hD2 (paired_of (by rw [pieces_len]; exact ely) fun i v e => ?_)
    obtain ⟨a, e1, _, e3⟩ := hys i v e
    have hi : i < xs.length / z := by have := (List.getElem?_eq_some_iff.mp e).1; omega
    exact ⟨_, pieces_get hi, a, e1, e3⟩
/-! read_points -/
def spPoints (K : PySem.W.Frag) (cW : Addr) : Sp := fun vs H Q E => ∃ (k : Nat) (v : V) (l : List Nat) (a b : Nat), vs = [.int (k : Int), v, .int (a : Int), .int (b : Int)] ∧ LI K H v (Sh25.ints l) ∧ (∀ b ∈ l, b < 2 ^ 64) ∧ l.length ≤ 100000 ∧ a < 2 ^ 64 ∧ b < 2 ^ 64 ∧
  (if (Sh25.dims k && okPts k a b l) = true then ∀ r H', Same H H' → LLI K H' (.ref r) ((Sh25Neutral.points k l).map Sh25.ex) → Q (.ref r) H' else ∀ H', Same H H' → E (.ref cW) none H')
theorem okPts_each {k a b : Nat} {l : List Nat} (h : okPts k a b l = true) : a ≤ (Sh25Neutral.points k l).length ∧ (Sh25Neutral.points k l).length ≤ b ∧ ∀ q ∈ (Sh25Neutral.points k l).map Sh25.ex, q.length = k ∧ LB 2098 q := by
  unfold okPts Sh25.among Sh25.pts at h
  simp only [Bool.and_eq_true, decide_eq_true_eq, List.all_eq_true] at h
  refine ⟨h.1.1, h.1.2, fun q hq => ?_⟩
  obtain ⟨x, hx, rfl⟩ := List.mem_map.mp hq
  exact pt_lb (h.2 x hx)
theorem sc_read_points : FnScope ["k", "coordinates", "least", "most", "numbers"] ["k", "coordinates", "least", "most"] (defScope s_read_points) := ⟨rfl, rfl, rfl, by decide +kernel, rfl, by decide +kernel, by decide +kernel⟩
theorem ok_read_points {f : Addr} {fd : FuncData} {k : Nat} (F : Fun K "read_points" "read_points" s_read_points f fd) {C_WrongInput : Addr} (h_read_numbers : Has P w K mg base k "read_numbers" ["numbers", "least", "most"] (spNums K C_WrongInput)) (h_read_dimension : Has P w K mg base k "read_dimension" ["k"] (spDim C_WrongInput)) (h_in_groups : Has P w K mg base k "in_groups" ["flat", "size"] (spGroups K C_WrongInput)) : FnOk P w K mg base (CXE P w) (k + 1) f fd ["k", "coordinates", "least", "most"] (spPoints K C_WrongInput) := by
  refine F.okX sc_read_points (fun vs H Q E h => ?_) (fun cdv A outer s H vs Q E hr h => ?_)
  · obtain ⟨n, v, l, a, b, rfl, hl, hb, hlen, ha, hbb, h⟩ := h
    rfl
  obtain ⟨n, v, l, a, b, rfl, hl, hb, hlen, ha, hbb, h⟩ := h
  obtain ⟨L, fr⟩ := @frIs_def (CXE P w) P w K mg base ["k", "coordinates", "least", "most", "numbers"] "read_points" (defScope s_read_points) f cdv A outer s H E
  refine ⟨_, (pss_cons (ps_set (i := 4) sc_read_points.nd rfl (Or.inl rfl) (pe_callH h_read_numbers hr (passX rfl ⟨L, fr⟩) (pa_cons (pv 1) (pa_cons (pe_op op_mulB (pv 2) (pe_callH h_read_dimension hr (passX rfl ⟨L, fr⟩) (pa_cons (pv 0) pa_nil))) (pa_cons (pe_op op_mulB (pv 3) (pv 0)) pa_nil))))) (pss_one (ps_ret (pe_callH h_in_groups hr (passX rfl ⟨L, fr⟩) (pa_cons (pv 4) (pa_cons (pv 0) pa_nil)))))), ?_⟩
  walk_at "rd"
  refine ⟨n, rfl, ?_⟩
  cases hd : Sh25.dims n with
  | false =>
    rw [hd, if_neg (by simp)] at h
    exact fun H1 g1 => h H1 g1
  | true =>
    rw [if_pos rfl]
    rw [hd, Bool.true_and] at h
    have hn := dims_le hd
    have b3 : B20 (n : Int) := b20_of (k := 3) (by rw [Int.natAbs_natCast]; omega) (by decide)
    have ba : B20 (a : Int) := b20_of (k := 64) (by rw [Int.natAbs_natCast]; exact ha) (by decide)
    have bb : B20 (b : Int) := b20_of (k := 64) (by rw [Int.natAbs_natCast]; exact hbb) (by decide)
    intro H1 g1
    walk_at "rd"
    refine ⟨⟨ba, b3⟩, ⟨bb, b3⟩, v, l, _, _, rfl, hl.same g1, hb, hlen, ?_⟩
    have hok : okPts n a b l = (okNums ((a : Int) * n) ((b : Int) * n) l && decide (l.length % n = 0)) := okPts_eq (by omega)
    rw [hok] at h
    cases c1 : okNums ((a : Int) * n) ((b : Int) * n) l with
    | false =>
      rw [c1] at h
      exact fun H2 g2 => h H2 (g1.trans g2)
    | true =>
      rw [c1, Bool.true_and] at h
      refine fun r H2 g2 n2 e2 => ?_
      walk_at "rd"
      have el : ((Sh25.ex l).map V.int).length = l.length := by unfold Sh25.ex; rw [List.length_map, List.length_map]
      refine ⟨_, _, n, rfl, ⟨r, rfl, SqL.of e2⟩, by omega, by omega, by rw [el]; exact hlen, ?_⟩
      rw [el]
      by_cases c2 : l.length % n = 0
      · rw [if_pos c2]
        rw [if_pos (by simpa using c2)] at h
        refine fun r3 H3 ys g3 n3 e3 hp => h r3 H3 (g1.trans (g2.trans g3)) ⟨r3, ys, rfl, SqL.of e3, ?_⟩
        rw [pieces_ex (by omega) c2]
        rw [pieces_map] at hp
        exact paired_ints hp
      · rw [if_neg c2]
        rw [if_neg (by simpa using c2)] at h
        exact fun H3 g3 => h H3 (g1.trans (g2.trans g3))
/-! read_triangles -/
abbrev L3 (K : PySem.W.Frag) (H : Hp) (v : V) (ts : List (List (List Int))) : Prop := ∃ a xs, v = .ref a ∧ SqL K H a xs ∧ Paired (LLI K H) xs ts
theorem L3.same {K : PySem.W.Frag} {H H' : Hp} {v : V} {ts : List (List (List Int))} (g : Same H H') (h : L3 K H v ts) : L3 K H' v ts := let ⟨a, xs, e, s, p⟩ := h; ⟨a, xs, e, g.seq s, Paired.mapP p fun _ _ q => LLI.same g q⟩
def okTri (l t : List Nat) : Bool := okPts 3 1 4096 l && (decide (3 ≤ t.length) && decide (t.length ≤ 6144) && (t.all fun i => decide (i < (Sh25Neutral.points 3 l).length)) && decide (t.length % 3 = 0))
def triOf (l t : List Nat) : List (List (List Int)) := Sh25.pieces 3 (t.length / 3) (t.map fun i => Sh25.ex ((Sh25Neutral.points 3 l).getD i []))
def spTri (K : PySem.W.Frag) (cW : Addr) : Sp := fun vs H Q E => ∃ (u v : V) (l t : List Nat), vs = [u, v] ∧ LI K H u (Sh25.ints l) ∧ (∀ b ∈ l, b < 2 ^ 64) ∧ l.length ≤ 100000 ∧ LI K H v (Sh25.ints t) ∧ (∀ b ∈ t, b < 2 ^ 64) ∧ t.length ≤ 100000 ∧
  (if okTri l t = true then ∀ r H', Same H H' → L3 K H' (.ref r) (triOf l t) → Q (.ref r) H' else ∀ H', Same H H' → E (.ref cW) none H')
theorem sc_read_triangles : FnScope ["coordinates", "triangles", "points", "corners", "place"] ["coordinates", "triangles"] (defScope s_read_triangles) := ⟨rfl, rfl, rfl, by decide +kernel, rfl, by decide +kernel, by decide +kernel⟩
theorem ok_read_triangles {f : Addr} {fd : FuncData} {k : Nat} (F : Fun K "read_triangles" "read_triangles" s_read_triangles f fd) {C_WrongInput : Addr} (m_len : mg "len" = none) (h_read_points : Has P w K mg base k "read_points" ["k", "coordinates", "least", "most"] (spPoints K C_WrongInput)) (h_read_choice : Has P w K mg base k "read_choice" ["value", "least", "most"] (spChoice C_WrongInput)) (h_in_groups : Has P w K mg base k "in_groups" ["flat", "size"] (spGroups K C_WrongInput)) : FnOk P w K mg base (CXE P w) (k + 1) f fd ["coordinates", "triangles"] (spTri K C_WrongInput) := by
  refine F.okX sc_read_triangles (fun vs H Q E h => ?_) (fun cdv A outer s H vs Q E hr h => ?_)
  · obtain ⟨u, v, l, t, rfl, hl, bl, zl, ht, bt, zt, h⟩ := h
    rfl
  obtain ⟨u, v, l, t, rfl, hl, bl, zl, ht, bt, zt, h⟩ := h
  obtain ⟨L, fr⟩ := @frIs_def (CXE P w) P w K mg base ["coordinates", "triangles", "points", "corners", "place"] "read_triangles" (defScope s_read_triangles) f cdv A outer s H E
  refine ⟨_, (pss_cons (ps_set (i := 2) sc_read_triangles.nd rfl (Or.inr rfl) (pe_callH h_read_points hr (passX rfl ⟨L, fr⟩) (pa_cons pe_int (pa_cons (pv 0) (pa_cons pe_int (pa_cons pe_int pa_nil)))))) (pss_cons (ps_expr (pe_callH h_read_choice hr (passX rfl ⟨L, fr⟩) (pa_cons (pe_callB (lenS K) rfl m_len PySem.boot_len (pa_cons (pv 1) pa_nil)) (pa_cons pe_int (pa_cons (pe_op op_mulB pe_int pe_int) pa_nil))))) (pss_cons (ps_setLcE (i := 3) (own := [("place", 4)]) rfl rfl fr sc_read_triangles.nd rfl rfl rfl rfl rfl (pi_list (pv 1)) (blkOk_by rfl) (fun _ _ _ _ _ => (pg_name (i := 4) sc_read_triangles.nd rfl (Or.inl rfl))) (fun _ _ _ _ _ => (pe_ix (ixL K) (pv 2) (pe_callH h_read_choice hr (passX rfl ⟨L, fr.blk⟩) (pa_cons (pv 4) (pa_cons pe_int (pa_cons (pe_op op_sub (pe_callB (lenS K) rfl m_len PySem.boot_len (pa_cons (pv 2) pa_nil)) pe_int) pa_nil)))) (fun _ _ => rfl)))) (pss_one (ps_ret (pe_callH h_in_groups hr (passX rfl ⟨L, fr⟩) (pa_cons (pv 3) (pa_cons pe_int pa_nil)))))))), ?_⟩
  walk_at "rd"
  refine ⟨3, u, l, 1, 4096, rfl, hl, bl, zl, by decide, by decide, ?_⟩
  have hno : ∀ {H'}, Same H H' → okTri l t = false → E (.ref C_WrongInput) none H' := fun {H'} g c => by
    rw [if_neg (by rw [c]; exact Bool.false_ne_true)] at h
    exact h H' g
  rw [show Sh25.dims 3 = true from rfl, Bool.true_and]
  by_cases c1 : okPts 3 1 4096 l = true
  rotate_left
  · rw [if_neg c1]
    exact fun H1 g1 => hno g1 (by unfold okTri; rw [Bool.eq_false_iff.mpr c1, Bool.false_and])
  rw [if_pos c1]
  intro r1 H1 g1 hp1
  obtain ⟨av, rfl, sv⟩ := ht
  have sv1 := g1.seq sv
  have lti : ((Sh25.ints t).map V.int).length = t.length := by unfold Sh25.ints; rw [List.length_map, List.length_map]
  refine ⟨av, _, rfl, .inl sv1, ⟨b20_of (k := 2) (by decide) (by decide), b20_of (k := 12) (by decide) (by decide)⟩, ?_⟩
  refine ⟨_, 3, _, rfl, ?_⟩
  rw [lti]
  by_cases c2 : (3 : Int) ≤ (t.length : Int) ∧ (t.length : Int) ≤ 3 * 2048
  rotate_left
  · rw [if_neg c2]
    refine hno g1 ?_
    unfold okTri
    rw [c1, Bool.true_and]
    by_cases d1 : 3 ≤ t.length
    · rw [decide_eq_false (show ¬ t.length ≤ 6144 by omega)]; simp
    · rw [decide_eq_false d1]; simp
  rw [if_pos c2]
  have hp1' := hp1
  obtain ⟨_, xs, z, s1, p1⟩ := hp1
  cases z
  have lxs : xs.length = (Sh25Neutral.points 3 l).length := by rw [p1.length, List.length_map]
  refine ⟨_, rfl, av, rfl, ⟨_, sv1⟩, fun D hD => ?_⟩
  refine lc_any (n := t.length) (fun i _ z => ∃ q, t[i]? = some q ∧ q < xs.length ∧ xs[q]? = some z) (fun i H H' z _ r => r) hD (Nat.le_trans zt (by decide)) (fun H2 g2 => ⟨_, g2.seq sv1, Nat.le_of_eq lti⟩)
    (fun i H2 hi g2 => ⟨_, _, g2.seq sv1, List.getElem?_eq_getElem (by omega)⟩) (fun i x H2 H3 Q' hi g2 nD y hQ => ?_) fun H2 ys g2 hD2 ely hys => ?_
  · obtain ⟨rfl, y⟩ := y
    have ex := y _ (g2.seq sv1)
    rw [List.getElem?_map] at ex
    obtain ⟨z, ez, rfl⟩ := Option.map_eq_some_iff.mp ex
    unfold Sh25.ints at ez
    rw [List.getElem?_map] at ez
    obtain ⟨q, eq, rfl⟩ := Option.map_eq_some_iff.mp ez
    refine ⟨rfl, ?_⟩
    walk_at "rd"
    refine ⟨r1, _, rfl, .inl (g2.seq s1), ?_⟩
    refine ⟨_, 0, _, rfl, ?_⟩
    by_cases c3 : (0 : Int) ≤ (q : Int) ∧ (q : Int) ≤ (xs.length : Int) - 1
    · rw [if_pos c3]
      have hq : q < xs.length := by omega
      exact ix_get (i := q) (g2.seq s1) rfl (List.getElem?_eq_getElem hq) (hQ _ _ (Same.refl _) ⟨q, eq, hq, List.getElem?_eq_getElem hq⟩)
    · rw [if_neg c3]
      refine hno (g1.trans g2) ?_
      unfold okTri
      have : (t.all fun i => decide (i < (Sh25Neutral.points 3 l).length)) = false := by
        rw [List.all_eq_false]
        exact ⟨q, List.mem_of_getElem? eq, by rw [decide_eq_true_eq]; omega⟩
      rw [this]; simp
  have hall : (t.all fun i => decide (i < (Sh25Neutral.points 3 l).length)) = true := by
    rw [List.all_eq_true]
    intro q hq
    obtain ⟨i, hi, rfl⟩ := List.getElem_of_mem hq
    obtain ⟨q', e1, e2, _⟩ := hys i ys[i] (List.getElem?_eq_getElem (by omega))
    rw [List.getElem?_eq_getElem hi] at e1
    cases e1
    rw [decide_eq_true_eq]; omega
  walk_at "rd"
  refine ⟨_, ys, 3, rfl, ⟨D, rfl, SqL.of hD2⟩, by decide, by decide, by omega, ?_⟩
  rw [ely]
  by_cases c4 : t.length % 3 = 0
  rotate_left
  · rw [if_neg c4]
    refine fun H3 g3 => hno (g1.trans (g2.trans g3)) ?_
    unfold okTri
    rw [decide_eq_false c4]; simp
  rw [if_pos c4]
  have ok : okTri l t = true := by
    unfold okTri
    rw [c1, hall, decide_eq_true c4, decide_eq_true (show 3 ≤ t.length by omega), decide_eq_true (show t.length ≤ 6144 by omega)]; rfl
  rw [if_pos ok] at h
  refine fun r3 H3 zs g3 n3 e3 hp3 => h r3 H3 (g1.trans (g2.trans g3)) ⟨r3, zs, rfl, SqL.of e3, ?_⟩
  have g13 := g2.trans g3
  have pys : Paired (LI K H3) ys (t.map fun i => Sh25.ex ((Sh25Neutral.points 3 l).getD i [])) := paired_of (by rw [List.length_map]; exact ely) fun i v e => by
    obtain ⟨q, e1, e2, e4⟩ := hys i v e
    obtain ⟨p, ep, hp⟩ := Paired.get p1 e4
    rw [List.getElem?_map] at ep
    obtain ⟨p', ep', rfl⟩ := Option.map_eq_some_iff.mp ep
    refine ⟨_, by rw [List.getElem?_map, e1]; rfl, ?_⟩
    show LI K H3 v (Sh25.ex ((Sh25Neutral.points 3 l).getD q []))
    rw [List.getD_eq_getElem?_getD, ep']
    exact LI.same g13 hp
  unfold triOf
  exact paired_of (by rw [pieces_len, hp3.length, pieces_len]) fun i v e => by
    have hi : i < t.length / 3 := by have := (List.getElem?_eq_some_iff.mp e).1; rw [hp3.length, pieces_len] at this; exact this
    obtain ⟨g, eg, a, rfl, ha⟩ := Paired.get hp3 e
    rw [pieces_get hi] at eg
    cases eg
    exact ⟨_, pieces_get hi, a, _, rfl, SqL.of ha, Paired.takeV 3 (Paired.dropV (i * 3) pys)⟩
/-! axis_sums -/
def sums3 (a b c : List Int) : List Int := [Sh25.first 0 a b c, Sh25.first 1 a b c, Sh25.first 2 a b c]
def P3 (q : List Int) : Prop := q.length = 3 ∧ LB 2098 q
theorem first_bnd {a b c : List Int} (ba : LB 2098 a) (bb : LB 2098 b) (bc : LB 2098 c) (i : Nat) : (Sh25.first i a b c).natAbs < 2 ^ 2100 := by
  have h1 := at_lb ba i
  have h2 := at_lb bb i
  have h3 := at_lb bc i
  unfold Sh25.first
  rw [show (2100 : Nat) = 2098 + 2 from rfl, Nat.pow_add]
  generalize 2 ^ 2098 = T at *
  omega
def spAxis (K : PySem.W.Frag) : Sp := fun vs H Q E => ∃ (v : V) (a b c : List Int), vs = [v] ∧ LLI K H v [a, b, c] ∧ a.length = 3 ∧ b.length = 3 ∧ c.length = 3 ∧ ∀ r H', Same H H' → H r = none → H' r = some (.lst ((sums3 a b c).map V.int)) → Q (.ref r) H'
theorem sc_axis_sums : FnScope ["corners", "axis", "corner"] ["corners"] (defScope s_axis_sums) := ⟨rfl, rfl, rfl, by decide +kernel, rfl, by decide +kernel, by decide +kernel⟩
theorem ok_axis_sums {f : Addr} {fd : FuncData} {k : Nat} (F : Fun K "axis_sums" "axis_sums" s_axis_sums f fd) (m_sum : mg "sum" = none) : FnOk P w K mg base (CXE P w) (k + 1) f fd ["corners"] (spAxis K) := by
  refine F.okX sc_axis_sums (fun vs H Q E h => ?_) (fun cdv A outer s H vs Q E hr h => ?_)
  · obtain ⟨_, a, b, c, rfl, ⟨u, xs, rfl, hu, px⟩, la, lb, lc, h⟩ := h
    rfl
  obtain ⟨_, a, b, c, rfl, ⟨u, xs, rfl, hu, px⟩, la, lb, lc, h⟩ := h
  obtain ⟨L, fr⟩ := @frIs_def (CXE P w) P w K mg base ["corners", "axis", "corner"] "axis_sums" (defScope s_axis_sums) f cdv A outer s H E
  refine ⟨_, (pss_one (ps_ret (pe_lcE (own := [("axis", 1)]) rfl rfl fr sc_axis_sums.nd (pi_tup (pe_tup (pa_cons pe_int (pa_cons pe_int (pa_cons pe_int pa_nil))))) (blkOk_by rfl) (fun _ _ _ _ _ => (pg_name (i := 1) sc_axis_sums.nd rfl (Or.inr rfl))) (fun _ _ _ _ _ => (pe_callB (cr_sumK K rfl) rfl m_sum (by decide +kernel) (pa_cons (by apply pe_lcE (own := [("corner", 2)]); exact rfl; exact rfl; exact ⟨fr.1, fr.2⟩; exact sc_axis_sums.nd; exact (pi_listK K (pv 0)); exact (blkOk_by rfl); exact (fun _ _ _ _ _ => (pg_name (i := 2) sc_axis_sums.nd rfl (Or.inl rfl))); exact (fun _ _ _ _ _ => (pe_ix (ixL K) (pv 2) (pv 1) (fun _ _ => rfl)))) pa_nil)))))), ?_⟩
  walk_at "rd"
  have lx : xs.length = 3 := px.length
  refine ⟨by show 3 ≤ sizeLine; decide, fun p2 n2 => ⟨p2, rfl, ⟨_, SqT.of upd_same⟩, fun D hD => ?_⟩⟩
  have g2 := Same.new n2 (.tup [.int 0, .int 1, .int 2])
  have h2 : SqT K (upd H p2 (.tup [.int 0, .int 1, .int 2])) p2 [.int 0, .int 1, .int 2] := SqT.of upd_same
  generalize upd H p2 (.tup [.int 0, .int 1, .int 2]) = H1 at g2 h2 hD ⊢
  refine lc_any (n := 3) (fun i _ z => z = .int (Sh25.first i a b c)) (fun i H H' z _ r => r) hD (by decide) (fun H4 g4 => ⟨_, g4.seqT h2, Nat.le_refl _⟩)
    (fun i H4 hi g4 => ⟨_, _, g4.seqT h2, List.getElem?_eq_getElem hi⟩) (fun i x H4 H5 Q' hi g4 nD y hQ => ?_) fun H4 ys g4 hD4 ely hys => ?_
  · obtain ⟨rfl, y⟩ := y
    have ex := y _ (g4.seqT h2)
    have ex2 : x = .int (i : Int) := by
      match i, hi with
      | 0, _ => cases ex; rfl
      | 1, _ => cases ex; rfl
      | 2, _ => cases ex; rfl
    subst ex2
    refine ⟨rfl, ?_⟩
    walk_at "rd"
    have hu4 := (g2.trans g4).seq hu
    refine ⟨_, rfl, u, rfl, ⟨_, hu4⟩, fun D2 hD2 => ?_⟩
    refine lc_any (n := 3) (fun j _ z => z = .int (([a, b, c].map fun q => Sh25.at_ q i).getD j 0)) (fun j H H' z _ r => r) hD2 (by decide) (fun H6 g6 => ⟨_, g6.seq hu4, Nat.le_of_eq lx⟩)
      (fun j H6 hj g6 => ⟨_, _, g6.seq hu4, List.getElem?_eq_getElem (by omega)⟩) (fun j x H6 H7 Q2 hj g6 nD2 y2 hQ2 => ?_) fun H6 zs g6 hD6 elz hzs => ?_
    · obtain ⟨rfl, y2⟩ := y2
      obtain ⟨q, eq, hq⟩ := Paired.get px (y2 _ (g6.seq hu4))
      obtain ⟨aq, rfl, sq⟩ := LI.same ((g2.trans g4).trans g6) hq
      have lq : q.length = 3 := by
        match j, hj with
        | 0, _ => cases eq; exact la
        | 1, _ => cases eq; exact lb
        | 2, _ => cases eq; exact lc
      refine ⟨rfl, ?_⟩
      walk_at "rd"
      refine ix_at (i := i) sq rfl (by omega) ?_
      refine hQ2 _ _ (Same.refl _) ?_
      match j, hj with
      | 0, _ => cases eq; rfl
      | 1, _ => cases eq; rfl
      | 2, _ => cases eq; rfl
    · have ez : zs = ([Sh25.at_ a i, Sh25.at_ b i, Sh25.at_ c i]).map V.int := ints_of elz fun j v e => by
        have hj : j < 3 := by have := (List.getElem?_eq_some_iff.mp e).1; omega
        rw [hzs j v e]
        match j, hj with
        | 0, _ => exact ⟨_, rfl, rfl⟩
        | 1, _ => exact ⟨_, rfl, rfl⟩
        | 2, _ => exact ⟨_, rfl, rfl⟩
      rw [ez] at hD6
      refine ⟨D2, [Sh25.at_ a i, Sh25.at_ b i, Sh25.at_ c i], rfl, SqL.of hD6, hQ _ _ g6 ?_⟩
      show V.int (Sh25.at_ a i + (Sh25.at_ b i + (Sh25.at_ c i + 0))) = .int (Sh25.at_ a i + Sh25.at_ b i + Sh25.at_ c i)
      congr 1
      omega
  · have ey : ys = (sums3 a b c).map V.int := ints_of ely fun j v e => by
      have hj : j < 3 := by have := (List.getElem?_eq_some_iff.mp e).1; omega
      rw [hys j v e]
      match j, hj with
      | 0, _ => exact ⟨_, rfl, rfl⟩
      | 1, _ => exact ⟨_, rfl, rfl⟩
      | 2, _ => exact ⟨_, rfl, rfl⟩
    rw [ey] at hD4
    exact h D H4 (g2.trans g4) (g2.free hD) hD4
/-! second_moment -/
def mom (i j : Nat) (a b c : List Int) : Int := Sh25.first i a b c * Sh25.first j a b c + (Sh25.at_ a i * Sh25.at_ a j + (Sh25.at_ b i * Sh25.at_ b j + (Sh25.at_ c i * Sh25.at_ c j + 0)))
def spSecond (K : PySem.W.Frag) : Sp := fun vs H Q E => ∃ (x y z : V) (a b c : List Int) (i j : Nat), vs = [x, y, z] ∧ LLI K H x [a, b, c] ∧ LI K H y (sums3 a b c) ∧ Pr K H z ((i : Int), (j : Int)) ∧ i < 3 ∧ j < 3 ∧ P3 a ∧ P3 b ∧ P3 c ∧ ∀ H', Same H H' → Q (.int (mom i j a b c)) H'
theorem sc_second_moment : FnScope ["corners", "sums", "pair", "own", "corner"] ["corners", "sums", "pair"] (defScope s_second_moment) := ⟨rfl, rfl, rfl, by decide +kernel, rfl, by decide +kernel, by decide +kernel⟩
theorem ok_second_moment {f : Addr} {fd : FuncData} {k : Nat} (F : Fun K "second_moment" "second_moment" s_second_moment f fd) (m_sum : mg "sum" = none) : FnOk P w K mg base (CXE P w) (k + 1) f fd ["corners", "sums", "pair"] (spSecond K) := by
  refine F.okX sc_second_moment (fun vs H Q E h => ?_) (fun cdv A outer s H vs Q E hr h => ?_)
  · obtain ⟨_, _, w', a, b, c, i, j, rfl, ⟨u, xs, rfl, hu, px⟩, ⟨v, rfl, hv⟩, hw, hi, hj, ⟨la, ba⟩, ⟨lb, bb⟩, ⟨lc, bc⟩, h⟩ := h
    rfl
  obtain ⟨_, _, w', a, b, c, i, j, rfl, ⟨u, xs, rfl, hu, px⟩, ⟨v, rfl, hv⟩, hw, hi, hj, ⟨la, ba⟩, ⟨lb, bb⟩, ⟨lc, bc⟩, h⟩ := h
  obtain ⟨L, fr⟩ := @frIs_def (CXE P w) P w K mg base ["corners", "sums", "pair", "own", "corner"] "second_moment" (defScope s_second_moment) f cdv A outer s H E
  refine ⟨_, (pss_cons (ps_set (i := 3) sc_second_moment.nd rfl (Or.inl rfl) (pe_callB (cr_sumK K rfl) rfl m_sum (by decide +kernel) (pa_cons (pe_lcE (own := [("corner", 4)]) rfl rfl fr sc_second_moment.nd (pi_list (pv 0)) (blkOk_by rfl) (fun _ _ _ _ _ => (pg_name (i := 4) sc_second_moment.nd rfl (Or.inl rfl))) (fun _ _ _ _ _ => (pe_op op_mulB (pe_ix (ixL K) (pv 4) (pe_ix (ixP K) (pv 2) pe_int (fun _ _ => rfl)) (fun _ _ => rfl)) (pe_ix (ixL K) (pv 4) (pe_ix (ixP K) (pv 2) pe_int (fun _ _ => rfl)) (fun _ _ => rfl))))) pa_nil))) (pss_one (ps_ret (pe_op op_add (pe_op op_mulB (pe_ix (ixL K) (pv 1) (pe_ix (ixP K) (pv 2) pe_int (fun _ _ => rfl)) (fun _ _ => rfl)) (pe_ix (ixL K) (pv 1) (pe_ix (ixP K) (pv 2) pe_int (fun _ _ => rfl)) (fun _ _ => rfl))) (pv 3))))), ?_⟩
  walk_at "rd"
  have lx : xs.length = 3 := px.length
  refine ⟨_, rfl, u, rfl, ⟨_, hu⟩, fun D2 hD2 => ?_⟩
  refine lc_any (n := 3) (fun k _ z => z = .int (([a, b, c].map fun q => Sh25.at_ q i * Sh25.at_ q j).getD k 0)) (fun k H H' z _ r => r) hD2 (by decide) (fun H6 g6 => ⟨_, g6.seq hu, Nat.le_of_eq lx⟩)
    (fun k H6 hk g6 => ⟨_, _, g6.seq hu, List.getElem?_eq_getElem (by omega)⟩) (fun k x H6 H7 Q2 hk g6 nD2 y2 hQ2 => ?_) fun H6 zs g6 hD6 elz hzs => ?_
  · obtain ⟨rfl, y2⟩ := y2
    obtain ⟨q, eq, hq⟩ := Paired.get px (y2 _ (g6.seq hu))
    obtain ⟨aq, rfl, sq⟩ := LI.same g6 hq
    have lq : q.length = 3 ∧ LB 2098 q := by
      match k, hk with
      | 0, _ => cases eq; exact ⟨la, ba⟩
      | 1, _ => cases eq; exact ⟨lb, bb⟩
      | 2, _ => cases eq; exact ⟨lc, bc⟩
    refine ⟨rfl, ?_⟩
    walk_at "rd"
    refine ix_lo (hw.same g6) ?_
    refine ix_at (i := i) sq rfl (by omega) ?_
    walk_at "rd"
    refine ix_hi (hw.same g6) ?_
    refine ix_at (i := j) sq rfl (by omega) ?_
    walk_at "rd"
    refine ⟨⟨b20_of (at_lb lq.2 i) (by decide), b20_of (at_lb lq.2 j) (by decide)⟩, hQ2 _ _ (Same.refl _) ?_⟩
    match k, hk with
    | 0, _ => cases eq; rfl
    | 1, _ => cases eq; rfl
    | 2, _ => cases eq; rfl
  have ez : zs = ([Sh25.at_ a i * Sh25.at_ a j, Sh25.at_ b i * Sh25.at_ b j, Sh25.at_ c i * Sh25.at_ c j]).map V.int := ints_of elz fun k v e => by
    have hk : k < 3 := by have := (List.getElem?_eq_some_iff.mp e).1; omega
    rw [hzs k v e]
    match k, hk with
    | 0, _ => exact ⟨_, rfl, rfl⟩
    | 1, _ => exact ⟨_, rfl, rfl⟩
    | 2, _ => exact ⟨_, rfl, rfl⟩
  rw [ez] at hD6
  refine ⟨D2, [Sh25.at_ a i * Sh25.at_ a j, Sh25.at_ b i * Sh25.at_ b j, Sh25.at_ c i * Sh25.at_ c j], rfl, SqL.of hD6, ?_⟩
  have hs : ∀ k, k < 3 → (sums3 a b c).getD k 0 = Sh25.first k a b c := fun k hk => by
    match k, hk with
    | 0, _ => rfl
    | 1, _ => rfl
    | 2, _ => rfl
  walk_at "rd"
  refine ix_lo (hw.same g6) ?_
  refine ix_at (i := i) (g6.seq hv) rfl (by show i < 3; omega) ?_
  walk_at "rd"
  refine ix_hi (hw.same g6) ?_
  refine ix_at (i := j) (g6.seq hv) rfl (by show j < 3; omega) ?_
  walk_at "rd"
  rw [hs i hi, hs j hj]
  exact ⟨⟨b20_of (first_bnd ba bb bc i) (by decide), b20_of (first_bnd ba bb bc j) (by decide)⟩, h H6 g6⟩
/-! first_four -/
def vol3 (a b c : List Int) : Int := Sh25.det 3 [a, b, c]
def four (a b c : List Int) : List Int := vol3 a b c :: (sums3 a b c).map fun z => vol3 a b c * z
/-- what one triangle adds -/
def spPart (K : PySem.W.Frag) (f : List Int → List Int → List Int → List Int) : Sp := fun vs H Q E => ∃ (v : V) (a b c : List Int), vs = [v] ∧ LLI K H v [a, b, c] ∧ P3 a ∧ P3 b ∧ P3 c ∧ ∀ r H', Same H H' → H r = none → H' r = some (.lst ((f a b c).map V.int)) → Q (.ref r) H'
theorem vol3_bnd {a b c : List Int} (ba : LB 2098 a) (bb : LB 2098 b) (bc : LB 2098 c) : (vol3 a b c).natAbs < 2 ^ 6304 :=
  det_bound (B := 2098) (by decide) fun r hr => by
    rcases List.mem_cons.mp hr with rfl | hr
    · exact ba
    · rcases List.mem_cons.mp hr with rfl | hr
      · exact bb
      · rcases List.mem_cons.mp hr with rfl | hr
        · exact bc
        · cases hr
theorem sc_first_four : FnScope ["corners", "volume", "total"] ["corners"] (defScope s_first_four) := ⟨rfl, rfl, rfl, by decide +kernel, rfl, by decide +kernel, by decide +kernel⟩
theorem ok_first_four {f : Addr} {fd : FuncData} {k : Nat} (F : Fun K "first_four" "first_four" s_first_four f fd) (h_determinant : Has P w K mg base k "determinant" ["rows"] (spDetU K)) (h_axis_sums : Has P w K mg base k "axis_sums" ["corners"] (spAxis K)) : FnOk P w K mg base (CXE P w) (k + 1) f fd ["corners"] (spPart K four) := by
  refine F.okX sc_first_four (fun vs H Q E h => ?_) (fun cdv A outer s H vs Q E hr h => ?_)
  · obtain ⟨v, a, b, c, rfl, hv, ⟨la, ba⟩, ⟨lb, bb⟩, ⟨lc, bc⟩, h⟩ := h
    rfl
  obtain ⟨v, a, b, c, rfl, hv, ⟨la, ba⟩, ⟨lb, bb⟩, ⟨lc, bc⟩, h⟩ := h
  obtain ⟨L, fr⟩ := @frIs_def (CXE P w) P w K mg base ["corners", "volume", "total"] "first_four" (defScope s_first_four) f cdv A outer s H E
  refine ⟨_, (pss_cons (ps_set (i := 1) sc_first_four.nd rfl (Or.inr rfl) (pe_callH h_determinant hr (passX rfl ⟨L, fr⟩) (pa_cons (pv 0) pa_nil))) (pss_one (ps_ret (pe_op op_cat (pe_lst (pa_cons (pv 1) pa_nil)) (pe_lcE (own := [("total", 2)]) rfl rfl fr sc_first_four.nd (pi_list (pe_callH h_axis_sums hr (passX rfl ⟨L, fr⟩) (pa_cons (pv 0) pa_nil))) (blkOk_by rfl) (fun _ _ _ _ _ => (pg_name (i := 2) sc_first_four.nd rfl (Or.inl rfl))) (fun _ _ _ _ _ => (pe_op op_mulB (pv 1) (pv 2)))))))), ?_⟩
  walk_at "rd"
  have mem3 : ∀ {p : List Int → Prop}, p a → p b → p c → ∀ r ∈ [a, b, c], p r := fun {p} pa pb pc r hr => by
    rcases List.mem_cons.mp hr with rfl | hr
    · exact pa
    · rcases List.mem_cons.mp hr with rfl | hr
      · exact pb
      · rcases List.mem_cons.mp hr with rfl | hr
        · exact pc
        · cases hr
  refine ⟨2098, 3, by decide, by decide, _, [a, b, c], rfl, hv, rfl, mem3 la lb lc, by decide, mem3 ba bb bc, fun H1 g1 => ?_⟩
  walk_at "rd"
  refine ⟨by show 1 ≤ sizeLine; decide, fun p1 n1 => ?_⟩
  have g2 := Same.new n1 (.lst [.int (Sh25.det 3 [a, b, c])])
  have e1 : upd H1 p1 (.lst [.int (Sh25.det 3 [a, b, c])]) p1 = some (.lst [.int (Sh25.det 3 [a, b, c])]) := upd_same
  generalize upd H1 p1 (.lst [.int (Sh25.det 3 [a, b, c])]) = H2 at g2 e1 ⊢
  have g12 := g1.trans g2
  refine ⟨_, rfl, _, a, b, c, rfl, hv.same g12, la, lb, lc, fun r3 H3 g3 n3 e3 => ?_⟩
  refine ⟨r3, rfl, ⟨_, SqL.of e3⟩, fun D hD => ?_⟩
  have s3 : SqL K H3 r3 ((sums3 a b c).map V.int) := SqL.of e3
  refine lc_any (n := 3) (fun i _ z => ∃ m, ((sums3 a b c).map fun z => vol3 a b c * z)[i]? = some m ∧ z = .int m) (fun i H H' z _ r => r) hD (by decide) (fun H4 g4 => ⟨_, g4.seq s3, Nat.le_refl _⟩)
    (fun i H4 hi g4 => ⟨_, _, g4.seq s3, List.getElem?_eq_getElem hi⟩) (fun i x H4 H5 Q' hi g4 nD y hQ => ?_) fun H4 ys g4 hD4 ely hys => ?_
  · obtain ⟨rfl, y⟩ := y
    have ex := y _ (g4.seq s3)
    rw [List.getElem?_map] at ex
    obtain ⟨z, ez, rfl⟩ := Option.map_eq_some_iff.mp ex
    have bz : z.natAbs < 2 ^ 2100 := by
      match i, hi with
      | 0, _ => cases ez; exact first_bnd ba bb bc 0
      | 1, _ => cases ez; exact first_bnd ba bb bc 1
      | 2, _ => cases ez; exact first_bnd ba bb bc 2
    refine ⟨rfl, ?_⟩
    walk_at "rd"
    exact ⟨⟨b20_of (vol3_bnd ba bb bc) (by decide), b20_of bz (by decide)⟩, hQ _ _ (Same.refl _) ⟨_, by rw [List.getElem?_map, ez]; rfl, rfl⟩⟩
  · have ey : ys = ((sums3 a b c).map fun z => vol3 a b c * z).map V.int := ints_of ely hys
    rw [ey] at hD4
    refine ⟨p1, D, _, _, rfl, rfl, (g3.trans g4) _ _ e1, hD4, by show 1 + 3 ≤ sizeLine; decide, fun p5 n5 => h p5 _ (g12.trans (g3.trans (g4.trans (Same.new n5 _)))) ((g12.trans (g3.trans g4)).free n5) upd_same⟩
/-! all_ten -/
def prs : List (Int × Int) := [(0, 0), (1, 1), (2, 2), (0, 1), (1, 2), (2, 0)]
def ten (a b c : List Int) : List Int := four a b c ++ prs.map fun p => vol3 a b c * mom p.1.toNat p.2.toNat a b c
theorem pak_get {K : PySem.W.Frag} : ∀ {ps : List Addr} {l : List (Int × Int)} {i : Nat} {z : V}, Paired (fun (p : Addr) (x : Int × Int) => SqK K p [V.int x.1, V.int x.2]) ps l → (ps.map V.ref)[i]? = some z → ∃ p x, z = .ref p ∧ l[i]? = some x ∧ SqK K p [V.int x.1, V.int x.2]
  | _, _, _, _, .nil, e => by simp at e
  | _, _, 0, _, .cons h _, e => by cases e; exact ⟨_, _, rfl, rfl, h⟩
  | _, _, i + 1, _, .cons _ t, e => by
    obtain ⟨p, x, e1, e2, e3⟩ := pak_get (i := i) t e
    exact ⟨p, x, e1, e2, e3⟩
theorem mom_bnd {a b c : List Int} (ba : LB 2098 a) (bb : LB 2098 b) (bc : LB 2098 c) (i j : Nat) : (mom i j a b c).natAbs < 2 ^ 4203 := by
  have m : ∀ {x y : Int} {m n : Nat}, x.natAbs < 2 ^ m → y.natAbs < 2 ^ n → (x * y).natAbs < 2 ^ (m + n) := fun {x y m n} hx hy => by
    rw [Int.natAbs_mul, Nat.pow_add]
    exact Nat.mul_lt_mul'' hx hy
  have h0 := m (first_bnd ba bb bc i) (first_bnd ba bb bc j)
  have h1 := m (at_lb ba i) (at_lb ba j)
  have h2 := m (at_lb bb i) (at_lb bb j)
  have h3 := m (at_lb bc i) (at_lb bc j)
  unfold mom
  rw [show (2100 + 2100 : Nat) = 4196 + 4 from rfl, Nat.pow_add] at h0
  rw [show (2098 + 2098 : Nat) = 4196 from rfl] at h1 h2 h3
  rw [show (4203 : Nat) = 4196 + 7 from rfl, Nat.pow_add]
  generalize 2 ^ 4196 = T at *
  omega
theorem sc_all_ten : FnScope ["corners", "four", "sums", "pair"] ["corners"] (defScope s_all_ten) := ⟨rfl, rfl, rfl, by decide +kernel, rfl, by decide +kernel, by decide +kernel⟩
theorem ok_all_ten {f : Addr} {fd : FuncData} {k : Nat} (F : Fun K "all_ten" "all_ten" s_all_ten f fd) {g_AXIS_PAIRS : Addr} (v_AXIS_PAIRS : mg "AXIS_PAIRS" = some (.ref g_AXIS_PAIRS)) (q_AXIS_PAIRS : PaK K g_AXIS_PAIRS [(0, 0), (1, 1), (2, 2), (0, 1), (1, 2), (2, 0)]) (h_first_four : Has P w K mg base k "first_four" ["corners"] (spPart K four)) (h_axis_sums : Has P w K mg base k "axis_sums" ["corners"] (spAxis K)) (h_second_moment : Has P w K mg base k "second_moment" ["corners", "sums", "pair"] (spSecond K)) : FnOk P w K mg base (CXE P w) (k + 1) f fd ["corners"] (spPart K ten) := by
  refine F.okX sc_all_ten (fun vs H Q E h => ?_) (fun cdv A outer s H vs Q E hr h => ?_)
  · obtain ⟨v, a, b, c, rfl, hv, pa, pb, pc, h⟩ := h
    rfl
  obtain ⟨v, a, b, c, rfl, hv, pa, pb, pc, h⟩ := h
  obtain ⟨L, fr⟩ := @frIs_def (CXE P w) P w K mg base ["corners", "four", "sums", "pair"] "all_ten" (defScope s_all_ten) f cdv A outer s H E
  refine ⟨_, (pss_cons (ps_set (i := 1) sc_all_ten.nd rfl (Or.inr rfl) (pe_callH h_first_four hr (passX rfl ⟨L, fr⟩) (pa_cons (pv 0) pa_nil))) (pss_cons (ps_set (i := 2) sc_all_ten.nd rfl (Or.inr rfl) (pe_callH h_axis_sums hr (passX rfl ⟨L, fr⟩) (pa_cons (pv 0) pa_nil))) (pss_one (ps_ret (pe_op op_cat (pv 1) (pe_lcE (own := [("pair", 3)]) rfl rfl fr sc_all_ten.nd (pi_tup (pe_glob (v := .ref g_AXIS_PAIRS) rfl v_AXIS_PAIRS rfl)) (blkOk_by rfl) (fun _ _ _ _ _ => (pg_name (i := 3) sc_all_ten.nd rfl (Or.inl rfl))) (fun _ _ _ _ _ => (pe_op op_mulB (pe_ix (ixL K) (pv 1) pe_int (fun _ _ => rfl)) (pe_callH h_second_moment hr (passX rfl ⟨L, fr.blk⟩) (pa_cons (pv 0) (pa_cons (pv 2) (pa_cons (pv 3) pa_nil)))))))))))), ?_⟩
  walk_at "rd"
  refine ⟨_, a, b, c, rfl, hv, pa, pb, pc, fun r1 H1 g1 n1 e1 => ?_⟩
  walk_at "rd"
  refine ⟨_, a, b, c, rfl, hv.same g1, pa.1, pb.1, pc.1, fun r2 H2 g2 n2 e2 => ?_⟩
  have g12 := g1.trans g2
  have e1' := g2 _ _ e1
  have s1 : SqL K H2 r1 ((four a b c).map V.int) := SqL.of e1'
  obtain ⟨ps, qs, pp⟩ := q_AXIS_PAIRS
  have lp : (ps.map V.ref).length = 6 := by
    rw [List.length_map]
    have := pp.length
    exact this
  refine ⟨_, rfl, ⟨_, qs.sq⟩, fun D hD => ?_⟩
  refine lc_any (n := 6) (fun i _ z => ∃ m, (prs.map fun p => vol3 a b c * mom p.1.toNat p.2.toNat a b c)[i]? = some m ∧ z = .int m) (fun i H H' z _ r => r) hD (by decide) (fun H4 g4 => ⟨_, qs.sq, Nat.le_of_eq lp⟩)
    (fun i H4 hi g4 => ⟨_, _, qs.sq, List.getElem?_eq_getElem (by omega)⟩) (fun i x H4 H5 Q' hi g4 nD y hQ => ?_) fun H4 ys g4 hD4 ely hys => ?_
  · obtain ⟨rfl, y⟩ := y
    obtain ⟨p, z, rfl, ez, qz⟩ := pak_get pp (y _ qs.sq)
    have hz3 : ∃ m n : Nat, z = ((m : Int), (n : Int)) ∧ m < 3 ∧ n < 3 := by
      match i, hi with
      | 0, _ => cases ez; exact ⟨0, 0, rfl, by decide, by decide⟩
      | 1, _ => cases ez; exact ⟨1, 1, rfl, by decide, by decide⟩
      | 2, _ => cases ez; exact ⟨2, 2, rfl, by decide, by decide⟩
      | 3, _ => cases ez; exact ⟨0, 1, rfl, by decide, by decide⟩
      | 4, _ => cases ez; exact ⟨1, 2, rfl, by decide, by decide⟩
      | 5, _ => cases ez; exact ⟨2, 0, rfl, by decide, by decide⟩
    obtain ⟨m, n, rfl, hm, hn⟩ := hz3
    refine ⟨rfl, ?_⟩
    walk_at "rd"
    refine ix_get (i := 0) (g4.seq s1) rfl rfl ?_
    walk_at "rd"
    refine ⟨_, _, _, a, b, c, m, n, rfl, hv.same (g12.trans g4), LI.of (g4 _ _ e2), ⟨p, rfl, .inr qz.sq⟩, hm, hn, pa, pb, pc, fun H6 g6 => ?_⟩
    walk_at "rd"
    refine ⟨⟨b20_of (vol3_bnd pa.2 pb.2 pc.2) (by decide), b20_of (mom_bnd pa.2 pb.2 pc.2 m n) (by decide)⟩, hQ _ _ g6 ⟨_, ?_, rfl⟩⟩
    rw [List.getElem?_map, show prs[i]? = some ((m : Int), (n : Int)) from ez]
    rfl
  · have ey : ys = (prs.map fun p => vol3 a b c * mom p.1.toNat p.2.toNat a b c).map V.int := ints_of ely hys
    rw [ey] at hD4
    refine ⟨r1, D, _, _, rfl, rfl, g4 _ _ e1', hD4, by show 4 + 6 ≤ sizeLine; decide, fun p5 n5 => h p5 _ (g12.trans (g4.trans (Same.new n5 _))) ((g12.trans g4).free n5) ?_⟩
    rw [upd_same]
    unfold ten
    rw [List.map_append]
/-! added_over -/
def addL (x y : List Int) : List Int := List.zipWith (fun a b => a + b) x y
def part3 (f : List Int → List Int → List Int → List Int) (t : List (List Int)) : List Int := f (t.getD 0 []) (t.getD 1 []) (t.getD 2 [])
def tot (f : List Int → List Int → List Int → List Int) (n : Nat) (ts : List (List (List Int))) : List Int := (ts.map (part3 f)).foldl addL (List.replicate n 0)
/-- the sum of a place over all triangles -/
def totK (f : List Int → List Int → List Int → List Int) (ts : List (List (List Int))) (k : Nat) : Int := (ts.map fun t => (part3 f t).getD k 0).sum
theorem addL_get {x y : List Int} {n k : Nat} (hx : x.length = n) (hy : y.length = n) (hk : k < n) : (addL x y).getD k 0 = x.getD k 0 + y.getD k 0 := by
  unfold addL
  rw [List.getD_eq_getElem?_getD, List.getD_eq_getElem?_getD, List.getD_eq_getElem?_getD, List.getElem?_zipWith, List.getElem?_eq_getElem (by omega), List.getElem?_eq_getElem (by omega)]
  rfl
theorem addL_len {x y : List Int} {n : Nat} (hx : x.length = n) (hy : y.length = n) : (addL x y).length = n := by unfold addL; rw [List.length_zipWith]; omega
theorem fold_addL {n : Nat} : ∀ {l : List (List Int)} {z : List Int}, z.length = n → (∀ y ∈ l, y.length = n) → (l.foldl addL z).length = n ∧ ∀ k, k < n → (l.foldl addL z).getD k 0 = z.getD k 0 + (l.map fun y => y.getD k 0).sum
  | [], z, hz, _ => ⟨hz, fun k _ => by simp⟩
  | y :: l, z, hz, h => by
    have hy := h y List.mem_cons_self
    obtain ⟨e1, e2⟩ := fold_addL (l := l) (addL_len hz hy) fun x hx => h x (List.mem_cons_of_mem _ hx)
    refine ⟨e1, fun k hk => ?_⟩
    rw [List.foldl_cons, e2 k hk, addL_get hz hy hk, List.map_cons, List.sum_cons]
    omega
theorem tot_get {f : List Int → List Int → List Int → List Int} {n : Nat} {ts : List (List (List Int))} (hf : ∀ a b c, (f a b c).length = n) : (tot f n ts).length = n ∧ ∀ k, k < n → (tot f n ts).getD k 0 = totK f ts k := by
  obtain ⟨e1, e2⟩ := fold_addL (n := n) (l := ts.map (part3 f)) (z := List.replicate n 0) List.length_replicate fun y hy => by
    obtain ⟨t, _, rfl⟩ := List.mem_map.mp hy
    exact hf _ _ _
  refine ⟨e1, fun k hk => ?_⟩
  unfold tot
  rw [e2 k hk, List.map_map, List.getD_eq_getElem?_getD, List.getElem?_replicate, if_pos hk]
  show 0 + _ = _
  rw [Int.zero_add]
  rfl
def T3 (ts : List (List (List Int))) : Prop := ∀ t ∈ ts, t.length = 3 ∧ ∀ q ∈ t, P3 q
theorem sumT {B : Nat} {l : List Int} (h : LB B l) (hl : l.length ≤ 4096) : l.sum.natAbs < 2 ^ (B + 14) := by
  have := sum_bound (f := fun z : Int => z) (l := l) (m := 2 ^ B) fun z hz => Nat.le_of_lt (h z hz)
  rw [List.map_id'] at this
  refine Nat.lt_of_le_of_lt this ?_
  rw [Nat.pow_add, Nat.mul_comm]
  have e : l.length < 2 ^ 14 := by omega
  exact Nat.mul_lt_mul_of_pos_left e (Nat.two_pow_pos _)
theorem totK_bnd {f : List Int → List Int → List Int → List Int} {ts : List (List (List Int))} {k B : Nat} (hts : T3 ts) (hz : ts.length ≤ 4096) (hf : ∀ a b c, P3 a → P3 b → P3 c → ((f a b c).getD k 0).natAbs < 2 ^ B) : (totK f ts k).natAbs < 2 ^ (B + 14) := by
  refine sumT (fun z hz => ?_) (by rw [List.length_map]; exact hz)
  obtain ⟨t, ht, rfl⟩ := List.mem_map.mp hz
  obtain ⟨h3, hq⟩ := hts t ht
  match t, h3 with
  | [a, b, c], _ => exact hf a b c (hq a (by simp)) (hq b (by simp)) (hq c (by simp))
def spAdd (P : Program) (w : World) (K : PySem.W.Frag) (mg : Str → Option Value) (base : Heap) : Sp := fun vs H Q E => ∃ (v : V) (fa : Addr) (fd : FuncData) (f : List Int → List Int → List Int → List Int) (n : Nat) (ts : List (List (List Int))), vs = [v, .ref fa, .int (n : Int)] ∧ L3 K H v ts ∧ FnOk P w K mg base (CXE P w) 12 fa fd ["corners"] (spPart K f) ∧ Binds K fd ["corners"] [] ∧ PySem.W.keepIn K (.ref fa) = true ∧ (∀ a b c, (f a b c).length = n) ∧ (∀ t ∈ ts, t.length = 3 ∧ ∀ q ∈ t, P3 q) ∧ ts.length ≤ 100000 ∧ n ≤ 100 ∧
  ∀ r H', Same H H' → H r = none → H' r = some (.lst ((tot f n ts).map V.int)) → Q (.ref r) H'
theorem sc_added_over : FnScope ["triangles", "parts_of_one", "count", "totals", "corners", "total", "part"] ["triangles", "parts_of_one", "count"] (defScope s_added_over) := ⟨rfl, rfl, rfl, by decide +kernel, rfl, by decide +kernel, by decide +kernel⟩
theorem ok_added_over {f : Addr} {fd : FuncData} {k : Nat} (F : Fun K "added_over" "added_over" s_added_over f fd) (m_zip : mg "zip" = none) (hkN : 12 ≤ k) : FnOk P w K mg base (CXE P w) (k + 1) f fd ["triangles", "parts_of_one", "count"] (spAdd P w K mg base) := by
  refine F.okX sc_added_over (fun vs H Q E h => ?_) (fun cdv A outer s H vs Q E hr h => ?_)
  · obtain ⟨_, fa, fd', pf, n, ts, rfl, ⟨u, xs, rfl, hu, px⟩, F, fb, fk, lf, hts, hz, hn, h⟩ := h
    rfl
  obtain ⟨_, fa, fd', pf, n, ts, rfl, ⟨u, xs, rfl, hu, px⟩, F, fb, fk, lf, hts, hz, hn, h⟩ := h
  obtain ⟨L, fr⟩ := @frIs_def (CXE P w) P w K mg base ["triangles", "parts_of_one", "count", "totals", "corners", "total", "part"] "added_over" (defScope s_added_over) f cdv A outer s H E
  refine ⟨_, (pss_cons (ps_set (i := 3) sc_added_over.nd rfl (Or.inl rfl) (pe_op op_rep (pe_lst (pa_cons pe_int pa_nil)) (pv 2))) (pss_cons (ps_for passes_own_x rfl (pi_list (pv 0)) (pg_name (i := 4) sc_added_over.nd rfl (Or.inl rfl)) (pss_one (ps_setLcE (i := 3) (own := [("total", 5), ("part", 6)]) rfl rfl fr sc_added_over.nd rfl rfl rfl rfl rfl (pi_zip rfl m_zip (pa_cons (pv 3) (pa_cons (pe_callF (i := 1) hr (passX rfl ⟨L, fr⟩) (pa_cons (pv 4) pa_nil)) pa_nil))) (blkOk_by rfl) (fun _ _ _ _ _ => (pg_two K 5 6 rfl sc_added_over.nd)) (fun _ _ _ _ _ => (pe_op op_add (pv 5) (pv 6)))))) (pss_one (ps_ret (pv 3))))), ?_⟩
  walk_at "rd"
  have e0 : ∀ k : Nat, (List.replicate k [V.int 0]).flatten = (List.replicate k (0 : Int)).map V.int := fun k => by
    induction k with
    | zero => rfl
    | succ k ih => rw [List.replicate_succ, List.flatten_cons, ih, List.replicate_succ, List.map_cons]; rfl
  refine ⟨by show 1 ≤ sizeLine; decide, fun p1 n1 => ⟨p1, _, _, rfl, rfl, upd_same, Int.le_trans (by decide : -(2 ^ 63 : Int) ≤ 0) (by omega), Int.lt_of_le_of_lt (show (n : Int) ≤ 100 by omega) (by decide), ?_, fun p2 n2 => ?_⟩⟩
  · show 1 * ((n : Int)).toNat ≤ _
    rw [Int.toNat_natCast]
    exact Nat.le_trans (show 1 * n ≤ 100 by omega) (by decide)
  rw [Int.toNat_natCast, e0]
  have g1 := Same.new n1 (.lst [.int 0])
  have g2 := Same.new n2 (.lst ((List.replicate n (0 : Int)).map V.int))
  have g12 := g1.trans g2
  have e2 : upd (upd H p1 (.lst [.int 0])) p2 (.lst ((List.replicate n (0 : Int)).map V.int)) p2 = some (.lst ((List.replicate n (0 : Int)).map V.int)) := upd_same
  generalize upd (upd H p1 (.lst [.int 0])) p2 (.lst ((List.replicate n (0 : Int)).map V.int)) = H2 at g12 e2 ⊢
  have f2 := g1.free n2
  clear g1 g2 n1 n2
  have lx : xs.length = ts.length := px.length
  have ltot : ∀ l, (tot pf n l).length = n := fun l => by
    unfold tot
    have : ∀ (q : List (List Int)) (z : List Int), z.length = n → (∀ y ∈ q, y.length = n) → (q.foldl addL z).length = n := fun q => by
      induction q with
      | nil => intro z hz _; exact hz
      | cons y q ih =>
        intro z hz hq
        refine ih _ ?_ fun x hx => hq x (List.mem_cons_of_mem _ hx)
        unfold addL
        rw [List.length_zipWith, hz, hq y List.mem_cons_self]
        omega
    refine this _ _ List.length_replicate fun y hy => ?_
    obtain ⟨t, _, rfl⟩ := List.mem_map.mp hy
    exact lf _ _ _
  refine ⟨_, rfl, u, rfl, ⟨_, g12.seq hu⟩, ?_⟩
  refine for_list (xs := xs) (fun i σ H3 => ∃ (tt : Addr) (o1 o2 o3 : Option V), σ = [some (V.ref u), some (V.ref fa), some (V.int (n : Int)), some (V.ref tt), o1, o2, o3] ∧ Same H H3 ∧ H tt = none ∧ H3 tt = some (.lst ((tot pf n (ts.take i)).map V.int))) ⟨p2, none, none, none, rfl, g12, f2, e2⟩ (fun i σ H3 _ ⟨_, _, _, _, _, g, _⟩ => g.seq hu) (fun i x σ H3 ex pp => ?_) fun σ H3 pp => ?_
  · obtain ⟨tt, o1, o2, o3, rfl, g3, ft, et⟩ := pp
    obtain ⟨t, ets, ht⟩ := Paired.get px ex
    obtain ⟨l3, hq⟩ := hts t (List.mem_of_getElem? ets)
    have ht3 : ∃ a b c, t = [a, b, c] := by
      match t, l3 with
      | [a, b, c], _ => exact ⟨a, b, c, rfl⟩
    obtain ⟨a, b, c, rfl⟩ := ht3
    have enext : tot pf n (ts.take (i + 1)) = addL (tot pf n (ts.take i)) (pf a b c) := by
      unfold tot
      rw [List.take_succ, ets, List.map_append, List.foldl_append]
      rfl
    refine ⟨_, rfl, fa, fd', ["corners"], spPart K pf, rfl, F.mono hkN, fb, fk, _, rfl, _, a, b, c, rfl, LLI.same g3 ht, hq a (by simp), hq b (by simp), hq c (by simp), fun r4 H4 g4 n4 e4 => ?_⟩
    have et4 := g4 _ _ et
    refine ⟨tt, r4, _, _, rfl, SqL.of et4, SqL.of e4, fun D hD => ?_⟩
    refine lc_zipV (n := n) (fun i' _ z => ∃ m, (addL (tot pf n (ts.take i)) (pf a b c))[i']? = some m ∧ z = .int m) (fun i' H H' z _ r => r) hD (by rw [List.length_map]; exact ltot _) (by rw [List.length_map]; exact lf _ _ _) (Nat.le_trans hn (by decide)) (SqL.of et4) (SqL.of e4) (fun i' x' y' T H5 Q' ex' ey' g5 nD hT hQ => ?_) fun H5 zs g5 hD5 elz hzs => ?_
    · rw [List.getElem?_map] at ex' ey'
      obtain ⟨v1, e1, rfl⟩ := Option.map_eq_some_iff.mp ex'
      obtain ⟨v2, e2', rfl⟩ := Option.map_eq_some_iff.mp ey'
      refine ⟨T, _, rfl, SqT.of upd_same, rfl, _, _, rfl, _, _, rfl, rfl, rfl, ?_⟩
      walk_at "rd"
      exact hQ _ _ (Same.new hT _) ⟨v1 + v2, by unfold addL; rw [List.getElem?_zipWith, e1, e2'], rfl⟩
    · have ez : zs = (addL (tot pf n (ts.take i)) (pf a b c)).map V.int := ints_of (by unfold addL; rw [List.length_zipWith, ltot, lf]; omega) hzs
      rw [ez, ← enext] at hD5
      exact ⟨D, _, _, _, rfl, g3.trans (g4.trans g5), (g3.trans g4).free hD, hD5⟩
  · obtain ⟨tt, o1, o2, o3, rfl, g3, ft, et⟩ := pp
    rw [lx, List.take_length] at et
    exact ⟨_, rfl, h tt H3 g3 ft et⟩
/-! solid_mass -/
def dvs : List Int := [6, 24, 24, 24, 120, 120, 120, 120, 120, 120]
def fcs : List Int := [3, 4, 4, 4, 5, 5, 5, 5, 5, 5]
def spSolidM (K : PySem.W.Frag) : Sp := fun vs H Q E => ∃ (v : V) (ts : List (List (List Int))), vs = [v] ∧ L3 K H v ts ∧ T3 ts ∧ ts.length ≤ 4096 ∧
  ∀ r H' xs, Same H H' → LEV K H' (.ref r) xs → (∀ x ∈ xs, VB x.1 x.2) → xs.length = 10 → (∀ (i : Nat) (x : Int × Int), xs[i]? = some x → ∀ way (N : Int) (D : Nat), 0 < D → N * (dvs.getD i 0 * 2 ^ ((fcs.getD i 0).toNat * 1074)) = totK ten ts i * 2 ^ 1074 * D → tn way x.1 x.2 = Sh25.toNum way N D) → Q (.ref r) H'
theorem sc_solid_mass : FnScope ["triangles", "totals", "total", "divisor", "factors"] ["triangles"] (defScope s_solid_mass) := ⟨rfl, rfl, rfl, by decide +kernel, rfl, by decide +kernel, by decide +kernel⟩
theorem ok_solid_mass {f : Addr} {fd : FuncData} {k : Nat} (F : Fun K "solid_mass" "solid_mass" s_solid_mass f fd) (m_zip : mg "zip" = none) {g_FACTORS : Addr} (v_FACTORS : mg "FACTORS" = some (.ref g_FACTORS)) (q_FACTORS : SqK K g_FACTORS [V.int 3, V.int 4, V.int 4, V.int 4, V.int 5, V.int 5, V.int 5, V.int 5, V.int 5, V.int 5]) {g_DIVISORS : Addr} (v_DIVISORS : mg "DIVISORS" = some (.ref g_DIVISORS)) (q_DIVISORS : SqK K g_DIVISORS [V.int 6, V.int 24, V.int 24, V.int 24, V.int 120, V.int 120, V.int 120, V.int 120, V.int 120, V.int 120]) {t_PLACES : Tok} (v_PLACES : mg "PLACES" = some (.int 1074 t_PLACES)) (h_added_over : Has P w K mg base k "added_over" ["triangles", "parts_of_one", "count"] (spAdd P w K mg base)) (h_all_ten : Has P w K mg base 12 "all_ten" ["corners"] (spPart K ten)) (h_quotient : Has P w K mg base k "quotient" ["dividend", "divisor", "places"] (spQuo K)) : FnOk P w K mg base (CXE P w) (k + 1) f fd ["triangles"] (spSolidM K) := by
  refine F.okX sc_solid_mass (fun vs H Q E h => ?_) (fun cdv A outer s H vs Q E hr h => ?_)
  · obtain ⟨v, ts, rfl, hv, hts, hz, h⟩ := h
    rfl
  obtain ⟨v, ts, rfl, hv, hts, hz, h⟩ := h
  obtain ⟨L, fr⟩ := @frIs_def (CXE P w) P w K mg base ["triangles", "totals", "total", "divisor", "factors"] "solid_mass" (defScope s_solid_mass) f cdv A outer s H E
  obtain ⟨fa_all_ten, fd_all_ten, F_all_ten, fb_all_ten, fk_all_ten, fm_all_ten⟩ := h_all_ten
  refine ⟨_, (pss_cons (ps_set (i := 1) sc_solid_mass.nd rfl (Or.inl rfl) (pe_callH h_added_over hr (passX rfl ⟨L, fr⟩) (pa_cons (pv 0) (pa_cons (pe_glob (v := .ref fa_all_ten) rfl fm_all_ten rfl) (pa_cons pe_int pa_nil))))) (pss_one (ps_ret (pe_lcE (own := [("total", 2), ("divisor", 3), ("factors", 4)]) rfl rfl fr sc_solid_mass.nd (pi_zip3 rfl m_zip (pa_cons (pv 1) (pa_cons (pe_glob (v := .ref g_DIVISORS) rfl v_DIVISORS rfl) (pa_cons (pe_glob (v := .ref g_FACTORS) rfl v_FACTORS rfl) pa_nil)))) (blkOk_by rfl) (fun _ _ _ _ _ => (pg_three K 2 3 4 rfl sc_solid_mass.nd)) (fun _ _ _ _ _ => (pe_callH h_quotient hr (passX rfl ⟨L, fr.blk⟩) (pa_cons (pv 2) (pa_cons (pv 3) (pa_cons (pe_op op_mulB (pv 4) (pgI v_PLACES)) pa_nil))))))))), ?_⟩
  walk_at "rd"
  refine ⟨v, fa_all_ten, fd_all_ten, ten, 10, ts, rfl, hv, F_all_ten, fb_all_ten, fk_all_ten, fun a b c => rfl, hts, by omega, by decide, fun r1 H1 g1 n1 e1 => ?_⟩
  obtain ⟨lT, gT⟩ := tot_get (f := ten) (n := 10) (ts := ts) fun a b c => rfl
  have s1 : SqL K H1 r1 ((tot ten 10 ts).map V.int) := SqL.of e1
  walk_at "rd"
  refine ⟨_, rfl, r1, g_DIVISORS, g_FACTORS, _, _, _, rfl, s1, q_DIVISORS.sq, q_FACTORS.sq, fun D hD => ?_⟩
  have bt : ∀ i, i < 10 → (totK ten ts i).natAbs < 2 ^ (10507 + 14) := fun i hi => totK_bnd hts hz fun a b c pa pb pc => by
    have hv3 := vol3_bnd pa.2 pb.2 pc.2
    have hf := first_bnd pa.2 pb.2 pc.2
    have hm := mom_bnd pa.2 pb.2 pc.2
    have up : ∀ {m : Nat}, m ≤ 10507 → 2 ^ m ≤ 2 ^ 10507 := fun h => Nat.pow_le_pow_right (by decide) h
    have k0 : (vol3 a b c).natAbs < 2 ^ 10507 := Nat.lt_of_lt_of_le hv3 (up (by decide))
    have k1 : ∀ j, (vol3 a b c * Sh25.first j a b c).natAbs < 2 ^ 10507 := fun j => by
      refine Nat.lt_of_lt_of_le ?_ (up (m := 6304 + 2100) (by decide))
      rw [Int.natAbs_mul, Nat.pow_add]
      exact Nat.mul_lt_mul'' hv3 (hf j)
    have k2 : ∀ m n, (vol3 a b c * mom m n a b c).natAbs < 2 ^ 10507 := fun m n => by
      rw [Int.natAbs_mul, show (10507 : Nat) = 6304 + 4203 from rfl, Nat.pow_add]
      exact Nat.mul_lt_mul'' hv3 (hm m n)
    match i, hi with
    | 0, _ => exact k0
    | 1, _ => exact k1 0
    | 2, _ => exact k1 1
    | 3, _ => exact k1 2
    | 4, _ => exact k2 0 0
    | 5, _ => exact k2 1 1
    | 6, _ => exact k2 2 2
    | 7, _ => exact k2 0 1
    | 8, _ => exact k2 1 2
    | 9, _ => exact k2 2 0
  refine lc_zip3 (n := 10) (fun i H z => ∃ t w p, z = .ref t ∧ t ≠ D ∧ H t = some (.tup [.int w, .int p]) ∧ VB w p ∧ ∀ way (N : Int) (D : Nat), 0 < D → N * (dvs.getD i 0 * 2 ^ ((fcs.getD i 0).toNat * 1074)) = totK ten ts i * 2 ^ 1074 * D → tn way w p = Sh25.toNum way N D) (fun i H H' z g ⟨t, w, p, e1, e2, e3, e4⟩ => ⟨t, w, p, e1, e2, g _ _ e2 e3, e4⟩) hD (by rw [List.length_map]; exact lT) rfl rfl (by decide) s1 q_DIVISORS.sq q_FACTORS.sq (fun i x y u T H4 Q' ex ey eu g4 nD hT hQ => ?_) fun H4 ys g4 hD4 ely hys => ?_
  · have hi : i < 10 := by have := (List.getElem?_eq_some_iff.mp ey).1; exact this
    have ex2 : x = .int (totK ten ts i) := by
      rw [List.getElem?_map, List.getElem?_eq_getElem (by omega)] at ex
      have := gT i hi
      rw [List.getD_eq_getElem?_getD, List.getElem?_eq_getElem (by omega)] at this
      cases ex
      exact congrArg V.int this
    have ey2 : y = .int (dvs.getD i 0) ∧ u = .int (fcs.getD i 0) ∧ DZ (dvs.getD i 0) ∧ ∃ q : Nat, fcs.getD i 0 = (q : Int) ∧ q ≤ 5 := by
      have dz : ∀ z : Int, z ≠ 0 → z.natAbs < 2 ^ 7 → DZ z := fun z h1 h2 => ⟨h1, Nat.lt_of_lt_of_le h2 (Nat.pow_le_pow_right (by decide) (by decide))⟩
      match i, hi with
      | 0, _ => cases ey; cases eu; exact ⟨rfl, rfl, dz _ (by decide) (by decide), 3, rfl, by decide⟩
      | 1, _ => cases ey; cases eu; exact ⟨rfl, rfl, dz _ (by decide) (by decide), 4, rfl, by decide⟩
      | 2, _ => cases ey; cases eu; exact ⟨rfl, rfl, dz _ (by decide) (by decide), 4, rfl, by decide⟩
      | 3, _ => cases ey; cases eu; exact ⟨rfl, rfl, dz _ (by decide) (by decide), 4, rfl, by decide⟩
      | 4, _ => cases ey; cases eu; exact ⟨rfl, rfl, dz _ (by decide) (by decide), 5, rfl, by decide⟩
      | 5, _ => cases ey; cases eu; exact ⟨rfl, rfl, dz _ (by decide) (by decide), 5, rfl, by decide⟩
      | 6, _ => cases ey; cases eu; exact ⟨rfl, rfl, dz _ (by decide) (by decide), 5, rfl, by decide⟩
      | 7, _ => cases ey; cases eu; exact ⟨rfl, rfl, dz _ (by decide) (by decide), 5, rfl, by decide⟩
      | 8, _ => cases ey; cases eu; exact ⟨rfl, rfl, dz _ (by decide) (by decide), 5, rfl, by decide⟩
      | 9, _ => cases ey; cases eu; exact ⟨rfl, rfl, dz _ (by decide) (by decide), 5, rfl, by decide⟩
    obtain ⟨rfl, rfl, hdz, q, eq, hq⟩ := ey2
    subst ex2
    refine ⟨T, _, rfl, SqT.of upd_same, rfl, _, _, rfl, _, _, rfl, _, _, rfl, rfl, rfl, ?_⟩
    have g5 := Same.new hT (.tup [.int (totK ten ts i), .int (dvs.getD i 0), .int (fcs.getD i 0)])
    generalize upd H4 T (.tup [.int (totK ten ts i), .int (dvs.getD i 0), .int (fcs.getD i 0)]) = H5 at g5 ⊢
    walk_at "rd"
    rw [eq]
    have em : (q : Int) * 1074 = ((q * 1074 : Nat) : Int) := by rw [Int.natCast_mul]; rfl
    rw [em]
    refine ⟨⟨b20_of (k := 3) (by rw [Int.natAbs_natCast]; omega) (by decide), b20_of (k := 11) (by decide) (by decide)⟩, _, _, q * 1074, rfl, hdz, Nat.lt_trans (bt i hi) (Nat.pow_lt_pow_right (by decide) (by decide)), by omega, fun t H6 w p g6 n6 e6 vb ht _ => ?_⟩
    refine hQ _ _ (g5.trans g6) ⟨t, w, p, rfl, fun e => nD (by rw [e] at n6; exact g5.free n6), e6, vb, fun way N D' hD' hN => ht way N D' hD' ?_⟩
    rw [eq, Int.toNat_natCast] at hN
    exact hN
  · obtain ⟨xs, lx, pr, hx⟩ := ev_list (K := K) (H := H4) (ys := ys) (P := fun i w p => VB w p ∧ ∀ way (N : Int) (D : Nat), 0 < D → N * (dvs.getD i 0 * 2 ^ ((fcs.getD i 0).toNat * 1074)) = totK ten ts i * 2 ^ 1074 * D → tn way w p = Sh25.toNum way N D) fun i v e => by
      obtain ⟨t, w, p, e1, _, e3, e4⟩ := hys i v e
      exact ⟨t, w, p, e1, e3, e4⟩
    refine h D H4 xs (g1.trans g4) ⟨D, ys, rfl, SqL.of hD4, pr⟩ (fun x hm => ?_) (lx.trans ely) fun i x e => (hx i x e).2
    obtain ⟨i, hi, rfl⟩ := List.getElem_of_mem hm
    exact (hx i _ (List.getElem?_eq_getElem hi)).1
end
/-! mass -/
theorem all_pieces {n : Nat} (p : Nat → Bool) : ∀ {q : Nat} {l : List Nat}, l.length = n * q → ((Sh25.pieces n q l).all fun x => x.length == n && x.all p) = l.all p
  | 0, l, h => by
    have : l = [] := List.eq_nil_of_length_eq_zero (by omega)
    subst this; rfl
  | q + 1, l, h => by
    have h1 : (l.take n).length = n := by rw [List.length_take, h, Nat.mul_succ]; omega
    have h2 : (l.drop n).length = n * q := by rw [List.length_drop, h, Nat.mul_succ]; omega
    show (((l.take n).length == n && (l.take n).all p) && ((Sh25.pieces n q (l.drop n)).all fun x => x.length == n && x.all p)) = _
    rw [all_pieces p h2, h1, beq_self_eq_true, Bool.true_and, ← List.all_append, List.take_append_drop]
theorem skin_eq (l t : List Nat) : Sh25.skin (Sh25Neutral.points 3 l) (Sh25Neutral.points 3 t) = okTri l t := by
  unfold Sh25.skin okTri okPts
  rw [← Bool.and_assoc]
  congr 1
  generalize (Sh25Neutral.points 3 l).length = n
  by_cases c : t.length % 3 = 0
  · have hq : t.length = 3 * (t.length / 3) := by omega
    rw [points_q (by decide) hq, all_pieces _ hq, pieces_len, decide_eq_true c, Bool.and_true]
    congr 1
    unfold Sh25.among
    rw [Bool.eq_iff_iff]
    simp only [Bool.and_eq_true, decide_eq_true_eq]
    omega
  · rw [decide_eq_false c, Bool.and_false, Bool.and_eq_false_iff]
    right
    rw [List.all_eq_false]
    have hi : t.length / 3 < (t.length + 3 - 1) / 3 := by omega
    refine ⟨_, List.mem_of_getElem? (show (Sh25Neutral.points 3 t)[t.length / 3]? = some _ from pieces_get hi), ?_⟩
    rw [Bool.and_eq_true, beq_iff_eq, List.length_take, List.length_drop]
    omega
theorem tri_link {l t : List Nat} (h : t.length % 3 = 0) : triOf l t = (Sh25Neutral.points 3 t).map (List.map fun i => Sh25.ex ((Sh25Neutral.points 3 l).getD i [])) := by
  unfold triOf
  rw [pieces_map, points_q (by decide) (show t.length = 3 * (t.length / 3) by omega)]
theorem tri_over {l t : List Nat} (h : t.length % 3 = 0) {f : List Int → List Int → List Int → List Int} {g : List Int → List Int → List Int → Int} {k : Nat} (hk : ∀ a b c, (f a b c).getD k 0 = Sh25.det 3 [a, b, c] * g a b c) : totK f (triOf l t) k = Sh25.over (Sh25.faces (Sh25Neutral.points 3 l) (Sh25Neutral.points 3 t)) g := by
  unfold totK Sh25.over Sh25.faces
  rw [tri_link h, List.map_map, List.map_map]
  congr 1
  refine List.map_congr_left fun x hx => ?_
  rw [points_q (by decide) (show t.length = 3 * (t.length / 3) by omega)] at hx
  have l3 := pieces_each (by omega) x hx
  match x, l3 with
  | [i, j, q], _ => exact hk _ _ _
theorem tri_ok {l t : List Nat} (h : okTri l t = true) : T3 (triOf l t) ∧ (triOf l t).length ≤ 4096 ∧ t.length % 3 = 0 := by
  unfold okTri at h
  simp only [Bool.and_eq_true, decide_eq_true_eq, List.all_eq_true] at h
  obtain ⟨h1, ⟨⟨h2, h3⟩, h4⟩, h5⟩ := h
  refine ⟨fun x hx => ?_, ?_, h5⟩
  · rw [tri_link h5] at hx
    obtain ⟨y, hy, rfl⟩ := List.mem_map.mp hx
    rw [points_q (by decide) (show t.length = 3 * (t.length / 3) by omega)] at hy
    refine ⟨by rw [List.length_map]; exact pieces_each (by omega) y hy, fun q hq => ?_⟩
    obtain ⟨i, hi, rfl⟩ := List.mem_map.mp hq
    have hlt := h4 i (pieces_sub y hy i hi)
    have hp := (okPts_each h1).2.2
    rw [List.getD_eq_getElem?_getD, List.getElem?_eq_getElem hlt]
    exact hp _ (List.mem_map.mpr ⟨_, List.getElem_mem hlt, rfl⟩)
  · unfold triOf
    rw [pieces_len]; omega
theorem over_mul {m : List (Sh25.Vec × Sh25.Vec × Sh25.Vec)} {f g : Sh25.Vec → Sh25.Vec → Sh25.Vec → Int} (h : ∀ a b c, g a b c = 2 * f a b c) : Sh25.over m g = 2 * Sh25.over m f := by
  unfold Sh25.over
  induction m with
  | nil => rfl
  | cons t m ih =>
    rw [List.map_cons, List.sum_cons, List.map_cons, List.sum_cons, ih, h, Int.mul_add, ← Int.mul_assoc, ← Int.mul_assoc, Int.mul_comm _ 2]
theorem pow_cast (k : Nat) : ((Sh25.pow k : Nat) : Int) = 2 ^ (1074 * k) := by
  unfold Sh25.pow Sh25.ONE
  rw [← Nat.pow_mul, Int.natCast_pow]; rfl
theorem mass_eq {t N : Int} {w d q : Int} {f k D e : Nat} (hD : (D : Int) = w * 2 ^ (1074 * k)) (hf : f * 1074 = 1074 + 1074 * k) (ht : t * w = N * d) : N * (d * 2 ^ (f * 1074)) = t * 2 ^ 1074 * (D : Int) := by
  rw [hD, hf, Int.pow_add]
  generalize (2 : Int) ^ 1074 = A
  generalize (2 : Int) ^ (1074 * k) = B
  grind
def okL (ds : List AD) (res : List Int) : Prop := ∃ (x_points : List Int) (x_triangles : List Int), ds = [.lst x_points, .lst x_triangles] ∧ inW x_points ∧ inW x_triangles ∧ res = PySh25.mass x_points x_triangles
theorem due {x_points : List Int} {x_triangles : List Int} : PySh25.mass x_points x_triangles = res3 (Sh25.skin (Sh25Neutral.points 3 (Sh25Neutral.nats x_points)) (Sh25Neutral.points 3 (Sh25Neutral.nats x_triangles))) (true) (vals ((Sh25.mass (Sh25.faces (Sh25Neutral.points 3 (Sh25Neutral.nats x_points)) (Sh25Neutral.points 3 (Sh25Neutral.nats x_triangles)))).map Sh25.tell)) := by
  exact (due_gen _ _ _).trans (congrArg (res3 _ _) (due_vals _))
section
variable {P : Program} {w : World} {K : PySem.W.Frag} {mg : Str → Option Value} {base : Heap}
theorem scE : FnScope ["points", "triangles"] ["points", "triangles"] (defScope s_mass) := ⟨rfl, rfl, rfl, by decide +kernel, rfl, by decide +kernel, by decide +kernel⟩
theorem okEntry {fa g c Pt C_WrongInput C_NotThere C_CantBeTold : Addr} {gd : FuncData} {kV doc pm ct oc : Value} {an od : Option Addr} {osl : Array (Option Value)}
    (lk : K.lookup fa = some ⟨oc, od, .func (PySem.W.fnOf "mass" "mass" (defArgs s_mass) (defBody s_mass) (defScope s_mass) .none kV doc pm an (.ref c) ct), osl⟩) (hcd : PySem.W.codeIn K (.ref c) "mass" = true)
    (hC : PySem.W.CodeHd base c Pt) (hbm : ∃ bm ob, mg "__builtins__" = some (.ref bm) ∧ bm ≠ builtinsNs ∧ base.get? bm = some ob ∧ ob.cls = .type "module" ∧ ob.dict = some builtinsNs ∧ ob.data = .plain)
    (mA : mg "answered" = some (.ref g)) (kA : PySem.W.keepIn K (.ref g) = true) (bA : Binds K gd ["work"] [])
    (hA : ∀ base2 : Heap, (∀ b o, base.get? b = some o → base2.get? b = some o) → FnOk P w K mg base2 (CXE P w) 16 g gd ["work"] (spTakes P w K mg base2 15 (ansE [(C_WrongInput, -8), (C_NotThere, -5), (C_CantBeTold, -7)])))
    (h_told : ∀ base2 : Heap, (∀ b o, base.get? b = some o → base2.get? b = some o) → Has P w K mg base2 14 "told" ["values"] (spTold K C_CantBeTold))
    (h_solid_mass : ∀ base2 : Heap, (∀ b o, base.get? b = some o → base2.get? b = some o) → Has P w K mg base2 14 "solid_mass" ["triangles"] (spSolidM K))
    (h_read_triangles : ∀ base2 : Heap, (∀ b o, base.get? b = some o → base2.get? b = some o) → Has P w K mg base2 14 "read_triangles" ["coordinates", "triangles"] (spTri K C_WrongInput)) :
    FnOk P w K mg base (CXE P w) 17 fa (PySem.W.fnOf "mass" "mass" (defArgs s_mass) (defBody s_mass) (defScope s_mass) .none kV doc pm an (.ref c) ct) ["points", "triangles"] (spEnt K Pt okL) := by
  refine fn_of0 lk hcd scE (fun vs H Q E h => ?_) (fun A outer s H vs Q E hr h => ?_)
  · obtain ⟨ds, res, ⟨_, _, rfl, _⟩, p, _⟩ := h
    exact p.length.symm
  obtain ⟨ds, res, ⟨x_points, x_triangles, rfl, w_points, w_triangles, rfl⟩, p, hP, h⟩ := h
  obtain ⟨L, fr⟩ := @frIs_def (CXE P w) P w K mg base ["points", "triangles"] "mass" (defScope s_mass) fa (.ref c) A outer s H E
  refine ⟨_, PSs.zero (pss_one (ps_ret (pe_answ (passX rfl ⟨L, fr⟩) rfl mA kA hr bA (fun _ => rfl) rfl hC hbm (sc := defScope s_mass) rfl (by exact ⟨rfl, rfl, rfl, by decide +kernel, by decide +kernel⟩) (by decide +kernel) (fun _ _ _ _ => rfl) rfl (fun base2 sub M => hA base2 sub)
    (fun base2 A2 outer2 s2 H2 f2 cd2 cl2 E2 sub M hr2 => (pe_callH (h_told base2 sub) hr2 (passX rfl frIs_lam) (pa_cons (pe_callH (h_solid_mass base2 sub) hr2 (passX rfl frIs_lam) (pa_cons (pe_callH (h_read_triangles base2 sub) hr2 (passX rfl frIs_lam) (pa_cons (pv 0) (pa_cons (pv 1) pa_nil))) pa_nil)) pa_nil)))))), ?_⟩
  cases p with
  | @cons _ u_points _ r0 p_points p =>
  cases p with
  | @cons _ u_triangles _ r1 p_triangles p =>
  cases p
  refine ⟨#[], hP, True.intro, rfl, fun H1 k1 => ?_⟩
  have p_points := keepLI hP k1 p_points
  have p_triangles := keepLI hP k1 p_triangles
  rw [due] at h
  rw [← ints_nats w_points] at p_points
  have l_points := nats_lt w_points
  have z_points := nats_len w_points
  generalize Sh25Neutral.nats x_points = y_points at p_points l_points z_points h
  rw [← ints_nats w_triangles] at p_triangles
  have l_triangles := nats_lt w_triangles
  have z_triangles := nats_len w_triangles
  generalize Sh25Neutral.nats x_triangles = y_triangles at p_triangles l_triangles z_triangles h
  walk_at "rd"
  rw [skin_eq] at h
  refine ⟨_, _, y_points, y_triangles, rfl, p_points, l_points, z_points, p_triangles, l_triangles, z_triangles, ?_⟩
  by_cases c : okTri y_points y_triangles = true
  rotate_left
  · rw [if_neg c]
    exact fun H' _ => bad8 h (Bool.eq_false_iff.mpr c) _
  rw [if_pos c]
  obtain ⟨t3, tz, tm⟩ := tri_ok c
  have eo : ∀ {g : List Int → List Int → List Int → Int} {k : Nat}, (∀ a b c, (ten a b c).getD k 0 = Sh25.det 3 [a, b, c] * g a b c) → totK ten (triOf y_points y_triangles) k = Sh25.over (Sh25.faces (Sh25Neutral.points 3 y_points) (Sh25Neutral.points 3 y_triangles)) g := fun hk => tri_over tm hk
  generalize Sh25.faces (Sh25Neutral.points 3 y_points) (Sh25Neutral.points 3 y_triangles) = m at *
  have e0 := eo (g := fun _ _ _ => 1) (k := 0) fun a b c => by rw [Int.mul_one]; rfl
  have e1 := eo (g := Sh25.first 0) (k := 1) fun a b c => rfl
  have e2 := eo (g := Sh25.first 1) (k := 2) fun a b c => rfl
  have e3 := eo (g := Sh25.first 2) (k := 3) fun a b c => rfl
  have e4 := eo (g := mom 0 0) (k := 4) fun a b c => rfl
  have e5 := eo (g := mom 1 1) (k := 5) fun a b c => rfl
  have e6 := eo (g := mom 2 2) (k := 6) fun a b c => rfl
  have e7 := eo (g := mom 0 1) (k := 7) fun a b c => rfl
  have e8 := eo (g := mom 1 2) (k := 8) fun a b c => rfl
  have e9 := eo (g := mom 2 0) (k := 9) fun a b c => rfl
  have s0 := over_mul (m := m) (f := Sh25.second 0) (g := mom 0 0) fun a b c => mom_same 0 a b c
  have s1 := over_mul (m := m) (f := Sh25.second 1) (g := mom 1 1) fun a b c => mom_same 1 a b c
  have s2 := over_mul (m := m) (f := Sh25.second 2) (g := mom 2 2) fun a b c => mom_same 2 a b c
  have x0 : Sh25.over m (mom 0 1) = Sh25.over m (Sh25.mixed 0 1) := congrArg (Sh25.over m) (funext fun a => funext fun b => funext fun c => mom_mixed 0 1 a b c)
  have x1 : Sh25.over m (mom 1 2) = Sh25.over m (Sh25.mixed 1 2) := congrArg (Sh25.over m) (funext fun a => funext fun b => funext fun c => mom_mixed 1 2 a b c)
  have x2 : Sh25.over m (mom 2 0) = Sh25.over m (Sh25.mixed 2 0) := congrArg (Sh25.over m) (funext fun a => funext fun b => funext fun c => mom_mixed 2 0 a b c)
  rw [s0] at e4
  rw [s1] at e5
  rw [s2] at e6
  rw [x0] at e7
  rw [x1] at e8
  rw [x2] at e9
  have cst : ∀ (w k : Nat), ((w * Sh25.pow k : Nat) : Int) = (w : Int) * 2 ^ (1074 * k) := fun w k => by rw [Int.natCast_mul, pow_cast]
  have pz : ∀ (w k : Nat), 0 < w → 0 < w * Sh25.pow k := fun w k hw => Nat.mul_pos hw (by unfold Sh25.pow Sh25.ONE; exact Nat.pow_pos (Nat.two_pow_pos _))
  refine fun r2 H2 g2 hv => ⟨_, _, rfl, hv, t3, tz, fun r5 H5 xs g5 hv vb lx hi => ⟨_, xs, rfl, hv, by rw [lx]; decide, vb, told_end h c rfl ?_⟩⟩
  match xs, lx, hi with
  | [a0, a1, a2, a3, a4, a5, a6, a7, a8, a9], _, hi =>
    have q0 := hi 0 a0 rfl 0 (Sh25.over m fun _ _ _ => 1) (6 * Sh25.pow 2) (pz _ _ (by decide)) (mass_eq (q := 0) (e := 0) (d := 6) (f := 3) (cst 6 2) (by decide) (by rw [e0]; rfl))
    have q1 := hi 1 a1 rfl 0 (Sh25.over m (Sh25.first 0)) (24 * Sh25.pow 3) (pz _ _ (by decide)) (mass_eq (q := 0) (e := 0) (d := 24) (f := 4) (cst 24 3) (by decide) (by rw [e1]; rfl))
    have q2 := hi 2 a2 rfl 0 (Sh25.over m (Sh25.first 1)) (24 * Sh25.pow 3) (pz _ _ (by decide)) (mass_eq (q := 0) (e := 0) (d := 24) (f := 4) (cst 24 3) (by decide) (by rw [e2]; rfl))
    have q3 := hi 3 a3 rfl 0 (Sh25.over m (Sh25.first 2)) (24 * Sh25.pow 3) (pz _ _ (by decide)) (mass_eq (q := 0) (e := 0) (d := 24) (f := 4) (cst 24 3) (by decide) (by rw [e3]; rfl))
    have two : ∀ z : Int, 2 * z * (60 : Nat) = z * 120 := fun z => by omega
    have q4 := hi 4 a4 rfl 0 (Sh25.over m (Sh25.second 0)) (60 * Sh25.pow 4) (pz _ _ (by decide)) (mass_eq (q := 0) (e := 0) (d := 120) (f := 5) (cst 60 4) (by decide) (by rw [e4]; exact two _))
    have q5 := hi 5 a5 rfl 0 (Sh25.over m (Sh25.second 1)) (60 * Sh25.pow 4) (pz _ _ (by decide)) (mass_eq (q := 0) (e := 0) (d := 120) (f := 5) (cst 60 4) (by decide) (by rw [e5]; exact two _))
    have q6 := hi 6 a6 rfl 0 (Sh25.over m (Sh25.second 2)) (60 * Sh25.pow 4) (pz _ _ (by decide)) (mass_eq (q := 0) (e := 0) (d := 120) (f := 5) (cst 60 4) (by decide) (by rw [e6]; exact two _))
    have q7 := hi 7 a7 rfl 0 (Sh25.over m (Sh25.mixed 0 1)) (120 * Sh25.pow 4) (pz _ _ (by decide)) (mass_eq (q := 0) (e := 0) (d := 120) (f := 5) (cst 120 4) (by decide) (by rw [e7]; rfl))
    have q8 := hi 8 a8 rfl 0 (Sh25.over m (Sh25.mixed 1 2)) (120 * Sh25.pow 4) (pz _ _ (by decide)) (mass_eq (q := 0) (e := 0) (d := 120) (f := 5) (cst 120 4) (by decide) (by rw [e8]; rfl))
    have q9 := hi 9 a9 rfl 0 (Sh25.over m (Sh25.mixed 2 0)) (120 * Sh25.pow 4) (pz _ _ (by decide)) (mass_eq (q := 0) (e := 0) (d := 120) (f := 5) (cst 120 4) (by decide) (by rw [e9]; rfl))
    show [tn 0 a0.1 a0.2, tn 0 a1.1 a1.2, tn 0 a2.1 a2.2, tn 0 a3.1 a3.2, tn 0 a4.1 a4.2, tn 0 a5.1 a5.2, tn 0 a6.1 a6.2, tn 0 a7.1 a7.2, tn 0 a8.1 a8.2, tn 0 a9.1 a9.2] = _
    rw [q0, q1, q2, q3, q4, q5, q6, q7, q8, q9]
    rfl
end
end M
namespace M
open PySem L2 PySem.Spec PyProof.Rows
theorem all_mk {r : PySem.W.OpenSpec} {w : World} {K : PySem.W.Frag} {h : Heap} {q : Program} {loose : List Str} {mean : ExcName → Option Value} {mg mb : Str → Option Value} {fa : Addr} {d : DefRec} (X : K.In h) (T : Top q loose mean mg mb h) (hfa : mg "mass" = some (.ref fa))
    {f_without_column : Addr} {od_without_column an_without_column : Option Addr} {sl_without_column : Array (Option Value)} {oc_without_column kV_without_column dc_without_column pm_without_column cd_without_column ct_without_column : Value}
    (a_without_column : PySem.W.nsIn K mainGlobals "without_column" = some (some (.ref f_without_column))) (l_without_column : K.lookup f_without_column = some ⟨oc_without_column, od_without_column, .func (PySem.W.fnOf "without_column" "without_column" (defArgs s_without_column) (defBody s_without_column) (defScope s_without_column) .none kV_without_column dc_without_column pm_without_column an_without_column cd_without_column ct_without_column), sl_without_column⟩) (c_without_column : PySem.W.codeIn K cd_without_column "without_column" = true) (k_without_column : PySem.W.keepIn K (.ref f_without_column) = true)
    {f_determinant : Addr} {od_determinant an_determinant : Option Addr} {sl_determinant : Array (Option Value)} {oc_determinant kV_determinant dc_determinant pm_determinant cd_determinant ct_determinant : Value}
    (a_determinant : PySem.W.nsIn K mainGlobals "determinant" = some (some (.ref f_determinant))) (l_determinant : K.lookup f_determinant = some ⟨oc_determinant, od_determinant, .func (PySem.W.fnOf "determinant" "determinant" (defArgs s_determinant) (defBody s_determinant) (defScope s_determinant) .none kV_determinant dc_determinant pm_determinant an_determinant cd_determinant ct_determinant), sl_determinant⟩) (c_determinant : PySem.W.codeIn K cd_determinant "determinant" = true) (k_determinant : PySem.W.keepIn K (.ref f_determinant) = true)
    {f_answered : Addr} {od_answered an_answered : Option Addr} {sl_answered : Array (Option Value)} {oc_answered kV_answered dc_answered pm_answered cd_answered ct_answered : Value}
    (a_answered : PySem.W.nsIn K mainGlobals "answered" = some (some (.ref f_answered))) (l_answered : K.lookup f_answered = some ⟨oc_answered, od_answered, .func (PySem.W.fnOf "answered" "answered" (defArgs s_answered) (defBody s_answered) (defScope s_answered) .none kV_answered dc_answered pm_answered an_answered cd_answered ct_answered), sl_answered⟩) (c_answered : PySem.W.codeIn K cd_answered "answered" = true) (k_answered : PySem.W.keepIn K (.ref f_answered) = true)
    {f_cut : Addr} {od_cut an_cut : Option Addr} {sl_cut : Array (Option Value)} {oc_cut kV_cut dc_cut pm_cut cd_cut ct_cut : Value}
    (a_cut : PySem.W.nsIn K mainGlobals "cut" = some (some (.ref f_cut))) (l_cut : K.lookup f_cut = some ⟨oc_cut, od_cut, .func (PySem.W.fnOf "cut" "cut" (defArgs s_cut) (defBody s_cut) (defScope s_cut) .none kV_cut dc_cut pm_cut an_cut cd_cut ct_cut), sl_cut⟩) (c_cut : PySem.W.codeIn K cd_cut "cut" = true) (k_cut : PySem.W.keepIn K (.ref f_cut) = true)
    {f_number_near : Addr} {od_number_near an_number_near : Option Addr} {sl_number_near : Array (Option Value)} {oc_number_near kV_number_near dc_number_near pm_number_near cd_number_near ct_number_near : Value}
    (a_number_near : PySem.W.nsIn K mainGlobals "number_near" = some (some (.ref f_number_near))) (l_number_near : K.lookup f_number_near = some ⟨oc_number_near, od_number_near, .func (PySem.W.fnOf "number_near" "number_near" (defArgs s_number_near) (defBody s_number_near) (defScope s_number_near) .none kV_number_near dc_number_near pm_number_near an_number_near cd_number_near ct_number_near), sl_number_near⟩) (c_number_near : PySem.W.codeIn K cd_number_near "number_near" = true) (k_number_near : PySem.W.keepIn K (.ref f_number_near) = true)
    {f_write_number : Addr} {od_write_number an_write_number : Option Addr} {sl_write_number : Array (Option Value)} {oc_write_number kV_write_number dc_write_number pm_write_number cd_write_number ct_write_number : Value}
    (a_write_number : PySem.W.nsIn K mainGlobals "write_number" = some (some (.ref f_write_number))) (l_write_number : K.lookup f_write_number = some ⟨oc_write_number, od_write_number, .func (PySem.W.fnOf "write_number" "write_number" (defArgs s_write_number) (defBody s_write_number) (defScope s_write_number) .none kV_write_number dc_write_number pm_write_number an_write_number cd_write_number ct_write_number), sl_write_number⟩) (c_write_number : PySem.W.codeIn K cd_write_number "write_number" = true) (k_write_number : PySem.W.keepIn K (.ref f_write_number) = true)
    {f_told_by : Addr} {od_told_by an_told_by : Option Addr} {sl_told_by : Array (Option Value)} {oc_told_by kV_told_by dc_told_by pm_told_by cd_told_by ct_told_by : Value}
    (a_told_by : PySem.W.nsIn K mainGlobals "told_by" = some (some (.ref f_told_by))) (l_told_by : K.lookup f_told_by = some ⟨oc_told_by, od_told_by, .func (PySem.W.fnOf "told_by" "told_by" (defArgs s_told_by) (defBody s_told_by) (defScope s_told_by) .none kV_told_by dc_told_by pm_told_by an_told_by cd_told_by ct_told_by), sl_told_by⟩) (c_told_by : PySem.W.codeIn K cd_told_by "told_by" = true) (k_told_by : PySem.W.keepIn K (.ref f_told_by) = true)
    {f_told : Addr} {od_told an_told : Option Addr} {sl_told : Array (Option Value)} {oc_told kV_told dc_told pm_told cd_told ct_told : Value}
    (a_told : PySem.W.nsIn K mainGlobals "told" = some (some (.ref f_told))) (l_told : K.lookup f_told = some ⟨oc_told, od_told, .func (PySem.W.fnOf "told" "told" (defArgs s_told) (defBody s_told) (defScope s_told) .none kV_told dc_told pm_told an_told cd_told ct_told), sl_told⟩) (c_told : PySem.W.codeIn K cd_told "told" = true) (k_told : PySem.W.keepIn K (.ref f_told) = true)
    {f_marked : Addr} {od_marked an_marked : Option Addr} {sl_marked : Array (Option Value)} {oc_marked kV_marked dc_marked pm_marked cd_marked ct_marked : Value}
    (a_marked : PySem.W.nsIn K mainGlobals "marked" = some (some (.ref f_marked))) (l_marked : K.lookup f_marked = some ⟨oc_marked, od_marked, .func (PySem.W.fnOf "marked" "marked" (defArgs s_marked) (defBody s_marked) (defScope s_marked) .none kV_marked dc_marked pm_marked an_marked cd_marked ct_marked), sl_marked⟩) (c_marked : PySem.W.codeIn K cd_marked "marked" = true) (k_marked : PySem.W.keepIn K (.ref f_marked) = true)
    {f_quotient : Addr} {od_quotient an_quotient : Option Addr} {sl_quotient : Array (Option Value)} {oc_quotient kV_quotient dc_quotient pm_quotient cd_quotient ct_quotient : Value}
    (a_quotient : PySem.W.nsIn K mainGlobals "quotient" = some (some (.ref f_quotient))) (l_quotient : K.lookup f_quotient = some ⟨oc_quotient, od_quotient, .func (PySem.W.fnOf "quotient" "quotient" (defArgs s_quotient) (defBody s_quotient) (defScope s_quotient) .none kV_quotient dc_quotient pm_quotient an_quotient cd_quotient ct_quotient), sl_quotient⟩) (c_quotient : PySem.W.codeIn K cd_quotient "quotient" = true) (k_quotient : PySem.W.keepIn K (.ref f_quotient) = true)
    {f_read_number : Addr} {od_read_number an_read_number : Option Addr} {sl_read_number : Array (Option Value)} {oc_read_number kV_read_number dc_read_number pm_read_number cd_read_number ct_read_number : Value}
    (a_read_number : PySem.W.nsIn K mainGlobals "read_number" = some (some (.ref f_read_number))) (l_read_number : K.lookup f_read_number = some ⟨oc_read_number, od_read_number, .func (PySem.W.fnOf "read_number" "read_number" (defArgs s_read_number) (defBody s_read_number) (defScope s_read_number) .none kV_read_number dc_read_number pm_read_number an_read_number cd_read_number ct_read_number), sl_read_number⟩) (c_read_number : PySem.W.codeIn K cd_read_number "read_number" = true) (k_read_number : PySem.W.keepIn K (.ref f_read_number) = true)
    {f_read_choice : Addr} {od_read_choice an_read_choice : Option Addr} {sl_read_choice : Array (Option Value)} {oc_read_choice kV_read_choice dc_read_choice pm_read_choice cd_read_choice ct_read_choice : Value}
    (a_read_choice : PySem.W.nsIn K mainGlobals "read_choice" = some (some (.ref f_read_choice))) (l_read_choice : K.lookup f_read_choice = some ⟨oc_read_choice, od_read_choice, .func (PySem.W.fnOf "read_choice" "read_choice" (defArgs s_read_choice) (defBody s_read_choice) (defScope s_read_choice) .none kV_read_choice dc_read_choice pm_read_choice an_read_choice cd_read_choice ct_read_choice), sl_read_choice⟩) (c_read_choice : PySem.W.codeIn K cd_read_choice "read_choice" = true) (k_read_choice : PySem.W.keepIn K (.ref f_read_choice) = true)
    {f_read_numbers : Addr} {od_read_numbers an_read_numbers : Option Addr} {sl_read_numbers : Array (Option Value)} {oc_read_numbers kV_read_numbers dc_read_numbers pm_read_numbers cd_read_numbers ct_read_numbers : Value}
    (a_read_numbers : PySem.W.nsIn K mainGlobals "read_numbers" = some (some (.ref f_read_numbers))) (l_read_numbers : K.lookup f_read_numbers = some ⟨oc_read_numbers, od_read_numbers, .func (PySem.W.fnOf "read_numbers" "read_numbers" (defArgs s_read_numbers) (defBody s_read_numbers) (defScope s_read_numbers) .none kV_read_numbers dc_read_numbers pm_read_numbers an_read_numbers cd_read_numbers ct_read_numbers), sl_read_numbers⟩) (c_read_numbers : PySem.W.codeIn K cd_read_numbers "read_numbers" = true) (k_read_numbers : PySem.W.keepIn K (.ref f_read_numbers) = true)
    {f_read_dimension : Addr} {od_read_dimension an_read_dimension : Option Addr} {sl_read_dimension : Array (Option Value)} {oc_read_dimension kV_read_dimension dc_read_dimension pm_read_dimension cd_read_dimension ct_read_dimension : Value}
    (a_read_dimension : PySem.W.nsIn K mainGlobals "read_dimension" = some (some (.ref f_read_dimension))) (l_read_dimension : K.lookup f_read_dimension = some ⟨oc_read_dimension, od_read_dimension, .func (PySem.W.fnOf "read_dimension" "read_dimension" (defArgs s_read_dimension) (defBody s_read_dimension) (defScope s_read_dimension) .none kV_read_dimension dc_read_dimension pm_read_dimension an_read_dimension cd_read_dimension ct_read_dimension), sl_read_dimension⟩) (c_read_dimension : PySem.W.codeIn K cd_read_dimension "read_dimension" = true) (k_read_dimension : PySem.W.keepIn K (.ref f_read_dimension) = true)
    {f_in_groups : Addr} {od_in_groups an_in_groups : Option Addr} {sl_in_groups : Array (Option Value)} {oc_in_groups kV_in_groups dc_in_groups pm_in_groups cd_in_groups ct_in_groups : Value}
    (a_in_groups : PySem.W.nsIn K mainGlobals "in_groups" = some (some (.ref f_in_groups))) (l_in_groups : K.lookup f_in_groups = some ⟨oc_in_groups, od_in_groups, .func (PySem.W.fnOf "in_groups" "in_groups" (defArgs s_in_groups) (defBody s_in_groups) (defScope s_in_groups) .none kV_in_groups dc_in_groups pm_in_groups an_in_groups cd_in_groups ct_in_groups), sl_in_groups⟩) (c_in_groups : PySem.W.codeIn K cd_in_groups "in_groups" = true) (k_in_groups : PySem.W.keepIn K (.ref f_in_groups) = true)
    {f_read_points : Addr} {od_read_points an_read_points : Option Addr} {sl_read_points : Array (Option Value)} {oc_read_points kV_read_points dc_read_points pm_read_points cd_read_points ct_read_points : Value}
    (a_read_points : PySem.W.nsIn K mainGlobals "read_points" = some (some (.ref f_read_points))) (l_read_points : K.lookup f_read_points = some ⟨oc_read_points, od_read_points, .func (PySem.W.fnOf "read_points" "read_points" (defArgs s_read_points) (defBody s_read_points) (defScope s_read_points) .none kV_read_points dc_read_points pm_read_points an_read_points cd_read_points ct_read_points), sl_read_points⟩) (c_read_points : PySem.W.codeIn K cd_read_points "read_points" = true) (k_read_points : PySem.W.keepIn K (.ref f_read_points) = true)
    {f_read_triangles : Addr} {od_read_triangles an_read_triangles : Option Addr} {sl_read_triangles : Array (Option Value)} {oc_read_triangles kV_read_triangles dc_read_triangles pm_read_triangles cd_read_triangles ct_read_triangles : Value}
    (a_read_triangles : PySem.W.nsIn K mainGlobals "read_triangles" = some (some (.ref f_read_triangles))) (l_read_triangles : K.lookup f_read_triangles = some ⟨oc_read_triangles, od_read_triangles, .func (PySem.W.fnOf "read_triangles" "read_triangles" (defArgs s_read_triangles) (defBody s_read_triangles) (defScope s_read_triangles) .none kV_read_triangles dc_read_triangles pm_read_triangles an_read_triangles cd_read_triangles ct_read_triangles), sl_read_triangles⟩) (c_read_triangles : PySem.W.codeIn K cd_read_triangles "read_triangles" = true) (k_read_triangles : PySem.W.keepIn K (.ref f_read_triangles) = true)
    {f_axis_sums : Addr} {od_axis_sums an_axis_sums : Option Addr} {sl_axis_sums : Array (Option Value)} {oc_axis_sums kV_axis_sums dc_axis_sums pm_axis_sums cd_axis_sums ct_axis_sums : Value}
    (a_axis_sums : PySem.W.nsIn K mainGlobals "axis_sums" = some (some (.ref f_axis_sums))) (l_axis_sums : K.lookup f_axis_sums = some ⟨oc_axis_sums, od_axis_sums, .func (PySem.W.fnOf "axis_sums" "axis_sums" (defArgs s_axis_sums) (defBody s_axis_sums) (defScope s_axis_sums) .none kV_axis_sums dc_axis_sums pm_axis_sums an_axis_sums cd_axis_sums ct_axis_sums), sl_axis_sums⟩) (c_axis_sums : PySem.W.codeIn K cd_axis_sums "axis_sums" = true) (k_axis_sums : PySem.W.keepIn K (.ref f_axis_sums) = true)
    {f_second_moment : Addr} {od_second_moment an_second_moment : Option Addr} {sl_second_moment : Array (Option Value)} {oc_second_moment kV_second_moment dc_second_moment pm_second_moment cd_second_moment ct_second_moment : Value}
    (a_second_moment : PySem.W.nsIn K mainGlobals "second_moment" = some (some (.ref f_second_moment))) (l_second_moment : K.lookup f_second_moment = some ⟨oc_second_moment, od_second_moment, .func (PySem.W.fnOf "second_moment" "second_moment" (defArgs s_second_moment) (defBody s_second_moment) (defScope s_second_moment) .none kV_second_moment dc_second_moment pm_second_moment an_second_moment cd_second_moment ct_second_moment), sl_second_moment⟩) (c_second_moment : PySem.W.codeIn K cd_second_moment "second_moment" = true) (k_second_moment : PySem.W.keepIn K (.ref f_second_moment) = true)
    {f_first_four : Addr} {od_first_four an_first_four : Option Addr} {sl_first_four : Array (Option Value)} {oc_first_four kV_first_four dc_first_four pm_first_four cd_first_four ct_first_four : Value}
    (a_first_four : PySem.W.nsIn K mainGlobals "first_four" = some (some (.ref f_first_four))) (l_first_four : K.lookup f_first_four = some ⟨oc_first_four, od_first_four, .func (PySem.W.fnOf "first_four" "first_four" (defArgs s_first_four) (defBody s_first_four) (defScope s_first_four) .none kV_first_four dc_first_four pm_first_four an_first_four cd_first_four ct_first_four), sl_first_four⟩) (c_first_four : PySem.W.codeIn K cd_first_four "first_four" = true) (k_first_four : PySem.W.keepIn K (.ref f_first_four) = true)
    {f_all_ten : Addr} {od_all_ten an_all_ten : Option Addr} {sl_all_ten : Array (Option Value)} {oc_all_ten kV_all_ten dc_all_ten pm_all_ten cd_all_ten ct_all_ten : Value}
    (a_all_ten : PySem.W.nsIn K mainGlobals "all_ten" = some (some (.ref f_all_ten))) (l_all_ten : K.lookup f_all_ten = some ⟨oc_all_ten, od_all_ten, .func (PySem.W.fnOf "all_ten" "all_ten" (defArgs s_all_ten) (defBody s_all_ten) (defScope s_all_ten) .none kV_all_ten dc_all_ten pm_all_ten an_all_ten cd_all_ten ct_all_ten), sl_all_ten⟩) (c_all_ten : PySem.W.codeIn K cd_all_ten "all_ten" = true) (k_all_ten : PySem.W.keepIn K (.ref f_all_ten) = true)
    {f_added_over : Addr} {od_added_over an_added_over : Option Addr} {sl_added_over : Array (Option Value)} {oc_added_over kV_added_over dc_added_over pm_added_over cd_added_over ct_added_over : Value}
    (a_added_over : PySem.W.nsIn K mainGlobals "added_over" = some (some (.ref f_added_over))) (l_added_over : K.lookup f_added_over = some ⟨oc_added_over, od_added_over, .func (PySem.W.fnOf "added_over" "added_over" (defArgs s_added_over) (defBody s_added_over) (defScope s_added_over) .none kV_added_over dc_added_over pm_added_over an_added_over cd_added_over ct_added_over), sl_added_over⟩) (c_added_over : PySem.W.codeIn K cd_added_over "added_over" = true) (k_added_over : PySem.W.keepIn K (.ref f_added_over) = true)
    {f_solid_mass : Addr} {od_solid_mass an_solid_mass : Option Addr} {sl_solid_mass : Array (Option Value)} {oc_solid_mass kV_solid_mass dc_solid_mass pm_solid_mass cd_solid_mass ct_solid_mass : Value}
    (a_solid_mass : PySem.W.nsIn K mainGlobals "solid_mass" = some (some (.ref f_solid_mass))) (l_solid_mass : K.lookup f_solid_mass = some ⟨oc_solid_mass, od_solid_mass, .func (PySem.W.fnOf "solid_mass" "solid_mass" (defArgs s_solid_mass) (defBody s_solid_mass) (defScope s_solid_mass) .none kV_solid_mass dc_solid_mass pm_solid_mass an_solid_mass cd_solid_mass ct_solid_mass), sl_solid_mass⟩) (c_solid_mass : PySem.W.codeIn K cd_solid_mass "solid_mass" = true) (k_solid_mass : PySem.W.keepIn K (.ref f_solid_mass) = true)
    {f0 c : Addr} {od0 an0 : Option Addr} {sl0 : Array (Option Value)} {oc0 kV0 dc0 pm0 ct0 : Value}
    (a0 : PySem.W.nsIn K mainGlobals "mass" = some (some (.ref f0))) (l0 : K.lookup f0 = some ⟨oc0, od0, .func (PySem.W.fnOf "mass" "mass" (defArgs s_mass) (defBody s_mass) (defScope s_mass) .none kV0 dc0 pm0 an0 (.ref c) ct0), sl0⟩) (c0 : PySem.W.codeIn K (.ref c) "mass" = true)
    (tn : PySem.W.noTabs K = true) (hr : (recsOf q).find? (fun e => e.name == Str.ofString "mass") = some d)
    {C_WrongInput : Addr} {nm_WrongInput q_WrongInput : Str} {N_WrongInput : Addr} {bs_WrongInput bm_WrongInput : List Value} {hd_WrongInput : Bool} {sn_WrongInput : List Str} {sub_WrongInput : List Value} {ab_WrongInput : Bool} {col_WrongInput : Option Bool} {dd_WrongInput : Option Addr} {ka_WrongInput kb_WrongInput kc_WrongInput kd_WrongInput ke_WrongInput : Option Value} {nw_WrongInput : String}
    (e_WrongInput : PySem.W.nsIn K mainGlobals "WrongInput" = some (some (.ref C_WrongInput))) (g_WrongInput : K.lookup C_WrongInput = some (excClassObj nm_WrongInput q_WrongInput C_WrongInput N_WrongInput bs_WrongInput bm_WrongInput hd_WrongInput sn_WrongInput sub_WrongInput ab_WrongInput col_WrongInput dd_WrongInput ka_WrongInput kb_WrongInput kc_WrongInput kd_WrongInput ke_WrongInput nw_WrongInput)) (h_WrongInput : bm_WrongInput.contains (.type "BaseException") = true) (i_WrongInput : ∀ a : Addr, bm_WrongInput.contains (.ref a) = false)
    (sp_WrongInput : specOf q "WrongInput" = some ("Exception.__new__", [.type "Exception", .type "BaseException", .type "object"]))
    {C_NotThere : Addr} {nm_NotThere q_NotThere : Str} {N_NotThere : Addr} {bs_NotThere bm_NotThere : List Value} {hd_NotThere : Bool} {sn_NotThere : List Str} {sub_NotThere : List Value} {ab_NotThere : Bool} {col_NotThere : Option Bool} {dd_NotThere : Option Addr} {ka_NotThere kb_NotThere kc_NotThere kd_NotThere ke_NotThere : Option Value} {nw_NotThere : String}
    (e_NotThere : PySem.W.nsIn K mainGlobals "NotThere" = some (some (.ref C_NotThere))) (g_NotThere : K.lookup C_NotThere = some (excClassObj nm_NotThere q_NotThere C_NotThere N_NotThere bs_NotThere bm_NotThere hd_NotThere sn_NotThere sub_NotThere ab_NotThere col_NotThere dd_NotThere ka_NotThere kb_NotThere kc_NotThere kd_NotThere ke_NotThere nw_NotThere)) (h_NotThere : bm_NotThere.contains (.type "BaseException") = true) (i_NotThere : ∀ a : Addr, bm_NotThere.contains (.ref a) = false)
    (sp_NotThere : specOf q "NotThere" = some ("Exception.__new__", [.type "Exception", .type "BaseException", .type "object"]))
    {C_CantBeTold : Addr} {nm_CantBeTold q_CantBeTold : Str} {N_CantBeTold : Addr} {bs_CantBeTold bm_CantBeTold : List Value} {hd_CantBeTold : Bool} {sn_CantBeTold : List Str} {sub_CantBeTold : List Value} {ab_CantBeTold : Bool} {col_CantBeTold : Option Bool} {dd_CantBeTold : Option Addr} {ka_CantBeTold kb_CantBeTold kc_CantBeTold kd_CantBeTold ke_CantBeTold : Option Value} {nw_CantBeTold : String}
    (e_CantBeTold : PySem.W.nsIn K mainGlobals "CantBeTold" = some (some (.ref C_CantBeTold))) (g_CantBeTold : K.lookup C_CantBeTold = some (excClassObj nm_CantBeTold q_CantBeTold C_CantBeTold N_CantBeTold bs_CantBeTold bm_CantBeTold hd_CantBeTold sn_CantBeTold sub_CantBeTold ab_CantBeTold col_CantBeTold dd_CantBeTold ka_CantBeTold kb_CantBeTold kc_CantBeTold kd_CantBeTold ke_CantBeTold nw_CantBeTold)) (h_CantBeTold : bm_CantBeTold.contains (.type "BaseException") = true) (i_CantBeTold : ∀ a : Addr, bm_CantBeTold.contains (.ref a) = false)
    (sp_CantBeTold : specOf q "CantBeTold" = some ("Exception.__new__", [.type "Exception", .type "BaseException", .type "object"]))
    (ne_WrongInput_NotThere : C_WrongInput ≠ C_NotThere)
    (ne_WrongInput_CantBeTold : C_WrongInput ≠ C_CantBeTold)
    (ne_NotThere_CantBeTold : C_NotThere ≠ C_CantBeTold)
    {t_NEAREST : Tok} (w_NEAREST : PySem.W.nsIn K mainGlobals "NEAREST" = some (some (.int 0 t_NEAREST)))
    {t_DOWN : Tok} (w_DOWN : PySem.W.nsIn K mainGlobals "DOWN" = some (some (.int 1 t_DOWN)))
    {t_UP : Tok} (w_UP : PySem.W.nsIn K mainGlobals "UP" = some (some (.int 2 t_UP)))
    {t_TOWARDS_ZERO : Tok} (w_TOWARDS_ZERO : PySem.W.nsIn K mainGlobals "TOWARDS_ZERO" = some (some (.int 3 t_TOWARDS_ZERO)))
    {t_NUMBER_BITS : Tok} (w_NUMBER_BITS : PySem.W.nsIn K mainGlobals "NUMBER_BITS" = some (some (.int 53 t_NUMBER_BITS)))
    {t_PLACES : Tok} (w_PLACES : PySem.W.nsIn K mainGlobals "PLACES" = some (some (.int 1074 t_PLACES)))
    {t_TOP_EXPONENT : Tok} (w_TOP_EXPONENT : PySem.W.nsIn K mainGlobals "TOP_EXPONENT" = some (some (.int 1024 t_TOP_EXPONENT)))
    {t_SIGN_BIT : Tok} (w_SIGN_BIT : PySem.W.nsIn K mainGlobals "SIGN_BIT" = some (some (.int 9223372036854775808 t_SIGN_BIT)))
    {t_KEPT_BITS : Tok} (w_KEPT_BITS : PySem.W.nsIn K mainGlobals "KEPT_BITS" = some (some (.int 128 t_KEPT_BITS)))
    {t_FRACTION_MASK : Tok} (w_FRACTION_MASK : PySem.W.nsIn K mainGlobals "FRACTION_MASK" = some (some (.int 4503599627370495 t_FRACTION_MASK)))
    {t_HIDDEN_BIT : Tok} (w_HIDDEN_BIT : PySem.W.nsIn K mainGlobals "HIDDEN_BIT" = some (some (.int 4503599627370496 t_HIDDEN_BIT)))
    {t_EXPONENT_MASK : Tok} (w_EXPONENT_MASK : PySem.W.nsIn K mainGlobals "EXPONENT_MASK" = some (some (.int 2047 t_EXPONENT_MASK)))
    {g_AXIS_PAIRS : Addr} (w_AXIS_PAIRS : PySem.W.nsIn K mainGlobals "AXIS_PAIRS" = some (some (.ref g_AXIS_PAIRS)))
    {p_AXIS_PAIRS_0 p_AXIS_PAIRS_1 p_AXIS_PAIRS_2 p_AXIS_PAIRS_3 p_AXIS_PAIRS_4 p_AXIS_PAIRS_5 : Addr} {d_AXIS_PAIRS : Option Addr} {n_AXIS_PAIRS : Nat} {s_AXIS_PAIRS : Array (Option Value)} (u_AXIS_PAIRS : K.lookup g_AXIS_PAIRS = some ⟨.type "tuple", d_AXIS_PAIRS, .seq #[.ref p_AXIS_PAIRS_0, .ref p_AXIS_PAIRS_1, .ref p_AXIS_PAIRS_2, .ref p_AXIS_PAIRS_3, .ref p_AXIS_PAIRS_4, .ref p_AXIS_PAIRS_5] n_AXIS_PAIRS, s_AXIS_PAIRS⟩)
    {d_AXIS_PAIRS_0 : Option Addr} {n_AXIS_PAIRS_0 : Nat} {s_AXIS_PAIRS_0 : Array (Option Value)} {t_AXIS_PAIRS_0_0 t_AXIS_PAIRS_0_1 : Tok} (u_AXIS_PAIRS_0 : K.lookup p_AXIS_PAIRS_0 = some ⟨.type "tuple", d_AXIS_PAIRS_0, .seq #[.int 0 t_AXIS_PAIRS_0_0, .int 0 t_AXIS_PAIRS_0_1] n_AXIS_PAIRS_0, s_AXIS_PAIRS_0⟩)
    {d_AXIS_PAIRS_1 : Option Addr} {n_AXIS_PAIRS_1 : Nat} {s_AXIS_PAIRS_1 : Array (Option Value)} {t_AXIS_PAIRS_1_0 t_AXIS_PAIRS_1_1 : Tok} (u_AXIS_PAIRS_1 : K.lookup p_AXIS_PAIRS_1 = some ⟨.type "tuple", d_AXIS_PAIRS_1, .seq #[.int 1 t_AXIS_PAIRS_1_0, .int 1 t_AXIS_PAIRS_1_1] n_AXIS_PAIRS_1, s_AXIS_PAIRS_1⟩)
    {d_AXIS_PAIRS_2 : Option Addr} {n_AXIS_PAIRS_2 : Nat} {s_AXIS_PAIRS_2 : Array (Option Value)} {t_AXIS_PAIRS_2_0 t_AXIS_PAIRS_2_1 : Tok} (u_AXIS_PAIRS_2 : K.lookup p_AXIS_PAIRS_2 = some ⟨.type "tuple", d_AXIS_PAIRS_2, .seq #[.int 2 t_AXIS_PAIRS_2_0, .int 2 t_AXIS_PAIRS_2_1] n_AXIS_PAIRS_2, s_AXIS_PAIRS_2⟩)
    {d_AXIS_PAIRS_3 : Option Addr} {n_AXIS_PAIRS_3 : Nat} {s_AXIS_PAIRS_3 : Array (Option Value)} {t_AXIS_PAIRS_3_0 t_AXIS_PAIRS_3_1 : Tok} (u_AXIS_PAIRS_3 : K.lookup p_AXIS_PAIRS_3 = some ⟨.type "tuple", d_AXIS_PAIRS_3, .seq #[.int 0 t_AXIS_PAIRS_3_0, .int 1 t_AXIS_PAIRS_3_1] n_AXIS_PAIRS_3, s_AXIS_PAIRS_3⟩)
    {d_AXIS_PAIRS_4 : Option Addr} {n_AXIS_PAIRS_4 : Nat} {s_AXIS_PAIRS_4 : Array (Option Value)} {t_AXIS_PAIRS_4_0 t_AXIS_PAIRS_4_1 : Tok} (u_AXIS_PAIRS_4 : K.lookup p_AXIS_PAIRS_4 = some ⟨.type "tuple", d_AXIS_PAIRS_4, .seq #[.int 1 t_AXIS_PAIRS_4_0, .int 2 t_AXIS_PAIRS_4_1] n_AXIS_PAIRS_4, s_AXIS_PAIRS_4⟩)
    {d_AXIS_PAIRS_5 : Option Addr} {n_AXIS_PAIRS_5 : Nat} {s_AXIS_PAIRS_5 : Array (Option Value)} {t_AXIS_PAIRS_5_0 t_AXIS_PAIRS_5_1 : Tok} (u_AXIS_PAIRS_5 : K.lookup p_AXIS_PAIRS_5 = some ⟨.type "tuple", d_AXIS_PAIRS_5, .seq #[.int 2 t_AXIS_PAIRS_5_0, .int 0 t_AXIS_PAIRS_5_1] n_AXIS_PAIRS_5, s_AXIS_PAIRS_5⟩)
    {g_FACTORS : Addr} (w_FACTORS : PySem.W.nsIn K mainGlobals "FACTORS" = some (some (.ref g_FACTORS)))
    {d_FACTORS : Option Addr} {n_FACTORS : Nat} {s_FACTORS : Array (Option Value)} {t_FACTORS_0 t_FACTORS_1 t_FACTORS_2 t_FACTORS_3 t_FACTORS_4 t_FACTORS_5 t_FACTORS_6 t_FACTORS_7 t_FACTORS_8 t_FACTORS_9 : Tok} (u_FACTORS : K.lookup g_FACTORS = some ⟨.type "tuple", d_FACTORS, .seq #[.int 3 t_FACTORS_0, .int 4 t_FACTORS_1, .int 4 t_FACTORS_2, .int 4 t_FACTORS_3, .int 5 t_FACTORS_4, .int 5 t_FACTORS_5, .int 5 t_FACTORS_6, .int 5 t_FACTORS_7, .int 5 t_FACTORS_8, .int 5 t_FACTORS_9] n_FACTORS, s_FACTORS⟩)
    {g_DIVISORS : Addr} (w_DIVISORS : PySem.W.nsIn K mainGlobals "DIVISORS" = some (some (.ref g_DIVISORS)))
    {d_DIVISORS : Option Addr} {n_DIVISORS : Nat} {s_DIVISORS : Array (Option Value)} {t_DIVISORS_0 t_DIVISORS_1 t_DIVISORS_2 t_DIVISORS_3 t_DIVISORS_4 t_DIVISORS_5 t_DIVISORS_6 t_DIVISORS_7 t_DIVISORS_8 t_DIVISORS_9 : Tok} (u_DIVISORS : K.lookup g_DIVISORS = some ⟨.type "tuple", d_DIVISORS, .seq #[.int 6 t_DIVISORS_0, .int 24 t_DIVISORS_1, .int 24 t_DIVISORS_2, .int 24 t_DIVISORS_3, .int 120 t_DIVISORS_4, .int 120 t_DIVISORS_5, .int 120 t_DIVISORS_6, .int 120 t_DIVISORS_7, .int 120 t_DIVISORS_8, .int 120 t_DIVISORS_9] n_DIVISORS, s_DIVISORS⟩)
    (z_len : PySem.W.nsIn K mainGlobals "len" = some none)
    (z_zip : PySem.W.nsIn K mainGlobals "zip" = some none)
    (z_enumerate : PySem.W.nsIn K mainGlobals "enumerate" = some none)
    (z_sum : PySem.W.nsIn K mainGlobals "sum" = some none)
    (z_min : PySem.W.nsIn K mainGlobals "min" = some none)
    (z_max : PySem.W.nsIn K mainGlobals "max" = some none)
    (z_range : PySem.W.nsIn K mainGlobals "range" = some none)
    (z_abs : PySem.W.nsIn K mainGlobals "abs" = some none)
    : ∃ fd c Pt, Binds K fd ["points", "triangles"] [] ∧ K.lookup Pt = none ∧ PySem.W.CodeHd h c Pt ∧ h.get? Pt = some (PySem.W.tabObj #[]) ∧
        ∀ base : Heap, Plainly h base → (∀ o, h.get? c = some o → base.get? c = some o) → Mod K mg base → FnOk r.prog w K mg base (CXE r.prog w) 17 fa fd ["points", "triangles"] (spEnt K Pt okL) := by
  have e := hfa.symm.trans (PySem.W.mg_of X T.g a0)
  cases e
  have hdn : d.name = Str.ofString "mass" := beq_iff_eq.mp (List.find?_some (p := fun e : DefRec => e.name == Str.ofString "mass") hr)
  obtain ⟨ta, to, tfd, tc, Pt, h1, h2, h3, h4, h5, h6⟩ := T.tab d (List.mem_of_find?_eq_some hr)
  rw [hdn, PySem.W.mg_of X T.g a0] at h1
  cases h1
  rw [X _ _ l0] at h2
  cases h2
  cases h3
  cases h4
  have hC : PySem.W.CodeHd h c Pt := PySem.W.CodeHd.of h5 h6
  have hPt : h.get? Pt = some (PySem.W.tabObj #[]) := h6.2
  have mgl : ∀ {x : Str} {v : Value}, PySem.W.nsIn K mainGlobals x = some (some v) → mg x = some v := fun e => PySem.W.mg_of X T.g e
  have mgn : ∀ {x : Str}, PySem.W.nsIn K mainGlobals x = some none → mg x = none := fun e => PySem.W.mg_none_of X T.g e
  obtain ⟨C'_WrongInput, Q_WrongInput, _⟩ := T.ownAt sp_WrongInput
  have E_WrongInput := mgl e_WrongInput
  have eC := Q_WrongInput.bound.symm.trans E_WrongInput
  cases eC
  obtain ⟨C'_NotThere, Q_NotThere, _⟩ := T.ownAt sp_NotThere
  have E_NotThere := mgl e_NotThere
  have eC := Q_NotThere.bound.symm.trans E_NotThere
  cases eC
  obtain ⟨C'_CantBeTold, Q_CantBeTold, _⟩ := T.ownAt sp_CantBeTold
  have E_CantBeTold := mgl e_CantBeTold
  have eC := Q_CantBeTold.bound.symm.trans E_CantBeTold
  cases eC
  have v_NEAREST := mgl w_NEAREST
  have v_DOWN := mgl w_DOWN
  have v_UP := mgl w_UP
  have v_TOWARDS_ZERO := mgl w_TOWARDS_ZERO
  have v_NUMBER_BITS := mgl w_NUMBER_BITS
  have v_PLACES := mgl w_PLACES
  have v_TOP_EXPONENT := mgl w_TOP_EXPONENT
  have v_SIGN_BIT := mgl w_SIGN_BIT
  have v_KEPT_BITS := mgl w_KEPT_BITS
  have v_FRACTION_MASK := mgl w_FRACTION_MASK
  have v_HIDDEN_BIT := mgl w_HIDDEN_BIT
  have v_EXPONENT_MASK := mgl w_EXPONENT_MASK
  have v_AXIS_PAIRS := mgl w_AXIS_PAIRS
  have q_AXIS_PAIRS : PaK K g_AXIS_PAIRS [(0, 0), (1, 1), (2, 2), (0, 1), (1, 2), (2, 0)] := ⟨[p_AXIS_PAIRS_0, p_AXIS_PAIRS_1, p_AXIS_PAIRS_2, p_AXIS_PAIRS_3, p_AXIS_PAIRS_4, p_AXIS_PAIRS_5], ⟨_, _, _, u_AXIS_PAIRS, rfl, rfl, by show 6 ≤ sizeLine; decide, (.cons rfl (.cons rfl (.cons rfl (.cons rfl (.cons rfl (.cons rfl .nil))))))⟩, (.cons ⟨_, _, _, u_AXIS_PAIRS_0, rfl, rfl, by show 2 ≤ sizeLine; decide, (.cons ⟨_, rfl⟩ (.cons ⟨_, rfl⟩ .nil))⟩ (.cons ⟨_, _, _, u_AXIS_PAIRS_1, rfl, rfl, by show 2 ≤ sizeLine; decide, (.cons ⟨_, rfl⟩ (.cons ⟨_, rfl⟩ .nil))⟩ (.cons ⟨_, _, _, u_AXIS_PAIRS_2, rfl, rfl, by show 2 ≤ sizeLine; decide, (.cons ⟨_, rfl⟩ (.cons ⟨_, rfl⟩ .nil))⟩ (.cons ⟨_, _, _, u_AXIS_PAIRS_3, rfl, rfl, by show 2 ≤ sizeLine; decide, (.cons ⟨_, rfl⟩ (.cons ⟨_, rfl⟩ .nil))⟩ (.cons ⟨_, _, _, u_AXIS_PAIRS_4, rfl, rfl, by show 2 ≤ sizeLine; decide, (.cons ⟨_, rfl⟩ (.cons ⟨_, rfl⟩ .nil))⟩ (.cons ⟨_, _, _, u_AXIS_PAIRS_5, rfl, rfl, by show 2 ≤ sizeLine; decide, (.cons ⟨_, rfl⟩ (.cons ⟨_, rfl⟩ .nil))⟩ .nil))))))⟩
  have v_FACTORS := mgl w_FACTORS
  have q_FACTORS : SqK K g_FACTORS [V.int 3, V.int 4, V.int 4, V.int 4, V.int 5, V.int 5, V.int 5, V.int 5, V.int 5, V.int 5] := ⟨_, _, _, u_FACTORS, rfl, rfl, by show 10 ≤ sizeLine; decide, (.cons ⟨_, rfl⟩ (.cons ⟨_, rfl⟩ (.cons ⟨_, rfl⟩ (.cons ⟨_, rfl⟩ (.cons ⟨_, rfl⟩ (.cons ⟨_, rfl⟩ (.cons ⟨_, rfl⟩ (.cons ⟨_, rfl⟩ (.cons ⟨_, rfl⟩ (.cons ⟨_, rfl⟩ .nil))))))))))⟩
  have v_DIVISORS := mgl w_DIVISORS
  have q_DIVISORS : SqK K g_DIVISORS [V.int 6, V.int 24, V.int 24, V.int 24, V.int 120, V.int 120, V.int 120, V.int 120, V.int 120, V.int 120] := ⟨_, _, _, u_DIVISORS, rfl, rfl, by show 10 ≤ sizeLine; decide, (.cons ⟨_, rfl⟩ (.cons ⟨_, rfl⟩ (.cons ⟨_, rfl⟩ (.cons ⟨_, rfl⟩ (.cons ⟨_, rfl⟩ (.cons ⟨_, rfl⟩ (.cons ⟨_, rfl⟩ (.cons ⟨_, rfl⟩ (.cons ⟨_, rfl⟩ (.cons ⟨_, rfl⟩ .nil))))))))))⟩
  have m_len := mgn z_len
  have m_zip := mgn z_zip
  have m_enumerate := mgn z_enumerate
  have m_sum := mgn z_sum
  have m_min := mgn z_min
  have m_max := mgn z_max
  have m_range := mgn z_range
  have m_abs := mgn z_abs
  have F_without_column := fun_mk (st := s_without_column) l_without_column c_without_column k_without_column
  have b_without_column := F_without_column.binds (ps := ["rows", "column"]) fun _ _ _ _ _ _ us hl => match us, hl with | [_, _], _ => rfl
  have F_determinant := fun_mk (st := s_determinant) l_determinant c_determinant k_determinant
  have b_determinant := F_determinant.binds (ps := ["rows"]) fun _ _ _ _ _ _ us hl => match us, hl with | [_], _ => rfl
  have F_answered := fun_mk (st := s_answered) l_answered c_answered k_answered
  have b_answered := F_answered.binds (ps := ["work"]) fun _ _ _ _ _ _ us hl => match us, hl with | [_], _ => rfl
  have F_cut := fun_mk (st := s_cut) l_cut c_cut k_cut
  have b_cut := F_cut.binds (ps := ["value", "places", "way"]) fun _ _ _ _ _ _ us hl => match us, hl with | [_, _, _], _ => rfl
  have F_number_near := fun_mk (st := s_number_near) l_number_near c_number_near k_number_near
  have b_number_near := F_number_near.binds (ps := ["value", "places", "way"]) fun _ _ _ _ _ _ us hl => match us, hl with | [_, _, _], _ => rfl
  have F_write_number := fun_mk (st := s_write_number) l_write_number c_write_number k_write_number
  have b_write_number := F_write_number.binds (ps := ["number"]) fun _ _ _ _ _ _ us hl => match us, hl with | [_], _ => rfl
  have F_told_by := fun_mk (st := s_told_by) l_told_by c_told_by k_told_by
  have b_told_by := F_told_by.binds (ps := ["way", "values"]) fun _ _ _ _ _ _ us hl => match us, hl with | [_, _], _ => rfl
  have F_told := fun_mk (st := s_told) l_told c_told k_told
  have b_told := F_told.binds (ps := ["values"]) fun _ _ _ _ _ _ us hl => match us, hl with | [_], _ => rfl
  have F_marked := fun_mk (st := s_marked) l_marked c_marked k_marked
  have b_marked := F_marked.binds (ps := ["whole", "places", "is_more"]) fun _ _ _ _ _ _ us hl => match us, hl with | [_, _, _], _ => rfl
  have F_quotient := fun_mk (st := s_quotient) l_quotient c_quotient k_quotient
  have b_quotient := F_quotient.binds (ps := ["dividend", "divisor", "places"]) fun _ _ _ _ _ _ us hl => match us, hl with | [_, _, _], _ => rfl
  have F_read_number := fun_mk (st := s_read_number) l_read_number c_read_number k_read_number
  have b_read_number := F_read_number.binds (ps := ["bits"]) fun _ _ _ _ _ _ us hl => match us, hl with | [_], _ => rfl
  have F_read_choice := fun_mk (st := s_read_choice) l_read_choice c_read_choice k_read_choice
  have b_read_choice := F_read_choice.binds (ps := ["value", "least", "most"]) fun _ _ _ _ _ _ us hl => match us, hl with | [_, _, _], _ => rfl
  have F_read_numbers := fun_mk (st := s_read_numbers) l_read_numbers c_read_numbers k_read_numbers
  have b_read_numbers := F_read_numbers.binds (ps := ["numbers", "least", "most"]) fun _ _ _ _ _ _ us hl => match us, hl with | [_, _, _], _ => rfl
  have F_read_dimension := fun_mk (st := s_read_dimension) l_read_dimension c_read_dimension k_read_dimension
  have b_read_dimension := F_read_dimension.binds (ps := ["k"]) fun _ _ _ _ _ _ us hl => match us, hl with | [_], _ => rfl
  have F_in_groups := fun_mk (st := s_in_groups) l_in_groups c_in_groups k_in_groups
  have b_in_groups := F_in_groups.binds (ps := ["flat", "size"]) fun _ _ _ _ _ _ us hl => match us, hl with | [_, _], _ => rfl
  have F_read_points := fun_mk (st := s_read_points) l_read_points c_read_points k_read_points
  have b_read_points := F_read_points.binds (ps := ["k", "coordinates", "least", "most"]) fun _ _ _ _ _ _ us hl => match us, hl with | [_, _, _, _], _ => rfl
  have F_read_triangles := fun_mk (st := s_read_triangles) l_read_triangles c_read_triangles k_read_triangles
  have b_read_triangles := F_read_triangles.binds (ps := ["coordinates", "triangles"]) fun _ _ _ _ _ _ us hl => match us, hl with | [_, _], _ => rfl
  have F_axis_sums := fun_mk (st := s_axis_sums) l_axis_sums c_axis_sums k_axis_sums
  have b_axis_sums := F_axis_sums.binds (ps := ["corners"]) fun _ _ _ _ _ _ us hl => match us, hl with | [_], _ => rfl
  have F_second_moment := fun_mk (st := s_second_moment) l_second_moment c_second_moment k_second_moment
  have b_second_moment := F_second_moment.binds (ps := ["corners", "sums", "pair"]) fun _ _ _ _ _ _ us hl => match us, hl with | [_, _, _], _ => rfl
  have F_first_four := fun_mk (st := s_first_four) l_first_four c_first_four k_first_four
  have b_first_four := F_first_four.binds (ps := ["corners"]) fun _ _ _ _ _ _ us hl => match us, hl with | [_], _ => rfl
  have F_all_ten := fun_mk (st := s_all_ten) l_all_ten c_all_ten k_all_ten
  have b_all_ten := F_all_ten.binds (ps := ["corners"]) fun _ _ _ _ _ _ us hl => match us, hl with | [_], _ => rfl
  have F_added_over := fun_mk (st := s_added_over) l_added_over c_added_over k_added_over
  have b_added_over := F_added_over.binds (ps := ["triangles", "parts_of_one", "count"]) fun _ _ _ _ _ _ us hl => match us, hl with | [_, _, _], _ => rfl
  have F_solid_mass := fun_mk (st := s_solid_mass) l_solid_mass c_solid_mass k_solid_mass
  have b_solid_mass := F_solid_mass.binds (ps := ["triangles"]) fun _ _ _ _ _ _ us hl => match us, hl with | [_], _ => rfl
  have hasB : ∀ base : Heap, K.In base → OwnCls "WrongInput" C_WrongInput [.type "Exception", .type "BaseException", .type "object"] "Exception.__new__" mg base → OwnCls "NotThere" C_NotThere [.type "Exception", .type "BaseException", .type "object"] "Exception.__new__" mg base → OwnCls "CantBeTold" C_CantBeTold [.type "Exception", .type "BaseException", .type "object"] "Exception.__new__" mg base → Has r.prog w K mg base 14 "told" ["values"] (spTold K C_CantBeTold) ∧ Has r.prog w K mg base 14 "solid_mass" ["triangles"] (spSolidM K) ∧ Has r.prog w K mg base 14 "read_triangles" ["coordinates", "triangles"] (spTri K C_WrongInput) := fun base KB O_WrongInput O_NotThere O_CantBeTold => by
    have h_without_column : Has r.prog w K mg base 1 "without_column" ["rows", "column"] (spWC K) := ⟨_, _, okWC F_without_column, b_without_column, k_without_column, mgl a_without_column⟩
    have hDT : ∀ B n, B ≤ 20000 → n ≤ 6 → Has r.prog w K mg base (n + 1) "determinant" ["rows"] (spDet K B n) := fun B n hB hn => hasDT F_determinant b_determinant (mgl a_determinant) hB m_len m_enumerate h_without_column n hn
    have h_determinant : Has r.prog w K mg base 7 "determinant" ["rows"] (spDetU K) := hasDTU F_determinant b_determinant (mgl a_determinant) m_len m_enumerate h_without_column
    have h_cut : Has r.prog w K mg base 1 "cut" ["value", "places", "way"] spCut := ⟨_, _, ok_cut (k := 0) F_cut v_DOWN v_UP v_TOWARDS_ZERO, b_cut, k_cut, mgl a_cut⟩
    have h_number_near : Has r.prog w K mg base 2 "number_near" ["value", "places", "way"] (spNN C_CantBeTold) := ⟨_, _, ok_number_near (k := 1) F_number_near O_CantBeTold PySem.F.excBase_Exception m_min m_abs v_PLACES v_NUMBER_BITS v_NEAREST v_UP v_TOP_EXPONENT (h_cut.mono (by omega)), b_number_near, k_number_near, mgl a_number_near⟩
    have h_write_number : Has r.prog w K mg base 1 "write_number" ["number"] spWN := ⟨_, _, ok_write_number (k := 0) F_write_number m_abs m_max v_NUMBER_BITS v_SIGN_BIT, b_write_number, k_write_number, mgl a_write_number⟩
    have h_told_by : Has r.prog w K mg base 3 "told_by" ["way", "values"] (spToldBy K C_CantBeTold) := ⟨_, _, ok_told_by (k := 2) F_told_by (h_number_near.mono (by omega)) (h_write_number.mono (by omega)), b_told_by, k_told_by, mgl a_told_by⟩
    have h_told : Has r.prog w K mg base 4 "told" ["values"] (spTold K C_CantBeTold) := ⟨_, _, ok_told (k := 3) F_told v_NEAREST (h_told_by.mono (by omega)), b_told, k_told, mgl a_told⟩
    have h_marked : Has r.prog w K mg base 1 "marked" ["whole", "places", "is_more"] spMark := ⟨_, _, ok_marked (k := 0) F_marked , b_marked, k_marked, mgl a_marked⟩
    have h_quotient : Has r.prog w K mg base 2 "quotient" ["dividend", "divisor", "places"] (spQuo K) := ⟨_, _, ok_quotient (k := 1) F_quotient m_max v_KEPT_BITS (h_marked.mono (by omega)), b_quotient, k_quotient, mgl a_quotient⟩
    have h_read_number : Has r.prog w K mg base 1 "read_number" ["bits"] (spNum C_WrongInput) := ⟨_, _, ok_read_number (k := 0) F_read_number O_WrongInput PySem.F.excBase_Exception v_EXPONENT_MASK v_FRACTION_MASK v_HIDDEN_BIT, b_read_number, k_read_number, mgl a_read_number⟩
    have h_read_choice : Has r.prog w K mg base 1 "read_choice" ["value", "least", "most"] (spChoice C_WrongInput) := ⟨_, _, ok_read_choice (k := 0) F_read_choice O_WrongInput PySem.F.excBase_Exception, b_read_choice, k_read_choice, mgl a_read_choice⟩
    have h_read_numbers : Has r.prog w K mg base 2 "read_numbers" ["numbers", "least", "most"] (spNums K C_WrongInput) := ⟨_, _, ok_read_numbers (k := 1) F_read_numbers m_len (h_read_choice.mono (by omega)) (h_read_number.mono (by omega)), b_read_numbers, k_read_numbers, mgl a_read_numbers⟩
    have h_read_dimension : Has r.prog w K mg base 1 "read_dimension" ["k"] (spDim C_WrongInput) := ⟨_, _, ok_read_dimension (k := 0) F_read_dimension O_WrongInput PySem.F.excBase_Exception, b_read_dimension, k_read_dimension, mgl a_read_dimension⟩
    have h_in_groups : Has r.prog w K mg base 1 "in_groups" ["flat", "size"] (spGroups K C_WrongInput) := ⟨_, _, ok_in_groups (k := 0) F_in_groups O_WrongInput PySem.F.excBase_Exception m_len m_range, b_in_groups, k_in_groups, mgl a_in_groups⟩
    have h_read_points : Has r.prog w K mg base 3 "read_points" ["k", "coordinates", "least", "most"] (spPoints K C_WrongInput) := ⟨_, _, ok_read_points (k := 2) F_read_points (h_read_numbers.mono (by omega)) (h_read_dimension.mono (by omega)) (h_in_groups.mono (by omega)), b_read_points, k_read_points, mgl a_read_points⟩
    have h_read_triangles : Has r.prog w K mg base 4 "read_triangles" ["coordinates", "triangles"] (spTri K C_WrongInput) := ⟨_, _, ok_read_triangles (k := 3) F_read_triangles m_len (h_read_points.mono (by omega)) (h_read_choice.mono (by omega)) (h_in_groups.mono (by omega)), b_read_triangles, k_read_triangles, mgl a_read_triangles⟩
    have h_axis_sums : Has r.prog w K mg base 1 "axis_sums" ["corners"] (spAxis K) := ⟨_, _, ok_axis_sums (k := 0) F_axis_sums m_sum, b_axis_sums, k_axis_sums, mgl a_axis_sums⟩
    have h_second_moment : Has r.prog w K mg base 1 "second_moment" ["corners", "sums", "pair"] (spSecond K) := ⟨_, _, ok_second_moment (k := 0) F_second_moment m_sum, b_second_moment, k_second_moment, mgl a_second_moment⟩
    have h_first_four : Has r.prog w K mg base 8 "first_four" ["corners"] (spPart K four) := ⟨_, _, ok_first_four (k := 7) F_first_four (h_determinant.mono (by omega)) (h_axis_sums.mono (by omega)), b_first_four, k_first_four, mgl a_first_four⟩
    have h_all_ten : Has r.prog w K mg base 9 "all_ten" ["corners"] (spPart K ten) := ⟨_, _, ok_all_ten (k := 8) F_all_ten v_AXIS_PAIRS q_AXIS_PAIRS (h_first_four.mono (by omega)) (h_axis_sums.mono (by omega)) (h_second_moment.mono (by omega)), b_all_ten, k_all_ten, mgl a_all_ten⟩
    have h_added_over : Has r.prog w K mg base 13 "added_over" ["triangles", "parts_of_one", "count"] (spAdd r.prog w K mg base) := ⟨_, _, ok_added_over (k := 12) F_added_over m_zip (by omega), b_added_over, k_added_over, mgl a_added_over⟩
    have h_solid_mass : Has r.prog w K mg base 14 "solid_mass" ["triangles"] (spSolidM K) := ⟨_, _, ok_solid_mass (k := 13) F_solid_mass m_zip v_FACTORS q_FACTORS v_DIVISORS q_DIVISORS v_PLACES (h_added_over.mono (by omega)) (h_all_ten.mono (by omega)) (h_quotient.mono (by omega)), b_solid_mass, k_solid_mass, mgl a_solid_mass⟩
    exact ⟨h_told.mono (by omega), h_solid_mass.mono (by omega), h_read_triangles.mono (by omega)⟩
  refine ⟨_, c, Pt, (fun_mk (st := s_mass) l0 c0 (show PySem.W.keepIn K (.ref fa) = true by simp only [PySem.W.keepIn, l0])).binds (ps := ["points", "triangles"]) (fun _ _ _ _ _ _ us hl => match us, hl with | [_, _], _ => rfl), ?_, hC, hPt, fun base pl hc M => ?_⟩
  · cases q : K.lookup Pt with
    | none => rfl
    | some o =>
      have g := X _ _ q
      rw [hPt] at g
      cases g
      have z := List.all_eq_true.mp tn _ (PySem.W.mem_of_lookupK q)
      exact absurd (show false = true from z) Bool.false_ne_true
  · have O_WrongInput : OwnCls "WrongInput" C_WrongInput [.type "Exception", .type "BaseException", .type "object"] "Exception.__new__" mg base := OwnCls.to pl Q_WrongInput.own
    have p_WrongInput := plainX_of M.kin g_WrongInput h_WrongInput i_WrongInput
    have O_NotThere : OwnCls "NotThere" C_NotThere [.type "Exception", .type "BaseException", .type "object"] "Exception.__new__" mg base := OwnCls.to pl Q_NotThere.own
    have p_NotThere := plainX_of M.kin g_NotThere h_NotThere i_NotThere
    have O_CantBeTold : OwnCls "CantBeTold" C_CantBeTold [.type "Exception", .type "BaseException", .type "object"] "Exception.__new__" mg base := OwnCls.to pl Q_CantBeTold.own
    have p_CantBeTold := plainX_of M.kin g_CantBeTold h_CantBeTold i_CantBeTold
    obtain ⟨bm, ob, b1', b2', b3', b4', b5', b6'⟩ := T.bmain
    obtain ⟨co, cvs, x1, x2, x3, x4, x5, x6, x7, y1, y2⟩ := hC
    exact okEntry l0 c0 ⟨co, cvs, x1, x2, x3, x4, x5, x6, x7, hc _ y1, y2⟩ ⟨bm, ob, b1', b2', pl _ _ b3' (fun vs q => by rw [b6'] at q; cases q) (fun its n q => by rw [b6'] at q; cases q), b4', b5', b6'⟩ (mgl a_answered) k_answered b_answered
      (fun base2 sub => okAN F_answered E_WrongInput E_NotThere E_CantBeTold (p_WrongInput.keeps sub) (p_NotThere.keeps sub) (p_CantBeTold.keeps sub) ne_WrongInput_NotThere ne_WrongInput_CantBeTold ne_NotThere_CantBeTold) (fun base2 sub => (hasB base2 (M.kin.keeps sub) (O_WrongInput.keeps sub) (O_NotThere.keeps sub) (O_CantBeTold.keeps sub)).1) (fun base2 sub => (hasB base2 (M.kin.keeps sub) (O_WrongInput.keeps sub) (O_NotThere.keeps sub) (O_CantBeTold.keeps sub)).2.1) (fun base2 sub => (hasB base2 (M.kin.keeps sub) (O_WrongInput.keeps sub) (O_NotThere.keeps sub) (O_CantBeTold.keeps sub)).2.2)
theorem said : PySem.Challenge.rw_exactplaces_s22_mass.wellSaid = true := by decide +kernel
theorem dec_ok {args : List PySem.W.WData} (said : PySem.Challenge.rw_exactplaces_s22_mass.wellSaid = true) (hp : PySem.Challenge.rw_exactplaces_s22_mass.pre args = true) : ∃ ds res, args = ds.map AD.w ∧ okL ds res ∧ (∀ l, AD.lst l ∈ ds → l.length ≤ sizeLine) ∧ ds.length = 2 ∧ PySem.Challenge.rw_exactplaces_s22_mass.claim.post args (.list (res.map .int)) args = true := by
  obtain ⟨⟨x_points, x_triangles, ⟨⟩⟩, hw, _, rfl⟩ := (PySem.W.OpenSpec.pre_iff said args).mp hp
  have w_points := PySem.W.Codec.and_of hw
  have i_points := inW_of w_points.1 (by decide)
  have w_triangles := PySem.W.Codec.and_of w_points.2
  have i_triangles := inW_of w_triangles.1 (by decide)
  refine ⟨[.lst x_points, .lst x_triangles], PySh25.mass x_points x_triangles, rfl, ⟨x_points, x_triangles, rfl, i_points.1, i_triangles.1, rfl⟩, fun l hl => ?_, rfl, (PySem.W.OpenSpec.post_iff said hw _ _).mpr rfl⟩
  have hl : l = x_points ∨ l = x_triangles := by simpa using hl
  rcases hl with rfl | rfl
  · exact i_points.2
  · exact i_triangles.2
end M
open PySem PySem.W PyProof.Rows
set_option maxRecDepth 100000 in
set_option maxHeartbeats 0 in
theorem PySem.Challenge.cw_exactplaces_s22_mass_holds : PySem.Challenge.rw_exactplaces_s22_mass.Holds := by
  w_on; k_headS; (case hw => exact ⟨[.list [], .list []], by decide +kernel, by decide +kernel⟩)
  k_fillS
  refine L2.walk_spec (r := PySem.Challenge.rw_exactplaces_s22_mass) (k := 17) (ps := ["points", "triangles"]) (ok := M.okL) (fun w h Y => PySem.W.kIn_of Y) ⟨rfl, by decide, by decide⟩ (fun args hp => M.dec_ok M.said hp) ?F
  case F =>
    intro w s0 mg mb fa h KX T hmg
    refine' M.all_mk KX T hmg ?a_without_column ?l_without_column ?c_without_column ?k_without_column ?a_determinant ?l_determinant ?c_determinant ?k_determinant ?a_answered ?l_answered ?c_answered ?k_answered ?a_cut ?l_cut ?c_cut ?k_cut ?a_number_near ?l_number_near ?c_number_near ?k_number_near ?a_write_number ?l_write_number ?c_write_number ?k_write_number ?a_told_by ?l_told_by ?c_told_by ?k_told_by ?a_told ?l_told ?c_told ?k_told ?a_marked ?l_marked ?c_marked ?k_marked ?a_quotient ?l_quotient ?c_quotient ?k_quotient ?a_read_number ?l_read_number ?c_read_number ?k_read_number ?a_read_choice ?l_read_choice ?c_read_choice ?k_read_choice ?a_read_numbers ?l_read_numbers ?c_read_numbers ?k_read_numbers ?a_read_dimension ?l_read_dimension ?c_read_dimension ?k_read_dimension ?a_in_groups ?l_in_groups ?c_in_groups ?k_in_groups ?a_read_points ?l_read_points ?c_read_points ?k_read_points ?a_read_triangles ?l_read_triangles ?c_read_triangles ?k_read_triangles ?a_axis_sums ?l_axis_sums ?c_axis_sums ?k_axis_sums ?a_second_moment ?l_second_moment ?c_second_moment ?k_second_moment ?a_first_four ?l_first_four ?c_first_four ?k_first_four ?a_all_ten ?l_all_ten ?c_all_ten ?k_all_ten ?a_added_over ?l_added_over ?c_added_over ?k_added_over ?a_solid_mass ?l_solid_mass ?c_solid_mass ?k_solid_mass ?a0 ?l0 ?c0 ?tn ?hr ?e_WrongInput ?g_WrongInput ?h_WrongInput ?i_WrongInput ?sp_WrongInput ?e_NotThere ?g_NotThere ?h_NotThere ?i_NotThere ?sp_NotThere ?e_CantBeTold ?g_CantBeTold ?h_CantBeTold ?i_CantBeTold ?sp_CantBeTold ?ne_WrongInput_NotThere ?ne_WrongInput_CantBeTold ?ne_NotThere_CantBeTold ?w_NEAREST ?w_DOWN ?w_UP ?w_TOWARDS_ZERO ?w_NUMBER_BITS ?w_PLACES ?w_TOP_EXPONENT ?w_SIGN_BIT ?w_KEPT_BITS ?w_FRACTION_MASK ?w_HIDDEN_BIT ?w_EXPONENT_MASK ?w_AXIS_PAIRS ?u_AXIS_PAIRS ?u_AXIS_PAIRS_0 ?u_AXIS_PAIRS_1 ?u_AXIS_PAIRS_2 ?u_AXIS_PAIRS_3 ?u_AXIS_PAIRS_4 ?u_AXIS_PAIRS_5 ?w_FACTORS ?u_FACTORS ?w_DIVISORS ?u_DIVISORS ?z_len ?z_zip ?z_enumerate ?z_sum ?z_min ?z_max ?z_range ?z_abs
    (case a_without_column => k_is)
    (case l_without_column => k_is)
    (case c_without_column => k_is)
    (case k_without_column => k_is)
    (case a_determinant => k_is)
    (case l_determinant => k_is)
    (case c_determinant => k_is)
    (case k_determinant => k_is)
    (case a_answered => k_is)
    (case l_answered => k_is)
    (case c_answered => k_is)
    (case k_answered => k_is)
    (case a_cut => k_is)
    (case l_cut => k_is)
    (case c_cut => k_is)
    (case k_cut => k_is)
    (case a_number_near => k_is)
    (case l_number_near => k_is)
    (case c_number_near => k_is)
    (case k_number_near => k_is)
    (case a_write_number => k_is)
    (case l_write_number => k_is)
    (case c_write_number => k_is)
    (case k_write_number => k_is)
    (case a_told_by => k_is)
    (case l_told_by => k_is)
    (case c_told_by => k_is)
    (case k_told_by => k_is)
    (case a_told => k_is)
    (case l_told => k_is)
    (case c_told => k_is)
    (case k_told => k_is)
    (case a_marked => k_is)
    (case l_marked => k_is)
    (case c_marked => k_is)
    (case k_marked => k_is)
    (case a_quotient => k_is)
    (case l_quotient => k_is)
    (case c_quotient => k_is)
    (case k_quotient => k_is)
    (case a_read_number => k_is)
    (case l_read_number => k_is)
    (case c_read_number => k_is)
    (case k_read_number => k_is)
    (case a_read_choice => k_is)
    (case l_read_choice => k_is)
    (case c_read_choice => k_is)
    (case k_read_choice => k_is)
    (case a_read_numbers => k_is)
    (case l_read_numbers => k_is)
    (case c_read_numbers => k_is)
    (case k_read_numbers => k_is)
    (case a_read_dimension => k_is)
    (case l_read_dimension => k_is)
    (case c_read_dimension => k_is)
    (case k_read_dimension => k_is)
    (case a_in_groups => k_is)
    (case l_in_groups => k_is)
    (case c_in_groups => k_is)
    (case k_in_groups => k_is)
    (case a_read_points => k_is)
    (case l_read_points => k_is)
    (case c_read_points => k_is)
    (case k_read_points => k_is)
    (case a_read_triangles => k_is)
    (case l_read_triangles => k_is)
    (case c_read_triangles => k_is)
    (case k_read_triangles => k_is)
    (case a_axis_sums => k_is)
    (case l_axis_sums => k_is)
    (case c_axis_sums => k_is)
    (case k_axis_sums => k_is)
    (case a_second_moment => k_is)
    (case l_second_moment => k_is)
    (case c_second_moment => k_is)
    (case k_second_moment => k_is)
    (case a_first_four => k_is)
    (case l_first_four => k_is)
    (case c_first_four => k_is)
    (case k_first_four => k_is)
    (case a_all_ten => k_is)
    (case l_all_ten => k_is)
    (case c_all_ten => k_is)
    (case k_all_ten => k_is)
    (case a_added_over => k_is)
    (case l_added_over => k_is)
    (case c_added_over => k_is)
    (case k_added_over => k_is)
    (case a_solid_mass => k_is)
    (case l_solid_mass => k_is)
    (case c_solid_mass => k_is)
    (case k_solid_mass => k_is)
    (case a0 => k_is)
    (case l0 => k_is)
    (case c0 => k_is)
    (case tn => kernel_rfl)
    (case hr => rfl)
    (case e_WrongInput => k_is)
    (case g_WrongInput => k_is)
    (case h_WrongInput => decide)
    (case i_WrongInput => exact fun a => rfl)
    (case sp_WrongInput => rfl)
    (case e_NotThere => k_is)
    (case g_NotThere => k_is)
    (case h_NotThere => decide)
    (case i_NotThere => exact fun a => rfl)
    (case sp_NotThere => rfl)
    (case e_CantBeTold => k_is)
    (case g_CantBeTold => k_is)
    (case h_CantBeTold => decide)
    (case i_CantBeTold => exact fun a => rfl)
    (case sp_CantBeTold => rfl)
    (case ne_WrongInput_NotThere => decide)
    (case ne_WrongInput_CantBeTold => decide)
    (case ne_NotThere_CantBeTold => decide)
    (case w_NEAREST => k_is)
    (case w_DOWN => k_is)
    (case w_UP => k_is)
    (case w_TOWARDS_ZERO => k_is)
    (case w_NUMBER_BITS => k_is)
    (case w_PLACES => k_is)
    (case w_TOP_EXPONENT => k_is)
    (case w_SIGN_BIT => k_is)
    (case w_KEPT_BITS => k_is)
    (case w_FRACTION_MASK => k_is)
    (case w_HIDDEN_BIT => k_is)
    (case w_EXPONENT_MASK => k_is)
    (case w_AXIS_PAIRS => k_is)
    (case u_AXIS_PAIRS => k_is)
    (case u_AXIS_PAIRS_0 => k_is)
    (case u_AXIS_PAIRS_1 => k_is)
    (case u_AXIS_PAIRS_2 => k_is)
    (case u_AXIS_PAIRS_3 => k_is)
    (case u_AXIS_PAIRS_4 => k_is)
    (case u_AXIS_PAIRS_5 => k_is)
    (case w_FACTORS => k_is)
    (case u_FACTORS => k_is)
    (case w_DIVISORS => k_is)
    (case u_DIVISORS => k_is)
    (case z_len => k_is)
    (case z_zip => k_is)
    (case z_enumerate => k_is)
    (case z_sum => k_is)
    (case z_min => k_is)
    (case z_max => k_is)
    (case z_range => k_is)
    (case z_abs => k_is)
#print axioms PySem.Challenge.cw_exactplaces_s22_mass_holds
