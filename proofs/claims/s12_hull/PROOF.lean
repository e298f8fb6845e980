import PyProof.Rows.All
import Wide.All
import OpenK.AllK
import Wide.FinOn
import PyProof.EqAt
import PyProof.EqKinds
import PyProof.TupleCall
import KE.BitLaws
import KE.OsGo
import PyProof.Rows.RuleM_int
import KE.KDictLaws
import KE.KDictSum
import KE.KSortTupG
import Sh25Spec
import PySh25
import Open.SpecLaws
import PySem.Challenge.RW_exactplaces_s12_hull
set_option Elab.async false
set_option linter.all false
set_option maxRecDepth 100000
namespace L2
open PySem PySem.Spec PyProof.Rows

abbrev Key := Sum Int Str
def keyIs : Key → Value → Bool
  | .inl k, v => Value.isInt k v
  | .inr x, v => Value.isStrOf x v
def keyH (w : World) : Key → Int
  | .inl k => hashInt k
  | .inr x => hashStr w x
theorem keyIs_shape : ∀ {k : Key} {v : Value}, keyIs k v = true → (∃ i t, k = Sum.inl i ∧ v = Value.int i t) ∨ (∃ x t, k = Sum.inr x ∧ v = Value.str x t)
  | .inl i, v, h => by
    obtain ⟨t, e⟩ := Value.isInt_shape (k := i) (v := v) h
    exact .inl ⟨i, t, rfl, e⟩
  | .inr x, v, h => by
    obtain ⟨t, e⟩ := Value.isStrOf_shape (x := x) (v := v) h
    exact .inr ⟨x, t, rfl, e⟩
theorem keyIs_int (i : Int) (t : Tok) : keyIs (.inl i) (.int i t) = true := by simp [keyIs, Value.isInt]
theorem keyIs_str (x : Str) (t : Tok) : keyIs (.inr x) (.str x t) = true := by simp [keyIs, Value.isStrOf]
theorem key_ll (a b : Int) : decide ((Sum.inl a : Key) = Sum.inl b) = (a == b) := by
  by_cases e : a = b
  · subst e; simp
  · have h : ¬ (Sum.inl a : Key) = Sum.inl b := fun q => e (Sum.inl.inj q)
    rw [decide_eq_false h]
    exact (beq_eq_false_iff_ne.mpr e).symm
theorem key_rr (a b : Str) : decide ((Sum.inr a : Key) = Sum.inr b) = decide (a = b) := by
  by_cases e : a = b
  · subst e; simp
  · have h : ¬ (Sum.inr a : Key) = Sum.inr b := fun q => e (Sum.inr.inj q)
    rw [decide_eq_false h, decide_eq_false e]
theorem key_lr (a : Int) (b : Str) : decide ((Sum.inl a : Key) = Sum.inr b) = false := decide_eq_false (fun q => nomatch q)
theorem key_rl (a : Str) (b : Int) : decide ((Sum.inr a : Key) = Sum.inl b) = false := decide_eq_false (fun q => nomatch q)

def mixKind (prog : Program) (w : World) : PySem.KeyKind prog w Key where
  is := keyIs
  hash := keyH w
  inj := fun v a b ha hb => by
    rcases keyIs_shape ha with ⟨i, t, rfl, rfl⟩ | ⟨x, t, rfl, rfl⟩
    · rcases keyIs_shape hb with ⟨j, u, rfl, e⟩ | ⟨y, u, rfl, e⟩
      · injection e with e1 _; rw [e1]
      · exact nomatch e
    · rcases keyIs_shape hb with ⟨j, u, rfl, e⟩ | ⟨y, u, rfl, e⟩
      · exact nomatch e
      · injection e with e1 _; rw [e1]
  byValue := fun k v h => by
    rcases keyIs_shape h with ⟨i, t, rfl, rfl⟩ | ⟨x, t, rfl, rfl⟩ <;> rfl
  pyHash := fun hv h => by
    rcases keyIs_shape hv with ⟨i, t, rfl, rfl⟩ | ⟨x, t, rfl, rfl⟩
    · exact wpAny_pyHash_int h
    · exact wpAny_pyHash_str h
  eqBool := fun hu hv h => by
    rcases keyIs_shape hu with ⟨i, t, rfl, rfl⟩ | ⟨x, t, rfl, rfl⟩
    · rcases keyIs_shape hv with ⟨j, u, rfl, rfl⟩ | ⟨y, u, rfl, rfl⟩
      · rw [key_ll] at h; exact wpAny_eqBool_int h
      · rw [key_lr] at h; exact SeqAt.EqAt.int_str i t y u _ _ _ _ h
    · rcases keyIs_shape hv with ⟨j, u, rfl, rfl⟩ | ⟨y, u, rfl, rfl⟩
      · rw [key_rl] at h; exact SeqAt.EqAt.str_int x t j u _ _ _ _ h
      · rw [key_rr] at h; exact wpAny_eqBool_str h
  «strs» := fun k x t v h => by
    rcases keyIs_shape h with ⟨i, u, rfl, e⟩ | ⟨y, u, rfl, e⟩
    · exact nomatch e
    · injection e with e1 _
      subst e1
      cases v <;> rfl

theorem mixKind_int (prog : Program) (w : World) (i : Int) (t : Tok) : (mixKind prog w).is (.inl i) (.int i t) = true := keyIs_int i t
theorem mixKind_str (prog : Program) (w : World) (x : Str) (t : Tok) : (mixKind prog w).is (.inr x) (.str x t) = true := keyIs_str x t
end L2

namespace L2
open PySem PySem.Spec PyProof.Rows

inductive V where
  | non | bl (b : Bool) | int (i : Int) | str (x : Str) | byt (b : Array UInt8) | flt (b : UInt64) | ref (a : Addr) | ty (n : String)
  deriving DecidableEq

def RelV : V → Value → Prop
  | .non, u => u = Value.none
  | .bl b, u => u = Value.bool b
  | .int i, u => ∃ t, u = Value.int i t
  | .str x, u => ∃ t, u = Value.str x t
  | .byt b, u => ∃ t, u = Value.bytes b t
  | .flt b, u => ∃ t, u = Value.float b t
  | .ref a, u => u = Value.ref a
  | .ty n, u => u = Value.type n

abbrev Vals : List V → List Value → Prop := Paired RelV
theorem Vals.length {xs : List V} {us : List Value} (r : Vals xs us) : xs.length = us.length := Paired.length r
theorem Vals.get : ∀ {xs : List V} {us : List Value} {i : Nat} {x : V}, Vals xs us → xs[i]? = some x → ∃ u, us[i]? = some u ∧ RelV x u
  | _, _, _, _, .nil, e => by simp at e
  | _, _, 0, _, .cons r _, e => by simp at e; subst e; exact ⟨_, rfl, r⟩
  | _, _, i + 1, x, .cons _ t, e => by
    obtain ⟨u, h1, h2⟩ := Vals.get (i := i) (x := x) t (by simpa using e)
    exact ⟨u, by simpa using h1, h2⟩
theorem Vals.set {x : V} {u : Value} (r : RelV x u) : ∀ {xs : List V} {us : List Value} (i : Nat), Vals xs us → Vals (xs.set i x) (us.set i u)
  | _, _, _, .nil => .nil
  | _, _, 0, .cons _ t => .cons r t
  | _, _, i + 1, .cons q t => .cons q (Vals.set r i t)
theorem Vals.append : ∀ {xs ys : List V} {us ws : List Value}, Vals xs us → Vals ys ws → Vals (xs ++ ys) (us ++ ws)
  | _, _, _, _, .nil, s => s
  | _, _, _, _, .cons r t, s => .cons r (Vals.append t s)
theorem Vals.take : ∀ {xs : List V} {us : List Value} (n : Nat), Vals xs us → Vals (xs.take n) (us.take n)
  | _, _, 0, _ => .nil
  | _, _, _ + 1, .nil => .nil
  | _, _, n + 1, .cons r t => .cons r (Vals.take n t)
theorem Vals.drop : ∀ {xs : List V} {us : List Value} (n : Nat), Vals xs us → Vals (xs.drop n) (us.drop n)
  | _, _, 0, r => r
  | _, _, _ + 1, .nil => .nil
  | _, _, n + 1, .cons _ t => Vals.drop n t
theorem Vals.none_of : ∀ {xs : List V} {us : List Value} {i : Nat}, Vals xs us → xs[i]? = none → us[i]? = none := fun {xs us i} r e => by
  have h1 := r.length
  have h2 : xs.length ≤ i := List.getElem?_eq_none_iff.mp e
  exact List.getElem?_eq_none_iff.mpr (by omega)

def RelO : Option V → Option Value → Prop
  | some v, some u => RelV v u
  | none, none => True
  | _, _ => False
def KV {κ : Type} : List (κ × V) → List (κ × Value) → Prop := Paired fun (p : κ × V) (q : κ × Value) => p.1 = q.1 ∧ RelV p.2 q.2

def kV : Key → V
  | .inl i => .int i
  | .inr x => .str x

inductive HO where
  /-- a list -/
  | lst (xs : List V)
  /-- a tuple (never changes) -/
  | tup (xs : List V)
  /-- a dict whose keys are ints and texts; one whose keys are tuples of ints and texts (the empty one is both) -/
  | dK (kvs : List (Key × V)) | dT (kvs : List (List Key × V))
  /-- a set of ints: its members, its size -/
  | set (S : Int → Bool) (n : Nat)
  /-- an instance of the class at C, its dict at dx, its attributes -/
  | ins (C dx : Addr) (fs : List (Str × V))
  /-- the dict of the instance at x -/
  | own (x : Addr)
  /-- the dict of an exception -/
  | xd (fs : List (Str × V))
  /-- a bound method, f of x -/
  | met (f x : Addr)
  /-- a range object lo, lo + 1, .. below hi -/
  | rng (lo hi : Int)
  /-- a thing that is known to the object (the script; a dict while a loop walks it): read, never written while it is so -/
  | frz (o : Obj) (u : HO)
  /-- a code object's table -/
  | tbl (ps : Array Value)
  /-- any other thing, by what is true of its one object (a def of one's own: SetO a S n := HO.ext fun h => ..) -/
  | ext (φ : Heap → Prop)

abbrev Hp := Addr → Option HO
def upd (H : Hp) (a : Addr) (o : HO) : Hp := fun b => if b = a then some o else H b
theorem upd_same {H : Hp} {a : Addr} {o : HO} : upd H a o a = some o := by unfold upd; rw [if_pos rfl]
theorem upd_ne {H : Hp} {a b : Addr} {o : HO} (h : b ≠ a) : upd H a o b = H b := by unfold upd; rw [if_neg h]
theorem ne_of {H : Hp} {a b : Addr} {o u : HO} (h : H a = some o) (h' : H b = some u) (d : o ≠ u) : a ≠ b := by
  intro e; subst e; rw [h] at h'; exact d (Option.some.inj h')
theorem ne_of_none {H : Hp} {a b : Addr} {o : HO} (h : H a = some o) (h' : H b = none) : a ≠ b := by
  intro e; subst e; rw [h] at h'; cases h'

section
variable (P : Program) (w : World)
def ObjOk (H : Hp) (h : Heap) (a : Addr) : HO → Prop
  | .lst xs => xs.length ≤ sizeLine ∧ ∃ (its : List Value) (n : Nat), Vals xs its ∧ h.get? a = some { cls := .type "list", data := .seq its.toArray n }
  | .tup xs => xs.length ≤ sizeLine ∧ ∃ its : List Value, Vals xs its ∧ IsTup h a its.toArray
  | .dK kvs => kvs.length ≤ sizeLine ∧ (a == sysModules) = false ∧ ∃ vs, KV kvs vs ∧ h.DictOf (mixKind P w) a vs
  | .dT kvs => kvs.length ≤ sizeLine ∧ (a == sysModules) = false ∧ ∃ xs : List (List Key × Addr × Value),
      Paired (fun (p : List Key × V) (q : List Key × Addr × Value) => p.1 = q.1 ∧ H q.2.1 = some (.tup (p.1.map kV)) ∧ RelV p.2 q.2.2) kvs xs ∧
      ∃ o es ep, h.get? a = some o ∧ o.ExactDict ∧ o.data = .dict es ep ∧ es.toList = xs.map (entryOfKey (tupleKind (mixKind P w))) ∧ (xs.map (·.1)).Nodup
  | .set S n => h.SetOf (intKind P w) a S n
  | .ins C dx fs => H dx = some (.own a) ∧ fs.length ≤ 1000 ∧ dx ≠ a ∧ h.get? a = some (PySem.W.instObj C dx) ∧
      ∃ mA, h.Ns1 dx mA ∧ (∀ f, RelO (fs.lookup f) (mA f)) ∧ PySem.Within mA (fs.map (·.1))
  | .own _ => ∃ o, h.get? a = some o
  | .xd fs => ∃ mA, h.Ns1 a mA ∧ ∀ f, RelO (fs.lookup f) (mA f)
  | .rng lo hi => ∃ t u v, h.get? a = some { cls := .type "range", data := .fields #[.int lo t, .int hi u, .int 1 v] }
  | .frz o u => h.get? a = some o ∧ ObjOk H h a u
  | .tbl ps => h.get? a = some { cls := .none, data := .fields ps }
  | .met f x => h.get? a = some (PySem.W.methodObj (.ref f) (.ref x))
  | .ext φ => φ h ∧ (∃ o, h.get? a = some o) ∧ ∀ h1 h2 : Heap, φ h1 → (∀ o, h1.get? a = some o → h2.get? a = some o) → φ h2
def HOk (H : Hp) (h : Heap) : Prop := ∀ a o, H a = some o → ObjOk P w H h a o
end

section
variable {P : Program} {w : World} {H H' : Hp} {h h' : Heap} {a : Addr} {o : HO}
theorem ObjOk.lt (x : ObjOk P w H h a o) : a < h.objs.size := by
  cases o with
  | lst xs => obtain ⟨_, _, _, _, e⟩ := x; exact Heap.lt_size e
  | tup xs => obtain ⟨_, _, _, p⟩ := x; exact p.lt
  | dK kvs => obtain ⟨_, _, _, _, o, _, _, e, _⟩ := x; exact Heap.lt_size e
  | dT kvs => obtain ⟨_, _, _, _, o, _, _, e, _⟩ := x; exact Heap.lt_size e
  | set S n => obtain ⟨o, _, _, _, e, _⟩ := x; exact Heap.lt_size e
  | ins C dx fs => obtain ⟨_, _, _, e, _⟩ := x; exact Heap.lt_size e
  | own y => obtain ⟨_, e⟩ := x; exact Heap.lt_size e
  | xd fs => obtain ⟨_, ⟨_, _, _, e, _⟩, _⟩ := x; exact Heap.lt_size e
  | rng lo hi => obtain ⟨_, _, _, e⟩ := x; exact Heap.lt_size e
  | frz ob u => obtain ⟨e, _⟩ := x; exact Heap.lt_size e
  | tbl ps => exact Heap.lt_size (show h.get? a = some _ from x)
  | met f y => exact Heap.lt_size (show h.get? a = some _ from x)
  | ext φ => obtain ⟨_, ⟨_, e⟩, _⟩ := x; exact Heap.lt_size e
theorem Paired.mapP {α β : Type} {F G : α → β → Prop} : ∀ {l₁ : List α} {l₂ : List β}, Paired F l₁ l₂ → (∀ a b, F a b → G a b) → Paired G l₁ l₂
  | _, _, .nil, _ => .nil
  | _, _, .cons r t, f => .cons (f _ _ r) (Paired.mapP t f)
theorem Paired.imp' {α β : Type} {F G : α → β → Prop} (f : ∀ a b, F a b → G a b) {l₁ : List α} {l₂ : List β} (r : Paired F l₁ l₂) : Paired G l₁ l₂ := Paired.mapP r f
theorem ObjOk.stay (x : ObjOk P w H h a o) (k : ∀ b u, (b = a ∨ H b = some (.own a)) → h.get? b = some u → h'.get? b = some u)
    (ho : ∀ b, H b = some (.own a) → H' b = some (.own a)) (ht : ∀ b xs, H b = some (.tup xs) → H' b = some (.tup xs)) : ObjOk P w H' h' a o := by
  induction o with
  | lst xs => obtain ⟨z, its, n, r, e⟩ := x; exact ⟨z, its, n, r, k _ _ (.inl rfl) e⟩
  | tup xs => obtain ⟨z, its, r, ob, e, c⟩ := x; exact ⟨z, its, r, ob, k _ _ (.inl rfl) e, c⟩
  | dK kvs => obtain ⟨z, y, vs, r, ob, es, ep, e, c⟩ := x; exact ⟨z, y, vs, r, ob, es, ep, k _ _ (.inl rfl) e, c⟩
  | dT kvs =>
    obtain ⟨z, y, xs, r, ob, es, ep, e, c⟩ := x
    exact ⟨z, y, xs, Paired.mapP r fun p q z => ⟨z.1, ht _ _ z.2.1, z.2.2⟩, ob, es, ep, k _ _ (.inl rfl) e, c⟩
  | set S n => obtain ⟨ob, es, ep, t, e, c⟩ := x; exact ⟨ob, es, ep, t, k _ _ (.inl rfl) e, c⟩
  | ins C dx fs =>
    obtain ⟨d, z, ne, e, mA, ⟨od, es, ep, e2, c⟩, r⟩ := x
    exact ⟨ho _ d, z, ne, k _ _ (.inl rfl) e, mA, ⟨od, es, ep, k _ _ (.inr d) e2, c⟩, r⟩
  | own y => obtain ⟨ob, e⟩ := x; exact ⟨ob, k _ _ (.inl rfl) e⟩
  | xd fs => obtain ⟨mA, ⟨od, es, ep, e, c⟩, r⟩ := x; exact ⟨mA, ⟨od, es, ep, k _ _ (.inl rfl) e, c⟩, r⟩
  | rng lo hi => obtain ⟨t, u, v, e⟩ := x; exact ⟨t, u, v, k _ _ (.inl rfl) e⟩
  | frz ob u ih => obtain ⟨e, q⟩ := x; exact ⟨k _ _ (.inl rfl) e, ih q⟩
  | tbl ps =>
    have e : h.get? a = some { cls := .none, data := .fields ps } := x
    show h'.get? a = some { cls := .none, data := .fields ps }
    exact k a _ (.inl rfl) e
  | met f y =>
    have e : h.get? a = some (PySem.W.methodObj (.ref f) (.ref y)) := x
    show h'.get? a = some (PySem.W.methodObj (.ref f) (.ref y))
    exact k a _ (.inl rfl) e
  | ext φ => obtain ⟨p, ⟨o, e⟩, st⟩ := x; exact ⟨st _ _ p fun o q => k _ _ (.inl rfl) q, ⟨o, k _ _ (.inl rfl) e⟩, st⟩
theorem HOk.lt (x : HOk P w H h) (e : H a = some o) : a < h.objs.size := (x a o e).lt
theorem HOk.fresh (x : HOk P w H h) (e : h.objs.size ≤ a) : H a = none := by
  cases q : H a with
  | none => rfl
  | some u => exact absurd (Nat.lt_of_lt_of_le (x.lt q) e) (Nat.lt_irrefl _)
theorem HOk.kept (x : HOk P w H h) (k : ∀ b u, h.get? b = some u → h'.get? b = some u) : HOk P w H h' := fun a o e =>
  (x a o e).stay (fun b u _ q => k b u q) (fun _ q => q) fun _ _ q => q
theorem HOk.laid (x : HOk P w H h) (k : ∀ b u, h.get? b = some u → h'.get? b = some u) (hp : h.objs.size ≤ a) (new : ObjOk P w (upd H a o) h' a o) : HOk P w (upd H a o) h' := fun b u e => by
  have hn := x.fresh hp
  by_cases hb : b = a
  · subst hb; rw [upd_same] at e; cases e; exact new
  · rw [upd_ne hb] at e
    exact (x b u e).stay (fun c v _ q => k c v q) (fun c q => by rw [upd_ne (ne_of_none q hn)]; exact q) fun c xs q => by rw [upd_ne (ne_of_none q hn)]; exact q
end

def Rd (H : Hp) (a : Addr) (u : HO) : Prop := H a = some u ∨ ∃ o, H a = some (.frz o u)
theorem Rd.of {H : Hp} {a : Addr} {u : HO} (h : H a = some u) : Rd H a u := .inl h
theorem Rd.ok {P : Program} {w : World} {H : Hp} {h : Heap} {a : Addr} {u : HO} (r : Rd H a u) (x : HOk P w H h) : ObjOk P w H h a u := by
  rcases r with r | ⟨o, r⟩
  · exact x a u r
  · obtain ⟨_, q⟩ := x a _ r
    exact q
def Mut : Option HO → Prop
  | some (.lst _) => True
  | some (.dK _) => True
  | some (.dT _) => True
  | some (.set _ _) => True
  | some (.ins _ _ _) => True
  | some (.ext _) => True
  | _ => False
section
variable {P : Program} {w : World} {H : Hp} {h h' : Heap} {x e : Addr} {o' : HO}
theorem HOk.write (ok : HOk P w H h) (mu : Mut (H x)) (he : e = x ∨ H e = some (.own x)) (k : ∀ b u, b ≠ e → h.get? b = some u → h'.get? b = some u) (heo : ∃ u, h'.get? e = some u)
    (new : ObjOk P w (upd H x o') h' x o') : HOk P w (upd H x o') h' := fun b u q => by
  have nown : ∀ c y, H c = some (.own y) → c ≠ x := fun c y r z => by subst z; rw [r] at mu; exact mu
  have ntup : ∀ c xs, H c = some (.tup xs) → c ≠ x := fun c xs r z => by subst z; rw [r] at mu; exact mu
  by_cases hb : b = x
  · subst hb; rw [upd_same] at q; cases q; exact new
  · rw [upd_ne hb] at q
    by_cases hbe : b = e
    · have q' : H b = some (.own x) := by
        rcases he with z | z
        · exact absurd (hbe.trans z) hb
        · rw [hbe]; exact z
      rw [q] at q'; cases q'
      obtain ⟨v, hv⟩ := heo
      exact ⟨v, by rw [hbe]; exact hv⟩
    · refine (ok b u q).stay (fun c v hc r => k c v ?_ r) (fun c r => by rw [upd_ne (nown c b r)]; exact r) fun c xs r => by rw [upd_ne (ntup c xs r)]; exact r
      rcases hc with rfl | hc
      · exact hbe
      · rintro rfl
        rcases he with z | z
        · exact nown c b hc z
        · rw [hc] at z; cases z; exact hb rfl
end

structure Un (fs ex : List Addr) (H H' : Hp) (h h' : Heap) : Prop where
  keep : ∀ b o, h.get? b = some o → H b = none → b ∉ fs → b ∉ ex → h'.get? b = some o
  slot : ∀ b o, h.get? b = some o → H b = none → b ∈ fs → b ∉ ex → ∃ sl, h'.get? b = some { o with slots := sl }
  free : ∀ b o, h.get? b = some o → H b = none → b ∉ ex → H' b = none
  there : ∀ b o, h.get? b = some o → b ∉ ex → ∃ o', h'.get? b = some o'
  tups : ∀ b xs, H b = some (.tup xs) → H' b = some (.tup xs)
  frzs : ∀ b o u, H b = some (.frz o u) → H' b = some (.frz o u)
  tbls : ∀ b ps, H b = some (.tbl ps) → ∃ more, H' b = some (.tbl (ps ++ more))
section
variable {fs fs' ex ex' : List Addr} {H H1 H2 : Hp} {h h1 h2 h' : Heap} {a x e : Addr} {o : HO}
theorem Un.any (u : Un fs ex H H1 h h1) {b : Addr} {ob : Obj} (q : h.get? b = some ob) (n : H b = none) (hx : b ∉ ex) : ∃ sl, h1.get? b = some { ob with slots := sl } := by
  by_cases hb : b ∈ fs
  · exact u.slot b ob q n hb hx
  · exact ⟨ob.slots, u.keep b ob q n hb hx⟩
theorem Un.trans (a : Un fs ex H H1 h h1) (b : Un fs ex H1 H2 h1 h2) : Un fs ex H H2 h h2 where
  keep := fun c ob q n hc hx => b.keep c ob (a.keep c ob q n hc hx) (a.free c ob q n hx) hc hx
  slot := fun c ob q n hc hx => by
    obtain ⟨sl, e1⟩ := a.slot c ob q n hc hx
    obtain ⟨sl', e2⟩ := b.slot c _ e1 (a.free c ob q n hx) hc hx
    exact ⟨sl', e2⟩
  free := fun c ob q n hx => by
    obtain ⟨o', e1⟩ := a.there c ob q hx
    exact b.free c o' e1 (a.free c ob q n hx) hx
  there := fun c ob q hx => by
    obtain ⟨o', e1⟩ := a.there c ob q hx
    exact b.there c o' e1 hx
  tups := fun c xs q => b.tups c xs (a.tups c xs q)
  frzs := fun c ob xs q => b.frzs c ob xs (a.frzs c ob xs q)
  tbls := fun c ps q => by
    obtain ⟨m1, e1⟩ := a.tbls c ps q
    obtain ⟨m2, e2⟩ := b.tbls c _ e1
    exact ⟨m1 ++ m2, by rw [e2, Array.append_assoc]⟩
theorem Un.kept (k : ∀ b u, h.get? b = some u → h'.get? b = some u) : Un fs ex H H h h' :=
  ⟨fun b ob q _ _ _ => k b ob q, fun b ob q _ _ _ => ⟨ob.slots, k b ob q⟩, fun _ _ _ n _ => n, fun b ob q _ => ⟨ob, k b ob q⟩, fun _ _ q => q, fun _ _ _ q => q, fun _ ps q => ⟨#[], by rw [q]; simp⟩⟩
theorem Un.refl : Un fs ex H H h h := Un.kept fun _ _ q => q
theorem Un.laid (k : ∀ b u, h.get? b = some u → h'.get? b = some u) (hp : h.objs.size ≤ a) (hn : H a = none) : Un fs ex H (upd H a o) h h' where
  keep := fun b u q _ _ _ => k b u q
  slot := fun b u q _ _ _ => ⟨u.slots, k b u q⟩
  free := fun b u q n _ => by rw [upd_ne (Nat.ne_of_lt (Nat.lt_of_lt_of_le (Heap.lt_size q) hp))]; exact n
  there := fun b u q _ => ⟨u, k b u q⟩
  tups := fun b xs q => by rw [upd_ne (ne_of_none q hn)]; exact q
  frzs := fun b u xs q => by rw [upd_ne (ne_of_none q hn)]; exact q
  tbls := fun b ps q => ⟨#[], by rw [upd_ne (ne_of_none q hn), q]; simp⟩
theorem Un.write (mu : Mut (H x)) (he : e = x ∨ H e = some (.own x)) (k : ∀ b u, b ≠ e → h.get? b = some u → h'.get? b = some u) (heo : ∃ u, h'.get? e = some u) : Un fs ex H (upd H x o) h h' := by
  have hx : ∀ b, H b = none → b ≠ x := fun b n z => by subst z; rw [n] at mu; exact mu
  have hb : ∀ b, H b = none → b ≠ e := fun b n z => by
    subst z
    rcases he with r | r
    · exact hx b n r
    · rw [n] at r; cases r
  have hm : ∀ b u, H b = some u → ¬ Mut (some u) → b ≠ x := fun b u q nm z => by subst z; rw [q] at mu; exact nm mu
  refine ⟨fun b u q n _ _ => k b u (hb b n) q, fun b u q n _ _ => ⟨u.slots, k b u (hb b n) q⟩, fun b u q n _ => by rw [upd_ne (hx b n)]; exact n, fun b u q _ => ?_,
    fun b xs q => by rw [upd_ne (hm b _ q fun z => z)]; exact q, fun b u xs q => by rw [upd_ne (hm b _ q fun z => z)]; exact q, fun b ps q => ⟨#[], by rw [upd_ne (hm b _ q fun z => z), q]; simp⟩⟩
  by_cases hbe : b = e
  · subst hbe; exact heo
  · exact ⟨u, k b u hbe q⟩
theorem Un.mono (u : Un fs ex H H1 h h1) (hs : ∀ b ∈ fs, b ∈ fs') (hx : ∀ b ∈ ex, b ∈ ex') : Un fs' ex' H H1 h h1 :=
  ⟨fun b ob q n hb he => u.keep b ob q n (fun z => hb (hs b z)) fun z => he (hx b z), fun _ _ q n _ he => u.any q n fun z => he (hx _ z), fun b ob q n he => u.free b ob q n fun z => he (hx b z), fun b ob q he => u.there b ob q fun z => he (hx b z), u.tups, u.frzs, u.tbls⟩
end

def trk (h : Heap) (H : Hp) : List Addr := (List.range h.objs.size).filter fun a => (H a).isSome
def hidT (h : Heap) (H : Hp) : Heap := PySem.W.hideAll h (trk h H)
theorem hidT_size (h : Heap) (H : Hp) : (hidT h H).objs.size = h.objs.size := PySem.W.hideAll_size _ _
theorem hidT_get {h : Heap} {H : Hp} {b : Addr} {o : Obj} (e : h.get? b = some o) (n : H b = none) : (hidT h H).get? b = some o :=
  PySem.W.hideAll_get _ e fun hm => by
    have q : (H b).isSome = true := (List.mem_filter.mp hm).2
    rw [n] at q; simp at q
theorem of_hidT {h : Heap} {H : Hp} {b : Addr} {o : Obj} (e : (hidT h H).get? b = some o) : h.get? b = some o ∧ H b = none := by
  have e' : h.get? b = some o := PySem.W.of_hideAll (trk h H) e
  refine ⟨e', ?_⟩
  cases q : H b with
  | none => rfl
  | some x =>
    have hm : b ∈ trk h H := List.mem_filter.mpr ⟨List.mem_range.mpr (Heap.lt_size e'), by simp [q]⟩
    have z : (hidT h H).get? b = none := PySem.W.hideAll_none (trk h H) hm
    rw [z] at e; cases e

def allNews (g h : Heap) (L : Addr) : List (Addr × Obj) := (List.range h.objs.size).filterMap fun a => if a = L ∨ (g.get? a).isSome = true then none else (h.get? a).map fun o => (a, o)
def rest (g h : Heap) (L d : Addr) : List (Addr × Obj) := (allNews g h L).filter fun p => decide (p.1 ≠ d)
end L2

namespace L2
open PySem PySem.Spec PyProof.Rows

structure Mod (K : PySem.W.Frag) (mg : Str → Option Value) (base : Heap) : Prop where
  kin : K.In base
  glob : base.Ns mainGlobals mg
  blt : ∃ mb, base.Ns builtinsNs mb ∧ ∀ x : Str, x ≠ "__name__" → mb x = bootBuiltins x
  nolimit : base.NoLimit

structure Cx where
  prog : Program
  w : World
  K : PySem.W.Frag
  mg : Str → Option Value
  base : Heap
  A : Around
  N : List Str
  s_0 : Shared
  H_0 : Hp
  env : Env
  outer : List Env
  stack : List Env
  ex : List Addr
  fn : Str → Bool
  calm : Bool
  pn : List (Addr × Obj)
  xe : Value → Shared → Prop
def frs (l : List Env) : List Addr := l.filterMap (·.frame)
abbrev Cx.fs (X : Cx) : List Addr := frs X.outer

def Vis (sc : Scope) (x : Str) : Prop := sc.names.lookup x = some .local ∨ sc.names.lookup x = some .cell ∨ sc.names.lookup x = some .free
def Loc (sc : Scope) (x : Str) : Prop := sc.names.lookup x = some .local ∨ sc.names.lookup x = some .cell
def Look (env : Env) (h : Heap) (m : Str → Option Value) (x : Str) (u : Value) : Prop :=
  (env.kindOf x = some .local ∧ m x = some u) ∨ ((env.kindOf x = some .cell ∨ env.kindOf x = some .free) ∧ ∃ c, env.cells.lookup x = some c ∧ h.IsCell c (some u))

structure Cx.Ok (X : Cx) : Prop where
  mod : Mod X.K X.mg X.base
  kind : X.env.scope.kind = .function
  glob : X.env.globals = mainGlobals
  blt : X.env.builtins = builtinsNs
  above : X.s_0.heap.objs.size ≤ X.env.locals
  inj : ∀ x y c, X.env.cells.lookup x = some c → X.env.cells.lookup y = some c → x = y
  has : ∀ x, (X.env.kindOf x = some .cell ∨ X.env.kindOf x = some .free) → ∃ c, X.env.cells.lookup x = some c
  cab : ∀ x c, X.fn x = true → X.env.cells.lookup x = some c → X.s_0.heap.objs.size ≤ c
  hd : X.calm = true → X.A.handled = none
  frames : X.A.frames = some X.stack
  stk : X.stack = X.outer ∨ (X.stack = X.env :: X.outer ∧ X.env.frame = some X.env.locals)
  exf : ∀ b ∈ X.ex, b ≠ X.env.locals ∧ ∀ x c, X.env.cells.lookup x = some c → c ≠ b
  bs : ∀ b o, X.base.get? b = some o → X.s_0.heap.get? b = some o ∧ X.H_0 b = none
  bsz : X.base.objs.size ≤ X.s_0.heap.objs.size
  noex : ∀ b o, X.base.get? b = some o → b ∉ X.ex
  exfs : ∀ b ∈ X.ex, b ∉ X.fs
  funs : X.s_0.heap.FunFrames X.base X.outer
  frf : ∀ b ∈ X.fs, X.H_0 b = none

structure Inv (X : Cx) (pins : List (Addr × Obj)) (σ : List (Option V)) (H : Hp) (s : Shared) : Prop where
  ok : X.Ok
  os : s.os = X.s_0.os
  bare : AllBare s.gens
  base : Un X.fs X.ex X.H_0 H X.s_0.heap s.heap
  loc : ∃ m, s.heap.Ns X.env.locals m ∧ ∀ (i : Nat) (x : Str) (v : V), X.N[i]? = some x → σ[i]? = some (some v) → Vis X.env.scope x → ∃ u, RelV v u ∧ Look X.env s.heap m x u
  cell : ∀ x c, X.env.cells.lookup x = some c → ∃ v, s.heap.IsCell c v
  free : H X.env.locals = none
  freeC : ∀ x c, X.env.cells.lookup x = some c → H c = none
  pin : ∀ p ∈ X.pn ++ pins, s.heap.get? p.1 = some p.2 ∧ H p.1 = none ∧ p.1 ≠ X.env.locals ∧ p.1 ∉ X.fs ∧ ∀ v, p.2.data ≠ .cell v
  hok : HOk X.prog X.w H s.heap
  len : σ.length = X.N.length

section
variable {X : Cx} {pins : List (Addr × Obj)} {σ : List (Option V)} {H H' : Hp} {s : Shared} {h' : Heap}

theorem Cx.Ok.nofr (ok : X.Ok) {b : Addr} {o : Obj} (e : X.base.get? b = some o) : b ∉ X.fs := fun hb => by
  have := (ok.funs.mem hb).1
  rw [e] at this; cases this
theorem Inv.bs (I : Inv X pins σ H s) : ∀ b o, X.base.get? b = some o → s.heap.get? b = some o ∧ H b = none := fun b o e =>
  ⟨I.base.keep b o (I.ok.bs b o e).1 (I.ok.bs b o e).2 (I.ok.nofr e) (I.ok.noex b o e), I.base.free b o (I.ok.bs b o e).1 (I.ok.bs b o e).2 (I.ok.noex b o e)⟩
theorem Inv.bk (I : Inv X pins σ H s) : ∀ b o, X.base.get? b = some o → s.heap.get? b = some o := fun b o e => (I.bs b o e).1
theorem Inv.mod (I : Inv X pins σ H s) : Mod X.K X.mg X.base := I.ok.mod
theorem Inv.kIn (I : Inv X pins σ H s) : X.K.In s.heap := I.ok.mod.kin.keeps I.bk
theorem Inv.nolimit (I : Inv X pins σ H s) : s.heap.NoLimit := I.ok.mod.nolimit.keeps I.bk
theorem Inv.fr (I : Inv X pins σ H s) : ∃ m, Fr X.base X.env.locals s.heap m :=
  let ⟨m, hn, _⟩ := I.loc
  ⟨m, hn, I.bk, Nat.le_trans I.ok.bsz I.ok.above⟩
theorem Inv.lt (I : Inv X pins σ H s) : X.env.locals < s.heap.objs.size := let ⟨_, hn, _⟩ := I.loc; hn.lt
theorem Inv.sz (I : Inv X pins σ H s) : X.s_0.heap.objs.size ≤ s.heap.objs.size := Nat.le_trans I.ok.above (Nat.le_of_lt I.lt)
theorem Inv.nofs (I : Inv X pins σ H s) {a : Addr} (h : s.heap.objs.size ≤ a) : a ∉ X.fs := fun hb => by
  obtain ⟨_, o, ho, _⟩ := I.ok.funs.mem hb
  exact absurd (Nat.lt_of_lt_of_le (Heap.lt_size ho) (Nat.le_trans I.sz h)) (Nat.lt_irrefl _)
theorem Inv.cne (I : Inv X pins σ H s) : ∀ x c, X.env.cells.lookup x = some c → c ≠ X.env.locals := fun x c e z => by
  obtain ⟨v, o, ho, hd⟩ := I.cell x c e
  obtain ⟨m, ⟨o', es, ep, ho', hd', _⟩, _⟩ := I.loc
  rw [z, ho'] at ho; cases ho; rw [hd'] at hd; cases hd
theorem Inv.funs (I : Inv X pins σ H s) : s.heap.FunFrames X.base X.outer := by
  have all : ∀ (l : List Env), (∀ b ∈ frs l, b ∈ X.fs) → X.s_0.heap.FunFrames X.base l → s.heap.FunFrames X.base l := by
    intro l
    induction l with
    | nil => intro _ _; trivial
    | cons env r ih =>
      intro hs hl
      obtain ⟨hk, ⟨L, o, hf, hn, ho, hd⟩, hr⟩ := hl
      have hL : L ∈ X.fs := hs L (by unfold frs; rw [List.filterMap_cons, hf]; exact List.mem_cons_self)
      obtain ⟨sl, e⟩ := I.base.slot L o ho (I.ok.frf L hL) hL fun z => I.ok.exfs L z hL
      exact ⟨hk, ⟨L, _, hf, hn, e, hd⟩, ih (fun b hb => hs b (by unfold frs; rw [List.filterMap_cons, hf]; exact List.mem_cons_of_mem _ hb)) hr⟩
  exact all X.outer (fun _ hb => hb) I.ok.funs

theorem Inv.stack (I : Inv X pins σ H s) : s.heap.FunFrames X.base X.stack := by
  rcases I.ok.stk with e | ⟨e, hf⟩
  · rw [e]; exact I.funs
  · rw [e]
    obtain ⟨m, hn, _⟩ := I.loc
    refine .cons (by rw [I.ok.kind]; decide) hf hn ?_ I.funs
    exact Heap.get?_none_of_le (Nat.le_trans I.ok.bsz I.ok.above)
theorem Inv.stkSub (I : Inv X pins σ H s) : ∀ b ∈ frs X.stack, b ∈ X.env.locals :: X.fs := fun b hb => by
  rcases I.ok.stk with e | ⟨e, hf⟩
  · rw [e] at hb; exact List.mem_cons_of_mem _ hb
  · rw [e] at hb
    unfold frs at hb
    rw [List.filterMap_cons, hf] at hb
    exact hb
theorem Inv.stkFree (I : Inv X pins σ H s) : ∀ b ∈ frs X.stack, H b = none := fun b hb => by
  rcases List.mem_cons.mp (I.stkSub b hb) with e | hb
  · rw [e]; exact I.free
  · obtain ⟨_, o, ho, _⟩ := I.ok.funs.mem hb
    exact I.base.free b o ho (I.ok.frf b hb) fun z => I.ok.exfs b z hb

theorem Inv.step {g' : Array GenState} {t' : Nat} {d' : Drawn} {ch : List Addr} (I : Inv X pins σ H s)
    (hch : ∀ b ∈ ch, (b ∈ X.ex ∨ X.s_0.heap.objs.size ≤ b) ∧ b ≠ X.env.locals ∧ (∀ x c, X.env.cells.lookup x = some c → c ≠ b) ∧ ∀ p ∈ X.pn ++ pins, p.1 ≠ b)
    (keep : ∀ b o, b ≠ X.env.locals → b ∉ X.fs → b ∉ ch → s.heap.get? b = some o → H b = none → h'.get? b = some o)
    (slot : ∀ b o, b ≠ X.env.locals → b ∈ X.fs → b ∉ ch → s.heap.get? b = some o → H b = none → ∃ sl, h'.get? b = some { o with slots := sl }) (free : ∀ b o, b ∉ ch → s.heap.get? b = some o → H b = none → H' b = none)
    (there : ∀ b o, b ∉ ch → s.heap.get? b = some o → ∃ o', h'.get? b = some o')
    (tups : ∀ b xs, H b = some (.tup xs) → H' b = some (.tup xs)) (frzs : ∀ b o u, H b = some (.frz o u) → H' b = some (.frz o u)) (tbls : ∀ b ps, H b = some (.tbl ps) → ∃ more, H' b = some (.tbl (ps ++ more)))
    (ns : ∀ m, s.heap.Ns X.env.locals m → h'.Ns X.env.locals m) (hok : HOk X.prog X.w H' h') (hg : AllBare g') :
    Inv X pins σ H' { s with heap := h', gens := g', drawn := d', toks := t' } := by
  have neL : ∀ b o, X.s_0.heap.get? b = some o → b ≠ X.env.locals := fun b o e => Nat.ne_of_lt (Nat.lt_of_lt_of_le (Heap.lt_size e) I.ok.above)
  have neC : ∀ b o, X.s_0.heap.get? b = some o → b ∉ X.ex → b ∉ ch := fun b o e hx hb => by
    rcases (hch b hb).1 with z | z
    · exact hx z
    · exact absurd (Nat.lt_of_lt_of_le (Heap.lt_size e) z) (Nat.lt_irrefl _)
  have cellK : ∀ x c, X.env.cells.lookup x = some c → ∀ v, s.heap.IsCell c v → h'.IsCell c v := fun x c e v ⟨o, ho, hd⟩ => by
    have nch : c ∉ ch := fun z => (hch c z).2.2.1 x c e rfl
    by_cases hc : c ∈ X.fs
    · obtain ⟨sl, q⟩ := slot c o (I.cne x c e) hc nch ho (I.freeC x c e)
      exact ⟨_, q, hd⟩
    · exact ⟨o, keep c o (I.cne x c e) hc nch ho (I.freeC x c e), hd⟩
  refine ⟨I.ok, I.os, hg, ⟨fun b o e n hb hx => ?_, fun b o e n hb hx => ?_, fun b o e n hx => ?_, fun b o e hx => ?_, fun b xs e => tups b xs (I.base.tups b xs e), fun b o xs e => frzs b o xs (I.base.frzs b o xs e), fun b ps e => ?_⟩, ?_, fun x c e => ?_, ?_, fun x c e => ?_, fun p hp => ?_, hok, I.len⟩
  · exact keep b o (neL b o e) hb (neC b o e hx) (I.base.keep b o e n hb hx) (I.base.free b o e n hx)
  · obtain ⟨sl, e1⟩ := I.base.slot b o e n hb hx
    obtain ⟨sl', e2⟩ := slot b _ (neL b o e) hb (neC b o e hx) e1 (I.base.free b o e n hx)
    exact ⟨sl', e2⟩
  · obtain ⟨o', e1⟩ := I.base.there b o e hx
    exact free b o' (neC b o e hx) e1 (I.base.free b o e n hx)
  · obtain ⟨o', e1⟩ := I.base.there b o e hx
    exact there b o' (neC b o e hx) e1
  · obtain ⟨m1, e1⟩ := I.base.tbls b ps e
    obtain ⟨m2, e2⟩ := tbls b _ e1
    exact ⟨m1 ++ m2, by rw [e2, Array.append_assoc]⟩
  · obtain ⟨m, hn, hl⟩ := I.loc
    refine ⟨m, ns m hn, fun i x v e1 e2 e3 => ?_⟩
    obtain ⟨u, r, l⟩ := hl i x v e1 e2 e3
    refine ⟨u, r, ?_⟩
    rcases l with l | ⟨k, c, e, z⟩
    · exact .inl l
    · exact .inr ⟨k, c, e, cellK x c e _ z⟩
  · obtain ⟨v, z⟩ := I.cell x c e
    exact ⟨v, cellK x c e v z⟩
  · obtain ⟨m, ⟨o, _, _, ho, _⟩, _⟩ := I.loc
    exact free _ o (fun z => (hch _ z).2.1 rfl) ho I.free
  · obtain ⟨v, o, ho, hd⟩ := I.cell x c e
    exact free c o (fun z => (hch c z).2.2.1 x c e rfl) ho (I.freeC x c e)
  · obtain ⟨e, n, ne, nf, d⟩ := I.pin p hp
    have nch : p.1 ∉ ch := fun z => (hch p.1 z).2.2.2 p hp rfl
    exact ⟨keep p.1 p.2 ne nf nch e n, free p.1 p.2 nch e n, ne, nf, d⟩
theorem Inv.un {t' : Nat} (I : Inv X pins σ H s) (u : Un X.fs [] H H' s.heap h') (hok : HOk X.prog X.w H' h') : Inv X pins σ H' { s with heap := h', toks := t' } := by
  obtain ⟨m, ⟨o, es, ep, ho, r⟩, _⟩ := id I.loc
  obtain ⟨sl, hL⟩ := u.any ho I.free (by simp)
  exact I.step (g' := s.gens) (d' := s.drawn) (ch := []) (fun _ z => nomatch z) (fun b o _ hb _ e n => u.keep b o e n hb (by simp)) (fun b o _ hb _ e n => u.slot b o e n hb (by simp)) (fun b o _ e n => u.free b o e n (by simp)) (fun b o _ e => u.there b o e (by simp)) u.tups u.frzs u.tbls (fun m' hm => by
    obtain ⟨o', es', ep', ho', r'⟩ := hm
    rw [ho] at ho'; cases ho'
    exact ⟨_, es', ep', hL, r'⟩) hok I.bare
theorem Inv.call {g' : Array GenState} {t' : Nat} {d' : Drawn} {ch : List Addr} (I : Inv X pins σ H s) (u : Un (frs X.stack) ch H H' s.heap h') (hok : HOk X.prog X.w H' h') (hg : AllBare g')
    (hch : ∀ b ∈ ch, (b ∈ X.ex ∨ X.s_0.heap.objs.size ≤ b) ∧ b ≠ X.env.locals ∧ (∀ x c, X.env.cells.lookup x = some c → c ≠ b) ∧ ∀ p ∈ X.pn ++ pins, p.1 ≠ b) :
    Inv X pins σ H' { s with heap := h', gens := g', drawn := d', toks := t' } := by
  obtain ⟨m, ⟨o, es, ep, ho, r⟩, _⟩ := id I.loc
  obtain ⟨sl, hL⟩ := u.any ho I.free fun z => (hch _ z).2.1 rfl
  exact I.step (ch := ch) hch (fun b o hL hb hc e n => u.keep b o e n (fun z => (List.mem_cons.mp (I.stkSub b z)).elim hL hb) hc) (fun b o _ _ hc e n => u.any e n hc) (fun b o hc e n => u.free b o e n hc) (fun b o hc e => u.there b o e hc) u.tups u.frzs u.tbls (fun m' hm => by
    obtain ⟨o', es', ep', ho', r'⟩ := hm
    rw [ho] at ho'; cases ho'
    exact ⟨_, es', ep', hL, r'⟩) hok hg
theorem Inv.turned {t' : Nat} {it : Addr} (I : Inv X pins σ H s) (k : ∀ b o, b ≠ it → s.heap.get? b = some o → h'.get? b = some o) (hn : H it = none) (hL : it ≠ X.env.locals)
    (h1 : it ∈ X.ex ∨ X.s_0.heap.objs.size ≤ it) (h2 : ∀ x c, X.env.cells.lookup x = some c → c ≠ it) (h3 : ∀ p ∈ X.pn ++ pins, p.1 ≠ it) : Inv X pins σ H { s with heap := h', toks := t' } := by
  have nit : ∀ b u, H b = some u → b ≠ it := fun b u e z => by rw [z, hn] at e; cases e
  refine I.step (g' := s.gens) (d' := s.drawn) (ch := [it]) (fun b hb => ?_) (fun b o _ _ hc e _ => k b o (fun z => hc (by simp [z])) e) (fun b o _ _ hc e _ => ⟨o.slots, k b o (fun z => hc (by simp [z])) e⟩) (fun _ _ _ _ n => n)
    (fun b o hc e => ⟨o, k b o (fun z => hc (by simp [z])) e⟩) (fun _ _ e => e) (fun _ _ _ e => e) (fun b ps e => ⟨#[], by rw [e]; simp⟩) (fun m hm => ?_) (fun b u e => ?_) I.bare
  · have e : b = it := by simpa using hb
    subst e
    exact ⟨h1, hL, h2, h3⟩
  · obtain ⟨o, es, ep, ho, r⟩ := hm
    exact ⟨o, es, ep, k _ o (Ne.symm hL) ho, r⟩
  · refine (I.hok b u e).stay (fun c v hc q => k c v ?_ q) (fun _ q => q) fun _ _ q => q
    rcases hc with z | z
    · rw [z]; exact nit b u e
    · exact nit c _ z
theorem Inv.tok (I : Inv X pins σ H s) (t : Nat) : Inv X pins σ H { s with toks := t } := I.un (h' := s.heap) (t' := t) Un.refl I.hok
theorem Inv.kept {t' : Nat} (I : Inv X pins σ H s) (k : ∀ b u, s.heap.get? b = some u → h'.get? b = some u) : Inv X pins σ H { s with heap := h', toks := t' } := I.un (Un.kept k) (I.hok.kept k)
theorem Inv.laid {a : Addr} {o : HO} {t' : Nat} (I : Inv X pins σ H s) (k : ∀ b u, s.heap.get? b = some u → h'.get? b = some u) (hp : s.heap.objs.size ≤ a) (new : ObjOk X.prog X.w (upd H a o) h' a o) :
    Inv X pins σ (upd H a o) { s with heap := h', toks := t' } := I.un (Un.laid k hp (I.hok.fresh hp)) (I.hok.laid k hp new)
theorem Inv.write {x e : Addr} {o : HO} {t' : Nat} (I : Inv X pins σ H s) (mu : Mut (H x)) (he : e = x ∨ H e = some (.own x)) (k : ∀ b u, b ≠ e → s.heap.get? b = some u → h'.get? b = some u) (heo : ∃ u, h'.get? e = some u)
    (new : ObjOk X.prog X.w (upd H x o) h' x o) : Inv X pins σ (upd H x o) { s with heap := h', toks := t' } := I.un (Un.write mu he k heo) (I.hok.write mu he k heo new)
theorem Inv.weak {σ' : List (Option V)} (I : Inv X pins σ H s) (hl : σ'.length = σ.length) (w : ∀ (i : Nat) v, σ'[i]? = some (some v) → σ[i]? = some (some v)) : Inv X pins σ' H s :=
  ⟨I.ok, I.os, I.bare, I.base, let ⟨m, hn, hl'⟩ := I.loc; ⟨m, hn, fun i x v e1 e2 e3 => hl' i x v e1 (w i v e2) e3⟩, I.cell, I.free, I.freeC, I.pin, I.hok, hl.trans I.len⟩
theorem Inv.pins_of {pins' : List (Addr × Obj)} (I : Inv X pins σ H s) (h : ∀ p ∈ pins', s.heap.get? p.1 = some p.2 ∧ H p.1 = none ∧ p.1 ≠ X.env.locals ∧ p.1 ∉ X.fs ∧ ∀ v, p.2.data ≠ .cell v) : Inv X pins' σ H s :=
  ⟨I.ok, I.os, I.bare, I.base, I.loc, I.cell, I.free, I.freeC, fun p hp => (List.mem_append.mp hp).elim (fun z => I.pin p (List.mem_append_left _ z)) (h p), I.hok, I.len⟩

theorem nodup_ix {N : List Str} (hN : N.Nodup) {i j : Nat} {x : Str} (a : N[i]? = some x) (b : N[j]? = some x) : i = j := by
  obtain ⟨h1, e1⟩ := List.getElem?_eq_some_iff.mp a
  obtain ⟨h2, e2⟩ := List.getElem?_eq_some_iff.mp b
  exact (List.getElem_inj hN).mp (e1.trans e2.symm)

theorem store_ok2 {M : Model} {A : Around} {E : Value → Shared → Prop} {i : Nat} {x : Str} {v : V} {u : Value} {Q : Unit → Shared → Prop} (I : Inv X pins σ H s) (hN : X.N.Nodup) (hi : X.N[i]? = some x) (hx : Loc X.env.scope x) (r : RelV v u)
    (h : ∀ s', Inv X pins (σ.set i (some v)) H s' → (∃ a, Heap.SameBut a s.heap s'.heap ∧ (a = X.env.locals ∨ X.env.cells.lookup x = some a)) → Q () s') (hf : X.fn x = true ∨ X.env.scope.names.lookup x = some .local := by first | exact .inl rfl | exact .inr rfl | assumption) : wpAny M A (storeName X.env x u) Q E s := by
  obtain ⟨m, hn, hl⟩ := id I.loc
  have hcls : (X.env.scope.kind == .class || (X.env.scope.kind == .module && X.env.locals != X.env.globals)) = false := by rw [I.ok.kind]; rfl
  have hiσ : i < σ.length := by rw [I.len]; exact (List.getElem?_eq_some_iff.mp hi).1
  have cne := I.cne
  have tracked : ∀ {a : Addr} {h' : Heap}, (∃ o, s.heap.get? a = some o ∧ H a = none) → Heap.SameBut a s.heap h' → HOk X.prog X.w H h' := fun {a h'} ha hs b ob e => by
    obtain ⟨_, _, hfree⟩ := ha
    refine (I.hok b ob e).stay (fun c w' hc q => (hs.2 c ?_).trans q) (fun _ q => q) fun _ _ q => q
    rintro rfl
    rcases hc with rfl | hc
    · rw [hfree] at e; cases e
    · rw [hfree] at hc; cases hc
  rcases hx with hk | hk
  · refine wpAny_storeName_local hk hn (fun h' hn' hs => ?_) hcls
    obtain ⟨oL, _, _, hoL, _⟩ := id hn
    refine h _ ⟨I.ok, I.os, I.bare, ⟨fun b o e n hb hx => ?_, fun b o e n hb hx => ?_, I.base.free, fun b o e hx => ?_, I.base.tups, I.base.frzs, I.base.tbls⟩, ⟨_, hn', fun j y v' e1 e2 e3 => ?_⟩, fun y c e => ?_, I.free, I.freeC, fun p hp => ?_, tracked ⟨oL, hoL, I.free⟩ hs, by simpa using I.len⟩ ⟨_, hs, .inl rfl⟩
    · exact (hs.2 b (Nat.ne_of_lt (Nat.lt_of_lt_of_le (Heap.lt_size e) I.ok.above))).trans (I.base.keep b o e n hb hx)
    · obtain ⟨sl, e1⟩ := I.base.slot b o e n hb hx
      exact ⟨sl, (hs.2 b (Nat.ne_of_lt (Nat.lt_of_lt_of_le (Heap.lt_size e) I.ok.above))).trans e1⟩
    · obtain ⟨o', e1⟩ := I.base.there b o e hx
      exact ⟨o', (hs.2 b (Nat.ne_of_lt (Nat.lt_of_lt_of_le (Heap.lt_size e) I.ok.above))).trans e1⟩
    · by_cases hj : j = i
      · subst hj
        rw [hi] at e1; cases e1
        rw [List.getElem?_set_self hiσ] at e2
        cases e2
        exact ⟨u, r, .inl ⟨hk, by simp⟩⟩
      · rw [List.getElem?_set_ne (Ne.symm hj)] at e2
        obtain ⟨u', r', q⟩ := hl j y v' e1 e2 e3
        refine ⟨u', r', ?_⟩
        rcases q with ⟨k, e⟩ | ⟨k, c, e, z⟩
        · refine .inl ⟨k, ?_⟩
          have : y ≠ x := fun e => hj (nodup_ix hN e1 (e ▸ hi))
          simp [this, e]
        · exact .inr ⟨k, c, e, z.sameBut hs (cne y c e)⟩
    · obtain ⟨w', z⟩ := I.cell y c e
      exact ⟨w', z.sameBut hs (cne y c e)⟩
    · obtain ⟨e, n, ne, nf, d⟩ := I.pin p hp
      exact ⟨(hs.2 p.1 ne).trans e, n, ne, nf, d⟩
  · have hfn : X.fn x = true := by
      rcases hf with z | z
      · exact z
      · rw [z] at hk; cases hk
    obtain ⟨c, hc⟩ := I.ok.has x (.inl hk)
    obtain ⟨w', z⟩ := I.cell x c hc
    refine wpAny_storeName_cell I.ok.kind hk hc z (fun h' hc' hs => ?_)
    obtain ⟨oc, hoc, hocd⟩ := id z
    refine h { s with heap := h' } ⟨I.ok, I.os, I.bare, ⟨fun b o e n hb hx => ?_, fun b o e n hb hx => ?_, I.base.free, fun b o e hx => ?_, I.base.tups, I.base.frzs, I.base.tbls⟩, ⟨m, hn.sameBut hs (Ne.symm (cne x c hc)), fun j y v' e1 e2 e3 => ?_⟩, fun y c' e => ?_, I.free, I.freeC, fun p hp => ?_, tracked ⟨oc, hoc, I.freeC x c hc⟩ hs, by simpa using I.len⟩ ⟨c, hs, .inr hc⟩
    · exact (hs.2 b (Nat.ne_of_lt (Nat.lt_of_lt_of_le (Heap.lt_size e) (I.ok.cab x c hfn hc)))).trans (I.base.keep b o e n hb hx)
    · obtain ⟨sl, e1⟩ := I.base.slot b o e n hb hx
      exact ⟨sl, (hs.2 b (Nat.ne_of_lt (Nat.lt_of_lt_of_le (Heap.lt_size e) (I.ok.cab x c hfn hc)))).trans e1⟩
    · obtain ⟨o', e1⟩ := I.base.there b o e hx
      exact ⟨o', (hs.2 b (Nat.ne_of_lt (Nat.lt_of_lt_of_le (Heap.lt_size e) (I.ok.cab x c hfn hc)))).trans e1⟩
    · by_cases hj : j = i
      · subst hj
        rw [hi] at e1; cases e1
        rw [List.getElem?_set_self hiσ] at e2
        cases e2
        exact ⟨u, r, .inr ⟨.inl hk, c, hc, hc'⟩⟩
      · rw [List.getElem?_set_ne (Ne.symm hj)] at e2
        obtain ⟨u', r', q⟩ := hl j y v' e1 e2 e3
        refine ⟨u', r', ?_⟩
        rcases q with q | ⟨k, c', e, z'⟩
        · exact .inl q
        · refine .inr ⟨k, c', e, z'.sameBut hs ?_⟩
          rintro rfl
          exact hj (nodup_ix hN e1 (I.ok.inj _ _ _ e hc ▸ hi))
    · by_cases hcc : c' = c
      · subst hcc; exact ⟨_, hc'⟩
      · obtain ⟨w2, z2⟩ := I.cell y c' e
        exact ⟨w2, z2.sameBut hs hcc⟩
    · obtain ⟨e, n, ne, nf, d⟩ := I.pin p hp
      refine ⟨(hs.2 p.1 ?_).trans e, n, ne, nf, d⟩
      intro q
      rw [q, hoc] at e
      have q' : oc = p.2 := Option.some.inj e
      exact d w' (by rw [← q']; exact hocd)
theorem store_ok {M : Model} {A : Around} {E : Value → Shared → Prop} {i : Nat} {x : Str} {v : V} {u : Value} {Q : Unit → Shared → Prop} (I : Inv X pins σ H s) (hN : X.N.Nodup) (hi : X.N[i]? = some x) (hx : Loc X.env.scope x) (r : RelV v u)
    (h : ∀ s', Inv X pins (σ.set i (some v)) H s' → Q () s') (hf : X.fn x = true ∨ X.env.scope.names.lookup x = some .local := by first | exact .inl rfl | exact .inr rfl | assumption) : wpAny M A (storeName X.env x u) Q E s :=
  store_ok2 I hN hi hx r (fun s' I' _ => h s' I') hf
theorem Inv.call' {s' : Shared} {ch : List Addr} (I : Inv X pins σ H s) (ho : s'.os = s.os) (u : Un (frs X.stack) ch H H' s.heap s'.heap) (hok : HOk X.prog X.w H' s'.heap) (hg : AllBare s'.gens)
    (hch : ∀ b ∈ ch, (b ∈ X.ex ∨ X.s_0.heap.objs.size ≤ b) ∧ b ≠ X.env.locals ∧ (∀ x c, X.env.cells.lookup x = some c → c ≠ b) ∧ ∀ p ∈ X.pn ++ pins, p.1 ≠ b) : Inv X pins σ H' s' := by
  obtain ⟨h', g', d', t', o'⟩ := s'
  have e : o' = s.os := ho
  subst e
  exact I.call (g' := g') (t' := t') (d' := d') u hok hg hch
end

abbrev XK := Value → Option Addr → Hp → Prop
abbrev St := List (Option V)
abbrev VK := V → Hp → Prop
abbrev TE := St → Hp → VK → Prop
abbrev TT := St → Hp → (Bool → Hp → Prop) → Prop
abbrev TA := St → Hp → (List V → Hp → Prop) → Prop
structure Ends where
  nx : St → Hp → Prop
  rt : VK
  bk : St → Hp → Prop := fun _ _ => False
  ct : St → Hp → Prop := fun _ _ => False
abbrev TS := Ends → St → Hp → Prop

def EP (X : Cx) (pins : List (Addr × Obj)) (σ : St) (Q : VK) (u : Value) (s' : Shared) : Prop := ∃ v H', Inv X pins σ H' s' ∧ RelV v u ∧ Q v H'
def TP (X : Cx) (pins : List (Addr × Obj)) (σ : St) (Q : Bool → Hp → Prop) (b : Bool) (s' : Shared) : Prop := ∃ H', Inv X pins σ H' s' ∧ Q b H'
def AP (X : Cx) (pins : List (Addr × Obj)) (σ : St) (Q : List V → Hp → Prop) (us : List Value) (s' : Shared) : Prop := ∃ vs H', Inv X pins σ H' s' ∧ Vals vs us ∧ Q vs H'
def SP (X : Cx) (pins : List (Addr × Obj)) (D : Ends) (f : Flow) (s' : Shared) : Prop :=
  match f with
  | .next => ∃ σ' H', Inv X pins σ' H' s' ∧ D.nx σ' H'
  | .brk => ∃ σ' H', Inv X pins σ' H' s' ∧ D.bk σ' H'
  | .cont => ∃ σ' H', Inv X pins σ' H' s' ∧ D.ct σ' H'
  | .ret u => ∃ v σ' H', Inv X pins σ' H' s' ∧ RelV v u ∧ D.rt v H'

def PE (X : Cx) (e : Expr) (t : TE) : Prop :=
  ∀ (pins : List (Addr × Obj)) (s : Shared) (σ : St) (H : Hp) (Q : VK), Inv X pins σ H s → t σ H Q → wpAny (model X.prog X.w) X.A (eval e X.env) (EP X pins σ Q) X.xe s
def PT (X : Cx) (e : Expr) (t : TT) : Prop :=
  ∀ (pins : List (Addr × Obj)) (s : Shared) (σ : St) (H : Hp) (Q : Bool → Hp → Prop), Inv X pins σ H s → t σ H Q → wpAny (model X.prog X.w) X.A (isTrue e X.env (eval e X.env)) (TP X pins σ Q) X.xe s
def PW (X : Cx) (e : Expr) (t : TT) : Prop :=
  ∀ (whole : Sem Value) (pins : List (Addr × Obj)) (s : Shared) (σ : St) (H : Hp) (Q : Bool → Hp → Prop), Inv X pins σ H s → t σ H Q → wpAny (model X.prog X.w) X.A (isTrue e X.env whole) (TP X pins σ Q) X.xe s
theorem PW.pt {X : Cx} {e : Expr} {t : TT} (h : PW X e t) : PT X e t := h _
def PA (X : Cx) (es : List Expr) (t : TA) : Prop :=
  ∀ (pos : Pos) (pins : List (Addr × Obj)) (s : Shared) (σ : St) (H : Hp) (Q : List V → Hp → Prop), Inv X pins σ H s → t σ H Q → wpAny (model X.prog X.w) X.A (spliced (backTo pos (starEach es X.env))) (AP X pins σ Q) X.xe s
def PS (X : Cx) (st : Stmt) (t : TS) : Prop :=
  ∀ (pins : List (Addr × Obj)) (s : Shared) (σ : St) (H : Hp) (D : Ends), Inv X pins σ H s → t D σ H → wpAny (model X.prog X.w) X.A (exec st X.env) (SP X pins D) X.xe s
def PSs (X : Cx) (st : List Stmt) (t : TS) : Prop :=
  ∀ (pins : List (Addr × Obj)) (s : Shared) (σ : St) (H : Hp) (D : Ends), Inv X pins σ H s → t D σ H → wpAny (model X.prog X.w) X.A (execs st X.env) (SP X pins D) X.xe s
theorem thn {α : Type} {t : Sem α} {Q Q' : α → Shared → Prop} {M : Model} {A : Around} {E : Value → Shared → Prop} {s : Shared} (h : wpAny M A t Q E s) (hQ : ∀ a s, Q a s → Q' a s) : wpAny M A t Q' E s := wpAny_mono h hQ fun _ _ x => x
end L2

namespace L2
open PySem PySem.Spec PyProof.Rows
section
variable {X : Cx}

def tVar (i : Nat) : TE := fun σ H Q => ∃ v, σ[i]? = some (some v) ∧ Q v H
def tC (v : V) : TE := fun _ H Q => Q v H
theorem pe_var {i : Nat} {x : Str} {pos : Pos} (hN : X.N[i]? = some x) (hv : Vis X.env.scope x) (hd : (x == ("__debug__" : Str)) = false := by decide) (hcd : (x == ("__classdict__" : Str)) = false := by decide) : PE X (.Name x pos) (tVar i) := by
  intro pins s σ H Q I h
  obtain ⟨v, e, h⟩ := h
  obtain ⟨m, hn, hl⟩ := I.loc
  obtain ⟨u, r, l⟩ := hl i x v hN e hv
  have fin : EP X pins σ Q u s := ⟨v, H, I, r, h⟩
  rcases l with ⟨hk, hm⟩ | ⟨hk, c, hc, hcell⟩
  · exact wpAny_Name (wpAny_loadName_local I.ok.kind hk hn hm fin) hd
  · rcases hk with hk | hk
    · exact wpAny_Name (wpAny_loadName_cell I.ok.kind hk hc hcell fin) hd
    · exact wpAny_Name (wpAny_loadName_free I.ok.kind hk hc hcell fin hcd) hd
theorem pe_int {i j pos} : PE X (.Constant (.int i) j pos) (tC (.int i)) := fun _ _ _ H _ I h => wpAny_Constant_int ⟨.int i, H, I.tok _, ⟨_, rfl⟩, h⟩
theorem pe_str {x j pos} : PE X (.Constant (.str x) j pos) (tC (.str x)) := fun _ _ _ H _ I h => Calls.Constant_str ⟨.str x, H, I.tok _, ⟨_, rfl⟩, h⟩

def Gl (X : Cx) (x : Str) : Prop := X.env.kindOf x = some .globalImplicit
theorem ld_glob {E : Value → Shared → Prop} {pins : List (Addr × Obj)} {s : Shared} {σ : St} {H : Hp} {x : Str} {u : Value} {pos : Pos} {Q : Value → Shared → Prop} (I : Inv X pins σ H s) (hg : Gl X x) (hm : X.mg x = some u) (h : Q u s)
    (hd : (x == ("__debug__" : Str)) = false := by decide) : wpAny (model X.prog X.w) X.A (eval (.Name x pos) X.env) Q E s :=
  Calls.Name_function_global I.ok.kind hg (Calls.loadGlobal_global (by rw [I.ok.glob]; exact I.mod.glob.keeps I.bk) hm h) hd
theorem ld_blt {E : Value → Shared → Prop} {pins : List (Addr × Obj)} {s : Shared} {σ : St} {H : Hp} {x : Str} {u : Value} {pos : Pos} {Q : Value → Shared → Prop} (I : Inv X pins σ H s) (hg : Gl X x) (hm : X.mg x = none) (hv : bootBuiltins x = some u) (h : Q u s)
    (hn : x ≠ "__name__" := by decide) (hd : (x == ("__debug__" : Str)) = false := by decide) : wpAny (model X.prog X.w) X.A (eval (.Name x pos) X.env) Q E s := by
  obtain ⟨mb, h1, h2⟩ := I.mod.blt
  exact Calls.Name_function_global I.ok.kind hg (Calls.loadGlobal_builtin (by rw [I.ok.glob]; exact I.mod.glob.keeps I.bk) hm (by rw [I.ok.blt]; exact h1.keeps I.bk) ((h2 x hn).trans hv) h) hd
theorem pe_glob {x : Str} {v : V} {u : Value} {pos : Pos} (hg : Gl X x) (hm : X.mg x = some u) (r : RelV v u) (hd : (x == ("__debug__" : Str)) = false := by decide) : PE X (.Name x pos) (tC v) :=
  fun _ _ _ H _ I h => ld_glob I hg hm ⟨v, H, I, r, h⟩ hd
variable {a b : Expr} {ta tb : TE} {pos : Pos}
def tB (t : TE) : TT := fun σ H Q => t σ H fun x H1 => ∃ c, x = .bl c ∧ Q c H1
variable {tA tB' : TT} {rest : List Expr}
def tAnd (t u : TT) : TT := fun σ H Q => t σ H fun c H1 => if c = true then u σ H1 Q else Q false H1
def tOr (t u : TT) : TT := fun σ H Q => t σ H fun c H1 => if c = true then Q true H1 else u σ H1 Q
def tNot (t : TT) : TT := fun σ H Q => t σ H fun c H1 => Q (!c) H1
theorem pw_and1 (ha : PT X a tA) : PW X (.BoolOp .And [a] pos) tA := by
  intro wh pins s σ H Q I h
  refine isTrue_and (thn (ha pins s σ H Q I h) fun c s1 e => ?_)
  cases c with
  | true => exact isTrue_and_nil e
  | false => exact e
theorem pw_or1 (ha : PT X a tA) : PW X (.BoolOp .Or [a] pos) tA := by
  intro wh pins s σ H Q I h
  refine isTrue_or (thn (ha pins s σ H Q I h) fun c s1 e => ?_)
  cases c with
  | false => exact isTrue_or_nil e
  | true => exact e
theorem pw_and (ha : PT X a tA) (hb : PW X (.BoolOp .And (b :: rest) pos) tB') : PW X (.BoolOp .And (a :: b :: rest) pos) (tAnd tA tB') := by
  intro wh pins s σ H Q I h
  refine isTrue_and (thn (ha pins s σ H _ I h) fun c s1 ⟨H1, I1, q1⟩ => ?_)
  cases c with
  | true => exact hb wh pins s1 σ H1 Q I1 q1
  | false => exact ⟨H1, I1, q1⟩
theorem pw_or (ha : PT X a tA) (hb : PW X (.BoolOp .Or (b :: rest) pos) tB') : PW X (.BoolOp .Or (a :: b :: rest) pos) (tOr tA tB') := by
  intro wh pins s σ H Q I h
  refine isTrue_or (thn (ha pins s σ H _ I h) fun c s1 ⟨H1, I1, q1⟩ => ?_)
  cases c with
  | true => exact ⟨H1, I1, q1⟩
  | false => exact hb wh pins s1 σ H1 Q I1 q1
def tAndV (ta tb : TE) : TE := fun σ H Q => ta σ H fun x H1 => ∃ c, x = .bl c ∧ if c = true then tb σ H1 Q else Q (.bl false) H1
def tOrV (ta tb : TE) : TE := fun σ H Q => ta σ H fun x H1 => ∃ c, x = .bl c ∧ if c = true then Q (.bl true) H1 else tb σ H1 Q
def tNotV (ta : TE) : TE := fun σ H Q => ta σ H fun x H1 => ∃ c, x = .bl c ∧ Q (.bl (!c)) H1
def tIf (t : TT) (ta tb : TE) : TE := fun σ H Q => t σ H fun c H1 => if c = true then ta σ H1 Q else tb σ H1 Q
end
end L2

namespace L2
open PySem PySem.Spec PyProof.Rows

def SqL (K : PySem.W.Frag) (H : Hp) (a : Addr) (xs : List V) : Prop :=
  Rd H a (.lst xs) ∨
    ∃ (o : Obj) (its : Array Value) (n : Nat), K.lookup a = some o ∧ o.cls = .type "list" ∧ o.dict = none ∧ o.data = .seq its n ∧ its.size ≤ sizeLine ∧ Vals xs its.toList
def SqT (K : PySem.W.Frag) (H : Hp) (a : Addr) (xs : List V) : Prop :=
  Rd H a (.tup xs) ∨
    ∃ (o : Obj) (its : Array Value) (n : Nat), K.lookup a = some o ∧ o.cls = .type "tuple" ∧ o.data = .seq its n ∧ its.size ≤ sizeLine ∧ Vals xs its.toList
def absV : Value → Option V
  | .none => some .non
  | .bool b => some (.bl b)
  | .int i _ => some (.int i)
  | .str x _ => some (.str x)
  | .bytes b _ => some (.byt b)
  | .float b _ => some (.flt b)
  | .ref a => some (.ref a)
  | .type n => some (.ty n)
  | _ => none
theorem RelV.abs {x : V} {u : Value} (r : RelV x u) : absV u = some x := by
  cases x with
  | non => cases r; rfl
  | bl _ => cases r; rfl
  | int _ => obtain ⟨t, rfl⟩ := r; rfl
  | str _ => obtain ⟨t, rfl⟩ := r; rfl
  | byt _ => obtain ⟨t, rfl⟩ := r; rfl
  | flt _ => obtain ⟨t, rfl⟩ := r; rfl
  | ref _ => cases r; rfl
  | ty _ => cases r; rfl
theorem RelV.inj {x y : V} {u : Value} (r : RelV x u) (q : RelV y u) : x = y := Option.some.inj (r.abs.symm.trans q.abs)
theorem Vals.inj : ∀ {xs ys : List V} {us : List Value}, Vals xs us → Vals ys us → xs = ys
  | _, _, _, .nil, .nil => rfl
  | _, _, _, .cons r t, .cons r' t' => by rw [r.inj r', Vals.inj t t']
section
variable {X : Cx} {pins : List (Addr × Obj)} {σ : St} {H : Hp} {s : Shared} {a : Addr} {xs ys : List V}
theorem SqL.of {K : PySem.W.Frag} (h : H a = some (.lst xs)) : SqL K H a xs := .inl (.inl h)
theorem SqT.of {K : PySem.W.Frag} (h : H a = some (.tup xs)) : SqT K H a xs := .inl (.inl h)
theorem Inv.list (I : Inv X pins σ H s) (h : SqL X.K H a xs) : ∃ its : List Value, Vals xs its ∧ PlainL s.heap a its.toArray ∧ xs.length ≤ sizeLine := by
  rcases h with h | ⟨o, its, n, hk, hc, hd, hs, hz, r⟩
  · obtain ⟨z, its, n, r, e⟩ := h.ok I.hok
    exact ⟨its, r, ⟨_, n, e, rfl, rfl, rfl⟩, z⟩
  · refine ⟨its.toList, r, ⟨o, n, I.kIn a o hk, hc, hd, by simpa using hs⟩, ?_⟩
    have e := r.length
    simp only [Array.length_toList] at e
    omega
theorem Inv.tuple (I : Inv X pins σ H s) (h : SqT X.K H a xs) : ∃ its : List Value, Vals xs its ∧ IsTup s.heap a its.toArray ∧ xs.length ≤ sizeLine := by
  rcases h with h | ⟨o, its, n, hk, hc, hs, hz, r⟩
  · obtain ⟨z, its, r, p⟩ := h.ok I.hok
    exact ⟨its, r, p, z⟩
  · refine ⟨its.toList, r, ⟨o, I.kIn a o hk, hc, n, by simpa using hs⟩, ?_⟩
    have e := r.length
    simp only [Array.length_toList] at e
    omega
theorem Inv.list_inj (I : Inv X pins σ H s) (h : SqL X.K H a xs) (h' : SqL X.K H a ys) : xs = ys := by
  obtain ⟨its, r, ⟨o, n, e, _, _, d⟩, _⟩ := I.list h
  obtain ⟨its', r', ⟨o', n', e', _, _, d'⟩, _⟩ := I.list h'
  rw [e] at e'; cases e'
  rw [d] at d'
  injection d' with d1 _
  have : its = its' := by simpa using congrArg Array.toList d1
  subst this
  exact r.inj r'
end

abbrev Cx.wish (X : Cx) (E : Value → Shared → Prop) : Cx := { X with xe := E }
abbrev Cx.nox (X : Cx) : Cx := X.wish fun _ _ => False
theorem Cx.Ok.wish {X : Cx} (ok : X.Ok) (E : Value → Shared → Prop) : (X.wish E).Ok :=
  ⟨ok.mod, ok.kind, ok.glob, ok.blt, ok.above, ok.inj, ok.has, ok.cab, ok.hd, ok.frames, ok.stk, ok.exf, ok.bs, ok.bsz, ok.noex, ok.exfs, ok.funs, ok.frf⟩
theorem Cx.Ok.unwish {X : Cx} {E : Value → Shared → Prop} (ok : (X.wish E).Ok) : X.Ok :=
  ⟨ok.mod, ok.kind, ok.glob, ok.blt, ok.above, ok.inj, ok.has, ok.cab, ok.hd, ok.frames, ok.stk, ok.exf, ok.bs, ok.bsz, ok.noex, ok.exfs, ok.funs, ok.frf⟩
section
variable {X : Cx} {pins : List (Addr × Obj)} {σ : St} {H : Hp} {s : Shared} {E : Value → Shared → Prop}
theorem Inv.wish (I : Inv X pins σ H s) (E : Value → Shared → Prop) : Inv (X.wish E) pins σ H s := ⟨I.ok.wish E, I.os, I.bare, I.base, I.loc, I.cell, I.free, I.freeC, I.pin, I.hok, I.len⟩
theorem Inv.unwish (I : Inv (X.wish E) pins σ H s) : Inv X pins σ H s := ⟨I.ok.unwish, I.os, I.bare, I.base, I.loc, I.cell, I.free, I.freeC, I.pin, I.hok, I.len⟩
theorem SP.unwish {D : Ends} {f : Flow} {s' : Shared} (h : SP (X.wish E) pins D f s') : SP X pins D f s' := by
  cases f with
  | next => obtain ⟨σ', H', I, q⟩ := h; exact ⟨σ', H', I.unwish, q⟩
  | brk => obtain ⟨σ', H', I, q⟩ := h; exact ⟨σ', H', I.unwish, q⟩
  | cont => obtain ⟨σ', H', I, q⟩ := h; exact ⟨σ', H', I.unwish, q⟩
  | ret u => obtain ⟨v, σ', H', I, r, q⟩ := h; exact ⟨v, σ', H', I.unwish, r, q⟩
theorem PE.nox {e : Expr} {t : TE} (h : PE X.nox e t) : PE X e t := fun pins s σ H Q I hw =>
  wpAny_mono (h pins s σ H Q (I.wish _) hw) (fun _ _ ⟨v, H', I', r, q⟩ => ⟨v, H', I'.unwish, r, q⟩) fun _ _ z => False.elim z
theorem PT.nox {e : Expr} {t : TT} (h : PT X.nox e t) : PT X e t := fun pins s σ H Q I hw =>
  wpAny_mono (h pins s σ H Q (I.wish _) hw) (fun _ _ ⟨H', I', q⟩ => ⟨H', I'.unwish, q⟩) fun _ _ z => False.elim z
theorem PSs.nox {st : List Stmt} {t : TS} (h : PSs X.nox st t) : PSs X st t := fun pins s σ H D I hw =>
  wpAny_mono (h pins s σ H D (I.wish _) hw) (fun _ _ q => q.unwish) fun _ _ z => False.elim z
end

section
variable {X : Cx} {st : Stmt} {rest : List Stmt} {t u : TS} {e : Expr} {te : TE} {pos : Pos}
def tNext : TS := fun D σ H => D.nx σ H
def tSeq (t u : TS) : TS := fun D σ H => t { D with nx := u D } σ H
theorem pss_nil : PSs X [] tNext := fun _ _ σ H _ I h => wpAny_execs_nil ⟨σ, H, I, h⟩
theorem pss_cons (h1 : PS X st t) (h2 : PSs X rest u) : PSs X (st :: rest) (tSeq t u) := by
  intro pins s σ H D I h
  refine wpAny_execs_cons (thn (h1 pins s σ H { D with nx := u D } I h) fun f s1 q => ?_)
  cases f with
  | next =>
    obtain ⟨σ', H', I', q⟩ := q
    exact h2 pins s1 σ' H' D I' q
  | ret v => exact q
  | brk => exact q
  | cont => exact q
theorem pss_one (h1 : PS X st t) : PSs X [st] t := by
  intro pins s σ H D I h
  refine wpAny_execs_cons (thn (h1 pins s σ H D I h) fun f s1 q => ?_)
  cases f with
  | next => exact wpAny_execs_nil q
  | ret v => exact q
  | brk => exact q
  | cont => exact q
theorem Inv.quiet {pins : List (Addr × Obj)} {σ : St} {H : Hp} {s : Shared} (I : Inv X pins σ H s) : interactive X.env = false := by simp [interactive, I.ok.kind]
def tDrop (te : TE) : TS := fun D σ H => te σ H fun _ H1 => D.nx σ H1
theorem ps_expr (he : PE X e te) (hs : swapsWith e none pos.line X.env = pure false := by rfl) : PS X (.Expr e pos) (tDrop te) := by
  intro pins s σ H D I h
  exact wpAny_Expr_any (thn (he pins s σ H _ I h) fun v s1 ⟨x, H1, I1, r1, q1⟩ => ⟨σ, H1, I1, q1⟩) I.quiet hs
def tRet (te : TE) : TS := fun D σ H => te σ H D.rt
theorem ps_ret (he : PE X e te) : PS X (.Return (some e) pos) (tRet te) := by
  intro pins s σ H D I h
  exact wpAny_Return_some (thn (he pins s σ H _ I h) fun v s1 ⟨x, H1, I1, r1, q1⟩ => ⟨x, σ, H1, I1, r1, q1⟩)
def tRetN : TS := fun D _ H => D.rt .non H
def tIfS (c : TT) (t u : TS) : TS := fun D σ H => c σ H fun b H1 => if b = true then t D σ H1 else u D σ H1
theorem ps_if {c : Expr} {a b : List Stmt} {tc : TT} (hc : PT X c tc) (ha : PSs X a t) (hb : PSs X b u) : PS X (.If c a b pos) (tIfS tc t u) := by
  intro pins s σ H D I h
  refine wpAny_If (thn (hc pins s σ H _ I h) fun d s1 ⟨H1, I1, q1⟩ => ?_)
  cases d with
  | true => exact ha pins s1 σ H1 D I1 q1
  | false => exact hb pins s1 σ H1 D I1 q1
end

abbrev TG := V → St → Hp → (St → Hp → Prop) → Prop
abbrev TGs := List V → St → Hp → (St → Hp → Prop) → Prop
def PG (X : Cx) (target : Expr) (t : TG) : Prop :=
  ∀ (pins : List (Addr × Obj)) (s : Shared) (σ : St) (H : Hp) (v : V) (u : Value) (Q : St → Hp → Prop), Inv X pins σ H s → RelV v u → t v σ H Q →
    wpAny (model X.prog X.w) X.A (assign target X.env u) (fun _ s' => ∃ σ' H', Inv X pins σ' H' s' ∧ Q σ' H') X.xe s
def PGs (X : Cx) (ts : List Expr) (t : TGs) : Prop :=
  ∀ (pins : List (Addr × Obj)) (s : Shared) (σ : St) (H : Hp) (vs : List V) (us : List Value) (Q : St → Hp → Prop), Inv X pins σ H s → Vals vs us → t vs σ H Q →
    wpAny (model X.prog X.w) X.A (assignInOrder ((assignEach ts X.env).map (·.2)) us) (fun _ s' => ∃ σ' H', Inv X pins σ' H' s' ∧ Q σ' H') X.xe s
abbrev TIp := V → V → Hp → VK → Prop
def PIp (X : Cx) (op : Operator) (t : TIp) : Prop :=
  ∀ (pins : List (Addr × Obj)) (s : Shared) (σ : St) (H : Hp) (x y : V) (v u : Value) (Q : VK), Inv X pins σ H s → RelV x v → RelV y u → t x y H Q →
    wpAny (model X.prog X.w) X.A (inplaceOp op v u) (EP X pins σ Q) X.xe s
section
variable {X : Cx} {pos : Pos}
def gName (i : Nat) : TG := fun v σ H Q => Q (σ.set i (some v)) H
theorem pg_name {i : Nat} {x : Str} (hN : X.N.Nodup) (hi : X.N[i]? = some x) (hx : Loc X.env.scope x) (hf : X.fn x = true ∨ X.env.scope.names.lookup x = some .local := by first | exact .inl rfl | exact .inr rfl | assumption) : PG X (.Name x pos) (gName i) := by
  intro pins s σ H v u Q I r h
  exact wpAny_assign_Name (store_ok I hN hi hx r (fun s' I' => ⟨_, H, I', h⟩) hf)
def gNil : TGs := fun vs σ H Q => vs = [] ∧ Q σ H
def gCons (t : TG) (u : TGs) : TGs := fun vs σ H Q => ∃ v r, vs = v :: r ∧ t v σ H fun σ' H' => u r σ' H' Q
theorem pgs_nil : PGs X [] gNil := by
  intro pins s σ H vs us Q I r h
  obtain ⟨e, h⟩ := h
  subst e
  cases r
  exact assignInOrder_nil ⟨σ, H, I, h⟩
theorem pgs_cons {e : Expr} {es : List Expr} {t : TG} {u : TGs} (h1 : PG X e t) (h2 : PGs X es u)
    (hs : (assignEach (e :: es) X.env).map (·.2) = assign e X.env :: (assignEach es X.env).map (·.2) := by rfl) : PGs X (e :: es) (gCons t u) := by
  intro pins s σ H vs us Q I r h
  obtain ⟨v, vr, e1, h⟩ := h
  subst e1
  cases r with
  | cons r rr =>
    rw [hs]
    refine assignInOrder_cons (thn (h1 pins s σ H _ _ _ I r h) fun _ s1 ⟨σ1, H1, I1, q1⟩ => ?_)
    exact h2 pins s1 σ1 H1 _ _ Q I1 rr q1
def gTup (K : PySem.W.Frag) (n : Nat) (t : TGs) : TG := fun v σ H Q => ∃ a xs, v = .ref a ∧ SqT K H a xs ∧ xs.length = n ∧ t xs σ H Q
theorem pg_tup {es : List Expr} {k : Nat} {t : TGs} {n : Nat} (hc : X.calm = true) (h : PGs X es t)
    (hn : (assignEach es X.env).length = n := by rfl) (hst : (assignEach es X.env).findIdx? (·.1) = none := by rfl) : PG X (.Tuple es k pos) (gTup X.K n t) := by
  intro pins s σ H v u Q I r hw
  obtain ⟨a, xs, e1, hq, hl, hw⟩ := hw
  subst e1
  cases r
  obtain ⟨its, rv, ht, hz⟩ := I.tuple hq
  refine assign_Tuple_tuple (I.ok.hd hc) ht (by simp [hn, ← hl, rv.length]) hst fun h' hx => ?_
  have I1 : Inv X pins σ H { s with heap := h' } := I.kept (t' := s.toks) fun b o e => hx b o (Nat.ne_of_lt (Heap.lt_size e)) e
  exact h pins _ σ H xs _ Q I1 (by simpa using rv) hw
def tAsg (te : TE) (g : TG) : TS := fun D σ H => te σ H fun x H1 => g x σ H1 D.nx
theorem ps_set {i : Nat} {x : Str} {e : Expr} {te : TE} {pos' : Pos} (hN : X.N.Nodup) (hi : X.N[i]? = some x) (hx : Loc X.env.scope x) (he : PE X e te) (hs : swapsWith e (some (.Name x pos')) pos.line X.env = pure false := by rfl) (hf : X.fn x = true ∨ X.env.scope.names.lookup x = some .local := by first | exact .inl rfl | exact .inr rfl | assumption) :
    PS X (.Assign [.Name x pos'] e pos) (tAsg te (gName i)) := by
  intro pins s σ H D I h
  refine wpAny_Assign_Name (thn (he pins s σ H _ I h) fun v s1 ⟨y, H1, I1, r1, q1⟩ => ?_) hs
  exact store_ok I1 hN hi hx r1 (fun s2 I2 => ⟨_, H1, I2, q1⟩) hf
def tAug (i : Nat) (te : TE) (ti : TIp) : TS := fun D σ H => ∃ x, σ[i]? = some (some x) ∧ te σ H fun y H1 => ti x y H1 fun z H2 => D.nx (σ.set i (some z)) H2
theorem ps_aug {i : Nat} {x : Str} {e : Expr} {te : TE} {op : Operator} {ti : TIp} {pos' : Pos} (hN : X.N.Nodup) (hi : X.N[i]? = some x) (hx : Loc X.env.scope x) (he : PE X e te) (ho : PIp X op ti) (hf : X.fn x = true ∨ X.env.scope.names.lookup x = some .local := by first | exact .inl rfl | exact .inr rfl | assumption) :
    PS X (.AugAssign (.Name x pos') op e pos) (tAug i te ti) := by
  intro pins s σ H D I h
  obtain ⟨v, e1, h⟩ := h
  obtain ⟨m, hn, hl⟩ := I.loc
  have vis : Vis X.env.scope x := by rcases hx with k | k; exact .inl k; exact .inr (.inl k)
  obtain ⟨u, r, l⟩ := hl i x v hi e1 vis
  refine wpAny_AugAssign_Name ?_
  have go : wpAny (model X.prog X.w) X.A (eval e X.env) (fun w s₂ => wpAny (model X.prog X.w) X.A (inplaceOp op u w) (fun r s₃ => wpAny (model X.prog X.w) X.A (storeName X.env x r) (fun _ => SP X pins D .next) X.xe s₃) X.xe s₂) X.xe s := by
    refine thn (he pins s σ H _ I h) fun w s1 ⟨y, H1, I1, r1, q1⟩ => ?_
    refine thn (ho pins s1 σ H1 v y u w _ I1 r r1 q1) fun z s2 ⟨zv, H2, I2, r2, q2⟩ => ?_
    exact store_ok I2 hN hi hx r2 (fun s3 I3 => ⟨_, H2, I3, q2⟩) hf
  rcases l with ⟨hk, hm⟩ | ⟨hk, c, hc, hcell⟩
  · exact wpAny_loadName_local I.ok.kind hk hn hm go
  · rcases hk with hk | hk
    · exact wpAny_loadName_cell I.ok.kind hk hc hcell go
    · rcases hx with k | k
      · have : X.env.scope.names.lookup x = some .free := hk
        rw [k] at this; cases this
      · have : X.env.scope.names.lookup x = some .free := hk
        rw [k] at this; cases this
def ipI (f : Int → Int → Int) : TIp := fun x y H Q => ∃ i j, x = .int i ∧ y = .int j ∧ Q (.int (f i j)) H
theorem ip_add : PIp X .Add (ipI fun i j => i + j) := by
  intro pins s σ H x y v u Q I r1 r2 h
  obtain ⟨i, j, e1, e2, q⟩ := h
  subst e1; subst e2
  obtain ⟨t, rfl⟩ := r1
  obtain ⟨t', rfl⟩ := r2
  exact iadd_int ⟨.int _, H, I.tok _, ⟨_, rfl⟩, q⟩
theorem ip_sub : PIp X .Sub (ipI fun i j => i - j) := by
  intro pins s σ H x y v u Q I r1 r2 h
  obtain ⟨i, j, e1, e2, q⟩ := h
  subst e1; subst e2
  obtain ⟨t, rfl⟩ := r1
  obtain ⟨t', rfl⟩ := r2
  exact isub_int ⟨.int _, H, I.tok _, ⟨_, rfl⟩, q⟩
end

section
variable {X : Cx} {pos : Pos}
def tWhile (c : TT) (tb : TS) : TS := fun D σ H => ∃ W : Nat → St → Hp → Prop, (∃ m, W m σ H) ∧ ∀ m σ H, W m σ H →
  c σ H fun b H1 => if b = true then ∃ N : St → Hp → Prop, (∀ σ' H', N σ' H' → ∃ m', m' < m ∧ W m' σ' H') ∧ tb { D with nx := N, ct := N, bk := D.nx } σ H1 else D.nx σ H1
theorem ps_while {c : Expr} {body : List Stmt} {tc : TT} {tb : TS} (hp : PassesOwn (model X.prog X.w) X.A X.env X.xe) (hc : PT X c tc) (hb : PSs X body tb) : PS X (.While c body [] pos) (tWhile tc tb) := by
  intro pins s σ H D I h
  obtain ⟨W, ⟨m0, w0⟩, turn⟩ := h
  refine wpAny_While (codeAny_whileLoop (fun n s' => ∃ σ' H', Inv X pins σ' H' s' ∧ W n σ' H') ?_ m0 ⟨σ, H, I, w0⟩)
  rintro n s1 ⟨σ1, H1, I1, w1⟩
  refine wpAny_passesOwn hp (thn (hc pins s1 σ1 H1 _ I1 (turn n σ1 H1 w1)) fun b s2 ⟨H2, I2, q2⟩ => ?_)
  cases b with
  | true =>
    obtain ⟨N, hN, q2⟩ := q2
    rw [if_pos rfl]
    refine wpAny_passesOwn hp (thn (hb pins s2 σ1 H2 _ I2 q2) fun f s3 q3 => ?_)
    cases f with
    | next =>
      obtain ⟨σ3, H3, I3, n3⟩ := q3
      obtain ⟨m', hm, w3⟩ := hN σ3 H3 n3
      exact ⟨m', hm, σ3, H3, I3, w3⟩
    | cont =>
      obtain ⟨σ3, H3, I3, n3⟩ := q3
      obtain ⟨m', hm, w3⟩ := hN σ3 H3 n3
      exact ⟨m', hm, σ3, H3, I3, w3⟩
    | brk => exact q3
    | ret v => exact q3
  | false =>
    rw [if_neg Bool.false_ne_true]
    exact wpAny_execs_nil ⟨σ1, H2, I2, q2⟩
end

structure It where
  go : Nat → Hp → Prop
  yld : Nat → Hp → V → Hp → Prop
  stop : Nat → Hp → Prop
def FpOk (X : Cx) (pins : List (Addr × Obj)) (H : Hp) (b : Addr) : Prop :=
  H b = none ∧ b ≠ X.env.locals ∧ b ∉ X.fs ∧ (b ∈ X.ex ∨ X.s_0.heap.objs.size ≤ b) ∧ (∀ x c, X.env.cells.lookup x = some c → c ≠ b) ∧ ∀ p ∈ X.pn ++ pins, p.1 ≠ b
theorem Inv.fpOk {X : Cx} {pins : List (Addr × Obj)} {σ : St} {H H' : Hp} {s : Shared} {b : Addr} (I : Inv X pins σ H s) (hb : s.heap.objs.size ≤ b) (hn : H' b = none) : FpOk X pins H' b := by
  refine ⟨hn, Nat.ne_of_gt (Nat.lt_of_lt_of_le I.lt hb), I.nofs hb, .inr (Nat.le_trans I.sz hb), fun x c e z => ?_, fun p hp z => ?_⟩
  · obtain ⟨v, q⟩ := I.cell x c e
    exact absurd (Nat.lt_of_lt_of_le q.lt (by rw [z]; exact hb)) (Nat.lt_irrefl _)
  · exact absurd (Nat.lt_of_lt_of_le (Heap.lt_size (I.pin p hp).1) (by rw [z]; exact hb)) (Nat.lt_irrefl _)
structure Turn (P : Program) (w : World) (K : PySem.W.Frag) (tg : Expr) (J : It) (fp : List Addr) (it : Addr) (tn : Nat → Heap → Prop) : Prop where
  mem : it ∈ fp
  obj : ∀ i h, tn i h → ∀ b ∈ fp, ∃ o, h.get? b = some o ∧ ∀ v, o.data ≠ .cell v
  keep : ∀ i h h', tn i h → (∀ b ∈ fp, ∀ o, h.get? b = some o → h'.get? b = some o) → tn i h'
  item : ∀ (X : Cx), X.prog = P → X.w = w → X.K = K → X.calm = true → ∀ (i : Nat) (pins : List (Addr × Obj)) (s : Shared) (σ : St) (H : Hp) (E : Value → Shared → Prop), Inv X pins σ H s → (∀ b ∈ fp, FpOk X pins H b) → tn i s.heap → J.go i H →
    wpAny (model P w) X.A (pyNext (.ref it)) (fun r s1 => ∃ u, r = some u ∧
      wpAny (model P w) X.A (letOwnedTupleGo tg (.ref it) u) (fun _ s2 => ∃ x H', Inv X pins σ H' s2 ∧ RelV x u ∧ J.yld i H x H' ∧ tn (i + 1) s2.heap ∧ ∀ b ∈ fp, H' b = none) E s1) E s
  done : ∀ (X : Cx), X.prog = P → X.w = w → X.K = K → X.calm = true → ∀ (i : Nat) (pins : List (Addr × Obj)) (s : Shared) (σ : St) (H : Hp) (E : Value → Shared → Prop), Inv X pins σ H s → (∀ b ∈ fp, FpOk X pins H b) → tn i s.heap → J.stop i H →
    wpAny (model P w) X.A (pyNext (.ref it)) (fun r s1 => r = none ∧ Inv X pins σ H s1) E s
  self : ∀ (A : Around) (i : Nat) (s : Shared) (Q : Value → Shared → Prop) (E : Value → Shared → Prop), tn i s.heap → Q (.ref it) s → wpAny (model P w) A (pyIter (.ref it)) Q E s
abbrev TI := St → Hp → (It → Hp → Prop) → Prop
def PIE (X : Cx) (pins : List (Addr × Obj)) (σ : St) (tg : Expr) (R : It → Hp → Prop) (itv : Value) (s2 : Shared) : Prop :=
  ∃ (it : Addr) (fp : List Addr) (tn : Nat → Heap → Prop) (J : It) (H' : Hp), itv = .ref it ∧ Inv X pins σ H' s2 ∧ Turn X.prog X.w X.K tg J fp it tn ∧ tn 0 s2.heap ∧ (∀ b ∈ fp, FpOk X pins H' b) ∧ R J H'
def PI (X : Cx) (tg iter : Expr) (wi : TI) : Prop :=
  ∀ (pins : List (Addr × Obj)) (s : Shared) (σ : St) (H : Hp) (R : It → Hp → Prop), Inv X pins σ H s → wi σ H R →
    wpAny (model X.prog X.w) X.A (eval iter X.env) (fun v s1 => wpAny (model X.prog X.w) X.A (pyIter v) (PIE X pins σ tg R) X.xe s1) X.xe s

theorem go_of {M : Model} {A : Around} {E : Value → Shared → Prop} {s : Shared} {tg : Expr} {it : Addr} {u : Value} {o : Obj} {n : String} {vs : Array Value} {Q : Unit → Shared → Prop} (ho : s.heap.get? it = some o) (hc : o.cls = .type n) (hd : o.data = .fields vs)
    (hn : ["enumerate", "zip", "dict_itemiterator", "dict_reverseitemiterator", "odict_iterator", "itertools.zip_longest", "itertools.pairwise"].contains n = false) (hQ : Q () s) : wpAny M A (letOwnedTupleGo tg (.ref it) u) Q E s := by
  unfold letOwnedTupleGo
  cases tg <;> first
    | exact wpAny_pure hQ
    | (cases u <;> first
        | exact wpAny_pure hQ
        | (refine wpAny_bind (wpAny_load ho ?_)
           rw [hc, hd]
           show wpAny M A (if (["enumerate", "zip", "dict_itemiterator", "dict_reverseitemiterator", "odict_iterator", "itertools.zip_longest", "itertools.pairwise"].contains n && vs[0]? == some (rawInt _)) = true then _ else _) Q E s
           rw [if_neg (by intro h; rw [hn, Bool.false_and] at h; cases h)]
           exact wpAny_pure hQ))

def Itl (K : PySem.W.Frag) (a : Addr) : It :=
  ⟨fun i H => ∃ xs x, SqL K H a xs ∧ xs[i]? = some x, fun i H x H' => H' = H ∧ ∀ xs, SqL K H a xs → xs[i]? = some x, fun i H => ∃ xs, SqL K H a xs ∧ xs.length ≤ i⟩
theorem turn_list {P : Program} {w : World} {K : PySem.W.Frag} {tg : Expr} (a it : Addr) : Turn P w K tg (Itl K a) [it] it (fun i h => h.IsListIter it a i) where
  mem := by simp
  obj := fun i h st b hb => by
    have e : b = it := by simpa using hb
    subst e
    obtain ⟨o, e, c, d⟩ := st
    exact ⟨o, e, fun v z => by rw [d] at z; cases z⟩
  keep := fun i h h' st k => st.at fun o e => k it (by simp) o e
  item := by
    intro X hP hw hK hc i pins s σ H E I hf st hg
    subst hP hw hK
    obtain ⟨xs, x, hq, hx⟩ := hg
    obtain ⟨its, rv, p, hz⟩ := I.list hq
    obtain ⟨u, hu, ru⟩ := rv.get hx
    obtain ⟨f0, f1, f2, f3, f4, f5⟩ := hf it (by simp)
    refine wpAny_pyNext_list_item st p.isList (x := u) (by simpa using hu) fun h' st' sb => ?_
    have I1 : Inv X pins σ H { s with heap := h' } := I.turned (t' := s.toks) (fun b o hb e => (sb.2 b hb).trans e) f0 f1 f3 f4 f5
    obtain ⟨o, e, c, d⟩ := id st'
    exact ⟨u, rfl, go_of (s := { s with heap := h' }) e c d (by decide) ⟨x, H, I1, ru, ⟨rfl, fun ys hy => by rw [I.list_inj hy hq]; exact hx⟩, st', fun b hb => (hf b hb).1⟩⟩
  done := by
    intro X hP hw hK hc i pins s σ H E I hf st hg
    subst hP hw hK
    obtain ⟨xs, hq, hx⟩ := hg
    obtain ⟨its, rv, p, hz⟩ := I.list hq
    obtain ⟨f0, f1, f2, f3, f4, f5⟩ := hf it (by simp)
    have hl := rv.length
    exact wpAny_pyNext_list_end (I.ok.hd hc) st p.isList (by simp; omega) fun h' eb => ⟨rfl, I.turned (t' := s.toks) (fun b o hb e => eb b o hb e) f0 f1 f3 f4 f5⟩
  self := fun _ _ _ _ _ st h => wpAny_pyIter_listiter st h
end L2

namespace L2
open PySem PySem.Spec PyProof.Rows
section
variable {X : Cx} {tg : Expr}
def iList (K : PySem.W.Frag) (tl : TE) : TI := fun σ H R => tl σ H fun x H1 => ∃ a, x = .ref a ∧ (∃ xs, SqL K H1 a xs) ∧ R (Itl K a) H1
theorem pi_list {l : Expr} {tl : TE} (hl : PE X l tl) : PI X tg l (iList X.K tl) := by
  intro pins s σ H R I h
  refine thn (hl pins s σ H _ I h) fun v s1 ⟨x, H1, I1, r1, q1⟩ => ?_
  obtain ⟨a, e, ⟨xs, hq⟩, q⟩ := q1
  subst e
  cases r1
  obtain ⟨its, rv, p, hz⟩ := I1.list hq
  refine wpAny_pyIter_list p.isList ?_
  refine ⟨s1.heap.objs.size, [s1.heap.objs.size], _, _, H1, rfl, I1.kept (t' := s1.toks) fun b o e => Heap.get?_push_of_some _ e, turn_list a _, ⟨_, Heap.get?_push_size _ rfl, rfl, rfl⟩, fun b hb => ?_, q⟩
  have e : b = s1.heap.objs.size := by simpa using hb
  subst e
  exact I1.fpOk (Nat.le_refl _) (I1.hok.fresh (Nat.le_refl _))
def tFor (wi : TI) (g : TG) (tb : TS) : TS := fun D σ H => wi σ H fun J H1 => ∃ W : Nat → Nat → St → Hp → Prop, (∃ m, W 0 m σ H1) ∧ ∀ i m σ H, W i m σ H →
  (J.stop i H ∧ D.nx σ H) ∨ (J.go i H ∧ ∃ N : St → Hp → Prop, (∀ σ' H', N σ' H' → ∃ m', m' < m ∧ W (i + 1) m' σ' H') ∧ ∀ x H', J.yld i H x H' → g x σ H' fun σ2 H2 => tb { D with nx := N, ct := N, bk := D.nx } σ2 H2)
def pinsAt (fp : List Addr) (h : Heap) : List (Addr × Obj) := fp.filterMap fun b => (h.get? b).map fun o => (b, o)
theorem mem_pinsAt {fp : List Addr} {h : Heap} {b : Addr} {o : Obj} (hb : b ∈ fp) (e : h.get? b = some o) : (b, o) ∈ pinsAt fp h := List.mem_filterMap.mpr ⟨b, hb, by rw [e]; rfl⟩
theorem of_pinsAt {fp : List Addr} {h : Heap} {p : Addr × Obj} (hp : p ∈ pinsAt fp h) : p.1 ∈ fp ∧ h.get? p.1 = some p.2 := by
  obtain ⟨b, hb, e⟩ := List.mem_filterMap.mp hp
  cases q : h.get? b with
  | none => rw [q] at e; cases e
  | some o =>
    rw [q] at e
    have e' : (b, o) = p := Option.some.inj e
    subst e'
    exact ⟨hb, q⟩
theorem Inv.pinned {pins : List (Addr × Obj)} {σ : St} {H : Hp} {s : Shared} {fp : List Addr} (I : Inv X pins σ H s) (hf : ∀ b ∈ fp, FpOk X pins H b) (ho : ∀ b ∈ fp, ∃ o, s.heap.get? b = some o ∧ ∀ v, o.data ≠ .cell v) : Inv X (pins ++ pinsAt fp s.heap) σ H s :=
  I.pins_of fun p hp => (List.mem_append.mp hp).elim (fun z => I.pin p (List.mem_append_right _ z)) fun z => by
    obtain ⟨hb, e⟩ := of_pinsAt z
    obtain ⟨f0, f1, f2, _⟩ := hf p.1 hb
    obtain ⟨o, e', d⟩ := ho p.1 hb
    rw [e] at e'; cases e'
    exact ⟨e, f0, f1, f2, d⟩
theorem Inv.unpinned {pins pl : List (Addr × Obj)} {σ : St} {H : Hp} {s : Shared} (I : Inv X (pins ++ pl) σ H s) : Inv X pins σ H s := I.pins_of fun p hp => I.pin p (List.mem_append_right _ (List.mem_append_left _ hp))
theorem ps_for {iter : Expr} {body : List Stmt} {wi : TI} {g : TG} {tb : TS} {pos : Pos} (hp : PassesOwn (model X.prog X.w) X.A X.env X.xe) (hc : X.calm = true) (hi : PI X tg iter wi) (hg : PG X tg g) (hb : PSs X body tb)
    (hs : ∀ x, foldedSetIterable iter X.env x = pure x := by intro _; rfl) : PS X (.For tg iter body [] pos) (tFor wi g tb) := by
  intro pins s σ H D I h
  refine wpAny_For (thn (hi pins s σ H _ I h) fun v s1 h1 => thn h1 fun itv s2 h2 => ?_) hs
  obtain ⟨it, fp, tn, J, H2, e, I2, T, st2, f2, W, ⟨m0, w0⟩, turn⟩ := h2
  subst e
  -- what stays true of the iterator's objects through the loop
  have stat : ∀ {H' : Hp}, (∀ b ∈ fp, H' b = none) → ∀ b ∈ fp, FpOk X pins H' b := fun hn b hb => ⟨hn b hb, (f2 b hb).2⟩
  refine codeAny_forLoop_any (fun n s' => ∃ i σ' H', Inv X pins σ' H' s' ∧ tn i s'.heap ∧ (∀ b ∈ fp, H' b = none) ∧ W i n σ' H') ?_ m0 ⟨0, σ, H2, I2, st2, fun b hb => (f2 b hb).1, w0⟩
  rintro n s3 ⟨i, σ3, H3, I3, st3, fr3, w3⟩
  rcases turn i n σ3 H3 w3 with ⟨stop, qn⟩ | ⟨go, N, hN, step⟩
  · refine wpAny_passesOwn hp (thn (T.done X rfl rfl rfl hc i pins s3 σ3 H3 X.xe I3 (stat fr3) st3 stop) fun r s4 ⟨hr, I4⟩ => ?_)
    subst hr
    exact wpAny_execs_nil ⟨σ3, H3, I4, qn⟩
  · refine wpAny_passesOwn hp (thn (T.item X rfl rfl rfl hc i pins s3 σ3 H3 X.xe I3 (stat fr3) st3 go) fun r s4 ⟨u, hr, h4⟩ => ?_)
    subst hr
    refine wpAny_passesOwn hp (thn h4 fun _ s5 ⟨x, H5, I5, r5, y5, st5, fr5⟩ => ?_)
    have I5' := I5.pinned (stat fr5) (T.obj _ _ st5)
    refine wpAny_passesOwn hp (thn (hg _ s5 σ3 H5 x u _ I5' r5 (step x H5 y5)) fun _ s6 ⟨σ6, H6, I6, q6⟩ => ?_)
    refine wpAny_passesOwn hp (thn (hb _ s6 σ6 H6 _ I6 q6) fun f s7 q7 => ?_)
    have again : ∀ {σ7 : St} {H7 : Hp}, Inv X (pins ++ pinsAt fp s5.heap) σ7 H7 s7 → N σ7 H7 → ∃ m, m < n ∧ ∃ i σ' H', Inv X pins σ' H' s7 ∧ tn i s7.heap ∧ (∀ b ∈ fp, H' b = none) ∧ W i m σ' H' := fun {σ7 H7} I7 n7 => by
      obtain ⟨m', hm, w7⟩ := hN σ7 H7 n7
      refine ⟨m', hm, i + 1, σ7, H7, I7.unpinned, T.keep _ _ _ st5 fun b hb o e => (I7.pin (b, o) (List.mem_append_right _ (List.mem_append_right _ (mem_pinsAt hb e)))).1, fun b hb => ?_, w7⟩
      obtain ⟨o, e, d⟩ := T.obj _ _ st5 b hb
      exact (I7.pin (b, o) (List.mem_append_right _ (List.mem_append_right _ (mem_pinsAt hb e)))).2.1
    cases f with
    | next => obtain ⟨σ7, H7, I7, n7⟩ := q7; exact again I7 n7
    | cont => obtain ⟨σ7, H7, I7, n7⟩ := q7; exact again I7 n7
    | brk => obtain ⟨σ7, H7, I7, q7⟩ := q7; exact ⟨σ7, H7, I7.unpinned, q7⟩
    | ret v => obtain ⟨x7, σ7, H7, I7, r7, q7⟩ := q7; exact ⟨x7, σ7, H7, I7.unpinned, r7, q7⟩
end

theorem for_list {K : PySem.W.Frag} {a : Addr} {xs : List V} {g : TG} {tb : TS} {D : Ends} {σ : St} {H : Hp} (Pv : Nat → St → Hp → Prop) (h0 : Pv 0 σ H) (hl : ∀ i σ H, i ≤ xs.length → Pv i σ H → SqL K H a xs)
    (hs : ∀ i x σ H, xs[i]? = some x → Pv i σ H → g x σ H fun σ2 H2 => tb { D with nx := Pv (i + 1), ct := Pv (i + 1), bk := D.nx } σ2 H2) (hd : ∀ σ H, Pv xs.length σ H → D.nx σ H) :
    ∃ W : Nat → Nat → St → Hp → Prop, (∃ m, W 0 m σ H) ∧ ∀ i m σ H, W i m σ H →
      ((Itl K a).stop i H ∧ D.nx σ H) ∨ ((Itl K a).go i H ∧ ∃ N : St → Hp → Prop, (∀ σ' H', N σ' H' → ∃ m', m' < m ∧ W (i + 1) m' σ' H') ∧ ∀ x H', (Itl K a).yld i H x H' → g x σ H' fun σ2 H2 => tb { D with nx := N, ct := N, bk := D.nx } σ2 H2) := by
  refine ⟨fun i m σ H => m = xs.length - i ∧ i ≤ xs.length ∧ Pv i σ H, ⟨xs.length, by simp, Nat.zero_le _, h0⟩, ?_⟩
  rintro i m σ H ⟨rfl, hi, p⟩
  have q := hl i σ H hi p
  by_cases hlt : i < xs.length
  · refine .inr ⟨⟨xs, xs[i], q, by simp [hlt]⟩, Pv (i + 1), fun σ' H' p' => ⟨xs.length - (i + 1), by omega, rfl, hlt, p'⟩, fun x H' y => ?_⟩
    obtain ⟨e, y⟩ := y
    subst e
    exact hs i x σ _ (y xs q) p
  · have e : i = xs.length := by omega
    subst e
    exact .inl ⟨⟨xs, q, Nat.le_refl _⟩, hd σ H p⟩
theorem while_by {c : TT} {tb : TS} {D : Ends} {σ : St} {H : Hp} (Pv : St → Hp → Prop) (μ : St → Hp → Nat) (h0 : Pv σ H)
    (hs : ∀ σ H, Pv σ H → c σ H fun b H1 => if b = true then tb { D with nx := fun σ' H' => Pv σ' H' ∧ μ σ' H' < μ σ H, ct := fun σ' H' => Pv σ' H' ∧ μ σ' H' < μ σ H, bk := D.nx } σ H1 else D.nx σ H1)
    (mono : ∀ σ H Q Q', (∀ b H1, Q b H1 → Q' b H1) → c σ H Q → c σ H Q') : tWhile c tb D σ H := by
  refine ⟨fun m σ H => m = μ σ H ∧ Pv σ H, ⟨_, rfl, h0⟩, ?_⟩
  rintro m σ H ⟨rfl, p⟩
  refine mono σ H _ _ (fun b H1 q => ?_) (hs σ H p)
  cases b with
  | true => exact ⟨_, fun σ' H' ⟨p', l⟩ => ⟨_, l, rfl, p'⟩, q⟩
  | false => exact q
end L2

namespace L2
open PySem PySem.Spec PyProof.Rows

abbrev R2 := V → V → Hp → VK → Prop
def OpR (X : Cx) (f : Value → Value → Sem Value) (r : R2) : Prop :=
  ∀ (pins : List (Addr × Obj)) (s : Shared) (σ : St) (H : Hp) (x y : V) (v u : Value) (Q : VK), Inv X pins σ H s → RelV x v → RelV y u → r x y H Q →
    wpAny (model X.prog X.w) X.A (f v u) (EP X pins σ Q) X.xe s
def UnR (X : Cx) (f : Value → Sem Value) (r : V → Hp → VK → Prop) : Prop :=
  ∀ (pins : List (Addr × Obj)) (s : Shared) (σ : St) (H : Hp) (x : V) (v : Value) (Q : VK), Inv X pins σ H s → RelV x v → r x H Q →
    wpAny (model X.prog X.w) X.A (f v) (EP X pins σ Q) X.xe s
def CallR (X : Cx) (f : Value) (r : List V → Hp → VK → Prop) : Prop :=
  ∀ (pins : List (Addr × Obj)) (s : Shared) (σ : St) (H : Hp) (xs : List V) (us : List Value) (Q : VK), Inv X pins σ H s → Vals xs us → r xs H Q →
    wpAny (model X.prog X.w) X.A (call f us) (EP X pins σ Q) X.xe s
def tOp (r : R2) (ta tb : TE) : TE := fun σ H Q => ta σ H fun x H1 => tb σ H1 fun y H2 => r x y H2 Q
def tUn (r : V → Hp → VK → Prop) (ta : TE) : TE := fun σ H Q => ta σ H fun x H1 => r x H1 Q
def rI (C : Int → Int → Prop) (g : Int → Int → V) : R2 := fun x y H Q => ∃ i j, x = .int i ∧ y = .int j ∧ C i j ∧ Q (g i j) H
def rI0 (g : Int → Int → V) : R2 := fun x y H Q => ∃ i j, x = .int i ∧ y = .int j ∧ Q (g i j) H
def rU (g : Int → V) : V → Hp → VK → Prop := fun x H Q => ∃ i, x = .int i ∧ Q (g i) H

section
variable {X : Cx} {a b c : Expr} {ta tb tc : TE} {pos : Pos}

theorem binT (ha : PE X a ta) (hb : PE X b tb) {pins : List (Addr × Obj)} {s : Shared} {σ : St} {H : Hp} {R : V → V → Hp → Prop} (I : Inv X pins σ H s)
    (h : ta σ H fun x H1 => tb σ H1 fun y H2 => R x y H2) {Q : Value → Shared → Prop} {f : Value → Value → Sem Value}
    (hf : ∀ v u s2 x y H2, Inv X pins σ H2 s2 → RelV x v → RelV y u → R x y H2 → wpAny (model X.prog X.w) X.A (f v u) Q X.xe s2) :
    wpAny (model X.prog X.w) X.A (eval a X.env) (fun v s₁ => wpAny (model X.prog X.w) X.A (eval b X.env) (fun u s₂ => wpAny (model X.prog X.w) X.A (f v u) Q X.xe s₂) X.xe s₁) X.xe s := by
  refine thn (ha pins s σ H _ I h) fun v s1 ⟨x, H1, I1, r1, q1⟩ => ?_
  refine thn (hb pins s1 σ H1 _ I1 q1) fun u s2 ⟨y, H2, I2, r2, q2⟩ => ?_
  exact hf v u s2 x y H2 I2 r1 r2 q2

theorem pe_op {op : Operator} {r : R2} (ho : OpR X (binaryOp op) r) (ha : PE X a ta) (hb : PE X b tb) : PE X (.BinOp a op b pos) (tOp r ta tb) := by
  intro pins s σ H Q I h
  exact wpAny_BinOp (binT ha hb I h fun v u s2 x y H2 I2 rx ry q => ho pins s2 σ H2 x y v u Q I2 rx ry q)
theorem pe_un {op : UnaryOp} {r : V → Hp → VK → Prop} (ho : UnR X (unaryOp op) r) (ha : PE X a ta) : PE X (.UnaryOp op a pos) (tUn r ta) := by
  intro pins s σ H Q I h
  exact UnaryOp_ (thn (ha pins s σ H _ I h) fun v s1 ⟨x, H1, I1, r1, q1⟩ => ho pins s1 σ H1 x v Q I1 r1 q1)
theorem opI {f : Value → Value → Sem Value} {C : Int → Int → Prop} {g : Int → Int → Int}
    (rule : ∀ (i j : Int) (t u : Tok) (s : Shared) (Q : Value → Shared → Prop) (E : Value → Shared → Prop), C i j → Q (.int (g i j) s.toks) { s with toks := s.toks + 1 } → wpAny (model X.prog X.w) X.A (f (.int i t) (.int j u)) Q E s) :
    OpR X f (rI C fun i j => .int (g i j)) := by
  intro pins s σ H x y v u Q I rx ry h
  obtain ⟨i, j, rfl, rfl, hc, q⟩ := h
  obtain ⟨t, rfl⟩ := rx
  obtain ⟨t', rfl⟩ := ry
  exact rule i j t t' s _ _ hc ⟨.int (g i j), H, I.tok _, ⟨_, rfl⟩, q⟩
theorem opI0 {f : Value → Value → Sem Value} {g : Int → Int → Int}
    (rule : ∀ (i j : Int) (t u : Tok) (s : Shared) (Q : Value → Shared → Prop) (E : Value → Shared → Prop), Q (.int (g i j) s.toks) { s with toks := s.toks + 1 } → wpAny (model X.prog X.w) X.A (f (.int i t) (.int j u)) Q E s) :
    OpR X f (rI0 fun i j => .int (g i j)) := by
  intro pins s σ H x y v u Q I rx ry h
  obtain ⟨i, j, rfl, rfl, q⟩ := h
  obtain ⟨t, rfl⟩ := rx
  obtain ⟨t', rfl⟩ := ry
  exact rule i j t t' s _ _ ⟨.int (g i j), H, I.tok _, ⟨_, rfl⟩, q⟩
theorem opB0 {f : Value → Value → Sem Value} {g : Int → Int → Bool}
    (rule : ∀ (i j : Int) (t u : Tok) (s : Shared) (Q : Value → Shared → Prop) (E : Value → Shared → Prop), Q (.bool (g i j)) s → wpAny (model X.prog X.w) X.A (f (.int i t) (.int j u)) Q E s) :
    OpR X f (rI0 fun i j => .bl (g i j)) := by
  intro pins s σ H x y v u Q I rx ry h
  obtain ⟨i, j, rfl, rfl, q⟩ := h
  obtain ⟨t, rfl⟩ := rx
  obtain ⟨t', rfl⟩ := ry
  exact rule i j t t' s _ _ ⟨.bl (g i j), H, I, rfl, q⟩

def CMul (i j : Int) : Prop := (-(2 ^ 64) < i ∧ i < 2 ^ 64) ∨ (-(2 ^ 64) < j ∧ j < 2 ^ 64)
theorem CMul.ok {i j : Int} (h : CMul i j) : IntMulOk i j := by
  rcases h with ⟨h1, h2⟩ | ⟨h1, h2⟩
  · exact .of_left (intBits_le_64 h1 h2)
  · exact .of_right (intBits_le_64 h1 h2)
theorem two_pow_nn (k : Nat) : (0 : Int) ≤ 2 ^ k := by
  rw [two_pow_cast]
  exact Int.natCast_nonneg _

theorem op_add : OpR X (binaryOp .Add) (rI0 fun i j => .int (i + j)) := opI0 fun _ _ _ _ _ _ _ q => add_int q
theorem op_sub : OpR X (binaryOp .Sub) (rI0 fun i j => .int (i - j)) := opI0 fun _ _ _ _ _ _ _ q => sub_int q
theorem op_mod : OpR X (binaryOp .Mod) (rI (fun _ j => 0 < j) fun i j => .int (i % j)) := opI fun i j _ _ _ _ _ hc q => by
  have h1 : (0 : Int) < j := hc
  exact mod_int' (by omega) (by rw [Int.fmod_eq_emod_of_nonneg i (by omega)]; exact q)
theorem op_shr : OpR X (binaryOp .RShift) (rI (fun _ j => 0 ≤ j) fun i j => .int (i / 2 ^ j.toNat)) := opI fun i j _ _ _ _ _ hc q =>
  rshift_int hc (by rw [Int.fdiv_eq_ediv_of_nonneg i (two_pow_nn _)]; exact q)
theorem op_and : OpR X (binaryOp .BitAnd) (rI0 fun i j => .int (Builtin.bitAnd i j)) := opI0 fun _ _ _ _ _ _ _ q => and_int q
theorem unI {f : Value → Sem Value} {g : Int → Int}
    (rule : ∀ (i : Int) (t : Tok) (s : Shared) (Q : Value → Shared → Prop) (E : Value → Shared → Prop), Q (.int (g i) s.toks) { s with toks := s.toks + 1 } → wpAny (model X.prog X.w) X.A (f (.int i t)) Q E s) :
    UnR X f (rU fun i => .int (g i)) := by
  intro pins s σ H x v Q I rx h
  obtain ⟨i, rfl, q⟩ := h
  obtain ⟨t, rfl⟩ := rx
  exact rule i t s _ _ ⟨.int (g i), H, I.tok _, ⟨_, rfl⟩, q⟩
theorem un_neg : UnR X (unaryOp .USub) (rU fun i => .int (-i)) := unI fun _ _ _ _ _ q => neg_int q
end

def scal : V → V → Bool
  | .non, .non => true | .non, .int _ => true | .int _, .non => true | .non, .bl _ => true | .bl _, .non => true | .non, .str _ => true | .str _, .non => true
  | .int _, .int _ => true | .bl _, .bl _ => true | .str _, .str _ => true | .byt _, .byt _ => true
  | .int _, .str _ => true | .str _, .int _ => true | .bl _, .str _ => true | .str _, .bl _ => true
  | _, _ => false
def rEq : R2 := fun x y H Q => scal x y = true ∧ Q (.bl (decide (x = y))) H
def rNe : R2 := fun x y H Q => scal x y = true ∧ Q (.bl (!decide (x = y))) H

theorem dec_int {i j : Int} : decide (V.int i = V.int j) = (i == j) := by
  rw [Bool.eq_iff_iff]
  simp
theorem dec_bl {i j : Bool} : decide (V.bl i = V.bl j) = (i == j) := by
  rw [Bool.eq_iff_iff]
  simp
theorem dec_str {i j : Str} : decide (V.str i = V.str j) = (i == j) := by
  rw [Bool.eq_iff_iff]
  simp
theorem dec_byt {i j : Array UInt8} : decide (V.byt i = V.byt j) = (i.toList == j.toList) := by
  rw [Bool.eq_iff_iff]
  cases i
  cases j
  simp

section
variable {X : Cx} {a b c : Expr} {ta tb tc : TE} {pos : Pos}
theorem fin_bl {pins : List (Addr × Obj)} {σ : St} {H : Hp} {s : Shared} {Q : VK} {k k' : Bool} (I : Inv X pins σ H s) (q : Q (.bl k) H) (e : k = k') : EP X pins σ Q (.bool k') s := by
  subst e
  exact ⟨.bl k, H, I, rfl, q⟩
theorem op_eq : OpR X (compareOp .Eq) rEq := by
  intro pins s σ H x y v u Q I rx ry h
  obtain ⟨hs, q⟩ := h
  cases x with
  | non =>
    cases rx
    cases y with
    | non => cases ry; exact PySem.EqNone.eq_none_none (fin_bl I q (by simp))
    | bl j => cases ry; exact PySem.EqNone.eq_none_bool (fin_bl I q (by simp))
    | int j => obtain ⟨t', rfl⟩ := ry; exact PySem.EqNone.eq_none_int (fin_bl I q (by simp))
    | str j => obtain ⟨t', rfl⟩ := ry; exact PySem.EqNone.eq_none_str (fin_bl I q (by simp))
    | _ => exact absurd (show false = true from hs) Bool.false_ne_true
  | bl i =>
    cases rx
    cases y with
    | non => cases ry; exact PySem.EqNone.eq_bool_none (fin_bl I q (by simp))
    | bl j => cases ry; exact eq_bool (fin_bl I q dec_bl)
    | str j => obtain ⟨t', rfl⟩ := ry; exact PySem.EqMixed.eq_bool_str (fin_bl I q (by simp))
    | _ => exact absurd (show false = true from hs) Bool.false_ne_true
  | int i =>
    obtain ⟨t, rfl⟩ := rx
    cases y with
    | non => cases ry; exact PySem.EqNone.eq_int_none (fin_bl I q (by simp))
    | int j => obtain ⟨t', rfl⟩ := ry; exact eq_int (fin_bl I q dec_int)
    | str j => obtain ⟨t', rfl⟩ := ry; exact PySem.EqMixed.eq_int_str (fin_bl I q (by simp))
    | _ => exact absurd (show false = true from hs) Bool.false_ne_true
  | str i =>
    obtain ⟨t, rfl⟩ := rx
    cases y with
    | non => cases ry; exact PySem.EqNone.eq_str_none (fin_bl I q (by simp))
    | bl j => cases ry; exact PySem.EqMixed.eq_str_bool (fin_bl I q (by simp))
    | int j => obtain ⟨t', rfl⟩ := ry; exact PySem.EqMixed.eq_str_int (fin_bl I q (by simp))
    | str j => obtain ⟨t', rfl⟩ := ry; exact eq_str (fin_bl I q dec_str)
    | _ => exact absurd (show false = true from hs) Bool.false_ne_true
  | byt i =>
    obtain ⟨t, rfl⟩ := rx
    cases y with
    | byt j => obtain ⟨t', rfl⟩ := ry; exact PySem.W.eq_bytes (fin_bl I q dec_byt)
    | _ => exact absurd (show false = true from hs) Bool.false_ne_true
  | _ => cases y <;> exact absurd (show false = true from hs) Bool.false_ne_true
theorem op_ne : OpR X (compareOp .NotEq) rNe := by
  intro pins s σ H x y v u Q I rx ry h
  obtain ⟨hs, q⟩ := h
  cases x with
  | non =>
    cases rx
    cases y with
    | non => cases ry; exact PySem.EqNone.ne_none_none (fin_bl I q (by simp))
    | bl j => cases ry; exact PySem.EqNone.ne_none_bool (fin_bl I q (by simp))
    | int j => obtain ⟨t', rfl⟩ := ry; exact PySem.EqNone.ne_none_int (fin_bl I q (by simp))
    | str j => obtain ⟨t', rfl⟩ := ry; exact PySem.EqNone.ne_none_str (fin_bl I q (by simp))
    | _ => exact absurd (show false = true from hs) Bool.false_ne_true
  | bl i =>
    cases rx
    cases y with
    | non => cases ry; exact PySem.EqNone.ne_bool_none (fin_bl I q (by simp))
    | bl j => cases ry; exact ne_bool (fin_bl I q (congrArg not dec_bl))
    | str j => obtain ⟨t', rfl⟩ := ry; exact PySem.EqMixed.ne_bool_str (fin_bl I q (by simp))
    | _ => exact absurd (show false = true from hs) Bool.false_ne_true
  | int i =>
    obtain ⟨t, rfl⟩ := rx
    cases y with
    | non => cases ry; exact PySem.EqNone.ne_int_none (fin_bl I q (by simp))
    | int j => obtain ⟨t', rfl⟩ := ry; exact ne_int (fin_bl I q (congrArg not dec_int))
    | str j => obtain ⟨t', rfl⟩ := ry; exact PySem.EqMixed.ne_int_str (fin_bl I q (by simp))
    | _ => exact absurd (show false = true from hs) Bool.false_ne_true
  | str i =>
    obtain ⟨t, rfl⟩ := rx
    cases y with
    | non => cases ry; exact PySem.EqNone.ne_str_none (fin_bl I q (by simp))
    | bl j => cases ry; exact PySem.EqMixed.ne_str_bool (fin_bl I q (by simp))
    | int j => obtain ⟨t', rfl⟩ := ry; exact PySem.EqMixed.ne_str_int (fin_bl I q (by simp))
    | str j => obtain ⟨t', rfl⟩ := ry; exact ne_str (fin_bl I q (congrArg not dec_str))
    | _ => exact absurd (show false = true from hs) Bool.false_ne_true
  | byt i =>
    obtain ⟨t, rfl⟩ := rx
    cases y with
    | byt j => obtain ⟨t', rfl⟩ := ry; exact PySem.W.ne_bytes (fin_bl I q (congrArg not dec_byt))
    | _ => exact absurd (show false = true from hs) Bool.false_ne_true
  | _ => cases y <;> exact absurd (show false = true from hs) Bool.false_ne_true

theorem op_lt : OpR X (compareOp .Lt) (rI0 fun i j => .bl (decide (i < j))) := opB0 fun _ _ _ _ _ _ _ q => lt_int q
theorem op_le : OpR X (compareOp .LtE) (rI0 fun i j => .bl (decide (i ≤ j))) := opB0 fun _ _ _ _ _ _ _ q => le_int q
theorem op_gt : OpR X (compareOp .Gt) (rI0 fun i j => .bl (decide (j < i))) := opB0 fun _ _ _ _ _ _ _ q => gt_int q
theorem OpR.or {f : Value → Value → Sem Value} {r r' : R2} (h : OpR X f r) (h' : OpR X f r') : OpR X f (fun x y H Q => r x y H Q ∨ r' x y H Q) := by
  intro pins s σ H x y v u Q I rx ry q
  rcases q with q | q
  · exact h pins s σ H x y v u Q I rx ry q
  · exact h' pins s σ H x y v u Q I rx ry q

theorem nomark (b : Expr) {op : CmpOp} (h : op ≠ .In := by decide) (h2 : op ≠ .NotIn := by decide) : behindInMarks op b = false := by
  have e1 : (op == CmpOp.In) = false := by cases op <;> first | rfl | exact absurd rfl h
  have e2 : (op == CmpOp.NotIn) = false := by cases op <;> first | rfl | exact absurd rfl h2
  cases b <;> simp [behindInMarks, e1, e2]
def tTest (t : TE) : TT := fun σ H Q => t σ H fun x H' => ∃ k, x = .bl k ∧ Q k H'
theorem pt_cmpR {op : CmpOp} {r : R2} (ho : OpR X (compareOp op) r) (ha : PE X a ta) (hb : PE X b tb) (hm : behindInMarks op b = false) : PT X (.Compare a [op] [b] pos) (tTest (tOp r ta tb)) := by
  intro pins s σ H Q I h
  refine wpAny_isTrue_Compare1 (thn (ha pins s σ H _ I h) fun v s1 ⟨x, H1, I1, r1, q1⟩ => thn (hb pins s1 σ H1 _ I1 q1) fun u s2 ⟨y, H2, I2, r2, q2⟩ =>
    thn (ho pins s2 σ H2 x y v u _ I2 r1 r2 q2) fun c s3 ⟨z, H3, I3, r3, k, e, q3⟩ => ?_) hm
  subst e
  cases r3
  exact wpAny_truthy_bool ⟨H3, I3, q3⟩
def tChain (r r' : R2) (ta tb tc : TE) : TE := fun σ H Q => ta σ H fun x H1 => tb σ H1 fun y H2 => r x y H2 fun z H3 => ∃ k, z = .bl k ∧
  (if k = true then tc σ H3 fun w' H4 => r' y w' H4 Q else Q (.bl false) H3)
theorem line63 : (sizeLine : Nat) < 2 ^ 63 := by rw [sizeLine_eq]; decide
theorem vals1 {x : V} {us : List Value} (r : Vals [x] us) : ∃ u, us = [u] ∧ RelV x u := by
  cases r with
  | cons r1 r2 => cases r2; exact ⟨_, rfl, r1⟩
end
end L2

namespace L2
open PySem PySem.Spec PyProof.Rows

structure ObjM (h : Heap) (x dx C : Addr) (mA : Str → Option Value) : Prop where
  obj : h.get? x = some (PySem.W.instObj C dx)
  ns : h.Ns1 dx mA
  ne : dx ≠ x

theorem lookIn_ns {h : Heap} {dx : Addr} {mA : Str → Option Value} (n : h.Ns1 dx mA) : ∃ od, h.get? dx = some od ∧ ∀ name, PySem.W.lookIn name od = some (mA name) := by
  obtain ⟨o, es, ep, ho, hd, hk, _, hm⟩ := n
  refine ⟨o, ho, fun name => ?_⟩
  have e := hm name
  unfold nsFind findBy at e
  rw [← Array.find?_toList] at e
  unfold PySem.W.lookIn
  rw [hd]
  dsimp only
  split
  · rename_i y q
    rw [q] at e
    exact congrArg some e
  · rename_i q
    rw [q] at e
    have a : es.toList.any (·.refKey) = false := by
      rw [List.any_eq_false]
      intro y hy
      obtain ⟨z, t, hkey⟩ := hk y (Array.mem_toList_iff.mp hy)
      simp [DictEntry.refKey, hkey]
    have a' : ¬ es.toList.any (·.refKey) = true := by rw [a]; exact Bool.false_ne_true
    rw [if_neg a']
    exact congrArg some e

theorem ObjM.look {h : Heap} {x dx C : Addr} {mA : Str → Option Value} (I : ObjM h x dx C mA) : ∃ od, PySem.W.InstAt h x (PySem.W.instObj C dx) C (some od) ∧ ∀ name, PySem.W.lookIn name od = some (mA name) :=
  let ⟨od, ho, hl⟩ := lookIn_ns I.ns
  ⟨od, ⟨I.obj, rfl, rfl, ho⟩, hl⟩

section
variable {prog : Program} {w : World} {A : Around} {E : Value → Shared → Prop} {s : Shared} {K : PySem.W.Frag} {x dx C f : Addr} {mA : Str → Option Value} {name : Str} {v : Value}

end

theorem RelO.some_of {v : V} {o : Option Value} (r : RelO (some v) o) : ∃ u, o = some u ∧ RelV v u := by
  cases o with
  | none => exact (show False from r).elim
  | some u => exact ⟨u, rfl, r⟩
theorem RelO.none_of {o : Option Value} (r : RelO none o) : o = none := by
  cases o with
  | none => rfl
  | some u => exact (show False from r).elim
section
variable {P : Program} {w : World} {H H' : Hp} {h h' : Heap} {a C dx : Addr} {fs fs' : List (Str × V)}
end

structure Cls (K : PySem.W.Frag) (C : Addr) : Prop where
  pg : PySem.W.plainGet K C Str.empty = true
  hd : PySem.W.hasDictIn K C = true
  po : PySem.W.plainOver K C = true
  sa : PySem.W.findIn K (.ref C) "__setattr__" = some (some (.builtin "object.__setattr__"))
theorem Cls.get {K : PySem.W.Frag} {C : Addr} (c : Cls K C) (f : Str) : PySem.W.plainGet K C f = true := c.pg
structure Con (K : PySem.W.Frag) (C : Addr) (f : Str) (v : V) (u : Value) : Prop where
  at_ : PySem.W.findIn K (.ref C) f = some (some u)
  rel : RelV v u
  get : PySem.W.specialIn K u "__get__" = some none
  cp : PySem.W.copiedNames.contains f = false
structure Meth (K : PySem.W.Frag) (C : Addr) (m : Str) (f : Addr) : Prop where
  at_ : PySem.W.findIn K (.ref C) m = some (some (.ref f))
  fn : PySem.W.isFn K (.ref f) = true
  kp : PySem.W.keepIn K (.ref f) = true

section
variable {X : Cx} {pins : List (Addr × Obj)} {σ : St} {H : Hp} {s : Shared} {a C dx : Addr} {fs : List (Str × V)} {f : Str} {v : V} {A : Around} {E : Value → Shared → Prop}

end

section
variable {X : Cx} {o e value : Expr} {f : Str} {pos pos' tpos : Pos} {ta tv : TE}
end

section
variable {X : Cx} {pins : List (Addr × Obj)} {σ : St} {H : Hp} {s : Shared} {A : Around} {E : Value → Shared → Prop} {Q : Value → Shared → Prop} {c : Value} {b : Bool}
inductive TyOf (K : PySem.W.Frag) (H : Hp) : V → Value → Prop where
  | non : TyOf K H .non (.type "NoneType")
  | bl (x : Bool) : TyOf K H (.bl x) (.type "bool")
  | int (i : Int) : TyOf K H (.int i) (.type "int")
  | str (x : Str) : TyOf K H (.str x) (.type "str")
  | flt (x : UInt64) : TyOf K H (.flt x) (.type "float")
  | lst {a : Addr} {xs : List V} (e : H a = some (.lst xs)) : TyOf K H (.ref a) (.type "list")
  | frz {a : Addr} {o : Obj} {xs : List V} (e : H a = some (.frz o (.lst xs))) : TyOf K H (.ref a) (.type "list")
  | tup {a : Addr} {xs : List V} (e : H a = some (.tup xs)) : TyOf K H (.ref a) (.type "tuple")
  | dK {a : Addr} {kvs : List (Key × V)} (e : H a = some (.dK kvs)) : TyOf K H (.ref a) (.type "dict")
  | dT {a : Addr} {kvs : List (List Key × V)} (e : H a = some (.dT kvs)) : TyOf K H (.ref a) (.type "dict")
  | ins {a C dx : Addr} {fs : List (Str × V)} (e : H a = some (.ins C dx fs)) (cl : Cls K C) (ha : PySem.W.findIn K (.ref C) "__class__" = some (some (.builtin "object.__class__")))
      (hn : PySem.W.specialIn K (.builtin "object.__class__") "__get__" = some (some (.builtin "getset_descriptor.__get__"))) (htk : PySem.W.takesIn K (.builtin "object.__class__") = some true)
      (hm : PySem.W.mroIn K C (.type "object") = some true) : TyOf K H (.ref a) (.ref C)
end
end L2

namespace L2
open PySem PySem.Spec PyProof.Rows

structure Room (k : Nat) (A : Around) : Prop where
  hd : A.handled = none
  dp : A.depth + 3 * k + 5 < recursionLimit
  un : A.units + 16 * k + 200 < cLine
theorem Room.mono {j k : Nat} {A : Around} (r : Room k A) (h : j ≤ k) : Room j A := ⟨r.hd, by have := r.dp; omega, by have := r.un; omega⟩
theorem Room.deeper {k : Nat} {A : Around} (r : Room (k + 1) A) (env : Env) : Room k (A.deeper env) :=
  ⟨r.hd, by have := r.dp; show A.depth + 1 + 3 * k + 5 < _; omega, by have := r.un; show A.units + 3 + 16 * k + 200 < _; omega⟩
theorem Room.in1 {k : Nat} {A : Around} (r : Room (k + 1) A) : Room k A.in1 :=
  ⟨r.hd, by have := r.dp; show A.depth + 3 * k + 5 < _; omega, by have := r.un; show A.units + 1 + 16 * k + 200 < _; omega⟩
theorem Room.depth {k : Nat} {A : Around} (r : Room k A) : A.depth < recursionLimit := by have := r.dp; omega
theorem Room.units {k : Nat} {A : Around} (r : Room k A) : A.units + 64 < cLine := by have := r.un; omega
def tNil : TA := fun _ H Q => Q [] H
def tCons (ta : TE) (tr : TA) : TA := fun σ H Q => ta σ H fun x H1 => tr σ H1 fun xs H2 => Q (x :: xs) H2
section
variable {X : Cx} {e : Expr} {es : List Expr} {te : TE} {t : TA} {pos : Pos}
theorem pa_nil : PA X [] tNil := fun _ _ _ _ H Q I h => Calls.spliced_nil ⟨[], H, I, .nil, h⟩
theorem pa_cons (ha : PE X e te) (hr : PA X es t) (hs : starEach (e :: es) X.env = (false, eval e X.env) :: starEach es X.env := by rfl) : PA X (e :: es) (tCons te t) := by
  intro pos pins s σ H Q I h
  rw [hs]
  show wpAny _ _ (spliced ((false, eval e X.env) :: backTo pos (starEach es X.env))) _ _ s
  refine Calls.spliced_cons (thn (ha pins s σ H _ I h) fun u s1 ⟨x, H1, I1, r1, q1⟩ => ?_)
  exact thn (hr pos pins s1 σ H1 _ I1 q1) fun us s2 ⟨xs, H2, I2, r2, q2⟩ => ⟨x :: xs, H2, I2, .cons r1 r2, q2⟩

def tTup (t : TA) : TE := fun σ H Q => t σ H fun xs H1 => xs.length ≤ sizeLine ∧ ∀ p, H1 p = none → Q (.ref p) (upd H1 p (.tup xs))
def tLst (t : TA) : TE := fun σ H Q => t σ H fun xs H1 => xs.length ≤ sizeLine ∧ ∀ p, H1 p = none → Q (.ref p) (upd H1 p (.lst xs))
theorem pe_tup {x1} (h : PA X es t) : PE X (.Tuple es x1 pos) (tTup t) := by
  intro pins s σ H Q I hq
  refine wpAny_Tuple_spliced (thn (h pos pins s σ H _ I hq) fun us s1 ⟨xs, H1, I1, r, z, q⟩ => ⟨by rw [← r.length]; exact z, ?_⟩)
  have hf : H1 s1.heap.objs.size = none := I1.hok.fresh (Nat.le_refl _)
  refine ⟨.ref s1.heap.objs.size, upd H1 s1.heap.objs.size (.tup xs), I1.laid (t' := s1.toks) (fun b u e => Heap.get?_push_of_some _ e) (Nat.le_refl _) ?_, rfl, q _ hf⟩
  exact ⟨z, us, r, ⟨_, Heap.get?_push_size _ rfl, rfl, _, rfl⟩⟩
theorem pe_lst (h : PA X es t) : PE X (.List es pos) (tLst t) := by
  intro pins s σ H Q I hq
  refine wpAny_List_spliced (thn (h pos pins s σ H _ I hq) fun us s1 ⟨xs, H1, I1, r, z, q⟩ => ⟨by rw [← r.length]; exact z, ?_⟩)
  have hf : H1 s1.heap.objs.size = none := I1.hok.fresh (Nat.le_refl _)
  refine ⟨.ref s1.heap.objs.size, upd H1 s1.heap.objs.size (.lst xs), I1.laid (t' := s1.toks) (fun b u e => Heap.get?_push_of_some _ e) (Nat.le_refl _) ?_, rfl, q _ hf⟩
  exact ⟨z, us, 0, r, Heap.get?_push_size _ rfl⟩
end

abbrev Sp := List V → Hp → VK → XK → Prop
abbrev CXT := List Env → Hp → Shared → XK → Value → Shared → Prop

structure Env0 (P : Program) (w : World) (K : PySem.W.Frag) (mg : Str → Option Value) (base : Heap) (A : Around) (outer : List Env) (s : Shared) (H : Hp) : Prop where
  frames : A.frames = some outer
  mod : Mod K mg base
  bs : ∀ b o, base.get? b = some o → s.heap.get? b = some o ∧ H b = none
  bsz : base.objs.size ≤ s.heap.objs.size
  funs : s.heap.FunFrames base outer
  frf : ∀ b ∈ frs outer, H b = none
  hok : HOk P w H s.heap
  bare : AllBare s.gens
def CE (outer : List Env) (P : Program) (w : World) (H : Hp) (s : Shared) (Q : VK) (u : Value) (s' : Shared) : Prop :=
  ∃ v H', s'.os = s.os ∧ AllBare s'.gens ∧ Un (frs outer) [] H H' s.heap s'.heap ∧ HOk P w H' s'.heap ∧ RelV v u ∧ Q v H'
def CR (CX : CXT) (outer : List Env) (P : Program) (w : World) (H : Hp) (s : Shared) (Q : VK) (E : XK) (r : Result) (s' : Shared) : Prop :=
  match r with
  | .ok (.ret u) => CE outer P w H s Q u s'
  | .ok _ => False
  | .error e => CX outer H s E e s'
structure FnOk (P : Program) (w : World) (K : PySem.W.Frag) (mg : Str → Option Value) (base : Heap) (CX : CXT) (k : Nat) (f : Addr) (fd : FuncData) (ps : List Str) (sp : Sp) : Prop where
  len : ∀ vs H Q E, sp vs H Q E → vs.length = ps.length
  run : ∀ (A : Around) (outer : List Env) (s : Shared) (H : Hp) (args : Args) (us : List Value) (vs : List V) (Q : VK) (E : XK), Room k A → Env0 P w K mg base A outer s H → BindsTo s fd args (ps.zip us) → Vals vs us → sp vs H Q E →
    codeAny (model P w) A (.call (.ref f) args) (CR CX outer P w H s Q E) s
theorem FnOk.mono {P : Program} {w : World} {K : PySem.W.Frag} {mg : Str → Option Value} {base : Heap} {CX : CXT} {j k : Nat} {f : Addr} {fd : FuncData} {ps : List Str} {sp : Sp} (F : FnOk P w K mg base CX j f fd ps sp) (h : j ≤ k) :
    FnOk P w K mg base CX k f fd ps sp := ⟨F.len, fun A outer s H args us vs Q E hr => F.run A outer s H args us vs Q E (hr.mono h)⟩
theorem FnOk.imp {P : Program} {w : World} {K : PySem.W.Frag} {mg : Str → Option Value} {base : Heap} {CX : CXT} {k : Nat} {f : Addr} {fd : FuncData} {ps : List Str} {sp sp' : Sp} (F : FnOk P w K mg base CX k f fd ps sp)
    (h : ∀ vs H Q E, sp' vs H Q E → sp vs H Q E) : FnOk P w K mg base CX k f fd ps sp' :=
  ⟨fun vs H Q E q => F.len vs H Q E (h _ _ _ _ q), fun A outer s H args us vs Q E hr he hb hv hs => F.run A outer s H args us vs Q E hr he hb hv (h _ _ _ _ hs)⟩

theorem Env0.in1 {P : Program} {w : World} {K : PySem.W.Frag} {mg : Str → Option Value} {base : Heap} {A : Around} {outer : List Env} {s : Shared} {H : Hp} (e : Env0 P w K mg base A outer s H) :
    Env0 P w K mg base A.in1 outer s H := ⟨e.frames, e.mod, e.bs, e.bsz, e.funs, e.frf, e.hok, e.bare⟩

section
variable {X : Cx} {pins : List (Addr × Obj)} {σ : St} {H : Hp} {s s' : Shared}
theorem Inv.env0 (I : Inv X pins σ H s) : Env0 X.prog X.w X.K X.mg X.base X.A X.stack s H :=
  ⟨I.ok.frames, I.ok.mod, I.bs, Nat.le_trans I.ok.bsz I.sz, I.stack, I.stkFree, I.hok, I.bare⟩
theorem Inv.after {Q : VK} {u : Value} (I : Inv X pins σ H s) (h : CE X.stack X.prog X.w H s Q u s') : EP X pins σ Q u s' := by
  obtain ⟨v, H', os, bare, un, hok, r, q⟩ := h
  obtain ⟨hh, g, d, t, os'⟩ := s'
  obtain rfl : os' = s.os := os
  exact ⟨v, H', I.call (h' := hh) (g' := g) (d' := d) (t' := t) (ch := []) un hok bare (fun b z => absurd z (by simp)), r, q⟩
end

def tCall (sp : Sp) (dvs : List V) (E : XK) (t : TA) : TE := fun σ H Q => t σ H fun vs H1 => sp (vs ++ dvs) H1 Q E
def Binds (K : PySem.W.Frag) (fd : FuncData) (ps : List Str) (ds : List Value) : Prop :=
  ∀ (s : Shared) (us : List Value), K.In s.heap → (us ++ ds).length = ps.length → BindsTo s fd ⟨us, []⟩ (ps.zip (us ++ ds))
theorem Binds.all {K : PySem.W.Frag} {fd : FuncData} {ps : List Str} (h : ∀ us : List Value, us.length = ps.length → bindArgs fd ⟨us, []⟩ = pure (ps.zip us)) : Binds K fd ps [] := fun s us _ hl => by
  rw [List.append_nil] at hl ⊢
  exact .of_eq (h us hl)

def Passes (CX : CXT) (X : Cx) (E : XK) : Prop := ∀ (pins : List (Addr × Obj)) (σ : St) (H : Hp) (s : Shared) (e : Value) (s' : Shared), Inv X pins σ H s → CX X.stack H s E e s' → X.xe e s'

section
variable {X : Cx} {CX : CXT} {k : Nat} {f C : Addr} {fd : FuncData} {ps : List Str} {sp : Sp} {dvs : List V} {ds : List Value} {E : XK} {x m : Str} {p pos apos : Pos} {e o : Expr} {es : List Expr} {ta : TE} {t : TA}

theorem run_fn {pins : List (Addr × Obj)} {σ : St} {H : Hp} {s : Shared} {Q : VK} {us : List Value} {vs : List V} (F : FnOk X.prog X.w X.K X.mg X.base CX k f fd ps sp) (hr : Room k X.A) (hb : Binds X.K fd ps ds) (hd : Vals dvs ds) (hx : Passes CX X E)
    (I : Inv X pins σ H s) (r : Vals vs us) (h : sp (vs ++ dvs) H Q E) : wpAny (model X.prog X.w) X.A (call (.ref f) us) (EP X pins σ Q) X.xe s := by
  have r2 : Vals (vs ++ dvs) (us ++ ds) := r.append hd
  have hl : (us ++ ds).length = ps.length := by rw [← r2.length]; exact F.len _ _ _ _ h
  refine wpAny_call (codeAny_mono (F.run X.A X.stack s H ⟨us, []⟩ (us ++ ds) (vs ++ dvs) Q E hr I.env0 (hb s us I.kIn hl) r2 h) fun r s' hq => ?_)
  cases r with
  | error e => exact hx pins σ H s e s' I hq
  | ok fl =>
    cases fl with
    | ret u => exact I.after hq
    | next => exact False.elim hq
    | brk => exact False.elim hq
    | cont => exact False.elim hq

theorem pe_call (F : FnOk X.prog X.w X.K X.mg X.base CX k f fd ps sp) (hr : Room k X.A) (hg : Gl X x) (hm : X.mg x = some (.ref f)) (hk : PySem.W.keepIn X.K (.ref f) = true) (hb : Binds X.K fd ps ds) (hd : Vals dvs ds) (hx : Passes CX X E)
    (ha : PA X (e :: es) t) (hdb : (x == ("__debug__" : Str)) = false := by decide) (he : starEach (e :: es) X.env = (false, eval e X.env) :: starEach es X.env := by rfl) (hpl : (backTo pos (starEach es X.env)).any (·.1) = false := by rfl) :
    PE X (.Call (.Name x p) (e :: es) [] pos) (tCall sp dvs E t) := by
  intro pins s σ H Q I h
  refine wpAny_Call_Name_kw (ld_glob I hg hm ?_ hdb)
  refine PySem.W.callWith_K (h₀ := X.base) I.ok.mod.kin hk (thn (ha pos pins s σ H _ I h) fun us s1 ⟨vs, H1, I1, r, q⟩ => ⟨I1.kIn, ?_⟩) he hpl
  exact run_fn F hr hb hd hx I1 r q
structure Mk (K : PySem.W.Frag) (C f : Addr) : Prop where
  makes : PySem.W.makesIn K C = true
  init : PySem.W.findIn K (.ref C) "__init__" = some (some (.ref f))
  fn : PySem.W.isFn K (.ref f) = true
  kp : PySem.W.keepIn K (.ref C) = true

end

section
variable {X : Cx} {CX : CXT} {k : Nat} {f C : Addr} {fd : FuncData} {ps ks : List Str} {sp : Sp} {E : XK} {x m : Str} {p pos apos kpos : Pos} {e o : Expr} {es : List Expr} {kws : List Keyword} {te ta : TE} {t tk : TA} {nm : Option Str}
structure KBinds (K : PySem.W.Frag) (fd : FuncData) (ps ks : List Str) (g : List Value → List Value → List Value) (gV : List V → List V → List V) : Prop where
  to : ∀ (s : Shared) (us ws : List Value), K.In s.heap → (g us ws).length = ps.length → BindsTo s fd ⟨us, ks.zip ws⟩ (ps.zip (g us ws))
  rel : ∀ {vs : List V} {us : List Value} {zs : List V} {ws : List Value}, Vals vs us → Vals zs ws → Vals (gV vs zs) (g us ws)
variable {g : List Value → List Value → List Value} {gV : List V → List V → List V}
end

structure FnScope (N P : List Str) (sc : Scope) : Prop where
  kind : sc.kind = .function
  co : sc.isCoroutine = false
  gen : sc.isGenerator = false
  nd : N.Nodup
  pre : N.take P.length = P
  par : ∀ x ∈ P, sc.names.lookup x = some .local ∨ sc.names.lookup x = some .cell
  nofree : ∀ y ∈ sc.names, y.2 ≠ .free

theorem bindL_out {kindOf : Str → Option NameKind} {x : Str} : ∀ {binds : List (Str × Value)} {m : Str → Option Value}, (∀ v, (x, v) ∉ binds) → bindL kindOf binds m x = m x
  | [], _, _ => rfl
  | (n, v) :: r, m, h => by
    unfold bindL
    rw [bindL_out fun w hw => h w (List.mem_cons_of_mem _ hw)]
    split
    · have : x ≠ n := by rintro rfl; exact h v List.mem_cons_self
      simp [this]
    · rfl
theorem bindC_out {kindOf : Str → Option NameKind} {x : Str} : ∀ {binds : List (Str × Value)} {m : Str → Option Value}, (∀ v, (x, v) ∉ binds) → bindC kindOf binds m x = m x
  | [], _, _ => rfl
  | (n, v) :: r, m, h => by
    unfold bindC
    rw [bindC_out fun w hw => h w (List.mem_cons_of_mem _ hw)]
    split
    · rfl
    · have : x ≠ n := by rintro rfl; exact h v List.mem_cons_self
      simp [this]
theorem bindL_get {kindOf : Str → Option NameKind} {x : Str} {v : Value} : ∀ {P : List Str} {vs : List Value} {i : Nat} {m : Str → Option Value}, P.Nodup → P[i]? = some x → vs[i]? = some v → kindOf x = some .local →
    bindL kindOf (P.zip vs) m x = some v
  | [], _, _, _, _, h, _, _ => by simp at h
  | _ :: _, [], _, _, _, _, h, _ => by simp at h
  | p :: P, w :: vs, 0, m, nd, h1, h2, hk => by
    simp at h1 h2; subst h1; subst h2
    show bindL kindOf ((p, w) :: P.zip vs) m p = _
    unfold bindL
    rw [bindL_out fun v hv => (List.nodup_cons.mp nd).1 (List.of_mem_zip hv).1, if_pos hk]
    simp
  | p :: P, w :: vs, i + 1, m, nd, h1, h2, hk => by
    show bindL kindOf ((p, w) :: P.zip vs) m x = _
    unfold bindL
    exact bindL_get (i := i) (List.nodup_cons.mp nd).2 (by simpa using h1) (by simpa using h2) hk
theorem bindC_get {kindOf : Str → Option NameKind} {x : Str} {v : Value} : ∀ {P : List Str} {vs : List Value} {i : Nat} {m : Str → Option Value}, P.Nodup → P[i]? = some x → vs[i]? = some v → kindOf x ≠ some .local →
    bindC kindOf (P.zip vs) m x = some v
  | [], _, _, _, _, h, _, _ => by simp at h
  | _ :: _, [], _, _, _, _, h, _ => by simp at h
  | p :: P, w :: vs, 0, m, nd, h1, h2, hk => by
    simp at h1 h2; subst h1; subst h2
    show bindC kindOf ((p, w) :: P.zip vs) m p = _
    unfold bindC
    rw [bindC_out fun v hv => (List.nodup_cons.mp nd).1 (List.of_mem_zip hv).1, if_neg hk]
    simp
  | p :: P, w :: vs, i + 1, m, nd, h1, h2, hk => by
    show bindC kindOf ((p, w) :: P.zip vs) m x = _
    unfold bindC
    exact bindC_get (i := i) (List.nodup_cons.mp nd).2 (by simpa using h1) (by simpa using h2) hk

def start (N : List Str) (vs : List V) : St := vs.map some ++ List.replicate (N.length - vs.length) none

def cxOf (CX : CXT) (P : Program) (w : World) (K : PySem.W.Frag) (mg : Str → Option Value) (base : Heap) (N : List Str) (qual : Str) (scope : Scope) (f : Addr) (cd : Value) (A : Around) (outer : List Env) (s : Shared) (H : Hp) (E : XK) : Cx where
  prog := P
  w := w
  K := K
  mg := mg
  base := base
  A := A.deeper (envOfC qual scope s.heap.objs.size f cd)
  N := N
  s_0 := s
  H_0 := H
  env := envOfC qual scope s.heap.objs.size f cd
  outer := outer
  stack := envOfC qual scope s.heap.objs.size f cd :: outer
  ex := []
  calm := true
  fn := fun _ => true
  pn := []
  xe := fun e s' => wpAny (model P w) (A.deeper (envOfC qual scope s.heap.objs.size f cd)) (leaving (envOfC qual scope s.heap.objs.size f cd) e) (fun _ s'' => CX outer H s E e s'') (fun e' s'' => CX outer H s E e' s'') s'

theorem cell_has {sc : Scope} {n : Nat} {x : Str} (h : sc.names.lookup x = some .cell) : ∃ c, (cellsFrom n sc.names []).lookup x = some c := by
  have q := PySem.W.cellsFrom_some sc.names n [] (.inl h)
  exact Option.isSome_iff_exists.mp q

theorem inv_start {CX : CXT} {P : Program} {w : World} {K : PySem.W.Frag} {mg : Str → Option Value} {base : Heap} {N ps : List Str} {qual : Str} {scope : Scope} {f : Addr} {cd : Value} {A : Around} {outer : List Env} {s s1 : Shared} {H : Hp} {E : XK} {us : List Value} {vs : List V}
    (S : FnScope N ps scope) (hd : A.handled = none) (e0 : Env0 P w K mg base A outer s H) (hl : vs.length = ps.length) (r : Vals vs us)
    (x : InCallC s s.heap.objs.size (bindL (envOfC qual scope s.heap.objs.size f cd).kindOf (ps.zip us) fun _ => none) (cellsFrom (s.heap.objs.size + 1) scope.names []) (bindC (envOfC qual scope s.heap.objs.size f cd).kindOf (ps.zip us) fun _ => none) s1) :
    Inv (cxOf CX P w K mg base N qual scope f cd A outer s H E) [] (start N vs) H s1 := by
  have hpl : ps.length ≤ N.length := by have := congrArg List.length S.pre; rw [List.length_take] at this; omega
  obtain ⟨h1, tk, rfl, hk⟩ := x.done
  have noA : ∀ b : Addr, b ∉ (cxOf CX P w K mg base N qual scope f cd A outer s H E).ex := fun b z => absurd (show b ∈ ([] : List Addr) from z) (by simp)
  refine ⟨⟨e0.mod, S.kind, rfl, rfl, Nat.le_refl _, fun y z c h1 h2 => ?_, fun y hy => ?_, fun y c _ h => ?_, fun _ => hd, Around.frames_deeper e0.frames, .inr ⟨rfl, rfl⟩, fun b z => absurd z (noA b), e0.bs, e0.bsz, fun b _ _ => noA b, fun b z => absurd z (noA b), e0.funs, e0.frf⟩,
    rfl, e0.bare, Un.kept hk, ⟨_, x.toInCall.ns, fun i y v h1 h2 h3 => ?_⟩, fun y c h => ⟨_, x.cell y c h⟩, e0.hok.fresh (Nat.le_refl _), fun y c h => ?_, fun p hp => absurd (show p ∈ ([] : List (Addr × Obj)) from hp) (by simp), e0.hok.kept hk, ?_⟩
  · exact name_of_addr x.apart (PySem.mem_of_lookup h1) (PySem.mem_of_lookup h2)
  · have hy : scope.names.lookup y = some .cell ∨ scope.names.lookup y = some .free := hy
    rcases hy with hy | hy
    · exact cell_has hy
    · exact absurd rfl (S.nofree _ (PySem.mem_of_lookup hy))
  · exact Nat.le_of_lt (x.above y c (PySem.mem_of_lookup h))
  · have hi : i < vs.length := by
      unfold start at h2
      by_cases hi : i < vs.length
      · exact hi
      · rw [List.getElem?_append_right (by simpa using hi)] at h2
        rw [List.getElem?_replicate] at h2
        split at h2 <;> cases h2
    have ha : vs[i]? = some v := by
      unfold start at h2
      rw [List.getElem?_append_left (by simpa using hi), List.getElem?_map] at h2
      cases e : vs[i]? with
      | none => rw [e] at h2; cases h2
      | some a => rw [e] at h2; cases h2; rfl
    obtain ⟨u, hu, rv⟩ := r.get ha
    have hp : ps[i]? = some y := by
      rw [← S.pre, List.getElem?_take_of_lt (by omega)]; exact h1
    have ndP : ps.Nodup := by rw [← S.pre]; exact S.nd.sublist (List.take_sublist _ _)
    refine ⟨u, rv, ?_⟩
    rcases S.par y (List.mem_of_getElem? hp) with k | k
    · exact .inl ⟨k, bindL_get ndP hp hu k⟩
    · obtain ⟨c, e⟩ := cell_has (n := s.heap.objs.size + 1) k
      refine .inr ⟨.inl k, c, e, ?_⟩
      have q := x.cell y c e
      rw [bindC_get ndP hp hu (by show scope.names.lookup y ≠ _; rw [k]; decide)] at q
      exact q
  · exact e0.hok.fresh (Nat.le_of_lt (x.above y c (PySem.mem_of_lookup h)))
  · unfold start
    show _ = N.length
    rw [List.length_append, List.length_map, List.length_replicate]
    omega

theorem fn_of {CX : CXT} {P : Program} {w : World} {K : PySem.W.Frag} {mg : Str → Option Value} {base : Heap} {k : Nat} {f : Addr} {name qual : Str} {params : Arguments} {body : List Stmt} {scope : Scope} {dV kV doc pm cdv ct oc : Value} {an od : Option Addr}
    {osl : Array (Option Value)} {N ps : List Str} {sp : Sp} (lk : K.lookup f = some ⟨oc, od, .func (PySem.W.fnOf name qual params body scope dV kV doc pm an cdv ct), osl⟩) (hcd : PySem.W.codeIn K cdv qual = true) (S : FnScope N ps scope)
    (len : ∀ vs H Q E, sp vs H Q E → vs.length = ps.length)
    (hbody : ∀ (A : Around) (outer : List Env) (s : Shared) (H : Hp) (vs : List V) (Q : VK) (E : XK), Room k (A.deeper (envOfC qual scope s.heap.objs.size f cdv)) → sp vs H Q E →
      ∃ t, PSs (cxOf CX P w K mg base N qual scope f cdv A outer s H E) body t ∧ t { nx := fun _ H' => Q .non H', rt := Q } (start N vs) H) :
    FnOk P w K mg base CX (k + 1) f (PySem.W.fnOf name qual params body scope dV kV doc pm an cdv ct) ps sp := by
  refine ⟨len, fun A outer s H args us vs Q E hr e0 hb r hsp => ?_⟩
  have hl := len _ _ _ _ hsp
  have KX : K.In s.heap := e0.mod.kin.keeps fun b o e => (e0.bs b o e).1
  have lim : s.heap.NoLimit := e0.mod.nolimit.keeps fun b o e => (e0.bs b o e).1
  have hkind : ∀ y ∈ ps.zip us, scope.names.lookup y.1 = some .local ∨ (scope.names.lookup y.1 = some .cell ∧ ((cellsFrom (s.heap.objs.size + 1) scope.names []).lookup y.1).isSome = true) := fun ⟨n, v⟩ hy => by
    rcases S.par n (List.of_mem_zip hy).1 with q | q
    · exact .inl q
    · exact .inr ⟨q, PySem.W.cellsFrom_some _ _ _ (.inl q)⟩
  refine codeAny_call_function hr.depth (KX _ _ lk) rfl S.co S.gen rfl (PySem.W.codeRec_of KX hcd) (hb _ _ _ _ ?_)
  refine wpAny_newFunctionEnv_cells S.kind hkind fun env he s1 x => ?_
  subst he
  refine ⟨lim.keeps x.toInCall.keep, codeAny_func ?_⟩
  obtain ⟨t, ht, hq⟩ := hbody A outer s H vs Q E (hr.deeper _) hsp
  have I : Inv (cxOf CX P w K mg base N qual scope f cdv A outer s H E) [] (start N vs) H s1 := inv_start S hr.hd e0 hl r x
  refine wpAny_mono (ht [] s1 (start N vs) H _ I hq) (fun fl s' hs => ?_) fun e s' hs => hs
  have fin : ∀ {σ' : St} {H' : Hp} {v : V} {u : Value}, Inv (cxOf CX P w K mg base N qual scope f cdv A outer s H E) [] σ' H' s' → RelV v u → Q v H' → CE outer P w H s Q u s' :=
    fun {σ' H' v u} J rv q => ⟨v, H', J.os, J.bare, J.base, J.hok, rv, q⟩
  cases fl with
  | ret u =>
    obtain ⟨v, σ', H', J, rv, q⟩ := hs
    exact fin J rv q
  | next =>
    obtain ⟨σ', H', J, q⟩ := hs
    exact fin (v := V.non) (u := Value.none) J rfl q
  | brk =>
    obtain ⟨_, _, _, q⟩ := hs
    exact False.elim q
  | cont =>
    obtain ⟨_, _, _, q⟩ := hs
    exact False.elim q
end L2

namespace L2
open PySem PySem.Spec PyProof.Rows
section
variable {X : Cx} {x : Str} {p pos : Pos} {e : Expr} {es : List Expr} {t : TA} {id T : String} {r : List V → Hp → VK → Prop}

def tCB (r : List V → Hp → VK → Prop) (t : TA) : TE := fun σ H Q => t σ H fun vs H1 => r vs H1 Q
theorem pe_callB (hc : CallR X (.builtin id) r) (hg : Gl X x) (hm : X.mg x = none) (hv : bootBuiltins x = some (.builtin id)) (ha : PA X (e :: es) t) (hn : x ≠ "__name__" := by decide) (hdb : (x == ("__debug__" : Str)) = false := by decide)
    (he : starEach (e :: es) X.env = (false, eval e X.env) :: starEach es X.env := by rfl) (hpl : (backTo pos (starEach es X.env)).any (·.1) = false := by rfl) : PE X (.Call (.Name x p) (e :: es) [] pos) (tCB r t) := by
  intro pins s σ H Q I h
  refine wpAny_Call_Name_kw (ld_blt I hg hm hv ?_ hn hdb)
  exact PyProof.Rows.callWith_builtin1 (thn (ha pos pins s σ H _ I h) fun us s1 ⟨vs, H1, I1, r1, q1⟩ => hc pins s1 σ H1 vs us Q I1 r1 q1) he hpl
end
end L2

namespace HT
open PySem PyProof.Rows

def lexLt : List Int → List Int → Bool
  | [], [] => false
  | [], _ :: _ => true
  | _ :: _, [] => false
  | x :: xs, y :: ys => if x = y then lexLt xs ys else decide (x < y)
section
open PySem.SeqAt
open PySem.AutoSeq1 (wpAny_loadPart')
open PySem.MeetsSeq PySem.MeetsSeq2 PySem.MeetsSeq3

end

section
variable {prog : Program} {w : World} {A : Around} {E : Value → Shared → Prop} {s : Shared}

def sIx (n d : Nat) : Option Int → Nat
  | none => d
  | some v => if v < 0 then (v + (n : Int)).toNat else min v.toNat n
theorem sIx_none (n d : Nat) : sIx n d none = d := rfl
theorem sIx_nat (n d k : Nat) : sIx n d (some (k : Int)) = min k n := by
  show (if (k : Int) < 0 then ((k : Int) + (n : Int)).toNat else min (k : Int).toNat n) = min k n
  rw [if_neg (by omega), Int.toNat_natCast]
end
end HT

namespace L2
open PySem PySem.Spec PyProof.Rows

abbrev TO := St → Hp → (Option Int → Hp → Prop) → Prop
def PO (X : Cx) (e : Option Expr) (t : TO) : Prop :=
  ∀ (pins : List (Addr × Obj)) (s : Shared) (σ : St) (H : Hp) (Q : Option Int → Hp → Prop), Inv X pins σ H s → t σ H Q →
    wpAny (model X.prog X.w) X.A (evalPart e X.env) (fun u s' => ∃ o H', Inv X pins σ H' s' ∧ IsPart u o ∧ Q o H') X.xe s
def tNoPart : TO := fun _ H Q => Q none H
def tPart (t : TE) : TO := fun σ H Q => t σ H fun x H1 => ∃ i, x = .int i ∧ Q (some i) H1

section
variable {X : Cx} {e : Expr} {te : TE} {lo hi : Option Expr} {tl th : TO} {pos p2 : Pos}

theorem po_none : PO X none tNoPart := by
  intro pins s σ H Q I h
  rw [evalPart_none]
  exact wpAny_pure ⟨none, H, I, .none, h⟩
theorem po_some (h : PE X e te) : PO X (some e) (tPart te) := by
  intro pins s σ H Q I hw
  rw [evalPart_some]
  refine thn (h pins s σ H _ I hw) fun u s1 ⟨x, H1, I1, r1, q1⟩ => ?_
  obtain ⟨i, rfl, q⟩ := q1
  obtain ⟨t, rfl⟩ := r1
  exact ⟨some i, H1, I1, .int i t, q⟩

def SlR (X : Cx) (r : V → Option Int → Option Int → Hp → VK → Prop) : Prop :=
  ∀ (pins : List (Addr × Obj)) (s : Shared) (σ : St) (H : Hp) (x : V) (v vl vu : Value) (lo hi : Option Int) (sl : Addr) (Q : VK), Inv X pins σ H s → RelV x v → s.heap.IsSliceOf sl vl vu .none → IsPart vl lo → IsPart vu hi → r x lo hi H Q →
    ∃ T id, typeLookup (.type T) "__getitem__" = pure (some (.builtin id)) ∧ s.TypeIs v T ∧ wpAny (model X.prog X.w) X.A (getItem v (.ref sl)) (EP X pins σ Q) X.xe s
theorem SlR.or {r r' : V → Option Int → Option Int → Hp → VK → Prop} (h : SlR X r) (h' : SlR X r') : SlR X (fun x lo hi H Q => r x lo hi H Q ∨ r' x lo hi H Q) := by
  intro pins s σ H x v vl vu lo hi sl Q I rx hs pl pu q
  rcases q with q | q
  · exact h pins s σ H x v vl vu lo hi sl Q I rx hs pl pu q
  · exact h' pins s σ H x v vl vu lo hi sl Q I rx hs pl pu q
def tSl (r : V → Option Int → Option Int → Hp → VK → Prop) (te : TE) (tl th : TO) : TE := fun σ H Q => te σ H fun x H1 => tl σ H1 fun l H2 => th σ H2 fun u H3 => r x l u H3 Q
theorem pe_slice {r : V → Option Int → Option Int → Hp → VK → Prop} (hr : SlR X r) (he : PE X e te) (hl : PO X lo tl) (hu : PO X hi th) : PE X (.Subscript e (.Slice lo hi none p2) pos) (tSl r te tl th) := by
  intro pins s σ H Q I h
  refine Subscript_ (thn (he pins s σ H _ I h) fun v s1 ⟨x, H1, I1, r1, q1⟩ => ?_)
  refine wpAny_Slice (thn (hl pins s1 σ H1 _ I1 q1) fun vl s2 ⟨l, H2, I2, pl, q2⟩ => thn (hu pins s2 σ H2 _ I2 q2) fun vu s3 ⟨u, H3, I3, pu, q3⟩ => ?_)
  rw [evalPart_none]
  refine wpAny_pure ?_
  have I4 : Inv X pins σ H3 { s3 with heap := s3.heap.push { cls := .type "slice", data := .fields #[vl, vu, .none] } } := I3.kept (t' := s3.toks) fun b ob q => Heap.get?_push_of_some _ q
  obtain ⟨T, id, hT, ht, hg⟩ := hr pins { s3 with heap := s3.heap.push { cls := .type "slice", data := .fields #[vl, vu, .none] } } σ H3 x v vl vu l u s3.heap.objs.size Q I4 r1 (Heap.IsSliceOf.new ..) pl pu q3
  show wpAny (model X.prog X.w) X.A (subscriptTail e (.Slice lo hi none p2) v (.ref s3.heap.objs.size)) (EP X pins σ Q) X.xe { s3 with heap := s3.heap.push { cls := .type "slice", data := .fields #[vl, vu, .none] } }
  exact tail_any (ops := [.ref s3.heap.objs.size, v]) ht hT hg (by with_unfolding_all rfl)

def cutV (xs : List V) (lo hi : Option Int) : List V := (xs.drop (HT.sIx xs.length 0 lo)).take (HT.sIx xs.length xs.length hi - HT.sIx xs.length 0 lo)
theorem cutV_length (xs : List V) (lo hi : Option Int) : (cutV xs lo hi).length ≤ xs.length := by
  unfold cutV
  rw [List.length_take, List.length_drop]
  omega
end
end L2

namespace L2
open PySem PySem.Spec PyProof.Rows

def ixN (n : Nat) (i : Int) : Option Nat := if 0 ≤ i then (if i < n then some i.toNat else none) else if -(n : Int) ≤ i then some (i + n).toNat else none
def atI {α : Type} (xs : List α) (i : Int) : Option α := (ixN xs.length i).bind fun j => xs[j]?
theorem ixN_seq {n : Nat} {i : Int} {j : Nat} (h : ixN n i = some j) : seqIndex? i n = some j ∧ j < n ∧ -(n : Int) ≤ i ∧ i < n := by
  unfold ixN at h
  by_cases h0 : 0 ≤ i
  · rw [if_pos h0] at h
    by_cases h1 : i < n
    · rw [if_pos h1] at h
      have e : i.toNat = j := Option.some.inj h
      exact ⟨by rw [seqIndex_of h0 h1, e], by omega, by omega, h1⟩
    · rw [if_neg h1] at h; cases h
  · rw [if_neg h0] at h
    by_cases h1 : -(n : Int) ≤ i
    · rw [if_pos h1] at h
      have e : (i + n).toNat = j := Option.some.inj h
      exact ⟨by rw [seqIndex_neg (by omega) h1, e], by omega, h1, by omega⟩
    · rw [if_neg h1] at h; cases h
theorem atI_get {α : Type} {xs : List α} {i : Int} {v : α} (h : atI xs i = some v) : ∃ j, seqIndex? i xs.length = some j ∧ xs[j]? = some v ∧ j < xs.length ∧ -(xs.length : Int) ≤ i ∧ i < xs.length := by
  unfold atI at h
  cases e : ixN xs.length i with
  | none => rw [e] at h; cases h
  | some j =>
    rw [e] at h
    obtain ⟨h1, h2, h3, h4⟩ := ixN_seq e
    exact ⟨j, h1, h, h2, h3, h4⟩
theorem atI_nat {α : Type} {xs : List α} {j : Nat} {v : α} (h : xs[j]? = some v) : atI xs (j : Int) = some v := by
  have hj : j < xs.length := (List.getElem?_eq_some_iff.mp h).1
  have e : ixN xs.length (j : Int) = some j := by
    unfold ixN
    rw [if_pos (by omega), if_pos (by omega)]; simp
  unfold atI; rw [e]; exact h
theorem atI_last {α : Type} (xs : List α) (v : α) : atI (xs ++ [v]) (-1) = some v := by
  have hl : (xs ++ [v]).length = xs.length + 1 := by simp
  have e : ixN (xs ++ [v]).length (-1) = some xs.length := by
    unfold ixN
    rw [hl, if_neg (by decide), if_pos (by omega)]
    congr 1
    omega
  unfold atI
  rw [e]
  show (xs ++ [v])[xs.length]? = some v
  simp

def PlainIx (b : Expr) : Prop := ∀ o i, subscripted b false o i = operate [o, i] (getItem o i)
def IxR (X : Cx) (r : R2) : Prop :=
  ∀ (value slice : Expr) (pins : List (Addr × Obj)) (s : Shared) (σ : St) (H : Hp) (x y : V) (v u : Value) (Q : VK), Inv X pins σ H s → RelV x v → RelV y u → r x y H Q →
    subscripted slice false v u = operate [v, u] (getItem v u) → wpAny (model X.prog X.w) X.A (subscriptTail value slice v u) (EP X pins σ Q) X.xe s
def MtR (X : Cx) (id : String) (r : V → List V → Hp → VK → Prop) : Prop :=
  ∀ (pins : List (Addr × Obj)) (s : Shared) (σ : St) (H : Hp) (x : V) (xs : List V) (v : Value) (us : List Value) (Q : VK), Inv X pins σ H s → RelV x v → Vals xs us → r x xs H Q →
    wpAny (model X.prog X.w) X.A (call (.builtin id) (v :: us)) (EP X pins σ Q) X.xe s
section
variable {X : Cx} {a b : Expr} {ta tb : TE} {pos : Pos}
theorem IxR.or {r r' : R2} (h : IxR X r) (h' : IxR X r') : IxR X (fun x y H Q => r x y H Q ∨ r' x y H Q) := by
  intro value slice pins s σ H x y v u Q I rx ry q hs
  rcases q with q | q
  · exact h value slice pins s σ H x y v u Q I rx ry q hs
  · exact h' value slice pins s σ H x y v u Q I rx ry q hs
theorem MtR.or {id : String} {r r' : V → List V → Hp → VK → Prop} (h : MtR X id r) (h' : MtR X id r') : MtR X id (fun x xs H Q => r x xs H Q ∨ r' x xs H Q) := by
  intro pins s σ H x xs v us Q I rx rs q
  rcases q with q | q
  · exact h pins s σ H x xs v us Q I rx rs q
  · exact h' pins s σ H x xs v us Q I rx rs q
theorem pe_ix {r : R2} (hr : IxR X r) (ha : PE X a ta) (hb : PE X b tb) (hs : PlainIx b) : PE X (.Subscript a b pos) (tOp r ta tb) := by
  intro pins s σ H Q I h
  exact Subscript_ (binT ha hb I h fun v u s2 x y H2 I2 rx ry q => hr a b pins s2 σ H2 x y v u Q I2 rx ry q (hs _ _))

def rIxL (K : PySem.W.Frag) : R2 := fun x y H Q => ∃ p xs i v, x = .ref p ∧ y = .int i ∧ SqL K H p xs ∧ atI xs i = some v ∧ Q v H
theorem ix_list : IxR X (rIxL X.K) := by
  intro value slice pins s σ H x y v u Q I rx ry h hs
  obtain ⟨p, xs, i, z, rfl, rfl, hq, he, q⟩ := h
  cases rx
  obtain ⟨t, rfl⟩ := ry
  obtain ⟨its, r, pl, hz⟩ := I.list hq
  obtain ⟨j, h1, h2, h3, h4, h5⟩ := atI_get he
  obtain ⟨w, ew, rw'⟩ := r.get h2
  have hl := r.length
  have hn := line63
  have fin : EP X pins σ Q w s := ⟨z, H, I, rw', q⟩
  by_cases h0 : 0 ≤ i
  · have hj : i.toNat = j := by
      rw [seqIndex_of h0 h5] at h1
      exact Option.some.inj h1
    exact item_listR pl.isList h0 (by omega) (by rw [hj]; simpa using ew) fin hs
  · have hj : (i + (its.toArray.size : Int)).toNat = j := by
      rw [seqIndex_neg (by omega) h4] at h1
      rw [List.size_toArray, ← hl]
      exact Option.some.inj h1
    exact subscriptTail_builtinR (x := w) pl.isList.typeIs slot_list_getitem.lookup
      (wpAny_getItem_list_neg (Q := fun r s' => r = w ∧ EP X pins σ Q r s') pl.isList (by omega) (by rw [List.size_toArray] <;> omega) (by omega) (by rw [hj]; simpa using ew) ⟨rfl, fin⟩) hs
theorem Inv.lst {pins : List (Addr × Obj)} {σ : St} {H : Hp} {s : Shared} {p : Addr} {xs : List V} (I : Inv X pins σ H s) (h : H p = some (.lst xs)) :
    ∃ (its : List Value) (n : Nat), Vals xs its ∧ s.heap.get? p = some { cls := .type "list", data := .seq its.toArray n } ∧ xs.length ≤ sizeLine := by
  obtain ⟨z, its, n, r, e⟩ := I.hok p _ h
  exact ⟨its, n, r, e, z⟩
theorem slice_bounds (lo hi : Option Int) (n : Nat) : (sliceBounds lo hi none n).1 = ((HT.sIx n 0 lo : Nat) : Int) ∧ (sliceBounds lo hi none n).2.1 = ((HT.sIx n n hi : Nat) : Int) ∧ (sliceBounds lo hi none n).2.2 = 1 := by
  refine ⟨?_, ?_, rfl⟩
  · cases lo with
    | none => simp [sliceBounds, HT.sIx]
    | some i =>
      simp only [sliceBounds, HT.sIx, Option.getD_none, show (1 : Int) > 0 by decide, if_true]
      by_cases h : i < 0
      · simp only [h, if_true] <;> omega
      · simp only [h, if_false] <;> omega
  · cases hi with
    | none => simp [sliceBounds, HT.sIx]
    | some i =>
      simp only [sliceBounds, HT.sIx, Option.getD_none, show (1 : Int) > 0 by decide, if_true]
      by_cases h : i < 0
      · simp only [h, if_true] <;> omega
      · simp only [h, if_false] <;> omega
theorem slicePick_cut (its : List Value) (lo hi : Option Int) : slicePick its.toArray lo hi none = ((its.drop (HT.sIx its.length 0 lo)).take (HT.sIx its.length its.length hi - HT.sIx its.length 0 lo)).toArray := by
  obtain ⟨h1, h2, h3⟩ := slice_bounds lo hi its.toArray.size
  unfold slicePick
  rw [h1, h2, h3]
  simp only [sliceRange_one, pick_run, List.size_toArray] <;> rfl
def rSlL (K : PySem.W.Frag) : V → Option Int → Option Int → Hp → VK → Prop := fun x lo hi H Q => ∃ a xs, x = .ref a ∧ SqL K H a xs ∧ ∀ p, H p = none → Q (.ref p) (upd H p (.lst (cutV xs lo hi)))
theorem sl_list : SlR X (rSlL X.K) := by
  intro pins s σ H x v vl vu lo hi sl Q I rx hs pl pu h
  obtain ⟨a, xs, rfl, hx, q⟩ := h
  cases rx
  obtain ⟨its, r, ht, hz⟩ := I.list hx
  have hlen := r.length
  refine ⟨"list", _, slot_list_getitem.lookup, ht.isList.typeIs, ?_⟩
  refine wpAny_getItem_list_slice ht.isList hs pl pu .none (by simp) ?_ (by rw [List.size_toArray] <;> omega)
  rw [slicePick_cut, ← hlen]
  refine ⟨.ref s.heap.objs.size, _, I.laid (t' := s.toks) (o := .lst (cutV xs lo hi)) (fun b ob q => Heap.get?_push_of_some _ q) (Nat.le_refl _) ?_, rfl, q _ (I.hok.fresh (Nat.le_refl _))⟩
  exact ⟨Nat.le_trans (cutV_length xs lo hi) hz, _, 0, (r.drop (HT.sIx xs.length 0 lo)).take (HT.sIx xs.length xs.length hi - HT.sIx xs.length 0 lo), Heap.get?_push_size _ rfl⟩

def flatV : V → Bool
  | .non => true
  | .bl _ => true
  | .int _ => true
  | .str _ => true
  | _ => false
def eqV : V → V → Bool
  | .non, .non => true
  | .bl a, .bl b => a == b
  | .bl a, .int b => (if a then 1 else 0) == b
  | .int a, .bl b => a == (if b then 1 else 0)
  | .int a, .int b => a == b
  | .str a, .str b => a == b
  | _, _ => false
theorem eqAt_V {A : Around} {s : Shared} {y x : V} {u v : Value} (ry : RelV y u) (rx : RelV x v) (fy : flatV y = true) (fx : flatV x = true) : SeqAt.EqAt A s u v (eqV y x) := by
  cases y with
  | non =>
    cases ry
    cases x with
    | non => cases rx; exact SeqAt.EqAt.same _
    | bl b => cases rx; exact SeqAt.EqAt.none_bool b
    | int b => obtain ⟨t, rfl⟩ := rx; exact SeqAt.EqAt.none_int b t
    | str b => obtain ⟨t, rfl⟩ := rx; exact SeqAt.EqAt.none_str b t
    | _ => exact absurd (show false = true from fx) Bool.false_ne_true
  | bl a =>
    cases ry
    cases x with
    | non => cases rx; exact SeqAt.EqAt.bool_none a
    | bl b => cases rx; exact SeqAt.EqAt.bool_bool a b
    | int b => obtain ⟨t, rfl⟩ := rx; exact SeqAt.EqAt.bool_int a b t
    | str b => obtain ⟨t, rfl⟩ := rx; exact SeqAt.EqAt.bool_str a b t
    | _ => exact absurd (show false = true from fx) Bool.false_ne_true
  | int a =>
    obtain ⟨t', rfl⟩ := ry
    cases x with
    | non => cases rx; exact SeqAt.EqAt.int_none a t'
    | bl b => cases rx; exact SeqAt.EqAt.int_bool a t' b
    | int b => obtain ⟨t, rfl⟩ := rx; exact SeqAt.EqAt.int_int a t' b t
    | str b => obtain ⟨t, rfl⟩ := rx; exact SeqAt.EqAt.int_str a t' b t
    | _ => exact absurd (show false = true from fx) Bool.false_ne_true
  | str a =>
    obtain ⟨t', rfl⟩ := ry
    cases x with
    | non => cases rx; exact SeqAt.EqAt.str_none a t'
    | bl b => cases rx; exact SeqAt.EqAt.str_bool a t' b
    | int b => obtain ⟨t, rfl⟩ := rx; exact SeqAt.EqAt.str_int a t' b t
    | str b => obtain ⟨t, rfl⟩ := rx; exact SeqAt.EqAt.str_str a t' b t
    | _ => exact absurd (show false = true from fx) Bool.false_ne_true
  | _ => exact absurd (show false = true from fy) Bool.false_ne_true
def eqU (x : V) (u : Value) : Bool := match u with
  | .none => eqV .non x
  | .bool b => eqV (.bl b) x
  | .int i _ => eqV (.int i) x
  | .str z _ => eqV (.str z) x
  | _ => false
theorem eqU_of {x y : V} {u : Value} (r : RelV y u) (f : flatV y = true) : eqU x u = eqV y x := by
  cases y with
  | non => cases r; rfl
  | bl b => cases r; rfl
  | int i => obtain ⟨t, rfl⟩ := r; rfl
  | str z => obtain ⟨t, rfl⟩ := r; rfl
  | _ => exact absurd (show false = true from f) Bool.false_ne_true
theorem any_eqU {x : V} : ∀ {xs : List V} {us : List Value}, Vals xs us → xs.all flatV = true → us.any (eqU x) = xs.any fun y => eqV y x
  | _, _, .nil, _ => rfl
  | y :: xs, u :: us, .cons r t, f => by
    rw [List.all_cons, Bool.and_eq_true] at f
    rw [List.any_cons, List.any_cons, eqU_of r f.1, any_eqU t f.2]
theorem mem_eqAt {A : Around} {s : Shared} {x : V} {v : Value} (rx : RelV x v) (fx : flatV x = true) : ∀ {xs : List V} {us : List Value}, Vals xs us → xs.all flatV = true → ∀ u ∈ us, SeqAt.EqAt A s u v (eqU x u)
  | _, _, .nil, _ => fun u hu => by cases hu
  | y :: xs, u :: us, .cons r t, f => fun u' hu => by
    rw [List.all_cons, Bool.and_eq_true] at f
    rcases List.mem_cons.mp hu with rfl | hu
    · rw [eqU_of r f.1]; exact eqAt_V r rx f.1 fx
    · exact mem_eqAt rx fx t f.2 u' hu
def inV (x : V) (xs : List V) : Bool := xs.any fun y => eqV y x
def rIn (K : PySem.W.Frag) (neg : Bool) : R2 := fun x y H Q => ∃ p xs, y = .ref p ∧ (SqL K H p xs ∨ SqT K H p xs) ∧ flatV x = true ∧ xs.all flatV = true ∧ Q (.bl (if neg then !inV x xs else inV x xs)) H
theorem op_notIn_seq : OpR X (compareOp .NotIn) (rIn X.K true) := by
  intro pins s σ H x y v u Q I rx ry h
  obtain ⟨p, xs, rfl, hq, fx, fs, q⟩ := h
  cases ry
  rcases hq with hq | hq
  · obtain ⟨its, r, pl, hz⟩ := I.list hq
    refine SeqAt.notIn_listAt (eqU x) pl.isList (fun w hw => mem_eqAt rx fx r fs w (by simpa using hw)) ⟨.bl _, H, I, rfl, ?_⟩
    rw [show its.toArray.any (eqU x) = its.any (eqU x) by simp, any_eqU r fs]
    exact q
  · obtain ⟨its, r, pl, hz⟩ := I.tuple hq
    refine SeqAt.notIn_tupleAt (eqU x) pl (fun w hw => mem_eqAt rx fx r fs w (by simpa using hw)) ⟨.bl _, H, I, rfl, ?_⟩
    rw [show its.toArray.any (eqU x) = its.any (eqU x) by simp, any_eqU r fs]
    exact q
theorem call_len_seq : CallR X (.builtin "len") (fun xs H Q => ∃ p ys, xs = [.ref p] ∧ (SqL X.K H p ys ∨ SqT X.K H p ys) ∧ Q (.int ys.length) H) := by
  intro pins s σ H xs us Q I r h
  obtain ⟨p, ys, rfl, hq, q⟩ := h
  obtain ⟨u, rfl, rx⟩ := vals1 r
  cases rx
  have hn := line63
  rcases hq with hq | hq
  · obtain ⟨its, r', pl, hz⟩ := I.list hq
    have hlen := r'.length
    exact Calls.call_len_list pl.isList (by simp only [List.size_toArray] <;> omega) ⟨.int ys.length, H, I.tok _, ⟨s.toks + 1, by rw [List.size_toArray, hlen]⟩, q⟩
  · obtain ⟨its, r', pl, hz⟩ := I.tuple hq
    have hlen := r'.length
    exact len_tuple pl (by simp only [List.size_toArray] <;> omega) ⟨.int ys.length, H, I.tok _, ⟨s.toks + 1, by rw [List.size_toArray, hlen]⟩, q⟩
theorem CallR.or {f : Value} {r r' : List V → Hp → VK → Prop} (h : CallR X f r) (h' : CallR X f r') : CallR X f (fun xs H Q => r xs H Q ∨ r' xs H Q) := by
  intro pins s σ H xs us Q I rs q
  rcases q with q | q
  · exact h pins s σ H xs us Q I rs q
  · exact h' pins s σ H xs us Q I rs q
def tyV (K : PySem.W.Frag) (T : String) (x : V) (H : Hp) : Prop := match x with
  | .str _ => T = "str"
  | .int _ => T = "int"
  | .ref p => (T = "list" ∧ ∃ xs, SqL K H p xs) ∨ (T = "tuple" ∧ ∃ o, K.lookup p = some o ∧ o.cls = .type "tuple" ∧ o.dict = none) ∨
      (T = "dict" ∧ ((∃ kvs, H p = some (.dK kvs)) ∨ ∃ kvs, H p = some (.dT kvs))) ∨ (T = "set" ∧ ∃ S n, H p = some (.set S n))
  | _ => False
theorem tyV_is {pins : List (Addr × Obj)} {σ : St} {H : Hp} {s : Shared} {T : String} {x : V} {v : Value} (I : Inv X pins σ H s) (r : RelV x v) (ty : tyV X.K T x H) :
    s.TypeIs v T ∧ ∀ a, v = .ref a → ∃ ob, s.heap.get? a = some ob ∧ ob.dict = none := by
  cases x with
  | str z =>
    obtain ⟨t, rfl⟩ := r
    cases (show T = "str" from ty)
    exact ⟨typeIs_str s z t, fun _ e => nomatch e⟩
  | int i =>
    obtain ⟨t, rfl⟩ := r
    cases (show T = "int" from ty)
    exact ⟨typeIs_int s i t, fun _ e => nomatch e⟩
  | ref p =>
    cases r
    rcases ty with ⟨rfl, xs, hq⟩ | ⟨rfl, o, hk, hc, hd⟩ | ⟨rfl, hk⟩ | ⟨rfl, S, n, hk⟩
    · obtain ⟨its, _, pl, _⟩ := I.list hq
      refine ⟨pl.isList.typeIs, fun a e => ?_⟩
      cases e
      obtain ⟨o, n, e, c, hd, _⟩ := pl
      exact ⟨o, e, hd⟩
    · refine ⟨⟨o, I.kIn p o hk, hc⟩, fun a e => ?_⟩
      cases e
      exact ⟨o, I.kIn _ o hk, hd⟩
    · have z : ∃ o, s.heap.get? p = some o ∧ o.ExactDict := by
        rcases hk with ⟨kvs, hk⟩ | ⟨kvs, hk⟩
        · obtain ⟨_, _, _, _, o, _, _, e, ex, _⟩ := I.hok p _ hk
          exact ⟨o, e, ex⟩
        · obtain ⟨_, _, _, _, o, _, _, e, ex, _⟩ := I.hok p _ hk
          exact ⟨o, e, ex⟩
      obtain ⟨o, e, ex⟩ := z
      refine ⟨⟨o, e, ex.1⟩, fun a e2 => ?_⟩
      cases e2
      exact ⟨o, e, ex.2.1⟩
    · obtain ⟨o, _, _, _, e, ex, _⟩ := I.hok p _ hk
      refine ⟨⟨o, e, ex.1⟩, fun a e2 => ?_⟩
      cases e2
      exact ⟨o, e, ex.2.1⟩
  | _ => exact False.elim ty
def tBM0 (K : PySem.W.Frag) (T : String) (r : V → List V → Hp → VK → Prop) (to : TE) : TE := fun σ H Q => to σ H fun x H1 => tyV K T x H1 ∧ r x [] H1 Q
def tBM (K : PySem.W.Frag) (T : String) (r : V → List V → Hp → VK → Prop) (to : TE) (t : TA) : TE := fun σ H Q => to σ H fun x H1 => tyV K T x H1 ∧ t σ H1 fun xs H2 => r x xs H2 Q
variable {o e : Expr} {es : List Expr} {to : TE} {t : TA} {name : Str} {apos cpos : Pos} {T id : String} {r : V → List V → Hp → VK → Prop}
theorem pe_bm0 (pa : PlainAttrs T) (slot : Slot T name id) (hty : typeOf (.builtin id) = pure (.type "method_descriptor")) (hm : MtR X id r) (ho : PE X o to)
    (hbase : attributeBase o name X.env (eval o X.env) = eval o X.env := by rfl) (hline : (apos.endLine == cpos.line) = true := by rfl) : PE X (.Call (.Attribute o name apos) [] [] cpos) (tBM0 X.K T r to) := by
  intro pins s σ H Q I h
  refine wpAny_Call_method0_late hbase hline (thn (ho pins s σ H _ I h) fun v s1 ⟨x, H1, I1, r1, ty, q1⟩ => ?_)
  obtain ⟨h1, h2⟩ := tyV_is I1 r1 ty
  exact ⟨T, id, pa, slot, hty, h1, h2, Calls.callWith_builtin rfl (PySem.evalArgs_none (hm pins s1 σ H1 x [] v [] Q I1 r1 .nil q1))⟩
theorem pe_bm (pa : PlainAttrs T) (slot : Slot T name id) (hty : typeOf (.builtin id) = pure (.type "method_descriptor")) (hm : MtR X id r) (ho : PE X o to) (ha : PA X (e :: es) t)
    (hbase : attributeBase o name X.env (eval o X.env) = eval o X.env := by rfl)
    (hfew : ((backTo cpos (starEach (e :: es) X.env)).all (fun x => !x.1) && (backToKw cpos (keywordEach [] X.env)).all (fun x => x.1.isSome)
      && decide ((e :: es).length + ([] : List Keyword).length + (if ([] : List Keyword).isEmpty then 0 else 1) < 30)) = true := by rfl)
    (hline : (apos.endLine == cpos.line) = true := by rfl) (hs : starEach (e :: es) X.env = (false, eval e X.env) :: starEach es X.env := by rfl) (hplain : (backTo cpos (starEach es X.env)).any (·.1) = false := by rfl) :
    PE X (.Call (.Attribute o name apos) (e :: es) [] cpos) (tBM X.K T r to t) := by
  intro pins s σ H Q I h
  refine wpAny_Call_method_late hbase hfew hline rfl (thn (ho pins s σ H _ I h) fun v s1 ⟨x, H1, I1, r1, ty, q1⟩ => ?_)
  obtain ⟨h1, h2⟩ := tyV_is I1 r1 ty
  refine ⟨T, id, pa, slot, hty, h1, h2, ?_⟩
  have hA := ha cpos pins s1 σ H1 _ I1 q1
  rw [hs] at hA ⊢
  refine Calls.callWith_builtin (by show (false || (backTo cpos (starEach es X.env)).any (·.1)) = false; rw [hplain] <;> rfl) (Calls.evalArgs_plain ?_)
  exact thn hA fun us s2 ⟨vs, H2, I2, r2, q2⟩ => hm pins s2 σ H2 x vs v us Q I2 r1 r2 q2
end
end L2

namespace L2
open PySem PySem.Spec PyProof.Rows

def MtM (X : Cx) (id : String) (r : V → List V → Hp → VK → Prop) : Prop :=
  ∀ (pins : List (Addr × Obj)) (s : Shared) (σ : St) (H : Hp) (x : V) (xs : List V) (v : Value) (us : List Value) (Q : VK), Inv X pins σ H s → RelV x v → Vals xs us → r x xs H Q →
    wpAny (model X.prog X.w) X.A (call (.builtin id) (v :: us)) (EP X pins σ Q) X.xe s

theorem Vals.one : ∀ {x : V} {us : List Value}, Vals [x] us → ∃ u, us = [u] ∧ RelV x u
  | _, _, .cons r .nil => ⟨_, rfl, r⟩
theorem Vals.two : ∀ {x y : V} {us : List Value}, Vals [x, y] us → ∃ u v, us = [u, v] ∧ RelV x u ∧ RelV y v
  | _, _, _, .cons r (.cons q .nil) => ⟨_, _, rfl, r, q⟩
theorem Vals.zero : ∀ {us : List Value}, Vals [] us → us = []
  | _, .nil => rfl
theorem Vals.dropLast {xs : List V} {us : List Value} (h : Vals xs us) : Vals xs.dropLast us.dropLast := by
  induction h with
  | nil => exact .nil
  | cons r t ih =>
    cases t with
    | nil => exact .nil
    | cons q t' => exact .cons r ih
theorem Vals.eraseIdx : ∀ {xs : List V} {us : List Value} (i : Nat), Vals xs us → Vals (xs.eraseIdx i) (us.eraseIdx i)
  | _, _, _, .nil => .nil
  | _, _, 0, .cons _ t => t
  | _, _, i + 1, .cons r t => .cons r (Vals.eraseIdx i t)
theorem Vals.reverse {xs : List V} {us : List Value} (h : Vals xs us) : Vals xs.reverse us.reverse := by
  induction h with
  | nil => exact .nil
  | cons r t ih => rw [List.reverse_cons, List.reverse_cons]; exact Vals.append ih (.cons r .nil)
theorem erase_last {α : Type} (l : List α) : l.eraseIdx (l.length - 1) = l.dropLast := by
  induction l with
  | nil => rfl
  | cons a r ih =>
    cases r with
    | nil => rfl
    | cons b r =>
      have e : (a :: b :: r).length - 1 = ((b :: r).length - 1) + 1 := by
        have h1 : (a :: b :: r).length = r.length + 2 := rfl
        have h2 : (b :: r).length = r.length + 1 := rfl
        omega
      rw [e, List.eraseIdx_cons_succ, ih]
      all_goals rfl
section
variable {X : Cx} {pins : List (Addr × Obj)} {σ : St} {H : Hp} {s : Shared} {l b : Addr} {xs ys zs : List V}

theorem Inv.lset {its its' : List Value} {n : Nat} {f : Array Value → Array Value} {t' : Nat} (I : Inv X pins σ H s) (hH : H l = some (.lst xs))
    (e : s.heap.get? l = some { cls := .type "list", data := .seq its.toArray n }) (hf : f its.toArray = its'.toArray) (hv : Vals ys its') (hz : ys.length ≤ sizeLine) :
    Inv X pins σ (upd H l (.lst ys)) { s with heap := s.heap.update l (Obj.mapSeq f), toks := t' } := by
  have q := PySem.IsL.update e f
  rw [hf] at q
  refine I.write (x := l) (e := l) (by rw [hH]; exact trivial) (.inl rfl) (fun b' u hb hu => (Heap.get?_update_other s.heap (Obj.mapSeq f) (Ne.symm hb)).trans hu) ⟨_, q⟩ ?_
  exact ⟨hz, its', _, hv, q⟩
theorem Inv.lnew {its : List Value} {t' : Nat} (I : Inv X pins σ H s) (hv : Vals ys its) (hz : ys.length ≤ sizeLine) :
    Inv X pins σ (upd H s.heap.objs.size (.lst ys)) { s with heap := s.heap.push { cls := .type "list", data := .seq its.toArray }, toks := t' } :=
  I.laid (fun _ _ q => Heap.get?_push_of_some _ q) (Nat.le_refl _) ⟨hz, its, 0, hv, Heap.get?_push_size _ rfl⟩
theorem Inv.fresh (I : Inv X pins σ H s) : H s.heap.objs.size = none := I.hok.fresh (Nat.le_refl _)
theorem Inv.lstM (I : Inv X pins σ H s) (hH : H l = some (.lst xs)) : xs.length ≤ sizeLine ∧ ∃ (its : List Value) (n : Nat), Vals xs its ∧ xs.length = its.length ∧ s.heap.get? l = some { cls := .type "list", data := .seq its.toArray n } := by
  obtain ⟨z, its, n, r, e⟩ := I.hok l _ hH
  exact ⟨z, its, n, r, r.length, e⟩

end

section
variable {X : Cx}

def rAppend : V → List V → Hp → VK → Prop := fun x vs H Q => ∃ l xs y, x = .ref l ∧ vs = [y] ∧ H l = some (.lst xs) ∧ xs.length < sizeLine ∧ Q .non (upd H l (.lst (xs ++ [y])))
theorem mt_append : MtM X "list.append" rAppend := by
  intro pins s σ H x vs v us Q I rx rv h
  obtain ⟨l, xs, y, rfl, rfl, hH, hz, q⟩ := h
  cases rx
  obtain ⟨u, rfl, ru⟩ := rv.one
  obtain ⟨z, its, n, r, hl, e⟩ := I.lstM hH
  refine call_meets F.slot_list_append ⟨_, e, rfl⟩ F.entry_list_append (F.args_list_append_2 _ _) (PySem.list_append l its.toArray n u (by rw [List.size_toArray]; omega)) ⟨e, ?_⟩
  refine ⟨.non, _, I.lset (its' := its ++ [u]) hH e (by simp) (r.append (.cons ru .nil)) ?_, rfl, q⟩
  rw [List.length_append, List.length_singleton]
  omega

def rPop : V → List V → Hp → VK → Prop := fun x vs H Q => ∃ l xs y, x = .ref l ∧ vs = [] ∧ H l = some (.lst xs) ∧ xs[xs.length - 1]? = some y ∧ Q y (upd H l (.lst xs.dropLast))
theorem mt_pop : MtM X "list.pop" rPop := by
  intro pins s σ H x vs v us Q I rx rv h
  obtain ⟨l, xs, y, rfl, rfl, hH, hy, q⟩ := h
  cases rx
  have hus := rv.zero
  subst hus
  obtain ⟨z, its, n, r, hl, e⟩ := I.lstM hH
  obtain ⟨u, hu, ru⟩ := r.get hy
  have hy' : its.toArray[its.toArray.size - 1]? = some u := by
    show its.toArray[its.length - 1]? = some u
    rw [← Array.getElem?_toList, ← hl]
    exact hu
  refine call_meets F.slot_list_pop ⟨_, e, rfl⟩ F.entry_list_pop (F.args_list_pop_1 _) (MeetsSeq.list_pop_last l its.toArray n u hy' (by rw [List.size_toArray]; omega)) ⟨e, ?_⟩
  refine ⟨y, _, I.lset (its' := its.dropLast) hH e ?_ r.dropLast ?_, ru, q⟩
  · show its.toArray.eraseIdxIfInBounds (its.toArray.size - 1) = its.dropLast.toArray
    rw [List.size_toArray, List.eraseIdxIfInBounds_toArray, erase_last]
  · rw [List.length_dropLast]
    omega

def rCat : R2 := fun x y H Q => ∃ l b xs zs, x = .ref l ∧ y = .ref b ∧ H l = some (.lst xs) ∧ H b = some (.lst zs) ∧ xs.length + zs.length ≤ sizeLine ∧ ∀ p, H p = none → Q (.ref p) (upd H p (.lst (xs ++ zs)))
theorem op_cat : OpR X (binaryOp .Add) rCat := by
  intro pins s σ H x y v u Q I rx ry h
  obtain ⟨l, b, xs, zs, rfl, rfl, hH, hB, hz, q⟩ := h
  cases rx
  cases ry
  obtain ⟨z, its, n, r, hl, e⟩ := I.lstM hH
  obtain ⟨z2, its2, n2, r2, hl2, e2⟩ := I.lstM hB
  refine PySem.P.add_list e e2 ?_ (by rw [List.size_toArray, List.size_toArray]; omega)
  have ea : its.toArray ++ its2.toArray = (its ++ its2).toArray := by simp
  rw [ea]
  exact ⟨.ref _, _, I.lnew (t' := s.toks) (r.append r2) (by rw [List.length_append]; omega), rfl, q _ I.fresh⟩
end

section
variable {prog : Program} {w : World} {A : Around} {E : Value → Shared → Prop} {s : Shared}
set_option maxRecDepth 100000 in
end

section
variable {X : Cx}
end
end L2

namespace L2
open PySem PySem.Spec PyProof.Rows

theorem Vals.ints : ∀ {ns : List Int} {us : List Value}, Vals (ns.map V.int) us → IntsAre us ns
  | [], us, h => by
    rw [List.map_nil] at h
    cases h
    exact IntsAre.nil
  | n :: ns, us, h => by
    rw [List.map_cons] at h
    cases h with
    | cons r t =>
      obtain ⟨k, rfl⟩ := r
      exact IntsAre.cons n k (Vals.ints t)
theorem Vals.strs : ∀ {xs : List Str} {us : List Value}, Vals (xs.map V.str) us → StrsAre us xs
  | [], us, h => by
    rw [List.map_nil] at h
    cases h
    exact StrsAre.nil
  | x :: xs, us, h => by
    rw [List.map_cons] at h
    cases h with
    | cons r t =>
      obtain ⟨k, rfl⟩ := r
      exact StrsAre.cons x k (Vals.strs t)
theorem Vals.ref1 {a : Addr} {us : List Value} (r : Vals [V.ref a] us) : us = [Value.ref a] := by
  cases r with
  | cons r t =>
    cases t
    cases r
    rfl
section
variable {prog : Program} {w : World} {A : Around} {E : Value → Shared → Prop} {s : Shared} {l : Addr} {its : List Value} {ns : List Int} {Q : Value → Shared → Prop}
end

section
variable {X : Cx}
end

section
variable {X : Cx}
end

section
variable {X : Cx}
end

section
variable {X : Cx}
end

mutual
inductive Dp (K : PySem.W.Frag) (H : Hp) : V → PyData → Prop
  | non : Dp K H .non .none
  | bl (b : Bool) : Dp K H (.bl b) (.bool b)
  | int (i : Int) : Dp K H (.int i) (.int i)
  | str (x : Str) : Dp K H (.str x) (.str x)
  | lst {a : Addr} {xs : List V} {ds : List PyData} : SqL K H a xs → DpAll K H xs ds → Dp K H (.ref a) (.list ds)
  | tup {a : Addr} {xs : List V} {ds : List PyData} : SqT K H a xs → DpAll K H xs ds → Dp K H (.ref a) (.tuple ds)
inductive DpAll (K : PySem.W.Frag) (H : Hp) : List V → List PyData → Prop
  | nil : DpAll K H [] []
  | cons {v : V} {vs : List V} {d : PyData} {ds : List PyData} : Dp K H v d → DpAll K H vs ds → DpAll K H (v :: vs) (d :: ds)
end
section
variable {X : Cx} {pins : List (Addr × Obj)} {σ : St} {H : Hp} {s : Shared}
end
section
variable {X : Cx}
end
end L2

namespace L2
open PySem PySem.Spec PyProof.Rows
abbrev CellAt (h : Heap) (c : Addr) (v : Option Value) : Prop := h.IsCell c v
def relS (scope sc : Scope) : Scope :=
  { scope with names := scope.names.map fun (n, k) => if (k == .free && sc.kind == .function && sc.names.lookup n == some .cell) then (n, .cell) else (n, k) }

def cloFrom (cells : List (Str × Addr)) : List (Str × NameKind) → List (Str × Addr) → List (Str × Addr)
  | [], acc => acc
  | (n, k) :: r, acc => if k == .free then cloFrom cells r ((n, (cells.lookup n).getD 0) :: acc) else cloFrom cells r acc

theorem closure_loop (env : Env) (f : Str × NameKind → List (Str × Addr) → Sem (ForInStep (List (Str × Addr))))
    (hf : ∀ n k c, f (n, k) c = if k == .free then (do let a ← cellOf env n; pure (.yield ((n, a) :: c))) else pure (.yield c)) :
    ∀ (names : List (Str × NameKind)) (acc : List (Str × Addr)), (∀ y ∈ names, y.2 = .free → ∃ c, env.cells.lookup y.1 = some c) → forIn names acc f = pure (cloFrom env.cells names acc)
  | [], acc, _ => by rw [List.forIn_nil]; rfl
  | (n, k) :: r, acc, h => by
    rw [List.forIn_cons, hf]
    have ih := fun acc => closure_loop env f hf r acc fun y hy => h y (List.mem_cons_of_mem _ hy)
    unfold cloFrom
    by_cases hk : (k == NameKind.free) = true
    · rw [if_pos hk, if_pos hk]
      obtain ⟨c, hc⟩ := h (n, k) List.mem_cons_self (by simpa using hk)
      have e : cellOf env n = pure c := by unfold cellOf; rw [hc]
      rw [e]
      have e2 : (env.cells.lookup n).getD 0 = c := by rw [hc]; rfl
      rw [e2]
      exact ih _
    · rw [if_neg hk, if_neg hk]
      exact ih _
theorem closure_ok {scope : Scope} {env : Env} (h : ∀ y ∈ scope.names, y.2 = .free → ∃ c, env.cells.lookup y.1 = some c) : closureFor scope env = pure (cloFrom env.cells scope.names []) := by
  simp only [closureFor]
  rw [closure_loop env _ (fun n k c => rfl) scope.names [] h]
  rfl

theorem mem_lookup {α : Type} : ∀ {l : List (Str × α)} {n : Str} {c : α}, (n, c) ∈ l → ∃ c', l.lookup n = some c'
  | (k, v) :: r, n, c, h => by
    rw [List.lookup_cons]
    cases hb : n == k with
    | true => exact ⟨_, rfl⟩
    | false =>
      rcases List.mem_cons.mp h with e | h
      · cases e; simp at hb
      · exact mem_lookup h

theorem cloFrom_mem {cells : List (Str × Addr)} : ∀ {names : List (Str × NameKind)} {acc : List (Str × Addr)} {n : Str} {c : Addr}, (n, c) ∈ cloFrom cells names acc → (n, c) ∈ acc ∨ ((n, .free) ∈ names ∧ c = (cells.lookup n).getD 0)
  | [], _, _, _, h => .inl h
  | (m, k) :: r, acc, n, c, h => by
    unfold cloFrom at h
    split at h
    · rename_i hk
      have hk : k = .free := by simpa using hk
      rcases cloFrom_mem h with h | ⟨h1, h2⟩
      · rcases List.mem_cons.mp h with e | h
        · cases e; exact .inr ⟨hk ▸ List.mem_cons_self, rfl⟩
        · exact .inl h
      · exact .inr ⟨List.mem_cons_of_mem _ h1, h2⟩
    · rcases cloFrom_mem h with h | ⟨h1, h2⟩
      · exact .inl h
      · exact .inr ⟨List.mem_cons_of_mem _ h1, h2⟩
theorem cloFrom_acc {cells : List (Str × Addr)} : ∀ {names : List (Str × NameKind)} {acc : List (Str × Addr)} {p : Str × Addr}, p ∈ acc → p ∈ cloFrom cells names acc
  | [], _, _, h => h
  | (m, k) :: r, acc, p, h => by
    unfold cloFrom
    split
    · exact cloFrom_acc (List.mem_cons_of_mem _ h)
    · exact cloFrom_acc h
theorem cloFrom_has {cells : List (Str × Addr)} : ∀ {names : List (Str × NameKind)} {acc : List (Str × Addr)} {n : Str}, (n, .free) ∈ names → (n, (cells.lookup n).getD 0) ∈ cloFrom cells names acc
  | (m, k) :: r, acc, n, h => by
    unfold cloFrom
    rcases List.mem_cons.mp h with e | h
    · cases e
      exact cloFrom_acc List.mem_cons_self
    · split
      · exact cloFrom_has h
      · exact cloFrom_has h

theorem cells_mem : ∀ {names : List (Str × NameKind)} {h : Heap} {acc : List (Str × Addr)} {x : Str} {c : Addr}, (x, c) ∈ cellsFrom h.objs.size names acc →
    (x, c) ∈ acc ∨ ((x, .cell) ∈ names ∧ h.objs.size ≤ c ∧ CellAt (pushCells h names) c none)
  | [], _, _, _, _, h => .inl h
  | (n, k) :: r, h, acc, x, c, hm => by
    unfold cellsFrom at hm
    unfold pushCells
    split at hm
    · rename_i hk
      rw [if_pos hk]
      have hk : k = .cell := by simpa using hk
      rw [← Heap.size_push h { cls := .type "cell", data := .cell none }] at hm
      rcases cells_mem hm with hm | ⟨h1, h2, h3⟩
      · rcases List.mem_cons.mp hm with e | hm
        · cases e
          exact .inr ⟨hk ▸ List.mem_cons_self, Nat.le_refl _, _, pushCells_keeps r _ _ _ (Heap.get?_push_size _ rfl), rfl⟩
        · exact .inl hm
      · rw [Heap.size_push] at h2
        exact .inr ⟨List.mem_cons_of_mem _ h1, Nat.le_of_succ_le h2, h3⟩
    · rename_i hk
      rw [if_neg hk]
      rcases cells_mem hm with hm | ⟨h1, h2, h3⟩
      · exact .inl hm
      · exact .inr ⟨List.mem_cons_of_mem _ h1, h2, h3⟩
theorem cells_acc : ∀ {names : List (Str × NameKind)} {n : Nat} {acc : List (Str × Addr)} {p : Str × Addr}, p ∈ acc → p ∈ cellsFrom n names acc
  | [], _, _, _, h => h
  | (m, k) :: r, n, acc, p, h => by
    unfold cellsFrom
    split
    · exact cells_acc (List.mem_cons_of_mem _ h)
    · exact cells_acc h
theorem cells_has : ∀ {names : List (Str × NameKind)} {n : Nat} {acc : List (Str × Addr)} {x : Str}, (x, .cell) ∈ names → ∃ c, (x, c) ∈ cellsFrom n names acc
  | (m, k) :: r, n, acc, x, h => by
    unfold cellsFrom
    rcases List.mem_cons.mp h with e | h
    · cases e
      exact ⟨n, cells_acc List.mem_cons_self⟩
    · split
      · exact cells_has h
      · exact cells_has h
theorem cells_inj : ∀ {names : List (Str × NameKind)} {h : Heap} {acc : List (Str × Addr)} {x y : Str} {c : Addr}, (∀ p ∈ acc, p.2 < h.objs.size) → (∀ x y c, (x, c) ∈ acc → (y, c) ∈ acc → x = y) →
    (x, c) ∈ cellsFrom h.objs.size names acc → (y, c) ∈ cellsFrom h.objs.size names acc → x = y
  | [], _, _, _, _, _, _, hi, h1, h2 => hi _ _ _ h1 h2
  | (n, k) :: r, h, acc, x, y, c, hl, hi, h1, h2 => by
    unfold cellsFrom at h1 h2
    split at h1
    · rename_i hk
      rw [if_pos hk] at h2
      rw [← Heap.size_push h { cls := .type "cell", data := .cell none }] at h1 h2
      refine cells_inj (h := h.push _) (fun p hp => ?_) (fun x y c a b => ?_) h1 h2
      · rw [Heap.size_push]
        rcases List.mem_cons.mp hp with rfl | hp
        · exact Nat.lt_succ_self _
        · exact Nat.lt_succ_of_lt (hl p hp)
      · rcases List.mem_cons.mp a with e | a <;> rcases List.mem_cons.mp b with e' | b
        · cases e; cases e'; rfl
        · cases e; exact absurd (hl _ b) (Nat.lt_irrefl _)
        · cases e'; exact absurd (hl _ a) (Nat.lt_irrefl _)
        · exact hi _ _ _ a b
    · rename_i hk
      rw [if_neg hk] at h2
      exact cells_inj hl hi h1 h2

theorem newEnv_comp {M : Model} {A : Around} {E : Value → Shared → Prop} {s : Shared} {scope : Scope} {globals : Addr} {closure : List (Str × Addr)} {qual : Str} {func : Option Addr} {code : Value} {around : Env} {builtins : Addr} {Q : Env → Shared → Prop}
    (h : Q (newEnv scope s.heap.objs.size globals (cellsFrom (s.heap.objs.size + 1) scope.names closure) qual func code (some around) builtins)
      { s with heap := pushCells (s.heap.push { cls := .type "dict", data := .dict #[] }) scope.names }) :
    wpAny M A (newFunctionEnv scope globals closure [] qual func code (some around) builtins) Q E s := by
  simp only [newFunctionEnv, Option.isSome_some, if_true]
  refine wpAny_bind (wpAny_alloc ?_)
  refine wpAny_bind (wpAny_layCells _ (fun n k c => rfl) scope.names closure _ _ ?_)
  rw [show ({ s with heap := s.heap.push { cls := .type "dict", data := .dict #[] } } : Shared).heap.objs.size = s.heap.objs.size + 1 from Heap.size_push ..]
  rw [List.forIn_nil]
  exact wpAny_bind (wpAny_pure (wpAny_pure h))

theorem lookup_relS {sc : Scope} : ∀ {names : List (Str × NameKind)} {x : Str} {k : NameKind},
    (names.map fun (n, k) => if (k == NameKind.free && sc.kind == .function && sc.names.lookup n == some .cell) then (n, NameKind.cell) else (n, k)).lookup x = some k →
    ∃ k', names.lookup x = some k' ∧ (k = k' ∨ (k' = .free ∧ k = .cell))
  | [], _, _, h => by simp at h
  | (n, k₀) :: r, x, k, h => by
    have ih := @lookup_relS sc r x k
    have h' : List.lookup x ((if (k₀ == NameKind.free && sc.kind == .function && sc.names.lookup n == some .cell) = true then (n, NameKind.cell) else (n, k₀)) :: (r.map _)) = some k := h
    cases hx : x == n with
    | true =>
      simp only [List.lookup_cons, hx]
      by_cases hc : (k₀ == NameKind.free && sc.kind == .function && sc.names.lookup n == some .cell) = true
      · rw [if_pos hc] at h'
        simp only [List.lookup_cons, hx] at h'
        cases h'
        simp only [Bool.and_eq_true, beq_iff_eq] at hc
        exact ⟨k₀, rfl, .inr ⟨hc.1.1, rfl⟩⟩
      · rw [if_neg hc] at h'
        simp only [List.lookup_cons, hx] at h'
        cases h'
        exact ⟨_, rfl, .inl rfl⟩
    | false =>
      simp only [List.lookup_cons, hx]
      by_cases hc : (k₀ == NameKind.free && sc.kind == .function && sc.names.lookup n == some .cell) = true
      · rw [if_pos hc] at h'
        simp only [List.lookup_cons, hx] at h'
        exact ih h'
      · rw [if_neg hc] at h'
        simp only [List.lookup_cons, hx] at h'
        exact ih h'
structure BlkOk (N : List Str) (sc scope : Scope) (own : List (Str × Nat)) : Prop where
  kind : scope.kind = .function
  uniq : ∀ y ∈ scope.names, scope.names.lookup y.1 = some y.2
  ix : ∀ p ∈ own, N[p.2]? = some p.1
  free : ∀ y ∈ scope.names, y.2 = .free → sc.names.lookup y.1 = some .cell ∨ sc.names.lookup y.1 = some .free
  own : ∀ y ∈ scope.names, y.2 = .local ∨ y.2 = .cell → y.1 ∈ own.map (·.1) ∨ y.1 ∉ N
def wipe (σ : St) : List Nat → St
  | [] => σ
  | v :: vs => (wipe σ vs).set v none
theorem wipe_length (σ : St) : ∀ vs : List Nat, (wipe σ vs).length = σ.length
  | [] => rfl
  | v :: vs => by unfold wipe; rw [List.length_set, wipe_length σ vs]
theorem wipe_some {σ : St} {i : Nat} {x : V} : ∀ {vs : List Nat}, (wipe σ vs)[i]? = some (some x) → σ[i]? = some (some x) ∧ i ∉ vs
  | [], h => ⟨h, by simp⟩
  | v :: vs, h => by
    unfold wipe at h
    by_cases hi : v = i
    · subst hi
      by_cases hv : v < (wipe σ vs).length
      · rw [List.getElem?_set_self hv] at h; cases h
      · rw [List.getElem?_eq_none (by simpa using hv)] at h; cases h
    · rw [List.getElem?_set_ne hi] at h
      obtain ⟨h1, h2⟩ := wipe_some h
      exact ⟨h1, by simp only [List.mem_cons, not_or]; exact ⟨fun e => hi e.symm, h2⟩⟩

abbrev Cx.blk (X : Cx) (s : Shared) (H : Hp) (scope : Scope) (cenv : Env) (fp : List Addr) : Cx := { X with s_0 := s, H_0 := H, env := cenv, outer := X.stack, ex := fp, fn := fun x => scope.names.lookup x == some .cell, pn := [], xe := fun _ _ => False }
section
variable {X : Cx} {pins : List (Addr × Obj)} {σ : St} {H : Hp} {s : Shared}
theorem block_start {scope : Scope} {own : List (Str × Nat)} {fp : List Addr} (I : Inv X pins σ H s) (ok : BlkOk X.N X.env.scope scope own) (hN : X.N.Nodup) (hfp : ∀ b ∈ fp, FpOk X pins H b ∧ b < s.heap.objs.size) :
    Inv (X.blk s H scope (compEnvC scope (cellsFrom (s.heap.objs.size + 1) scope.names (cloFrom X.env.cells scope.names [])) s.heap.objs.size X.env) fp) [] (wipe σ (own.map (·.2))) H { s with heap := pushCells (s.heap.push { cls := .type "dict", data := .dict #[] }) scope.names } := by
  have hfree : ∀ y ∈ scope.names, y.2 = .free → ∃ c, X.env.cells.lookup y.1 = some c := fun y hy e => by
    rcases ok.free y hy e with k | k
    · exact I.ok.has _ (.inl k)
    · exact I.ok.has _ (.inr k)
  generalize hcenv : compEnvC scope (cellsFrom (s.heap.objs.size + 1) scope.names (cloFrom X.env.cells scope.names [])) s.heap.objs.size X.env = cenv
  have kp : ∀ b o, s.heap.get? b = some o → (pushCells (s.heap.push { cls := .type "dict", data := .dict #[] }) scope.names).get? b = some o := fun b o e => pushCells_keeps _ _ _ _ (Heap.get?_push_of_some _ e)
  have hL : cenv.locals = s.heap.objs.size := by rw [← hcenv]; rfl
  have hcl : cenv.cells = cellsFrom (s.heap.objs.size + 1) scope.names (cloFrom X.env.cells scope.names []) := by rw [← hcenv]; rfl
  have hsc : cenv.scope = relS scope X.env.scope := by rw [← hcenv]; rfl
  rw [← Heap.size_push s.heap { cls := .type "dict", data := .dict #[] }] at hcl
  have cm : ∀ {y c}, (y, c) ∈ cloFrom X.env.cells scope.names [] → X.env.cells.lookup y = some c ∧ c < s.heap.objs.size := fun {y c} hm => by
    rcases cloFrom_mem hm with hm | ⟨h1, rfl⟩
    · cases hm
    · obtain ⟨c, hc⟩ := hfree _ h1 rfl
      rw [hc]
      obtain ⟨w, z⟩ := I.cell _ _ hc
      exact ⟨rfl, z.lt⟩
  have mem : ∀ {y c}, cenv.cells.lookup y = some c → (X.env.cells.lookup y = some c ∧ c < s.heap.objs.size) ∨ (s.heap.objs.size + 1 ≤ c ∧ CellAt (pushCells (s.heap.push { cls := .type "dict", data := .dict #[] }) scope.names) c none) := fun {y c} e => by
    rw [hcl] at e
    rcases cells_mem (PySem.mem_of_lookup e) with hm | ⟨_, h2, h3⟩
    · exact .inl (cm hm)
    · rw [Heap.size_push] at h2; exact .inr ⟨h2, h3⟩
  have look : ∀ {y}, scope.names.lookup y = some .free → ∃ c, cenv.cells.lookup y = some c ∧ X.env.cells.lookup y = some c := fun {y} hl => by
    have hy : (y, NameKind.free) ∈ scope.names := PySem.mem_of_lookup hl
    obtain ⟨c', e'⟩ := mem_lookup (cells_acc (names := scope.names) (n := (s.heap.push { cls := .type "dict", data := .dict #[] }).objs.size) (cloFrom_has (cells := X.env.cells) (acc := []) hy))
    rw [← hcl] at e'
    refine ⟨c', e', ?_⟩
    rw [hcl] at e'
    rcases cells_mem (PySem.mem_of_lookup e') with hm | ⟨h1, _, _⟩
    · exact (cm hm).1
    · have := ok.uniq _ h1
      rw [hl] at this; cases this
  have okB : (X.blk s H scope cenv fp).Ok := by
    refine ⟨I.ok.mod, by show cenv.scope.kind = _; rw [hsc]; exact ok.kind, by show cenv.globals = _; rw [← hcenv]; exact I.ok.glob, by show cenv.builtins = _; rw [← hcenv]; exact I.ok.blt, by show s.heap.objs.size ≤ cenv.locals; rw [hL]; exact Nat.le_refl _,
      fun y z c e1 e2 => ?_, fun y hy => ?_, fun y c z e => ?_, I.ok.hd, I.ok.frames, .inl rfl, fun b hb => ⟨?_, fun y c e z => ?_⟩, I.bs, Nat.le_trans I.ok.bsz I.sz, fun b o e hb => ?_, fun b hb z => ?_, I.stack, I.stkFree⟩
    · have e1 : cenv.cells.lookup y = some c := e1
      have e2 : cenv.cells.lookup z = some c := e2
      rw [hcl] at e1 e2
      refine cells_inj (fun p hp => ?_) (fun y z c a b => I.ok.inj y z c (cm a).1 (cm b).1) (PySem.mem_of_lookup e1) (PySem.mem_of_lookup e2)
      rw [Heap.size_push]
      exact Nat.lt_succ_of_lt (cm (y := p.1) (c := p.2) hp).2
    · show ∃ c, cenv.cells.lookup y = some c
      have key : ∀ k, cenv.kindOf y = some k → (k = .cell ∨ k = .free) → ∃ c, cenv.cells.lookup y = some c := fun k hk hk' => by
        unfold Env.kindOf at hk
        rw [hsc] at hk
        obtain ⟨k', e, r⟩ := lookup_relS hk
        have : k' = .cell ∨ k' = .free := by
          rcases r with rfl | ⟨rfl, _⟩
          · exact hk'
          · exact .inr rfl
        rcases this with rfl | rfl
        · obtain ⟨c, hm⟩ := cells_has (n := (s.heap.push { cls := .type "dict", data := .dict #[] }).objs.size) (acc := cloFrom X.env.cells scope.names []) (PySem.mem_of_lookup e)
          obtain ⟨c', e'⟩ := mem_lookup hm
          exact ⟨c', by rw [hcl]; exact e'⟩
        · obtain ⟨c, h1, _⟩ := look e
          exact ⟨c, h1⟩
      rcases hy with hy | hy
      · exact key _ hy (.inl rfl)
      · exact key _ hy (.inr rfl)
    · have z : (scope.names.lookup y == some NameKind.cell) = true := z
      have z : scope.names.lookup y = some .cell := by simpa using z
      have e : cenv.cells.lookup y = some c := e
      rw [hcl] at e
      rcases cells_mem (PySem.mem_of_lookup e) with hm | ⟨_, h2, _⟩
      · rcases cloFrom_mem hm with hm | ⟨h1, _⟩
        · cases hm
        · have q := ok.uniq _ h1
          rw [z] at q; cases q
      · rw [Heap.size_push] at h2
        exact Nat.le_of_succ_le h2
    · show b ≠ cenv.locals
      rw [hL]; exact Nat.ne_of_lt (hfp b hb).2
    · have e : cenv.cells.lookup y = some c := e
      rcases mem e with ⟨h1, _⟩ | ⟨h1, _⟩
      · exact (hfp b hb).1.2.2.2.2.1 y c h1 z
      · have h2 : s.heap.objs.size + 1 ≤ b := by rw [← z]; exact h1
        exact absurd (Nat.lt_of_lt_of_le (hfp b hb).2 (Nat.le_of_succ_le h2)) (Nat.lt_irrefl _)
    · rcases (hfp b hb).1.2.2.2.1 with z | z
      · exact I.ok.noex b o e z
      · exact absurd (Nat.lt_of_lt_of_le (Heap.lt_size e) (Nat.le_trans I.ok.bsz z)) (Nat.lt_irrefl _)
    · rcases List.mem_cons.mp (I.stkSub b z) with z | z
      · exact (hfp b hb).1.2.1 z
      · exact (hfp b hb).1.2.2.1 z
  refine ⟨okB, rfl, I.bare, Un.kept kp, ⟨fun _ => none, ?_, fun i y av e1 e2 e3 => ?_⟩, fun y c e => ?_, ?_, fun y c e => ?_, fun p hp => ?_, I.hok.kept kp, by rw [wipe_length]; exact I.len⟩
  · show Heap.Ns _ cenv.locals _
    rw [hL]
    exact Heap.Ns.keeps (Heap.Ns.new ..) fun b o e => pushCells_keeps _ _ _ _ e
  · obtain ⟨e2, hne⟩ := wipe_some e2
    have hfr : scope.names.lookup y = some .free ∧ (cenv.kindOf y = some .cell ∨ cenv.kindOf y = some .free) := by
      have key : ∀ k, cenv.scope.names.lookup y = some k → k = .local ∨ k = .cell ∨ k = .free → scope.names.lookup y = some .free ∧ (cenv.kindOf y = some .cell ∨ cenv.kindOf y = some .free) := fun k hk hk' => by
        have hk0 := hk
        rw [hsc] at hk
        obtain ⟨k', e, r⟩ := lookup_relS hk
        have no : ¬ (k' = .local ∨ k' = .cell) := fun hh => by
          rcases ok.own _ (PySem.mem_of_lookup e) hh with e' | e'
          · obtain ⟨p, hp, hpy⟩ := List.mem_map.mp e'
            have e3 := ok.ix p hp
            have : p.1 = y := hpy
            rw [this] at e3
            exact hne (List.mem_map.mpr ⟨p, hp, nodup_ix hN e3 e1⟩)
          · exact e' (List.mem_of_getElem? e1)
        rcases r with rfl | ⟨rfl, rfl⟩
        · rcases hk' with rfl | rfl | rfl
          · exact absurd (.inl rfl) no
          · exact absurd (.inr rfl) no
          · exact ⟨e, .inr hk0⟩
        · exact ⟨e, .inl hk0⟩
      have e3 : Vis cenv.scope y := e3
      rcases e3 with e3 | e3 | e3
      · exact key _ e3 (.inl rfl)
      · exact key _ e3 (.inr (.inl rfl))
      · exact key _ e3 (.inr (.inr rfl))
    obtain ⟨m, hn, hl⟩ := I.loc
    have hvis : Vis X.env.scope y := (ok.free _ (PySem.mem_of_lookup hfr.1) rfl).elim (fun k => .inr (.inl k)) (fun k => .inr (.inr k))
    obtain ⟨w, r, q⟩ := hl i y av e1 e2 hvis
    refine ⟨w, r, .inr ⟨hfr.2, ?_⟩⟩
    obtain ⟨c, h1, h2⟩ := look hfr.1
    rcases q with ⟨k, _⟩ | ⟨_, c', e', z⟩
    · have k : X.env.scope.names.lookup y = some .local := k
      rcases ok.free _ (PySem.mem_of_lookup hfr.1) rfl with k' | k' <;> rw [show X.env.scope.names.lookup y = _ from k'] at k <;> cases k
    · rw [h2] at e'; cases e'
      exact ⟨c, h1, z.keeps kp⟩
  · have e : cenv.cells.lookup y = some c := e
    rcases mem e with ⟨h1, _⟩ | ⟨_, z⟩
    · obtain ⟨w, z⟩ := I.cell y c h1
      exact ⟨w, z.keeps kp⟩
    · exact ⟨_, z⟩
  · show H cenv.locals = none
    rw [hL]; exact I.hok.fresh (Nat.le_refl _)
  · have e : cenv.cells.lookup y = some c := e
    rcases mem e with ⟨h1, _⟩ | ⟨h1, _⟩
    · exact I.freeC y c h1
    · exact I.hok.fresh (Nat.le_of_succ_le h1)
  · exact absurd (show p ∈ ([] : List (Addr × Obj)) ++ [] from hp) (by simp)

theorem app_ok {E : Value → Shared → Prop} {D : Addr} {xs : List V} {y : V} {v : Value} {Q : Value → Shared → Prop} (I : Inv X pins σ H s) (hD : H D = some (.lst xs)) (hz : xs.length < sizeLine) (r : RelV y v)
    (h : ∀ s', Inv X pins σ (upd H D (.lst (xs ++ [y]))) s' → Q .none s') : wpAny (model X.prog X.w) X.A (call (.builtin "list.append") [.ref D, v]) Q E s := by
  obtain ⟨hz', its, n, ri, e⟩ := I.hok D _ hD
  have hl := ri.length
  refine append_at (hsz := by rw [List.size_toArray]; omega) e fun h' sb ho' => ?_
  refine h { s with heap := h' } (I.write (t' := s.toks) (by rw [hD]; trivial) (.inl rfl) (fun b u hb q => (sb.2 b hb).trans q) ⟨_, ho'⟩ ⟨by rw [List.length_append]; exact hz, its ++ [v], n + 1, ri.append (.cons r .nil), ?_⟩)
  rw [ho']
  simp

def PTs (X : Cx) (ifs : List Expr) (t : TT) : Prop :=
  ∀ (pins : List (Addr × Obj)) (s : Shared) (σ : St) (H : Hp) (Q : Bool → Hp → Prop), Inv X pins σ H s → t σ H Q →
    wpAny (model X.prog X.w) X.A (forIn ifs true fun c r => if r = true then do let ok ← isTrue c X.env (eval c X.env); pure (ForInStep.yield ok) else pure (ForInStep.yield r)) (TP X pins σ Q) X.xe s
def tYes : TT := fun _ H Q => Q true H
theorem pts_nil : PTs X [] tYes := fun _ _ _ H _ I h => wpAny_tests_nil ⟨H, I, h⟩
end

theorem thnF {α : Type} {t : Sem α} {Q Q' : α → Shared → Prop} {M : Model} {A : Around} {E : Value → Shared → Prop} {s : Shared} (h : wpAny M A t Q (fun _ _ => False) s) (hQ : ∀ a s, Q a s → Q' a s) : wpAny M A t Q' E s := wpAny_mono h hQ fun _ _ z => False.elim z

theorem compLoop_any {prog : Program} {w : World} {A : Around} {R : Result → Shared → Prop} {s : Shared} {elt target iter : Expr} {ifs : List Expr} {scope : Scope} {pos : Pos} {it acc : Value} {env : Env} (I : Nat → Shared → Prop)
    (turn : ∀ n s, I n s → wpAny (model prog w) A (pyNext it) (fun r s₁ => match r with
      | none => R (.ok .next) s₁
      | some v => wpAny (model prog w) A (letOwnedTupleGo target it v) (fun _ s₁' => wpAny (model prog w) A (assign target env v) (fun _ s₂ =>
          wpAny (model prog w) A (forIn ifs true fun c r => if r = true then do let ok ← isTrue c env (eval c env); pure (ForInStep.yield ok) else pure (ForInStep.yield r)) (fun ok s₃ =>
            if ok = true then wpAny (model prog w) A (eval elt env) (fun x s₄ =>
              wpAny (model prog w) A (call (.builtin "list.append") [acc, x]) (fun _ s₅ => ∃ m, m < n ∧ I m s₅) (notedBy (model prog w) A env fun e s' => R (.error e) s') s₄) (notedBy (model prog w) A env fun e s' => R (.error e) s') s₃
            else ∃ m, m < n ∧ I m s₃) (notedBy (model prog w) A env fun e s' => R (.error e) s') s₂) (notedBy (model prog w) A env fun e s' => R (.error e) s') s₁') (notedBy (model prog w) A env fun e s' => R (.error e) s') s₁) (notedBy (model prog w) A env fun e s' => R (.error e) s') s)
    (n : Nat) (h : I n s) :
    codeAny (model prog w) A (.compLoop (.ListComp elt [⟨target, iter, ifs, 0⟩] scope pos) 0 it acc env) R s := by
  refine codeAny_loop rfl I (fun n s hI => ?_) n h
  show wpAny _ A ((compTurn (.ListComp elt [⟨target, iter, ifs, 0⟩] scope pos) 0 it acc env).onRaise (fun x => do noteFrame x env; theTreesLotGoes x)) _ _ s
  refine wpAny_noted ?_
  rw [compTurn_list]
  refine wpAny_bind (wpAny_standAt (wpAny_bind (wpAny_mono (turn n s hI) (fun r s₁ h₁ => ?_) fun _ _ h' => h')))
  cases r with
  | none => exact wpAny_pure h₁
  | some v =>
    refine wpAny_bind (wpAny_mono h₁ (fun _ s₁' h₁' => ?_) fun _ _ h' => h')
    refine wpAny_bind (wpAny_mono h₁' (fun _ s₂ h₂ => wpAny_bind (wpAny_mono h₂ (fun ok s₃ h₃ => ?_) fun _ _ h' => h')) fun _ _ h' => h')
    cases ok with
    | false => exact wpAny_pure ⟨rfl, h₃⟩
    | true =>
      exact wpAny_bind (wpAny_bind (wpAny_mono h₃ (fun x s₄ h₄ => wpAny_bind (wpAny_mono h₄ (fun _ s₅ h₅ => wpAny_pure (wpAny_pure ⟨rfl, h₅⟩)) fun _ _ h' => h')) fun _ _ h' => h'))

section
variable {X : Cx}
def tLc (wi : TI) (g : TG) (tt : TT) (te : TE) (vs : List Nat) : TE := fun σ H Q => wi σ H fun J H1 => ∀ D, H1 D = none → ∃ W : Nat → Nat → Hp → Prop, (∃ m, W 0 m (upd H1 D (.lst []))) ∧ ∀ i m H, W i m H →
  (J.stop i H ∧ Q (.ref D) H) ∨ (J.go i H ∧ ∃ Nx : Hp → Prop, (∀ H', Nx H' → ∃ m', m' < m ∧ W (i + 1) m' H') ∧ ∀ x H', J.yld i H x H' → g x (wipe σ vs) H' fun σ2 H2 => wipe σ2 vs = wipe σ vs ∧ tt σ2 H2 fun b H3 =>
    if b = true then te σ2 H3 fun y H4 => ∃ acc, H4 D = some (.lst acc) ∧ acc.length < sizeLine ∧ Nx (upd H4 D (.lst (acc ++ [y]))) else Nx H3)
end

def blkC (N : List Str) (sc scope : Scope) (own : List (Str × Nat)) : Bool :=
  (match scope.kind with | .function => true | _ => false) && (scope.names.all fun y => decide (scope.names.lookup y.1 = some y.2)) && (own.all fun p => decide (N[p.2]? = some p.1)) &&
    (scope.names.all fun y => match y.2 with
      | .free => (match sc.names.lookup y.1 with | some .cell => true | some .free => true | _ => false)
      | .local => decide (y.1 ∈ own.map (·.1)) || decide (y.1 ∉ N)
      | .cell => decide (y.1 ∈ own.map (·.1)) || decide (y.1 ∉ N)
      | _ => true)
theorem blkOk_by {N : List Str} {sc scope : Scope} {own : List (Str × Nat)} (h : blkC N sc scope own = true) : BlkOk N sc scope own := by
  unfold blkC at h
  simp only [Bool.and_eq_true, List.all_eq_true, decide_eq_true_eq] at h
  obtain ⟨⟨⟨h1, h2⟩, h3⟩, h4⟩ := h
  refine ⟨?_, h2, h3, fun y hy e => ?_, fun y hy e => ?_⟩
  · split at h1
    · assumption
    · cases h1
  · have q := h4 y hy
    simp only [e] at q
    split at q <;> first | exact .inl (by assumption) | exact .inr (by assumption) | cases q
  · have q := h4 y hy
    rcases e with e | e <;> (simp only [e, Bool.or_eq_true, decide_eq_true_eq] at q; exact q)
end L2

namespace L2
open PySem PySem.Spec PyProof.Rows

section
variable {prog : Program} {w : World} {A : Around} {R : Result → Shared → Prop} {s : Shared} {elt t0 i0 t1 i1 : Expr} {ifs0 ifs1 : List Expr} {scope : Scope} {pos : Pos} {it acc : Value} {env : Env}
end

section
variable {X : Cx}
end
end L2

namespace L2
open PySem PySem.Spec PyProof.Rows

section
variable {κ : Type} [DecidableEq κ]
def valV (kvs : List (κ × V)) (k : κ) : Option V := (kvs.find? fun kv => decide (kv.1 = k)).map (·.2)
def putK (kvs : List (κ × V)) (k : κ) (v : V) : List (κ × V) :=
  if (kvs.any fun kv => decide (kv.1 = k)) = true then kvs.map (fun kv => if kv.1 = k then (kv.1, v) else kv) else kvs ++ [(k, v)]
def dropK (kvs : List (κ × V)) (k : κ) : List (κ × V) := kvs.filter fun kv => decide (kv.1 ≠ k)

theorem valV_pos {p : κ × V} {r : List (κ × V)} {k : κ} (e : p.1 = k) : valV (p :: r) k = some p.2 := by simp [valV, List.find?_cons, e]
theorem valV_neg {p : κ × V} {r : List (κ × V)} {k : κ} (e : ¬ p.1 = k) : valV (p :: r) k = valV r k := by simp [valV, List.find?_cons, e]
theorem valV_any (k : κ) : ∀ kvs : List (κ × V), (kvs.any fun kv => decide (kv.1 = k)) = (valV kvs k).isSome
  | [] => rfl
  | p :: r => by
    rw [List.any_cons]
    by_cases e : p.1 = k
    · simp only [valV_pos e, decide_eq_true e, Bool.true_or, Option.isSome_some]
    · rw [valV_neg e, decide_eq_false e, Bool.false_or]; exact valV_any k r
theorem putK_new {kvs : List (κ × V)} {k : κ} (v : V) (h : valV kvs k = none) : putK kvs k v = kvs ++ [(k, v)] := by
  unfold putK
  rw [valV_any, h]
  exact if_neg (by decide)

theorem RelO.isSome_eq {o : Option V} {u : Option Value} (r : RelO o u) : o.isSome = u.isSome := by
  cases o with
  | none => cases u with
    | none => rfl
    | some _ => exact (show False from r).elim
  | some _ => cases u with
    | none => exact (show False from r).elim
    | some _ => rfl
theorem RelO.getD {o : Option V} {u : Option Value} {d : V} {d' : Value} (r : RelO o u) (rd : RelV d d') : RelV (o.getD d) (u.getD d') := by
  cases o with
  | none => cases u with
    | none => exact rd
    | some _ => exact (show False from r).elim
  | some _ => cases u with
    | none => exact (show False from r).elim
    | some _ => exact r

theorem KV.val {kvs : List (κ × V)} {vs : List (κ × Value)} (r : KV kvs vs) (k : κ) : RelO (valV kvs k) (valueAt vs k) := by
  unfold KV at r
  induction r with
  | nil => exact True.intro
  | @cons p q ps qs h t ih =>
    obtain ⟨h1, h2⟩ := h
    by_cases e : p.1 = k
    · have e' : q.1 = k := h1.symm.trans e
      have b : valueAt (q :: qs) k = some q.2 := by simp [valueAt, List.find?_cons, e']
      rw [valV_pos e, b]; exact h2
    · have e' : ¬ q.1 = k := fun z => e (h1.trans z)
      have b : valueAt (q :: qs) k = valueAt qs k := by simp [valueAt, List.find?_cons, e']
      rw [valV_neg e, b]; exact ih
theorem KV.any {kvs : List (κ × V)} {vs : List (κ × Value)} (r : KV kvs vs) (k : κ) : (kvs.any fun kv => decide (kv.1 = k)) = vs.any fun kv => decide (kv.1 = k) := by
  unfold KV at r
  induction r with
  | nil => rfl
  | cons h t ih => rw [List.any_cons, List.any_cons, ih, h.1]
theorem KV.repl {kvs : List (κ × V)} {vs : List (κ × Value)} (r : KV kvs vs) (k : κ) {y : V} {u : Value} (ry : RelV y u) :
    KV (kvs.map fun kv => if kv.1 = k then (kv.1, y) else kv) (vs.map fun kv => if kv.1 = k then (kv.1, u) else kv) := by
  unfold KV at r ⊢
  induction r with
  | nil => exact .nil
  | @cons p q ps qs h t ih =>
    rw [List.map_cons, List.map_cons]
    refine .cons ?_ ih
    obtain ⟨h1, h2⟩ := h
    by_cases e : p.1 = k
    · rw [if_pos e, if_pos (h1.symm.trans e)]; exact ⟨h1, ry⟩
    · rw [if_neg e, if_neg (fun z => e (h1.trans z))]; exact ⟨h1, h2⟩
theorem KV.put {kvs : List (κ × V)} {vs : List (κ × Value)} (r : KV kvs vs) (k : κ) {y : V} {u : Value} (ry : RelV y u) : KV (putK kvs k y) (stored vs k u) := by
  unfold putK stored
  rw [r.any k]
  by_cases e : (vs.any fun kv => decide (kv.1 = k)) = true
  · rw [if_pos e, if_pos e]; exact r.repl k ry
  · rw [if_neg e, if_neg e]; exact Paired.snoc r ⟨rfl, ry⟩
theorem KV.drop {kvs : List (κ × V)} {vs : List (κ × Value)} (r : KV kvs vs) (k : κ) : KV (dropK kvs k) (without vs k) := by
  unfold KV at r ⊢
  unfold dropK without
  induction r with
  | nil => exact .nil
  | @cons p q ps qs h t ih =>
    obtain ⟨h1, h2⟩ := h
    rw [List.filter_cons, List.filter_cons]
    by_cases e : p.1 = k
    · have a : ¬ decide (p.1 ≠ k) = true := by simp [e]
      have b : ¬ decide (q.1 ≠ k) = true := by simp [h1.symm.trans e]
      rw [if_neg a, if_neg b]; exact ih
    · have e' : ¬ q.1 = k := fun z => e (h1.trans z)
      have a : decide (p.1 ≠ k) = true := by simp [e]
      have b : decide (q.1 ≠ k) = true := by simp [e']
      rw [if_pos a, if_pos b]; exact .cons ⟨h1, h2⟩ ih
theorem KV.keys {kvs : List (κ × V)} {vs : List (κ × Value)} (r : KV kvs vs) : kvs.map (·.1) = vs.map (·.1) := by
  unfold KV at r
  induction r with
  | nil => rfl
  | cons h t ih => rw [List.map_cons, List.map_cons, ih, h.1]
theorem KV.length {kvs : List (κ × V)} {vs : List (κ × Value)} (r : KV kvs vs) : kvs.length = vs.length := Paired.length r
end


theorem kV_is {P : Program} {w : World} {k : Key} {u : Value} (r : RelV (kV k) u) : (mixKind P w).is k u = true := by
  cases k with
  | inl i => obtain ⟨t, e⟩ := (show ∃ t, u = Value.int i t from r); subst e; exact mixKind_int P w i t
  | inr x => obtain ⟨t, e⟩ := (show ∃ t, u = Value.str x t from r); subst e; exact mixKind_str P w x t
theorem items_are {P : Program} {w : World} : ∀ {ks : List Key} {us : List Value}, Vals (ks.map kV) us → ItemsAre (mixKind P w) ks us
  | [], _, r => by rw [List.map_nil] at r; cases r; exact .nil
  | k :: ks, _, r => by
    rw [List.map_cons] at r
    cases r with
    | cons h t => exact .cons (kV_is h) (items_are t)

abbrev KT (H : Hp) : List (List Key × V) → List (List Key × Addr × Value) → Prop := Paired fun p q => p.1 = q.1 ∧ H q.2.1 = some (.tup (p.1.map kV)) ∧ RelV p.2 q.2.2
theorem KT.val {H : Hp} {kvs : List (List Key × V)} {xs : List (List Key × Addr × Value)} (r : KT H kvs xs) (k : List Key) : RelO (valV kvs k) ((atKey xs k).map (·.2)) := by
  induction r with
  | nil => exact True.intro
  | @cons p q ps qs h t ih =>
    obtain ⟨h1, _, h2⟩ := h
    by_cases e : p.1 = k
    · have e' : q.1 = k := h1.symm.trans e
      have b : atKey (q :: qs) k = some q.2 := by simp [atKey, List.find?_cons, e']
      rw [valV_pos e, b]; exact h2
    · have e' : ¬ q.1 = k := fun z => e (h1.trans z)
      have b : atKey (q :: qs) k = atKey qs k := by simp [atKey, List.find?_cons, e']
      rw [valV_neg e, b]; exact ih
theorem KT.repl {H : Hp} {kvs : List (List Key × V)} {xs : List (List Key × Addr × Value)} (r : KT H kvs xs) (k : List Key) {y : V} {u : Value} (ry : RelV y u) :
    KT H (kvs.map fun kv => if kv.1 = k then (kv.1, y) else kv) (xs.map (putAt k u)) := by
  induction r with
  | nil => exact .nil
  | @cons p q ps qs h t ih =>
    rw [List.map_cons, List.map_cons]
    refine .cons ?_ ih
    obtain ⟨h1, h2, h3⟩ := h
    unfold putAt
    by_cases e : p.1 = k
    · rw [if_pos e, if_pos (h1.symm.trans e)]; exact ⟨h1, h2, ry⟩
    · rw [if_neg e, if_neg (fun z => e (h1.trans z))]; exact ⟨h1, h2, h3⟩
theorem KT.put {H : Hp} {kvs : List (List Key × V)} {xs : List (List Key × Addr × Value)} (r : KT H kvs xs) (k : List Key) {b : Addr} {y : V} {u : Value} (hb : H b = some (.tup (k.map kV))) (ry : RelV y u) :
    KT H (putK kvs k y) (storedH xs k b u) := by
  have e : (kvs.any fun kv => decide (kv.1 = k)) = (atKey xs k).isSome := by
    rw [valV_any, (r.val k).isSome_eq, Option.isSome_map]
  unfold putK storedH
  rw [e]
  by_cases q : (atKey xs k).isSome = true
  · rw [if_pos q, if_pos q]; exact r.repl k ry
  · rw [if_neg q, if_neg q]; exact Paired.snoc r ⟨rfl, hb, ry⟩
theorem KT.keeps {H H' : Hp} {kvs : List (List Key × V)} {xs : List (List Key × Addr × Value)} (r : KT H kvs xs) (ht : ∀ b ys, H b = some (.tup ys) → H' b = some (.tup ys)) : KT H' kvs xs :=
  Paired.mapP r fun _ _ z => ⟨z.1, ht _ _ z.2.1, z.2.2⟩

section
variable {P : Program} {w : World} {H : Hp} {h : Heap} {a : Addr}
theorem rd_of {u : HO} (ok : HOk P w H h) (e : Rd H a u) : ObjOk P w H h a u := e.ok ok
theorem dk_rd {kvs : List (Key × V)} (ok : HOk P w H h) (e : Rd H a (.dK kvs)) : kvs.length ≤ sizeLine ∧ (a == sysModules) = false ∧ ∃ vs, KV kvs vs ∧ h.DictOf (mixKind P w) a vs :=
  show ObjOk P w H h a (.dK kvs) from rd_of ok e
theorem key_of {ks : List Key} (ok : HOk P w H h) (e : H a = some (.tup (ks.map kV))) : (tupleKind (mixKind P w)).is h ks a := by
  obtain ⟨_, its, r, o, h1, h2, n, h3⟩ := (show ObjOk P w H h a (.tup (ks.map kV)) from ok a _ e)
  exact ⟨o, its.toArray, n, h1, h2, h3, by simpa using items_are r⟩
theorem dt_rd {kvs : List (List Key × V)} (ok : HOk P w H h) (e : Rd H a (.dT kvs)) : kvs.length ≤ sizeLine ∧ (a == sysModules) = false ∧
    ∃ xs, KT H kvs xs ∧ h.DictOfH (tupleKind (mixKind P w)) a xs := by
  obtain ⟨z, y, xs, r, o, es, ep, h1, h2, h3, h4, h5⟩ := (show ObjOk P w H h a (.dT kvs) from rd_of ok e)
  refine ⟨z, y, xs, r, o, es, ep, h1, h2, h3, h4, fun x hx => ?_, h5⟩
  have all : ∀ {l : List (List Key × V)} {m : List (List Key × Addr × Value)}, KT H l m → ∀ x ∈ m, (tupleKind (mixKind P w)).is h x.1 x.2.1 := by
    intro l m q
    induction q with
    | nil => intro x hx; exact nomatch hx
    | @cons p q ps qs hq t ih =>
      intro x hx
      rcases List.mem_cons.mp hx with e | hx
      · subst e
        exact key_of ok (by rw [← hq.1]; exact hq.2.1)
      · exact ih x hx
  exact all r x hx
theorem dt_of {kvs : List (List Key × V)} (ok : HOk P w H h) (e : H a = some (.dT kvs)) : kvs.length ≤ sizeLine ∧ (a == sysModules) = false ∧
    ∃ xs, KT H kvs xs ∧ h.DictOfH (tupleKind (mixKind P w)) a xs := dt_rd ok (.inl e)
end

def DGet (H : Hp) (a : Addr) (y : V) (r : Option V) : Prop :=
  (∃ kvs k, Rd H a (.dK kvs) ∧ y = kV k ∧ r = valV kvs k) ∨ ∃ kvs k b, Rd H a (.dT kvs) ∧ y = .ref b ∧ H b = some (.tup (k.map kV)) ∧ r = valV kvs k
def DPut (H : Hp) (a : Addr) (y v : V) (H' : Hp) : Prop :=
  (∃ kvs k, H a = some (.dK kvs) ∧ y = kV k ∧ kvs.length < sizeLine ∧ H' = upd H a (.dK (putK kvs k v))) ∨
  ∃ kvs k b, H a = some (.dT kvs) ∧ y = .ref b ∧ H b = some (.tup (k.map kV)) ∧ kvs.length < sizeLine ∧ H' = upd H a (.dT (putK kvs k v))
theorem DGet.k {H : Hp} {a : Addr} {kvs : List (Key × V)} {k : Key} (e : H a = some (.dK kvs)) : DGet H a (kV k) (valV kvs k) := .inl ⟨kvs, k, .inl e, rfl, rfl⟩
theorem DGet.t {H : Hp} {a b : Addr} {kvs : List (List Key × V)} {k : List Key} (e : H a = some (.dT kvs)) (eb : H b = some (.tup (k.map kV))) : DGet H a (.ref b) (valV kvs k) := .inr ⟨kvs, k, b, .inl e, rfl, eb, rfl⟩
theorem DPut.k {H : Hp} {a : Addr} {kvs : List (Key × V)} {k : Key} {v : V} (e : H a = some (.dK kvs)) (hl : kvs.length < sizeLine) : DPut H a (kV k) v (upd H a (.dK (putK kvs k v))) := .inl ⟨kvs, k, e, rfl, hl, rfl⟩
theorem DPut.t {H : Hp} {a b : Addr} {kvs : List (List Key × V)} {k : List Key} {v : V} (e : H a = some (.dT kvs)) (eb : H b = some (.tup (k.map kV))) (hl : kvs.length < sizeLine) :
    DPut H a (.ref b) v (upd H a (.dT (putK kvs k v))) := .inr ⟨kvs, k, b, e, rfl, eb, hl, rfl⟩


section
variable {X : Cx} {pins : List (Addr × Obj)} {σ : St} {H : Hp} {s : Shared} {a : Addr} {y v : V} {u r : Value} {o : Option V} {A : Around} {E : Value → Shared → Prop}

theorem Inv.big (I : Inv X pins σ H s) : sysModules < s.heap.objs.size := by
  have h : mainGlobals < s.heap.objs.size := (I.mod.glob.keeps I.bk).lt
  exact Nat.lt_trans (by decide) h

theorem d_getItem {Q : Value → Shared → Prop} (hu : A.units + 1 < cLine) (I : Inv X pins σ H s) (g : DGet H a y (some v)) (ry : RelV y u) (h : ∀ w' s', Inv X pins σ H s' → RelV v w' → Q w' s') :
    wpAny (model X.prog X.w) A (getItem (.ref a) u) Q E s := by
  rcases g with ⟨kvs, k, e, ey, l⟩ | ⟨kvs, k, b, e, ey, eb, l⟩
  · subst ey
    obtain ⟨z, hd, vs, rel, dd⟩ := dk_rd I.hok e
    obtain ⟨w', hw, rw'⟩ := RelO.some_of (v := v) (o := valueAt vs k) (by rw [l]; exact rel.val k)
    exact wpAny_getItem_of (kV_is ry) dd.mapOf hw (h w' _ (I.tok _) rw')
  · subst ey
    cases (show u = Value.ref b from ry)
    obtain ⟨z, hd, xs, rel, dd⟩ := dt_rd I.hok e
    obtain ⟨w', hw, rw'⟩ := RelO.some_of (v := v) (o := (atKey xs k).map (·.2)) (by rw [l]; exact rel.val k)
    obtain ⟨p, hp, hp2⟩ := Option.map_eq_some_iff.mp hw
    refine wpAny_getItem_heap (tupleKind_room_in1 hu) (key_of I.hok eb) dd hp ?_
    rw [hp2]
    exact h w' _ (I.tok _) rw'
theorem d_write {h' : Heap} {t' : Nat} {ob : HO} (I : Inv X pins σ H s) (mu : Mut (H a)) (hs : Heap.SameBut a s.heap h') (he : ∃ q, h'.get? a = some q) (new : ObjOk X.prog X.w (upd H a ob) h' a ob) :
    Inv X pins σ (upd H a ob) { s with heap := h', toks := t' } :=
  I.write (x := a) (e := a) mu (.inl rfl) (fun b q hb z => (hs.2 b hb).trans z) he new
end

section
variable {X : Cx} {pins : List (Addr × Obj)} {σ : St} {H : Hp} {s : Shared} {a : Addr} {kvs : List (Key × V)} {k : Key} {u : Value} {A : Around} {E : Value → Shared → Prop}
end


def NoSl (i : Expr) : Prop := ∀ ov iv, subscripted i false ov iv = operate [ov, iv] (getItem ov iv)
theorem subD_of {prog : Program} {w : World} {A : Around} {E : Value → Shared → Prop} {s : Shared} {env : Env} {value slice : Expr} {pos : Pos} {T id : String} {Q : Value → Shared → Prop}
    (hl : typeLookup (.type T) "__getitem__" = pure (some (.builtin id))) (hs : NoSl slice)
    (h : wpAny (model prog w) A (eval value env) (fun o s₁ => wpAny (model prog w) A (eval slice env) (fun i s₂ => s₂.TypeIs o T ∧ wpAny (model prog w) A (getItem o i) Q E s₂) E s₁) E s) :
    wpAny (model prog w) A (eval (.Subscript value slice pos) env) Q E s := by
  refine Subscript_ (wpAny_mono h (fun o s₁ h₁ => wpAny_mono h₁ (fun i s₂ h₂ => ?_) fun _ _ x => x) fun _ _ x => x)
  obtain ⟨hT, h₂⟩ := h₂
  unfold subscriptTail
  refine wpAny_bind ?_
  rw [getitemInPython_of_ne hT.not_modules]
  refine wpAny_bind (wpAny_specialOf hT hl ?_)
  have fin : wpAny (model prog w) A (subscripted slice false o i) (fun r s₃ => wpAny (model prog w) A (letTemporaryGo value o r >>= fun _ => pure r) Q E s₃) E s₂ := by
    rw [hs o i]
    exact wpAny_operating (wpAny_mono h₂ (fun r s₃ h₃ => wpAny_bind (wpAny_letTemporaryGo (wpAny_pure h₃))) fun _ _ x => x)
  first
    | exact wpAny_pure (wpAny_bind fin)
    | exact wpAny_bind (wpAny_pure (wpAny_bind fin))
    | exact wpAny_bind fin

theorem dict_typeIs {X : Cx} {pins : List (Addr × Obj)} {σ : St} {H : Hp} {s : Shared} {a : Addr} {y : V} {o : Option V} (I : Inv X pins σ H s) (g : DGet H a y o) : s.TypeIs (.ref a) "dict" := by
  rcases g with ⟨kvs, k, e, _, _⟩ | ⟨kvs, k, b, e, _, _, _⟩
  · obtain ⟨_, _, vs, _, dd⟩ := dk_rd I.hok e
    exact dd.typeIs
  · obtain ⟨_, _, xs, _, dd⟩ := dt_rd I.hok e
    exact dd.typeIs
def tDGet (td ty : TE) : TE := fun σ H Q => td σ H fun x H1 => ty σ H1 fun y H2 => ∃ a v, x = .ref a ∧ DGet H2 a y (some v) ∧ Q v H2
section
variable {X : Cx} {o i e value : Expr} {pos pos' tpos : Pos} {td ty tv : TE}
theorem pe_dget (hu : X.A.units + 1 < cLine) (ho : PE X o td) (hi : PE X i ty) (hs : NoSl i) : PE X (.Subscript o i pos) (tDGet td ty) := by
  intro pins s σ H Q I h
  refine subD_of PySem.F.slot_dict_getitem.lookup hs (thn (ho pins s σ H _ I h) fun u s1 ⟨x, H1, I1, rx, q1⟩ => thn (hi pins s1 σ H1 _ I1 q1) fun iv s2 ⟨y, H2, I2, ry, a, v, ex, g, q2⟩ => ?_)
  subst ex
  obtain rfl : u = Value.ref a := rx
  exact ⟨dict_typeIs I2 g, d_getItem hu I2 g ry fun w' s3 I3 rw' => ⟨v, H2, I3, rw', q2⟩⟩
end


theorem dt_empty {P : Program} {w : World} {H : Hp} (h : Heap) (hb : sysModules < h.objs.size) : ObjOk P w H (h.push { cls := .type "dict", data := .dict #[] }) h.objs.size (.dT []) :=
  ⟨Nat.zero_le _, beq_eq_false_iff_ne.mpr (Ne.symm (Nat.ne_of_lt hb)), [], .nil, _, #[], 0, Heap.get?_push_size _ rfl, ⟨rfl, rfl, rfl⟩, rfl, rfl, List.nodup_nil⟩
def tDNewT : TE := fun _ H Q => ∀ p, H p = none → Q (.ref p) (upd H p (.dT []))
section
variable {X : Cx} {pos : Pos}
theorem pe_dnewT : PE X (.Dict [] [] pos) tDNewT := fun pins s σ H Q I h =>
  wpAny_Dict_empty ⟨.ref s.heap.objs.size, _, I.laid (a := s.heap.objs.size) (o := .dT []) (t' := s.toks) (fun _ _ q => Heap.get?_push_of_some _ q) (Nat.le_refl _) (dt_empty s.heap I.big), rfl, h _ (I.hok.fresh (Nat.le_refl _))⟩
end

structure M1 (X : Cx) (o : Expr) (m : Str) (apos : Pos) (e : Expr) (cpos : Pos) : Prop where
  base : attributeBase o m X.env (eval o X.env) = eval o X.env
  few : ((backTo cpos (starEach [e] X.env)).all (fun x => !x.1) && (backToKw cpos (keywordEach [] X.env)).all (fun x => x.1.isSome)
    && decide (([e] : List Expr).length + ([] : List Keyword).length + (if ([] : List Keyword).isEmpty then 0 else 1) < 30)) = true
  line : (apos.endLine == cpos.line) = true
  trees : backTo cpos (starEach [e] X.env) = [(false, eval e X.env)]
structure M2 (X : Cx) (o : Expr) (m : Str) (apos : Pos) (e f : Expr) (cpos : Pos) : Prop where
  base : attributeBase o m X.env (eval o X.env) = eval o X.env
  few : ((backTo cpos (starEach [e, f] X.env)).all (fun x => !x.1) && (backToKw cpos (keywordEach [] X.env)).all (fun x => x.1.isSome)
    && decide (([e, f] : List Expr).length + ([] : List Keyword).length + (if ([] : List Keyword).isEmpty then 0 else 1) < 30)) = true
  line : (apos.endLine == cpos.line) = true
  trees : backTo cpos (starEach [e, f] X.env) = [(false, eval e X.env), (false, eval f X.env)]

section
variable {X : Cx} {pins : List (Addr × Obj)} {σ : St} {H : Hp} {s : Shared} {a : Addr} {y d : V} {u r : Value} {o : Option V} {A : Around} {E : Value → Shared → Prop}
end

section
variable {X : Cx} {o e f : Expr} {apos cpos : Pos} {td ty tx : TE}
end

section
variable {X : Cx} {pins : List (Addr × Obj)} {σ : St} {H : Hp} {s : Shared} {a : Addr} {kvs : List (Key × V)} {A : Around} {E : Value → Shared → Prop}
end


section
variable {X : Cx} {pins : List (Addr × Obj)} {σ : St} {H : Hp} {s : Shared} {a : Addr} {y : V} {u : Value} {A : Around} {E : Value → Shared → Prop}
end
end L2

namespace L2
open PySem PySem.Spec PyProof.Rows

section
variable {prog : Program} {w : World} {A : Around} {E : Value → Shared → Prop}
end

section
variable {X : Cx}
end
end L2

namespace L2
open PySem PySem.Spec PyProof.Rows

theorem boot_reversed5 : bootBuiltins "reversed" = some (.type "reversed") := by decide +kernel

section
variable {X : Cx} {pins : List (Addr × Obj)} {σ : St} {H : Hp} {s : Shared} {h' : Heap}
theorem Inv.turnedL {t' : Nat} {ch : List Addr} (I : Inv X pins σ H s) (k : ∀ b o, b ∉ ch → s.heap.get? b = some o → h'.get? b = some o) (hf : ∀ b ∈ ch, FpOk X pins H b) : Inv X pins σ H { s with heap := h', toks := t' } := by
  have nit : ∀ b u, H b = some u → b ∉ ch := fun b u e z => by
    have q := (hf b z).1
    rw [q] at e; cases e
  refine I.step (g' := s.gens) (d' := s.drawn) (ch := ch) (fun b hb => ⟨(hf b hb).2.2.2.1, (hf b hb).2.1, (hf b hb).2.2.2.2.1, (hf b hb).2.2.2.2.2⟩) (fun b o _ _ hc e _ => k b o hc e) (fun b o _ _ hc e _ => ⟨o.slots, k b o hc e⟩)
    (fun _ _ _ _ n => n) (fun b o hc e => ⟨o, k b o hc e⟩) (fun _ _ e => e) (fun _ _ _ e => e) (fun b ps e => ⟨#[], by rw [e]; simp⟩) (fun m hm => ?_) (fun b u e => ?_) I.bare
  · obtain ⟨o, es, ep, ho, r⟩ := hm
    exact ⟨o, es, ep, k _ o (fun z => (hf _ z).2.1 rfl) ho, r⟩
  · refine (I.hok b u e).stay (fun c v hc q => k c v ?_ q) (fun _ q => q) fun _ _ q => q
    rcases hc with z | z
    · rw [z]; exact nit b u e
    · exact nit c _ z
theorem Inv.turnedNew {t' : Nat} {ch : List Addr} {T : Addr} {ob : HO} (I : Inv X pins σ H s) (k : ∀ b o, b ∉ ch → s.heap.get? b = some o → h'.get? b = some o) (hf : ∀ b ∈ ch, FpOk X pins H b) (hT : s.heap.objs.size ≤ T)
    (new : ObjOk X.prog X.w (upd H T ob) h' T ob) : Inv X pins σ (upd H T ob) { s with heap := h', toks := t' } := by
  have hn : H T = none := I.hok.fresh hT
  have nit : ∀ b u, H b = some u → b ∉ ch := fun b u e z => by
    have q := (hf b z).1
    rw [q] at e; cases e
  refine I.step (g' := s.gens) (d' := s.drawn) (ch := ch) (fun b hb => ⟨(hf b hb).2.2.2.1, (hf b hb).2.1, (hf b hb).2.2.2.2.1, (hf b hb).2.2.2.2.2⟩) (fun b o _ _ hc e _ => k b o hc e) (fun b o _ _ hc e _ => ⟨o.slots, k b o hc e⟩)
    (fun b o _ e n => ?_) (fun b o hc e => ⟨o, k b o hc e⟩) (fun b xs e => ?_) (fun b o u e => ?_) (fun b ps e => ⟨#[], ?_⟩) (fun m hm => ?_) (fun b u e => ?_) I.bare
  · rw [upd_ne (Nat.ne_of_lt (Nat.lt_of_lt_of_le (Heap.lt_size e) hT))]; exact n
  · rw [upd_ne (ne_of_none e hn)]; exact e
  · rw [upd_ne (ne_of_none e hn)]; exact e
  · rw [upd_ne (ne_of_none e hn), e]; simp
  · obtain ⟨o, es, ep, ho, r⟩ := hm
    exact ⟨o, es, ep, k _ o (fun z => (hf _ z).2.1 rfl) ho, r⟩
  · by_cases hb : b = T
    · subst hb
      rw [upd_same] at e
      cases e
      exact new
    · rw [upd_ne hb] at e
      refine (I.hok b u e).stay (fun c v hc q => k c v ?_ q) (fun c q => by rw [upd_ne (ne_of_none q hn)]; exact q) fun c xs q => by rw [upd_ne (ne_of_none q hn)]; exact q
      rcases hc with z | z
      · rw [z]; exact nit b u e
      · exact nit c _ z

end
section
variable {X : Cx}
theorem pi_one {tg : Expr} {pins : List (Addr × Obj)} {σ : St} {H : Hp} {s : Shared} {R : It → Hp → Prop} {J : It} {tn : Nat → Heap → Prop} {tk : Nat} (I : Inv X pins σ H s) (o : Obj)
    (T : Turn X.prog X.w X.K tg J [s.heap.objs.size] s.heap.objs.size tn) (st : tn 0 (s.heap.push o)) (q : R J H) : PIE X pins σ tg R (.ref s.heap.objs.size) { s with heap := s.heap.push o, toks := tk } := by
  refine ⟨s.heap.objs.size, [s.heap.objs.size], tn, J, H, rfl, I.kept fun b ob e => Heap.get?_push_of_some _ e, T, st, fun b hb => ?_, q⟩
  have e : b = s.heap.objs.size := by simpa using hb
  subst e
  exact I.fpOk (Nat.le_refl _) (I.hok.fresh (Nat.le_refl _))
end

def Itc (lo c : Int) (n : Nat) : It := ⟨fun i _ => i < n, fun i H x H' => H' = H ∧ x = .int (lo + (i : Nat) * c), fun i _ => n ≤ i⟩
theorem turn_rangeC {P : Program} {w : World} {K : PySem.W.Frag} {tg : Expr} (it : Addr) (lo c : Int) (n : Nat) : Turn P w K tg (Itc lo c n) [it] it (fun i h => IsRangeIter h it (lo + (i : Nat) * c) ((n : Int) - (i : Nat)) c) where
  mem := by simp
  obj := fun i h st b hb => by
    have e : b = it := by simpa using hb
    subst e
    exact ⟨_, st, fun v z => nomatch z⟩
  keep := fun i h h' st k => k it (by simp) _ st
  item := by
    intro X hP hw hK hc i pins s σ H E I hf st hg
    subst hP hw hK
    obtain ⟨f0, f1, f2, f3, f4, f5⟩ := hf it (by simp)
    have W := Walks.range (prog := X.prog) (w := X.w) (I.ok.hd hc) it lo c n
    refine W.item i s _ _ hg st fun v h' tk hv st' kk => ?_
    obtain ⟨t, rfl⟩ := hv
    have I1 : Inv X pins σ H { s with heap := h', toks := tk } := I.turned (fun b o hb e => kk b o (by simpa using hb) e) f0 f1 f3 f4 f5
    exact ⟨_, rfl, go_of (s := { s with heap := h', toks := tk }) (n := "range_iterator") st' rfl rfl (by decide) ⟨.int (lo + (i : Nat) * c), H, I1, ⟨t, rfl⟩, ⟨rfl, rfl⟩, st', fun b hb => (hf b hb).1⟩⟩
  done := by
    intro X hP hw hK hc i pins s σ H E I hf st hg
    subst hP hw hK
    obtain ⟨f0, f1, f2, f3, f4, f5⟩ := hf it (by simp)
    exact wpAny_pyNext_range_end (I.ok.hd hc) st (by have : n ≤ i := hg; omega) fun h' eb => ⟨rfl, I.turned (t' := s.toks) (fun b o hb e => eb b o hb e) f0 f1 f3 f4 f5⟩
  self := fun A i s Q E st h => wpAny_pyIter_rangeiter st h
def RgC (i j c : Int) (n : Nat) : Prop := c ≠ 0 ∧ c.natAbs < 1073741824 ∧ Builtin.Range.small i j c = true ∧ Builtin.Range.rangeSize i j c = n
theorem RgC.neg {i j : Int} (ha : -(2 ^ 62) ≤ i) (ha' : i < 2 ^ 62) (hb : -(2 ^ 62) ≤ j) (hb' : j < 2 ^ 62) : RgC i j (-1) (i - j).toNat :=
  ⟨by decide, by decide, PySem.W.small_down ha ha' hb hb', PySem.W.rangeSize_downNat i j⟩
def iRng3 (ta : TA) : TI := fun σ H R => ta σ H fun vs H1 => ∃ (i j c : Int) (n : Nat), vs = [.int i, .int j, .int c] ∧ RgC i j c n ∧ R (Itc i c n) H1
section
variable {X : Cx} {tg : Expr}
theorem pi_range3 {a b c : Expr} {ta : TA} {p pos : Pos} (hg : Gl X "range") (hm : X.mg "range" = none) (ha : PA X [a, b, c] ta)
    (hs : starEach [a, b, c] X.env = (false, eval a X.env) :: starEach [b, c] X.env := by rfl) (hpl : (backTo pos (starEach [b, c] X.env)).any (·.1) = false := by rfl) :
    PI X tg (.Call (.Name "range" p) [a, b, c] [] pos) (iRng3 ta) := by
  intro pins s σ H R I h
  refine Call_ (ld_blt I hg hm boot_range (PyProof.Rows.callWith_type1 (thn (ha pos pins s σ H _ I h) fun us s1 ⟨vs, H1, I1, r1, q1⟩ => ?_) hs hpl))
  obtain ⟨i, j, k, n, e, ⟨c0, c1, c2, c3⟩, q⟩ := q1
  subst e
  cases r1 with
  | cons r rr =>
    cases rr with
    | cons r' rr =>
      cases rr with
      | cons r'' rr =>
        cases rr
        obtain ⟨t, rfl⟩ := r
        obtain ⟨t', rfl⟩ := r'
        obtain ⟨t'', rfl⟩ := r''
        refine call_range_3 c0 ?_ (.inl (PyProof.noPylong_small c1))
        refine wpAny_pyIter_range (IsRange.new ..) c2 ?_
        have I2 : Inv X pins σ H1 { s1 with heap := s1.heap.push { cls := .type "range", data := .fields #[.int i t, .int j t', .int k t''] } } := I1.kept (t' := s1.toks) fun b o e => Heap.get?_push_of_some _ e
        refine pi_one (tk := s1.toks) I2 _ (turn_rangeC _ i k n) ?_ q
        have e1 : i + ((0 : Nat) : Int) * k = i := by simp
        have e2 : (n : Int) - ((0 : Nat) : Int) = Builtin.Range.rangeSize i j k := by rw [c3]; simp
        show IsRangeIter _ _ (i + ((0 : Nat) : Int) * k) ((n : Int) - ((0 : Nat) : Int)) k
        rw [e1, e2]
        exact Heap.get?_push_size _ rfl
end
section
variable {X : Cx} {tg : Expr}
end

section
variable {prog : Program} {w : World} {A : Around} {E : Value → Shared → Prop} {s : Shared}
theorem iter_keys {d : Addr} {o : Obj} {es : Array DictEntry} {ep : Nat} {Q : Value → Shared → Prop} (hd : (d == sysModules) = false) (ho : s.heap.get? d = some o) (hc : o.ExactDict) (hdat : o.data = .dict es ep)
    (hQ : Q (.ref s.heap.objs.size) { s with heap := s.heap.push { cls := .type "dict_keyiterator", data := .fields #[.ref d, .int 0 0, .int es.size 0, .int ep 0] } }) :
    wpAny (model prog w) A (pyIter (.ref d)) Q E s := by
  have hT : s.TypeIs (.ref d) "dict" := ⟨o, ho, hc.1⟩
  refine wpAny_pyIter_slot hT F.slot_dict_iter (wpAny_call_entry F.slot_dict_iter hT F.entry_dict_iter ?_ (F.args_dict_iter_1 _))
  unfold Builtin.«dict.__iter__»
  refine wpAny_bind ?_
  unfold Builtin.Dict.dictSlotNone
  refine wpAny_bind (wpAny_notOrdered_dict hT ?_)
  show wpAny _ _ (pure (Value.ref d)) _ _ s
  refine wpAny_pure ?_
  show wpAny _ _ (Builtin.Dict.showsAll d >>= _) _ _ s
  unfold Builtin.Dict.showsAll
  rw [if_neg (by rw [hd]; exact Bool.false_ne_true)]
  refine wpAny_bind (wpAny_pure ?_)
  refine wpAny_bind (wpAny_dictEntries ho hdat ?_)
  refine wpAny_bind (wpAny_dictEpoch ho hdat ?_)
  refine wpAny_bind (wpAny_newObj_type (wpAny_pure ⟨_, rfl, "dict_keyiterator", _, ⟨_, Heap.get?_push_size _ rfl, rfl⟩, F.slot_dict_keyiterator_next.lookup, ?_⟩))
  simpa [rawInt] using hQ
theorem next_key_item {it d : Addr} {i n ep : Nat} {od : Obj} {es : Array DictEntry} {en : DictEntry} {Q : Option Value → Shared → Prop} (hit : s.heap.IsKeyIter it d i n ep) (hod : s.heap.get? d = some od) (hdd : od.data = .dict es ep)
    (hsz : es.size = n) (hx : es[i]? = some en) (hQ : ∀ h', h'.IsKeyIter it d (i + 1) n ep → Heap.SameBut it s.heap h' → Q (some en.key) { s with heap := h' }) : wpAny (model prog w) A (pyNext (.ref it)) Q E s := by
  obtain ⟨o, ho, hc, hd⟩ := id hit
  unfold pyNext
  refine wpAny_bind (wpAny_attempt (wpAny_callSpecial?_slot (name := Str.ofString "__next__") hit.typeIs F.slot_dict_keyiterator_next
    (wpAny_call_entry F.slot_dict_keyiterator_next hit.typeIs F.entry_dict_keyiterator_next ?_ (F.args_dict_keyiterator_next_1 _))))
  refine wpAny_bind (wpAny_pure ?_)
  refine wpAny_bind ?_
  refine wpAny_bind ?_
  first | refine wpAny_bind (wpAny_typeNameOfWhole_keyiter hit.typeIs (wpAny_pure ?_)) | refine wpAny_bind (wpAny_typeNameOf_keyiter hit.typeIs (wpAny_pure ?_))
  refine wpAny_bind (wpAny_fieldsOf ho hd ?_)
  have hown : Builtin.Dict_items.ownsTuple "dict_keyiterator" = false := by decide
  simp only [hown, Bool.false_eq_true, if_false]
  show wpAny _ _ (if (Value.ref d == Value.none) = true then _ else _) _ _ s
  rw [if_neg (show ¬ ((Value.ref d == Value.none) = true) from Bool.false_ne_true)]
  refine wpAny_bind (wpAny_pure ?_)
  refine wpAny_bind (wpAny_dictEntries hod hdd ?_)
  rw [if_neg (by rw [hsz]; simp)]
  refine wpAny_bind (wpAny_pure ?_)
  refine wpAny_bind (wpAny_dictEpoch hod hdd ?_)
  rw [if_neg (by simp)]
  refine wpAny_pure ?_
  obtain ⟨hlt', hen⟩ := Array.getElem?_eq_some_iff.mp hx
  simp only [show ¬ ((i : Int) < 0) from by omega, if_false, Int.toNat_natCast, Array.getElem?_eq_getElem hlt']
  refine wpAny_bind ?_
  first | refine wpAny_bind (wpAny_typeNameOfWhole_keyiter hit.typeIs (wpAny_pure ?_)) | refine wpAny_bind (wpAny_typeNameOf_keyiter hit.typeIs (wpAny_pure ?_))
  refine wpAny_bind (wpAny_isOneOf_keyiter hit.typeIs ?_)
  show wpAny _ _ (setField (.ref it) 1 (rawInt ((i : Int) + 1)) >>= _) _ _ s
  refine wpAny_bind (wpAny_setField ho hd (by simp) ?_)
  have hit' : (s.heap.update it (Obj.mapFields (·.setIfInBounds 1 (rawInt ((i : Int) + 1))))).IsKeyIter it d (i + 1) n ep :=
    ⟨_, Heap.get?_update_self _ ho (Obj.isFreed_of_fields (Obj.data_mapFields hd _)), (Obj.cls_mapFields ..).trans hc, by rw [Obj.data_mapFields hd]; simp [rawInt]⟩
  refine wpAny_bind (wpAny_holding ?_)
  refine wpAny_bind (wpAny_isOneOf_keyiter (s := { s with heap := s.heap.update it (Obj.mapFields (·.setIfInBounds 1 (rawInt ((i : Int) + 1)))) }) hit'.typeIs ?_)
  show wpAny _ _ (pure es[i].key) _ _ _
  rw [hen]
  exact wpAny_pure (wpAny_pure ⟨_, rfl, wpAny_pure (hQ _ hit' (Heap.SameBut.update ..))⟩)
theorem next_key_end {it d : Addr} {i n ep : Nat} {od : Obj} {es : Array DictEntry} {Q : Option Value → Shared → Prop} (hh : A.handled = none) (hit : s.heap.IsKeyIter it d i n ep) (hod : s.heap.get? d = some od) (hdd : od.data = .dict es ep)
    (hsz : es.size = n) (hge : n ≤ i) (hQ : ∀ h', Heap.ExtBut it s.heap h' → Q none { s with heap := h' }) : wpAny (model prog w) A (pyNext (.ref it)) Q E s := by
  obtain ⟨o, ho, hc, hd⟩ := id hit
  unfold pyNext
  refine wpAny_bind (wpAny_attempt (wpAny_callSpecial?_slot (name := Str.ofString "__next__") hit.typeIs F.slot_dict_keyiterator_next
    (wpAny_call_entry F.slot_dict_keyiterator_next hit.typeIs F.entry_dict_keyiterator_next ?_ (F.args_dict_keyiterator_next_1 _))))
  refine wpAny_bind (wpAny_pure ?_)
  refine wpAny_bind ?_
  refine wpAny_bind ?_
  first | refine wpAny_bind (wpAny_typeNameOfWhole_keyiter hit.typeIs (wpAny_pure ?_)) | refine wpAny_bind (wpAny_typeNameOf_keyiter hit.typeIs (wpAny_pure ?_))
  refine wpAny_bind (wpAny_fieldsOf ho hd ?_)
  have hown : Builtin.Dict_items.ownsTuple "dict_keyiterator" = false := by decide
  simp only [hown, Bool.false_eq_true, if_false]
  show wpAny _ _ (if (Value.ref d == Value.none) = true then _ else _) _ _ s
  rw [if_neg (show ¬ ((Value.ref d == Value.none) = true) from Bool.false_ne_true)]
  refine wpAny_bind (wpAny_pure ?_)
  refine wpAny_bind (wpAny_dictEntries hod hdd ?_)
  rw [if_neg (by rw [hsz]; simp)]
  refine wpAny_bind (wpAny_pure ?_)
  refine wpAny_bind (wpAny_dictEpoch hod hdd ?_)
  rw [if_neg (by simp)]
  refine wpAny_pure ?_
  have hge' : es.size ≤ i := by rw [hsz]; exact hge
  simp only [show ¬ ((i : Int) < 0) from by omega, if_false, Int.toNat_natCast, Array.getElem?_eq_none hge']
  refine wpAny_bind ?_
  first | refine wpAny_bind (wpAny_typeNameOfWhole_keyiter hit.typeIs (wpAny_pure ?_)) | refine wpAny_bind (wpAny_typeNameOf_keyiter hit.typeIs (wpAny_pure ?_))
  show wpAny _ _ (setField (.ref it) 0 .none >>= _) _ _ s
  refine wpAny_bind (wpAny_setField ho hd (by simp) ?_)
  show wpAny _ _ (newExc (.type "StopIteration") [] >>= _) _ _ _
  refine wpAny_bind ?_
  simp only [newExc, newTuple]
  refine wpAny_bind (wpAny_newObj_type ?_ (by size_fits))
  refine wpAny_bind (m := firstArgMember _ _) (wpAny_of_eq (a := Value.none) (by first | rfl | (simp only [firstArgMember]; rfl)) ?_)
  refine wpAny_newObj_type ?_ (by size_fits)
  simp only [raiseNew]
  refine wpAny_bind (wpAny_handled ?_)
  rw [show A.in1.handled = none from hh]
  refine wpAny_bind (wpAny_pure (wpAny_throw ?_))
  refine wpAny_bind (wpAny_isInstance (T := "StopIteration") (b := true) ⟨_, Heap.get?_push_size _ rfl, rfl⟩ isSubtype_stop ?_)
  exact wpAny_pure (hQ _ (((Heap.SameBut.update ..).extBut.push _).push _))
end

theorem paired_get {α β : Type} {G : α → β → Prop} {l₁ : List α} {l₂ : List β} (h : Paired G l₁ l₂) : ∀ {i : Nat} {a : α}, l₁[i]? = some a → ∃ b, l₂[i]? = some b ∧ G a b := by
  induction h with
  | nil => intro i a e; simp at e
  | @cons a b l₁ l₂ r t ih =>
    intro i a' e
    cases i with
    | zero =>
      simp only [List.getElem?_cons_zero, Option.some.injEq] at e
      subst e
      exact ⟨b, rfl, r⟩
    | succ j =>
      simp only [List.getElem?_cons_succ] at e ⊢
      exact ih e
section
variable {X : Cx} {pins : List (Addr × Obj)} {σ : St} {H : Hp} {s : Shared} {d : Addr} {o : Obj}
end

section
variable {P : Program} {w : World} {K : PySem.W.Frag} {tg : Expr} {d : Addr} {o : Obj} {es : Array DictEntry} {ep : Nat}
end

section
variable {X : Cx} {tg e : Expr} {td : TE} {apos cpos : Pos}
end

def Ite (K : PySem.W.Frag) (a : Addr) : It :=
  ⟨fun i H => ∃ (xs : List V) (x : V), SqL K H a xs ∧ xs[i]? = some x, fun i H v H' => ∃ T x, v = .ref T ∧ H T = none ∧ H' = upd H T (.tup [.int (i : Nat), x]) ∧ ∀ xs, SqL K H a xs → xs[i]? = some x, fun i H => ∃ xs : List V, SqL K H a xs ∧ xs.length ≤ i⟩
theorem turn_enum {P : Program} {w : World} {K : PySem.W.Frag} {elts : List Expr} {kk : Nat} {tpos : Pos} (a e it : Addr) :
    Turn P w K (.Tuple elts kk tpos) (Ite K a) [e, it] e (fun i h => (∃ old, IsEnum h e it ((i : Nat) : Int) old) ∧ h.IsListIter it a i ∧ e ≠ it) where
  mem := by simp
  obj := fun i h st b hb => by
    obtain ⟨⟨old, he⟩, ⟨o, ho, hc, hd⟩, _⟩ := st
    have e' : b = e ∨ b = it := by simpa using hb
    rcases e' with z | z
    · rw [z]; exact ⟨_, he, fun v q => nomatch q⟩
    · rw [z]; exact ⟨o, ho, fun v q => by rw [hd] at q; cases q⟩
  keep := fun i h h' st k => let ⟨⟨old, he⟩, hi, hne⟩ := st; ⟨⟨old, k e (by simp) _ he⟩, hi.at fun o q => k it (by simp) o q, hne⟩
  item := by
    intro X hP hw hK hc i pins s σ H E I hf st hg
    subst hP hw hK
    obtain ⟨⟨old, he⟩, hit, hne⟩ := st
    obtain ⟨xs, x, hq, hx⟩ := hg
    obtain ⟨its, rv, p, hz⟩ := I.list hq
    obtain ⟨u, hu, ru⟩ := rv.get hx
    have hel : e < s.heap.objs.size := Heap.lt_size he
    have hil : it < s.heap.objs.size := by obtain ⟨_, q, _⟩ := hit; exact Heap.lt_size q
    refine wpAny_pyNext_enum_item he hit p.isList (x := u) (by simpa using hu) hne fun h' ho hit' hT hsz hk => ?_
    refine ⟨_, rfl, wpAny_letOwnedTupleGo_enum (s := { s with heap := h', toks := s.toks + 1 }) ho fun h'' he' sb => ?_⟩
    have hT2 : h''.get? s.heap.objs.size = some { cls := .type "tuple", data := .seq #[.int i s.toks, u] } := (sb.2 _ (Nat.ne_of_gt hel)).trans hT
    have new : ObjOk X.prog X.w (upd H s.heap.objs.size (.tup [.int (i : Nat), x])) h'' s.heap.objs.size (.tup [.int (i : Nat), x]) :=
      ⟨by show 2 ≤ sizeLine; decide, [.int i s.toks, u], .cons ⟨_, rfl⟩ (.cons ru .nil), ⟨_, hT2, rfl, _, rfl⟩⟩
    have I1 : Inv X pins σ (upd H s.heap.objs.size (.tup [.int (i : Nat), x])) { s with heap := h'', toks := s.toks + 1 } :=
      I.turnedNew (ch := [e, it]) (fun b ob hb q => (sb.2 b (fun z => hb (by simp [z]))).trans (hk b ob (fun z => hb (by simp [z])) (fun z => hb (by simp [z])) q)) hf (Nat.le_refl _) new
    refine ⟨.ref s.heap.objs.size, _, I1, rfl, ⟨_, x, rfl, I.hok.fresh (Nat.le_refl _), rfl, fun ys hy => by rw [I.list_inj hy hq]; exact hx⟩, ⟨⟨u, ?_⟩, hit'.at fun o q => (sb.2 it (Ne.symm hne)).trans q, hne⟩, fun b hb => ?_⟩
    · have e1 : ((i + 1 : Nat) : Int) = (i : Int) + 1 := by omega
      rw [e1]; exact he'
    · have hb' : b < s.heap.objs.size := by
        have e' : b = e ∨ b = it := by simpa using hb
        rcases e' with z | z
        · rw [z]; exact hel
        · rw [z]; exact hil
      rw [upd_ne (Nat.ne_of_lt hb')]
      exact (hf b hb).1
  done := by
    intro X hP hw hK hc i pins s σ H E I hf st hg
    subst hP hw hK
    obtain ⟨⟨old, he⟩, hit, hne⟩ := st
    obtain ⟨xs, hq, hx⟩ := hg
    obtain ⟨its, rv, p, hz⟩ := I.list hq
    obtain ⟨f0, f1, f2, f3, f4, f5⟩ := hf it (by simp)
    have hl := rv.length
    exact wpAny_pyNext_enum_end (I.ok.hd hc) he hit p.isList (by simp; omega) fun h' eb => ⟨rfl, I.turned (t' := s.toks) (fun b o hb q => eb b o hb q) f0 f1 f3 f4 f5⟩
  self := fun A i s Q E st h => let ⟨⟨_, he⟩, _⟩ := st; wpAny_pyIter_enum he h
def iEnum (K : PySem.W.Frag) (ta : TA) : TI := fun σ H R => ta σ H fun vs H1 => ∃ a xs, vs = [.ref a] ∧ SqL K H1 a xs ∧ R (Ite K a) H1
theorem pi_enum {X : Cx} {e : Expr} {ta : TA} {p pos tpos : Pos} {elts : List Expr} {kk : Nat} (hg : Gl X "enumerate") (hm : X.mg "enumerate" = none) (ha : PA X [e] ta) (hs : starEach [e] X.env = [(false, eval e X.env)] := by rfl) :
    PI X (.Tuple elts kk tpos) (.Call (.Name "enumerate" p) [e] [] pos) (iEnum X.K ta) := by
  intro pins s σ H R I h
  refine Call_ (ld_blt I hg hm boot_enumerate (PyProof.Rows.callWith_type1 (thn (ha pos pins s σ H _ I h) fun us s1 ⟨vs, H1, I1, r1, q1⟩ => ?_) hs rfl))
  obtain ⟨a, xs, ex, hq, q⟩ := q1
  subst ex
  cases r1 with
  | cons r rr =>
    cases rr
    cases r
    obtain ⟨its, rv, p', hz⟩ := I1.list hq
    refine call_enumerate_list p'.isList fun h' he hit hsz hk => wpAny_pyIter_enum he ?_
    have I2 : Inv X pins σ H1 { s1 with heap := h' } := I1.kept (t' := s1.toks) hk
    refine ⟨s1.heap.objs.size + 1, [s1.heap.objs.size + 1, s1.heap.objs.size], _, _, H1, rfl, I2, turn_enum a (s1.heap.objs.size + 1) s1.heap.objs.size, ⟨⟨.none, he⟩, hit, Nat.succ_ne_self _⟩, fun b hb => ?_, q⟩
    have e' : b = s1.heap.objs.size + 1 ∨ b = s1.heap.objs.size := by simpa using hb
    have hle : s1.heap.objs.size ≤ b := by
      rcases e' with z | z
      · rw [z]; exact Nat.le_add_right _ _
      · rw [z]; exact Nat.le_refl _
    exact I1.fpOk hle (I1.hok.fresh hle)
theorem boot_zip5 : bootBuiltins "zip" = some (.type "zip") := by decide +kernel
def Itz (K : PySem.W.Frag) (a b : Addr) : It :=
  ⟨fun i H => ∃ (xs ys : List V) (x y : V), SqL K H a xs ∧ SqL K H b ys ∧ xs[i]? = some x ∧ ys[i]? = some y,
    fun i H v H' => ∃ T x y, v = .ref T ∧ H T = none ∧ H' = upd H T (.tup [x, y]) ∧ (∀ xs, SqL K H a xs → xs[i]? = some x) ∧ ∀ ys, SqL K H b ys → ys[i]? = some y,
    fun i H => ∃ xs ys : List V, SqL K H a xs ∧ SqL K H b ys ∧ (xs.length ≤ i ∨ ys.length ≤ i)⟩
theorem turn_zip {P : Program} {w : World} {K : PySem.W.Frag} {elts : List Expr} {kk : Nat} {tpos : Pos} {a b z TI TO i1 i2 : Addr} (D : ZipApart z TI TO i1 i2 a b) :
    Turn P w K (.Tuple elts kk tpos) (Itz K a b) [z, TI, TO, i1, i2] z (fun i h => IsZip h z TI TO .none ∧ IsPair h TI (.ref i1) (.ref i2) ∧ (∃ x y, IsPair h TO x y) ∧ h.IsListIter i1 a i ∧ h.IsListIter i2 b i) where
  mem := by simp
  obj := fun i h st c hc => by
    obtain ⟨hz, hTI, ⟨x, y, hTO⟩, ⟨o1, e1, _, d1⟩, ⟨o2, e2, _, d2⟩⟩ := st
    have e' : c = z ∨ c = TI ∨ c = TO ∨ c = i1 ∨ c = i2 := by simpa using hc
    rcases e' with q | q | q | q | q
    · rw [q]; exact ⟨_, hz, fun v q => nomatch q⟩
    · rw [q]; exact ⟨_, hTI, fun v q => nomatch q⟩
    · rw [q]; exact ⟨_, hTO, fun v q => nomatch q⟩
    · rw [q]; exact ⟨o1, e1, fun v q => by rw [d1] at q; cases q⟩
    · rw [q]; exact ⟨o2, e2, fun v q => by rw [d2] at q; cases q⟩
  keep := fun i h h' st k => by
    obtain ⟨hz, hTI, ⟨x, y, hTO⟩, h1, h2⟩ := st
    exact ⟨k z (by simp) _ hz, k TI (by simp) _ hTI, ⟨x, y, k TO (by simp) _ hTO⟩, h1.at fun o q => k i1 (by simp) o q, h2.at fun o q => k i2 (by simp) o q⟩
  item := by
    intro X hP hw hK hc i pins s σ H E I hf st hg
    subst hP hw hK
    obtain ⟨hz, hTI, ⟨x0, y0, hTO⟩, h1, h2⟩ := st
    obtain ⟨xs, ys, x, y, hqx, hqy, hx, hy⟩ := hg
    obtain ⟨its, rv, p, _⟩ := I.list hqx
    obtain ⟨its2, rv2, p2, _⟩ := I.list hqy
    obtain ⟨u, hu, ru⟩ := rv.get hx
    obtain ⟨u2, hu2, ru2⟩ := rv2.get hy
    have hzl : z < s.heap.objs.size := Heap.lt_size hz
    refine wpAny_pyNext_zip_item D hz hTI hTO h1 h2 p.isList p2.isList (x := u) (y := u2) (by simpa using hu) (by simpa using hu2) fun h' z' TO' h1' h2' hT hsz hk => ?_
    refine ⟨_, rfl, wpAny_letOwnedTupleGo_zip (s := { s with heap := h' }) z' fun h'' z'' sb => ?_⟩
    have hT2 : h''.get? s.heap.objs.size = some { cls := .type "tuple", data := .seq #[u, u2] } := (sb.2 _ (Nat.ne_of_gt hzl)).trans hT
    have new : ObjOk X.prog X.w (upd H s.heap.objs.size (.tup [x, y])) h'' s.heap.objs.size (.tup [x, y]) :=
      ⟨by show 2 ≤ sizeLine; decide, [u, u2], .cons ru (.cons ru2 .nil), ⟨_, hT2, rfl, _, rfl⟩⟩
    have I1 : Inv X pins σ (upd H s.heap.objs.size (.tup [x, y])) { s with heap := h'' } :=
      I.turnedNew (t' := s.toks) (ch := [z, TI, TO, i1, i2]) (fun c o hb q => (sb.2 c (fun q' => hb (by simp [q']))).trans (hk c o (fun q' => hb (by simp [q'])) (fun q' => hb (by simp [q'])) (fun q' => hb (by simp [q'])) (fun q' => hb (by simp [q'])) q)) hf (Nat.le_refl _) new
    refine ⟨.ref s.heap.objs.size, _, I1, rfl, ⟨_, x, y, rfl, I.hok.fresh (Nat.le_refl _), rfl, fun l hl => by rw [I.list_inj hl hqx]; exact hx, fun l hl => by rw [I.list_inj hl hqy]; exact hy⟩, ⟨z'', ?_, ⟨u, u2, ?_⟩, ?_, ?_⟩, fun c hcm => ?_⟩
    · exact (sb.2 _ D.TIz).trans (hk _ _ D.TIz D.TITO D.TIi1 D.TIi2 hTI)
    · exact (sb.2 _ D.TOz).trans TO'
    · exact h1'.at fun o q => (sb.2 _ D.i1z).trans q
    · exact h2'.at fun o q => (sb.2 _ D.i2z).trans q
    · have hlt : c < s.heap.objs.size := by
        have e' : c = z ∨ c = TI ∨ c = TO ∨ c = i1 ∨ c = i2 := by simpa using hcm
        rcases e' with q | q | q | q | q
        · rw [q]; exact hzl
        · rw [q]; exact Heap.lt_size hTI
        · rw [q]; exact Heap.lt_size hTO
        · rw [q]; obtain ⟨_, e1, _⟩ := h1; exact Heap.lt_size e1
        · rw [q]; obtain ⟨_, e2, _⟩ := h2; exact Heap.lt_size e2
      rw [upd_ne (Nat.ne_of_lt hlt)]
      exact (hf c hcm).1
  done := by
    intro X hP hw hK hc i pins s σ H E I hf st hg
    subst hP hw hK
    obtain ⟨hz, hTI, ⟨x0, y0, hTO⟩, h1, h2⟩ := st
    obtain ⟨xs, ys, hqx, hqy, hend⟩ := hg
    obtain ⟨its, rv, p, _⟩ := I.list hqx
    obtain ⟨its2, rv2, p2, _⟩ := I.list hqy
    have l1 := rv.length
    have l2 := rv2.length
    have he : its.toArray[i]? = none ∨ its2.toArray[i]? = none := by
      rcases hend with q | q
      · exact .inl (by simp; omega)
      · exact .inr (by simp; omega)
    exact wpAny_pyNext_zip_end (I.ok.hd hc) D hz hTI hTO h1 h2 p.isList p2.isList he fun h' hk => ⟨rfl, I.turnedL (t' := s.toks) (ch := [z, TI, TO, i1, i2]) (fun c o hb q =>
      hk c o (fun q' => hb (by simp [q'])) (fun q' => hb (by simp [q'])) (fun q' => hb (by simp [q'])) (fun q' => hb (by simp [q'])) q) hf⟩
  self := fun A i s Q E st h => wpAny_pyIter_zip st.1 h
def iZip (K : PySem.W.Frag) (ta : TA) : TI := fun σ H R => ta σ H fun vs H1 => ∃ a b xs ys, vs = [.ref a, .ref b] ∧ SqL K H1 a xs ∧ SqL K H1 b ys ∧ R (Itz K a b) H1
theorem pi_zip {X : Cx} {e e2 : Expr} {ta : TA} {p pos tpos : Pos} {elts : List Expr} {kk : Nat} (hg : Gl X "zip") (hm : X.mg "zip" = none) (ha : PA X [e, e2] ta)
    (hs : starEach [e, e2] X.env = (false, eval e X.env) :: starEach [e2] X.env := by rfl) (hpl : (backTo pos (starEach [e2] X.env)).any (·.1) = false := by rfl) :
    PI X (.Tuple elts kk tpos) (.Call (.Name "zip" p) [e, e2] [] pos) (iZip X.K ta) := by
  intro pins s σ H R I h
  refine Call_ (ld_blt I hg hm boot_zip5 (PyProof.Rows.callWith_type1 (thn (ha pos pins s σ H _ I h) fun us s1 ⟨vs, H1, I1, r1, q1⟩ => ?_) hs hpl))
  obtain ⟨a, b, xs, ys, ex, hqx, hqy, q⟩ := q1
  subst ex
  cases r1 with
  | cons r rr =>
    cases rr with
    | cons r' rr =>
      cases rr
      cases r
      cases r'
      obtain ⟨its, rv, p1, _⟩ := I1.list hqx
      obtain ⟨its2, rv2, p2, _⟩ := I1.list hqy
      have la : a < s1.heap.objs.size := p1.lt
      have lb : b < s1.heap.objs.size := p2.lt
      refine call_zip_2 p1.isList p2.isList fun h' hz hTI hTO h1 h2 hsz hk => wpAny_pyIter_zip hz ?_
      have I2 : Inv X pins σ H1 { s1 with heap := h' } := I1.kept (t' := s1.toks) hk
      refine ⟨s1.heap.objs.size + 4, [s1.heap.objs.size + 4, s1.heap.objs.size + 2, s1.heap.objs.size + 3, s1.heap.objs.size, s1.heap.objs.size + 1], _, _, H1, rfl, I2, turn_zip (PySem.W.ktu_apart s1.heap.objs.size a b la lb), ⟨hz, hTI, ⟨_, _, hTO⟩, h1, h2⟩, fun c hcm => ?_, q⟩
      have e' : c = s1.heap.objs.size + 4 ∨ c = s1.heap.objs.size + 2 ∨ c = s1.heap.objs.size + 3 ∨ c = s1.heap.objs.size ∨ c = s1.heap.objs.size + 1 := by simpa using hcm
      have hle : s1.heap.objs.size ≤ c := by
        rcases e' with z | z | z | z | z
        · rw [z]; exact Nat.le_add_right _ _
        · rw [z]; exact Nat.le_add_right _ _
        · rw [z]; exact Nat.le_add_right _ _
        · rw [z]; exact Nat.le_refl _
        · rw [z]; exact Nat.le_add_right _ _
      exact I1.fpOk hle (I1.hok.fresh hle)
end L2

section 
namespace Bits
open PySem PyProof.Rows

theorem bitAnd_mask {x : Int} (k : Nat) (hx : 0 ≤ x) : Builtin.bitAnd x (2 ^ k - 1) = x % 2 ^ k := by
  obtain ⟨n, rfl⟩ := Int.eq_ofNat_of_zero_le hx
  have hp : 0 < 2 ^ k := Nat.two_pow_pos k
  rw [two_pow_cast]
  have e : ((2 ^ k : Nat) : Int) - 1 = ((2 ^ k - 1 : Nat) : Int) := by
    generalize (2 : Nat) ^ k = m at hp
    omega
  rw [e, bitAnd_pp (by omega) (by omega), Int.toNat_natCast, Int.toNat_natCast, Nat.and_two_pow_sub_one_eq_mod]
  first
    | rfl
    | exact Int.natCast_emod _ _
    | simp

end Bits
end 

section 
namespace TL
open PySem PySem.Builtin PySem.Builtin.Str PySem.StrLaws

abbrev tl (x : Str) : List Nat := x.cps.toList
def pre (S l : List Nat) : Bool := l.take S.length == S
def par (S : List Nat) : List Nat → List Nat → Option (List Nat × List Nat)
  | _, [] => none
  | acc, c :: r => if pre S (c :: r) = true then some (acc, (c :: r).drop S.length) else par S (acc ++ [c]) r

end TL
end 

namespace L2
open PySem PySem.Spec PyProof.Rows

section
variable {X : Cx} {pins : List (Addr × Obj)} {σ : St} {H : Hp} {s : Shared} {Q : VK}
end

section
variable {X : Cx}

end

section
variable {X : Cx} {o e : Expr} {to te : TE}
end
end L2

namespace L2
open PySem PySem.Spec PyProof.Rows

section
variable {X : Cx}
end

end L2

namespace Att
open PySem PySem.W PySem.Calls PyProof.Rows

theorem ints_of_wellAll {P : Params} {h : Heap} : ∀ (ns : List Int) (vs : List Value), WellAll P h vs (ns.map WData.int) → IntsAre vs ns := by
  intro ns
  induction ns with
  | nil =>
    intro vs w
    rw [List.map_nil] at w
    cases w
    exact .nil
  | cons n ns ih =>
    intro vs w
    rw [List.map_cons] at w
    cases w with
    | cons a b =>
      cases a
      exact .cons _ _ (ih _ b)

theorem script_of {l : OpenLaw} {n : Nat} (hn : l.most = some n) {P : Params} {h : Heap} {args : List WData} {vals : List Value}
    (hpre : l.row.toRowW.claim.pre args = true) (hwl : WellAll P h vals args) :
    ∃ a vs ns, vals = [Value.ref a] ∧ args = [WData.list (ns.map WData.int)] ∧ h.get? a = some { cls := .type "list", data := .seq vs.toArray } ∧ IntsAre vs ns ∧ ns.length ≤ n := by
  have hsh : WShape.hasAll [] args [.list .int] = true := (pre_splitW hpre).1
  have hc : l.pre.holds [] { args := args } = true := (pre_splitW hpre).2
  obtain ⟨d, r, rfl, h1, h2⟩ := hasAllW_cons hsh
  obtain rfl := hasAllW_nil h2
  obtain ⟨xs, rfl, h3⟩ := hasW_list h1
  obtain ⟨ns, rfl⟩ := items_int h3
  have hlen : ns.length ≤ n := by
    unfold OpenLaw.pre at hc
    have h4 : (WTm.not (.lt (.lit (.int (n : Int))) (.len (.arg 0)))).holds [] { args := [.list (ns.map .int)] } = true := by
      have h4 := (holds_andW hc).1
      rw [hn] at h4
      exact h4
    have h5 := condW_of h4 (w_not (w_lt w_lit (w_len_list (w_arg rfl))))
    rw [List.length_map] at h5
    refine Nat.le_of_not_lt fun q => ?_
    have q' : (n : Int) < ((ns.length : Nat) : Int) := by omega
    first
      | (rw [decide_eq_true q'] at h5; exact absurd h5 (by decide))
      | (simp at h5; omega)
  cases hwl with
  | cons w1 w2 =>
    cases w2
    cases w1 with
    | list ho hall => exact ⟨_, _, ns, rfl, rfl, ho, ints_of_wellAll ns _ hall, hlen⟩

theorem post_true (l : OpenLaw) (args : List WData) : l.row.toRowW.claim.post args (.bool true) args = true :=
  postW_of (r := l.row.toRowW) (X := (true == true))
    (show WShape.has [] (.bool true) .bool = true by first | rfl | decide | simp [WShape.has, WShape.arms, WShape.armsAll])
    (show (WTm.eq .res (.lit (.bool true))).value [] { args := args, res := some (.bool true), after := args } = some (.bool (true == true)) from w_eq_bool (w_res rfl) w_lit) rfl

theorem attach_call {l : OpenLaw} {n : Nat} {q : Program} {loose : List Str} {XP : (Str → Option Value) → Heap → Prop} {YP : World → Heap → Prop} {d : DefRec}
    (hn : l.most = some n) (hdf : d.params.defaults = [])
    (call : ∀ (w : World) (s₀ s₁ : Shared) (mg mb : Str → Option Value) (fa : Addr) (o : Obj) (pm cd doc : Value) (a : Addr) (vs : List Value) (ns : List Int),
      Ground q loose [] XP w s₀ mg mb s₁.heap → YP w s₁.heap →
      s₁.heap.get? fa = some o → o.data = .func (docDef d.name d.params d.body d.scope pm cd doc) → s₁.heap.CodeRec cd d.name → mg d.name = some (.ref fa) →
      s₁.heap.get? a = some { cls := .type "list", data := .seq vs.toArray } → IntsAre vs ns → ns.length ≤ n → s₁.gens = #[] →
      codeAny (model l.prog w) callerA (.call (.ref fa) ⟨[.ref a], []⟩) (fun r s' => r = .ok (.ret (.bool true)) ∧ OldK s₁.heap s'.heap ∧ s'.os = s₁.os ∧ AllBare s'.gens) s₁) :
    WalkO q loose XP YP l.row.toRowW d [] (fun f vs => PySem.call f vs) := by
  intro w s₀ s₁ mg mb G Y fa o pm cd doc dV kV ho hd hcd hD hmg hg args vals as hpre hlay hrd hwl hlo
  obtain rfl : dV = .none := Dflts.none hD hdf
  obtain rfl : kV = .none := Dflts.noKw hD
  obtain ⟨a, vs, ns, rfl, rfl, hobj, hints, hlen⟩ := script_of hn hpre hwl
  refine enter_call (codeAny_mono (call w s₀ s₁ mg mb fa o pm cd doc a vs ns G Y ho (fd_plain hd) hcd hmg hobj hints hlen hg) fun r s' hq => ?_)
  obtain ⟨rfl, h2, h3, h4⟩ := hq
  exact ⟨.inl ⟨.bool true, .bool true, [], rfl, fun _ => rfl, .bool true, post_true l _, fun _ => ⟨List.Pairwise.nil, fun _ hm => (nomatch hm)⟩⟩, h2, h3, h4⟩

section
variable {prog : Program} {w : World} {A : Around} {E : Value → Shared → Prop} {s : Shared} {K : Frag}

end
end Att

namespace L2
open PySem PySem.Spec PyProof.Rows

theorem vals_ints : ∀ {vs : List Value} {ns : List Int}, IntsAre vs ns → Vals (ns.map V.int) vs
  | _, _, .nil => .nil
  | _, _, .cons n t h => .cons ⟨t, rfl⟩ (vals_ints h)

def Only (H : Hp) : Prop := ∀ b, H b = none ∨ ∃ o xs, H b = some (.frz o (.lst xs))

theorem law_call {P : Program} {w : World} {K : PySem.W.Frag} {mg mb : Str → Option Value} {CX : CXT} {k : Nat} {fa a : Addr} {fd : FuncData} {x : Str} {sp : Sp} {s₁ : Shared} {vs : List Value} {ns : List Int}
    (KX : K.In s₁.heap) (hns : s₁.heap.Ns mainGlobals mg) (hb : s₁.heap.Ns builtinsNs mb) (hbb : ∀ x : Str, x ≠ "__name__" → mb x = bootBuiltins x) (hlim : s₁.heap.NoLimit) (hg : s₁.gens = #[])
    (ha : s₁.heap.get? a = some { cls := .type "list", data := .seq vs.toArray }) (hi : IntsAre vs ns) (hl : ns.length ≤ sizeLine) (hr : Room k callerA)
    (F : ∀ base : Heap, K.In base → base.Ns mainGlobals mg → FnOk P w K mg base CX k fa fd [x] sp) (hbind : ∀ (s : Shared) (u : Value), BindsTo s fd ⟨[u], []⟩ [(x, u)])
    (hsp : ∀ H : Hp, Only H → SqL K H a (ns.map V.int) → sp [.ref a] H (fun v _ => v = .bl true) fun _ _ _ => False)
    (hCX : ∀ H e s', CX [] H s₁ (fun _ _ _ => False) e s' → False) :
    codeAny (model P w) callerA (.call (.ref fa) ⟨[.ref a], []⟩) (fun r s' => r = .ok (.ret (.bool true)) ∧ OldK s₁.heap s'.heap ∧ s'.os = s₁.os ∧ AllBare s'.gens) s₁ := by
  have rv := vals_ints hi
  have lenV := hi.length
  -- from an abstract heap in which nothing but the script may be tracked
  have core : ∀ H : Hp, Only H → SqL K H a (ns.map V.int) → HOk P w H s₁.heap → (∀ b, H b ≠ none → b = a) → (H a ≠ none → K.lookup a = none) →
      codeAny (model P w) callerA (.call (.ref fa) ⟨[.ref a], []⟩) (fun r s' => r = .ok (.ret (.bool true)) ∧ OldK s₁.heap s'.heap ∧ s'.os = s₁.os ∧ AllBare s'.gens) s₁ := by
    intro H hO hS hok hA hK
    have base_of : ∀ {b : Addr} {o : Obj}, s₁.heap.get? b = some o → H b = none → (hidT s₁.heap H).get? b = some o := fun e n => hidT_get e n
    have noA : ∀ {b : Addr} {o : Obj} {es : Array DictEntry} {ep : Nat}, s₁.heap.get? b = some o → o.data = .dict es ep → H b = none := fun {b o es ep} e d => by
      cases q : H b with
      | none => rfl
      | some u =>
        have e' : b = a := hA b (by rw [q]; simp)
        subst e'
        rw [ha] at e; cases e
        have d' : Data.seq vs.toArray _ = Data.dict es ep := d
        cases d'
    have nsK : ∀ {b : Addr} {m : Str → Option Value}, s₁.heap.Ns b m → (hidT s₁.heap H).Ns b m := fun {b m} ⟨o, es, ep, e, d, r⟩ => ⟨o, es, ep, base_of e (noA e d), d, r⟩
    have hKb : K.In (hidT s₁.heap H) := fun b o e => base_of (KX b o e) (by
      cases q : H b with
      | none => rfl
      | some u =>
        have e' : b = a := hA b (by rw [q]; simp)
        subst e'
        rw [hK (by rw [q]; simp)] at e; cases e)
    have hM : Mod K mg (hidT s₁.heap H) := ⟨hKb, nsK hns, ⟨mb, nsK hb, hbb⟩, let ⟨mc, h1, h2⟩ := hlim; ⟨mc, nsK h1, h2⟩⟩
    have e0 : Env0 P w K mg (hidT s₁.heap H) callerA [] s₁ H := ⟨rfl, hM, fun b o e => of_hidT e, Nat.le_of_eq (hidT_size _ _), trivial, fun b hb => absurd (show b ∈ ([] : List Addr) from hb) (by simp), hok, .of_eq hg⟩
    refine codeAny_mono ((F _ hKb (nsK hns)).run callerA [] s₁ H ⟨[.ref a], []⟩ [.ref a] [.ref a] _ _ hr e0 (hbind s₁ (.ref a)) (.cons rfl .nil) (hsp H hO hS)) fun r s' h => ?_
    cases r with
    | error e => exact (hCX H e s' h).elim
    | ok fl =>
      cases fl with
      | next => exact False.elim h
      | brk => exact False.elim h
      | cont => exact False.elim h
      | ret u =>
        obtain ⟨v, H', os, bare, un, hok', r', q⟩ := h
        have q' : v = .bl true := q
        subst q'
        obtain rfl : u = Value.bool true := r'
        refine ⟨rfl, OldK.of_keep fun b o e => ?_, os, bare⟩
        cases q : H b with
        | none => exact un.keep b o e q (by intro z; exact absurd (show b ∈ ([] : List Addr) from z) (by simp)) (by simp)
        | some u =>
          rcases hO b with z | ⟨ob, xs, z⟩
          · rw [q] at z; cases z
          · have z2 := un.frzs b ob _ z
            obtain ⟨e1, _⟩ := hok b _ z
            obtain ⟨e2, _⟩ := hok' b _ z2
            rw [e] at e1; cases e1
            exact e2
  cases hk : K.lookup a with
  | some o =>
    -- the script is one of the module's own objects
    have e := KX a o hk
    rw [ha] at e
    cases e
    refine core (fun _ => none) (fun _ => .inl rfl) (.inr ⟨_, vs.toArray, _, hk, rfl, rfl, rfl, by rw [List.size_toArray, lenV]; exact hl, by simpa using rv⟩) (fun b u z => by have z' : (none : Option HO) = some u := z; cases z') (fun b z => absurd rfl z) fun z => absurd rfl z
  | none =>
    refine core (fun b => if b = a then some (.frz { cls := .type "list", data := .seq vs.toArray } (.lst (ns.map V.int))) else none) (fun b => ?_) (.inl (.inr ⟨{ cls := .type "list", data := .seq vs.toArray }, if_pos rfl⟩)) (fun b u z => ?_) (fun b z => ?_) fun _ => hk
    · by_cases hb : b = a
      · exact .inr ⟨_, _, if_pos hb⟩
      · exact .inl (if_neg hb)
    · by_cases hb : b = a
      · have z' := (if_pos hb).symm.trans z
        cases z'
        subst hb
        exact ⟨ha, by rw [List.length_map]; exact hl, vs, _, rv, ha⟩
      · have z' := (if_neg hb).symm.trans z
        cases z'
    · by_cases hb : b = a
      · exact hb
      · exact absurd (if_neg hb) z
end L2

namespace L2
open PySem PySem.Spec PyProof.Rows

theorem walk_of {l : PySem.W.OpenLaw} {n k : Nat} {q : Program} {loose : List Str} {XP : (Str → Option Value) → Heap → Prop} {YP : World → Heap → Prop} {d : DefRec} {K : Params → PySem.W.Frag} {CX : World → CXT} {sp : World → Sp} {x : Str}
    (hn : l.most = some n) (hn2 : n ≤ sizeLine) (hdf : d.params.defaults = []) (hr : Room k callerA)
    (hY : ∀ (w : World) (h : Heap), YP w h → (K w.params).In h)
    (F : ∀ (w : World) (mg : Str → Option Value) (fa : Addr) (h : Heap), (K w.params).In h → h.Ns mainGlobals mg → mg d.name = some (.ref fa) →
      ∃ fd : FuncData, (∀ (s : Shared) (u : Value), BindsTo s fd ⟨[u], []⟩ [(x, u)]) ∧
        ∀ base : Heap, (K w.params).In base → base.Ns mainGlobals mg → FnOk l.prog w (K w.params) mg base (CX w) k fa fd [x] (sp w))
    (hsp : ∀ (w : World) (H : Hp) (a : Addr) (ns : List Int), ns.length ≤ n → Only H → SqL (K w.params) H a (ns.map V.int) → sp w [.ref a] H (fun v _ => v = .bl true) fun _ _ _ => False)
    (hCX : ∀ (w : World) (H : Hp) (s : Shared) (e : Value) (s' : Shared), CX w [] H s (fun _ _ _ => False) e s' → False) :
    PySem.W.WalkO q loose XP YP l.row.toRowW d [] (fun f vs => PySem.call f vs) := by
  refine Att.attach_call hn hdf fun w s₀ s₁ mg mb fa o pm cd doc a vs ns G Y ho hd hcd hmg hobj hints hlen hg => ?_
  have KX := hY w _ Y
  obtain ⟨fd, hb, hF⟩ := F w mg fa _ KX G.T.g hmg
  exact law_call KX G.T.g G.T.b G.T.builtins G.T.nolimit hg hobj hints (Nat.le_trans hlen hn2) hr hF hb (fun H hO hS => hsp w H a ns hlen hO hS) fun H e s' => hCX w H s₁ e s'
end L2


namespace L2
open PySem PySem.Spec PyProof.Rows

def defArgs (s : Stmt) : Arguments := match s with
  | .FunctionDef _ a _ _ _ _ _ _ _ _ => a
  | _ => { posonlyargs := [], args := [], vararg := none, kwonlyargs := [], kw_defaults := [], kwarg := none, defaults := [] }
def defBody (s : Stmt) : List Stmt := match s with
  | .FunctionDef _ _ b _ _ _ _ _ _ _ => b
  | _ => []
def defScope (s : Stmt) : Scope := match s with
  | .FunctionDef _ _ _ _ _ _ sc _ _ _ => sc
  | _ => { kind := .function, names := [], isGenerator := false, isCoroutine := false }

abbrev CX0 : CXT := fun _ _ _ _ _ _ => False
abbrev E0 : XK := fun _ _ _ => False
structure Fun (K : PySem.W.Frag) (x qual : Str) (st : Stmt) (f : Addr) (fd : FuncData) : Prop where
  ex : ∃ (oc : Value) (od : Option Addr) (kV doc pm : Value) (an : Option Addr) (cdv ct : Value) (osl : Array (Option Value)),
    fd = PySem.W.fnOf x qual (defArgs st) (defBody st) (defScope st) .none kV doc pm an cdv ct ∧ K.lookup f = some ⟨oc, od, .func fd, osl⟩ ∧ PySem.W.codeIn K cdv qual = true
  kp : PySem.W.keepIn K (.ref f) = true
section
variable {P : Program} {w : World} {K : PySem.W.Frag} {mg : Str → Option Value} {base : Heap}
theorem Fun.ok {x qual : Str} {st : Stmt} {f : Addr} {fd : FuncData} {N ps : List Str} {k : Nat} {sp : Sp} (F : Fun K x qual st f fd) (S : FnScope N ps (defScope st)) (len : ∀ vs H Q E, sp vs H Q E → vs.length = ps.length)
    (hbody : ∀ (cdv : Value) (A : Around) (outer : List Env) (s : Shared) (H : Hp) (vs : List V) (Q : VK) (E : XK), Room k (A.deeper (envOfC qual (defScope st) s.heap.objs.size f cdv)) → sp vs H Q E →
      ∃ t, PSs (cxOf CX0 P w K mg base N qual (defScope st) f cdv A outer s H E).nox (defBody st) t ∧ t { nx := fun _ H' => Q .non H', rt := Q } (start N vs) H) : FnOk P w K mg base CX0 (k + 1) f fd ps sp := by
  obtain ⟨oc, od, kV, doc, pm, an, cdv, ct, osl, rfl, lk, hcd⟩ := F.ex
  refine fn_of lk hcd S len fun A outer s H vs Q E hr hsp => ?_
  obtain ⟨t, h, q⟩ := hbody cdv A outer s H vs Q E hr hsp
  exact ⟨t, h.nox, q⟩
theorem Fun.binds {x qual : Str} {st : Stmt} {f : Addr} {fd : FuncData} {ps : List Str} (F : Fun K x qual st f fd)
    (h : ∀ (kV doc pm : Value) (an : Option Addr) (cdv ct : Value) (us : List Value), us.length = ps.length → bindArgs (PySem.W.fnOf x qual (defArgs st) (defBody st) (defScope st) .none kV doc pm an cdv ct) ⟨us, []⟩ = pure (ps.zip us)) : Binds K fd ps [] := by
  obtain ⟨oc, od, kV, doc, pm, an, cdv, ct, osl, rfl, lk, hcd⟩ := F.ex
  exact .all (h kV doc pm an cdv ct)
theorem fun_mk {x qual : Str} {st : Stmt} {f : Addr} {oc : Value} {od an : Option Addr} {osl : Array (Option Value)} {kV doc pm cdv ct : Value} (l : K.lookup f = some ⟨oc, od, .func (PySem.W.fnOf x qual (defArgs st) (defBody st) (defScope st) .none kV doc pm an cdv ct), osl⟩)
    (c : PySem.W.codeIn K cdv qual = true) (k : PySem.W.keepIn K (.ref f) = true) : Fun K x qual st f (PySem.W.fnOf x qual (defArgs st) (defBody st) (defScope st) .none kV doc pm an cdv ct) := ⟨⟨oc, od, kV, doc, pm, an, cdv, ct, osl, rfl, l, c⟩, k⟩
end
theorem hu_of {A : Around} {k : Nat} (hr : Room k A) : A.units + 1 < cLine := Nat.lt_of_le_of_lt (Nat.add_le_add_left (by decide : 1 ≤ 64) _) hr.units
section
variable {X : Cx}
theorem pv (i : Nat) {x : Str} {pos : Pos} (hN : X.N[i]? = some x := by rfl) (hv : Vis X.env.scope x := by first | exact Or.inl rfl | exact Or.inr (Or.inl rfl) | exact Or.inr (Or.inr rfl)) (hd : (x == ("__debug__" : Str)) = false := by decide)
    (hcd : (x == ("__classdict__" : Str)) = false := by decide) : PE X (.Name x pos) (tVar i) := pe_var hN hv hd hcd
end

def Same (H H' : Hp) : Prop := ∀ b o, H b = some o → H' b = some o
theorem Same.refl (H : Hp) : Same H H := fun _ _ h => h
theorem Same.trans {H H1 H2 : Hp} (a : Same H H1) (b : Same H1 H2) : Same H H2 := fun c o h => b c o (a c o h)
theorem Same.free {H H' : Hp} (e : Same H H') {l : Addr} (h : H' l = Option.none) : H l = Option.none := by
  cases q : H l with
  | none => rfl
  | some o =>
    rw [e l o q] at h
    cases h
theorem Same.seq {K : PySem.W.Frag} {H H' : Hp} {a : Addr} {xs : List V} (e : Same H H') (h : SqL K H a xs) : SqL K H' a xs := by
  rcases h with (h | ⟨o, h⟩) | h
  · exact .inl (.inl (e _ _ h))
  · exact .inl (.inr ⟨o, e _ _ h⟩)
  · exact .inr h

section
variable {κ : Type} [DecidableEq κ]
end
end L2

set_option linter.all false
set_option maxRecDepth 100000
namespace L2
open PySem PySem.Spec PyProof.Rows

theorem frameOf_any {M : Model} {A : Around} {E : Value → Shared → Prop} {s : Shared} {base : Heap} {env env1 : Env} {stack outer1 : List Env} {L : Addr} {Q : Value → Shared → Prop}
    (hfr : A.frames = some stack) (hst : stack = env1 :: outer1) (hf1 : env1.frame = some L) (hf : env.frame = some L) (hl : s.heap.FunFrames base stack)
    (h : ∀ h', Heap.SlotsOnly (frs stack) s.heap h' → Q (.ref L) { s with heap := h' }) : wpAny M A (PySem.frameOf env) Q E s := by
  subst hst
  unfold PySem.frameOf
  refine wpAny_bind (wpAny_frameEnvs hfr ?_)
  have hdw : ((env1 :: outer1).dropWhile fun x => x.frame != env.frame) = env1 :: outer1 := by
    have e : (env1.frame != env.frame) = false := by rw [hf1, hf]; simp
    simp [List.dropWhile, e]
  rw [hdw]
  unfold frameObject
  refine wpAny_bind (wpAny_bind (wpAny_readyFrames_fun hl fun h₁ hs₁ => wpAny_pure ?_))
  rw [hf1]
  exact wpAny_pure (h h₁ hs₁)

structure Noted (fs : List Addr) (e : Addr) (vs : Array Value) (cls : Value) (h h' : Heap) : Prop where
  keep : ∀ b o, b ∉ fs → b ≠ e → vs[1]? ≠ some (.ref b) → h.get? b = some o → h'.get? b = some o
  slot : ∀ b o, b ∈ fs → h.get? b = some o → ∃ sl, h'.get? b = some { o with slots := sl }
  there : ∀ b o, h.get? b = some o → ∃ o', h'.get? b = some o'
  tb : ∃ oe' vs' T oT ts, h'.get? e = some oe' ∧ oe'.cls = cls ∧ oe'.data = .fields vs' ∧ vs'[1]? = some (.ref T) ∧ (vs[1]? = some (.ref T) ∨ h.get? T = none) ∧ T ≠ e ∧ h'.get? T = some oT ∧ oT.data = .fields ts ∧ 3 < ts.size

theorem note_new {M : Model} {A : Around} {E : Value → Shared → Prop} {s : Shared} {base g : Heap} {env env1 : Env} {stack outer1 : List Env} {L e : Addr} {oe : Obj} {vs : Array Value} {head : Value} {hb : Bool} {Q : Unit → Shared → Prop}
    (hfr : A.frames = some stack) (hst : stack = env1 :: outer1) (hf1 : env1.frame = some L) (hf : env.frame = some L) (hl : s.heap.FunFrames base stack)
    (he : s.heap.get? e = some oe) (hd : oe.data = .fields vs) (hsz : 1 < vs.size)
    (kg : ∀ b o, vs[1]? ≠ some (.ref b) → g.get? b = some o → s.heap.get? b = some o) (tg : ∀ b o, g.get? b = some o → ∃ o', s.heap.get? b = some o') (eg : g.objs.size = s.heap.objs.size)
    (ne : ∀ T, vs[1]? = some (.ref T) → ∃ o vs', s.heap.get? T = some o ∧ o.data = .fields vs')
    (h : ∀ h' : Heap, Noted (frs stack) e vs oe.cls g h' → Q () { s with heap := h' }) :
    wpAny M A (do let a ← PySem.frameOf env; let pl ← entryPlaceOf L hb; let b ← EntryCells.newEntry head a .none (rawInt L) .none pl; setField (.ref e) 1 b) Q E s := by
  have nfr : ∀ b o vs', s.heap.get? b = some o → o.data = .fields vs' → b ∉ frs stack := fun b o vs' q d hm => by
    obtain ⟨_, o', ho, hnf⟩ := hl.mem hm
    rw [q] at ho; cases ho; exact hnf _ d
  have hene := nfr e oe vs he hd
  refine wpAny_bind (frameOf_any hfr hst hf1 hf hl fun h₁ hs₁ => ?_)
  refine wpAny_bind (wpAny_entryPlaceOf fun pl hpl => ?_)
  unfold EntryCells.newEntry newFields
  refine wpAny_bind (wpAny_newObj_type ?_ (hpl.sizeOk5 _ _ _ _ _))
  have he₁ : h₁.get? e = some oe := (hs₁.2.1 e hene).trans he
  generalize hob : ({ cls := .type "traceback", dict := none, data := .fields ([head, .ref L, .none, rawInt L, .none] ++ (if pl.isEmpty then List.replicate 6 Value.none else pl)).toArray } : Obj) = ob
  have hobd : ob.data = .fields ([head, .ref L, .none, rawInt L, .none] ++ (if pl.isEmpty then List.replicate 6 Value.none else pl)).toArray := by rw [← hob]
  have hobf : ob.isFreed = false := Obj.isFreed_of_fields hobd
  have he₂ := Heap.get?_push_of_some (h := h₁) ob he₁
  refine wpAny_setField he₂ hd hsz ?_
  have hTe : h₁.objs.size ≠ e := Nat.ne_of_gt (Heap.lt_size he₁)
  have hd₃ := Obj.data_mapFields hd (·.setIfInBounds 1 (Value.ref h₁.objs.size))
  have kp : ∀ b o, b ≠ e → h₁.get? b = some o → ((h₁.push ob).update e (Obj.mapFields (·.setIfInBounds 1 (Value.ref h₁.objs.size)))).get? b = some o := fun b o hbe q => by
    rw [Heap.get?_update_other _ _ (Ne.symm hbe)]
    exact Heap.get?_push_of_some _ q
  have he₃ := Heap.get?_update_self (Obj.mapFields (·.setIfInBounds 1 (Value.ref h₁.objs.size))) he₂ (Obj.isFreed_of_fields hd₃)
  refine h _ ⟨fun b o hb hbe hbT q => ?_, fun b o hb q => ?_, fun b o q => ?_, _, _, h₁.objs.size, ob, _, he₃, Obj.cls_mapFields _ _, hd₃, by simp [hsz], .inr ?_, hTe, ?_, hobd, ?_⟩
  · exact kp b o hbe ((hs₁.2.1 b hb).trans (kg b o hbT q))
  · have hbe : b ≠ e := fun z => hene (z ▸ hb)
    have nT : vs[1]? ≠ some (.ref b) := fun z => by
      obtain ⟨o', vs', q1, d1⟩ := ne b z
      exact nfr b o' vs' q1 d1 hb
    obtain ⟨sl, q1⟩ := hs₁.2.2 b o (kg b o nT q)
    exact ⟨sl, kp b _ hbe q1⟩
  · obtain ⟨o1, q1⟩ := tg b o q
    obtain ⟨sl, q2⟩ := hs₁.2.2 b o1 q1
    by_cases hbe : b = e
    · subst hbe; exact ⟨_, he₃⟩
    · exact ⟨_, kp b _ hbe q2⟩
  · exact Heap.get?_none_of_le (by rw [eg, hs₁.1]; exact Nat.le_refl _)
  · rw [Heap.get?_update_other _ _ (Ne.symm hTe)]
    exact Heap.get?_push_size h₁ hobf
  · simp only [List.size_toArray, List.length_append, List.length_cons, List.length_nil]; omega

theorem note_raw {M : Model} {A : Around} {E : Value → Shared → Prop} {s : Shared} {base : Heap} {env env1 : Env} {stack outer1 : List Env} {L e : Addr} {oe : Obj} {vs : Array Value} {Q : Unit → Shared → Prop}
    (hfr : A.frames = some stack) (hst : stack = env1 :: outer1) (hf1 : env1.frame = some L) (hf : env.frame = some L) (hl : s.heap.FunFrames base stack)
    (he : s.heap.get? e = some oe) (hd : oe.data = .fields vs)
    (hv : vs[1]? = some .none ∨ ∃ T oT ts, vs[1]? = some (.ref T) ∧ T ≠ e ∧ s.heap.get? T = some oT ∧ oT.data = .fields ts ∧ 3 < ts.size)
    (h : ∀ h' : Heap, Noted (frs stack) e vs oe.cls s.heap h' → Q () { s with heap := h' }) :
    wpAny M A (noteFrame (.ref e) env) Q E s := by
  unfold noteFrame
  simp only [hf]
  rcases hv with h1 | ⟨T, oT, ts, h1, hTe, hT, hdT, hts⟩
  · refine wpAny_bind (wpAny_field he hd h1 ?_)
    rw [if_neg (by decide)]
    exact note_new hfr hst hf1 hf hl he hd (Array.getElem?_eq_some_iff.mp h1).1 (fun _ _ _ q => q) (fun _ o q => ⟨o, q⟩) rfl (fun T z => by rw [h1] at z; cases z) h
  · refine wpAny_bind (wpAny_field he hd h1 ?_)
    rw [if_pos (show (Value.ref T != Value.none) = true from by simp)]
    have h3 : ts[3]? = some ts[3] := Array.getElem?_eq_getElem hts
    refine wpAny_bind (wpAny_field hT hdT h3 ?_)
    by_cases c : (ts[3] == rawInt L) = true
    · rw [if_pos c]
      exact wpAny_pure (h s.heap ⟨fun _ _ _ _ _ q => q, fun b o _ q => ⟨o.slots, q⟩, fun _ o q => ⟨o, q⟩, oe, vs, T, oT, ts, he, rfl, hd, h1, .inl h1, hTe, hT, hdT, hts⟩)
    · rw [if_neg c]
      refine wpAny_bind (wpAny_setField hT hdT hts ?_)
      have other : ∀ b, b ≠ T → (s.heap.update T (Obj.mapFields (·.setIfInBounds 3 Value.none))).get? b = s.heap.get? b := fun b hb => Heap.get?_update_other _ _ (Ne.symm hb)
      have hT' := Heap.get?_update_self (Obj.mapFields (·.setIfInBounds 3 Value.none)) hT (Obj.isFreed_of_fields (Obj.data_mapFields hdT _))
      have hl' : (s.heap.update T (Obj.mapFields (·.setIfInBounds 3 Value.none))).FunFrames base stack := hl.of_keeps fun b o hb hnf => ⟨o, (other b fun q => by rw [q, hT] at hb; cases hb; exact hnf ts hdT).trans hb, rfl⟩
      refine note_new (s := { s with heap := s.heap.update T (Obj.mapFields (·.setIfInBounds 3 Value.none)) }) (g := s.heap) hfr hst hf1 hf hl' ((other e (Ne.symm hTe)).trans he) hd (Array.getElem?_eq_some_iff.mp h1).1 (fun b o nb q => ?_) (fun b o q => ?_) ?_ (fun T' z => ?_) fun h' N => h h' N
      · exact (other b fun z => nb (by rw [z]; exact h1)).trans q
      · by_cases z : b = T
        · subst z; exact ⟨_, hT'⟩
        · exact ⟨o, (other b z).trans q⟩
      · exact (Heap.size_after_update ..).symm
      · rw [h1] at z; cases z; exact ⟨_, _, hT', Obj.data_mapFields hdT _⟩
end L2

set_option linter.all false
set_option maxRecDepth 100000
namespace L2
open PySem PySem.Spec PyProof.Rows

theorem ObjOk.there {P : Program} {w : World} {H : Hp} {h : Heap} {a : Addr} {o : HO} (x : ObjOk P w H h a o) : ∃ ob, h.get? a = some ob := by
  cases o with
  | lst xs => obtain ⟨_, _, _, _, e⟩ := x; exact ⟨_, e⟩
  | tup xs => obtain ⟨_, _, _, o, e, _⟩ := x; exact ⟨_, e⟩
  | dK kvs => obtain ⟨_, _, _, _, o, _, _, e, _⟩ := x; exact ⟨_, e⟩
  | dT kvs => obtain ⟨_, _, _, _, o, _, _, e, _⟩ := x; exact ⟨_, e⟩
  | set S n => obtain ⟨o, _, _, _, e, _⟩ := x; exact ⟨_, e⟩
  | ins C dx fs => obtain ⟨_, _, _, e, _⟩ := x; exact ⟨_, e⟩
  | own y => exact x
  | xd fs => obtain ⟨_, ⟨_, _, _, e, _⟩, _⟩ := x; exact ⟨_, e⟩
  | rng lo hi => obtain ⟨_, _, _, e⟩ := x; exact ⟨_, e⟩
  | frz ob u => obtain ⟨e, _⟩ := x; exact ⟨_, e⟩
  | tbl ps => exact ⟨_, (show h.get? a = some _ from x)⟩
  | met f y => exact ⟨_, (show h.get? a = some _ from x)⟩
  | ext φ => obtain ⟨_, e, _⟩ := x; exact e
theorem HOk.none_of {P : Program} {w : World} {H : Hp} {h : Heap} {a : Addr} (x : HOk P w H h) (e : h.get? a = none) : H a = none := by
  cases q : H a with
  | none => rfl
  | some u =>
    obtain ⟨ob, z⟩ := (x a u q).there
    rw [e] at z; cases z

section
variable {X : Cx} {pins : List (Addr × Obj)} {σ : List (Option V)} {H H' : Hp} {s : Shared} {h' : Heap}
theorem Inv.stepN {g' : Array GenState} {t' : Nat} {d' : Drawn} {ch : List Addr} (I : Inv X pins σ H s)
    (hch : ∀ b ∈ ch, (b ∈ X.ex ∨ X.s_0.heap.get? b = none) ∧ b ≠ X.env.locals ∧ (∀ x c, X.env.cells.lookup x = some c → c ≠ b) ∧ ∀ p ∈ X.pn ++ pins, p.1 ≠ b)
    (keep : ∀ b o, b ≠ X.env.locals → b ∉ X.fs → b ∉ ch → s.heap.get? b = some o → H b = none → h'.get? b = some o)
    (slot : ∀ b o, b ≠ X.env.locals → b ∈ X.fs → b ∉ ch → s.heap.get? b = some o → H b = none → ∃ sl, h'.get? b = some { o with slots := sl }) (free : ∀ b o, b ∉ ch → s.heap.get? b = some o → H b = none → H' b = none)
    (there : ∀ b o, b ∉ ch → s.heap.get? b = some o → ∃ o', h'.get? b = some o')
    (tups : ∀ b xs, H b = some (.tup xs) → H' b = some (.tup xs)) (frzs : ∀ b o u, H b = some (.frz o u) → H' b = some (.frz o u)) (tbls : ∀ b ps, H b = some (.tbl ps) → ∃ more, H' b = some (.tbl (ps ++ more)))
    (ns : ∀ m, s.heap.Ns X.env.locals m → h'.Ns X.env.locals m) (hok : HOk X.prog X.w H' h') (hg : AllBare g') :
    Inv X pins σ H' { s with heap := h', gens := g', drawn := d', toks := t' } := by
  have neL : ∀ b o, X.s_0.heap.get? b = some o → b ≠ X.env.locals := fun b o e => Nat.ne_of_lt (Nat.lt_of_lt_of_le (Heap.lt_size e) I.ok.above)
  have neC : ∀ b o, X.s_0.heap.get? b = some o → b ∉ X.ex → b ∉ ch := fun b o e hx hb => by
    rcases (hch b hb).1 with z | z
    · exact hx z
    · rw [z] at e; cases e
  have cellK : ∀ x c, X.env.cells.lookup x = some c → ∀ v, s.heap.IsCell c v → h'.IsCell c v := fun x c e v ⟨o, ho, hd⟩ => by
    have nch : c ∉ ch := fun z => (hch c z).2.2.1 x c e rfl
    by_cases hc : c ∈ X.fs
    · obtain ⟨sl, q⟩ := slot c o (I.cne x c e) hc nch ho (I.freeC x c e)
      exact ⟨_, q, hd⟩
    · exact ⟨o, keep c o (I.cne x c e) hc nch ho (I.freeC x c e), hd⟩
  refine ⟨I.ok, I.os, hg, ⟨fun b o e n hb hx => ?_, fun b o e n hb hx => ?_, fun b o e n hx => ?_, fun b o e hx => ?_, fun b xs e => tups b xs (I.base.tups b xs e), fun b o xs e => frzs b o xs (I.base.frzs b o xs e), fun b ps e => ?_⟩, ?_, fun x c e => ?_, ?_, fun x c e => ?_, fun p hp => ?_, hok, I.len⟩
  · exact keep b o (neL b o e) hb (neC b o e hx) (I.base.keep b o e n hb hx) (I.base.free b o e n hx)
  · obtain ⟨sl, e1⟩ := I.base.slot b o e n hb hx
    obtain ⟨sl', e2⟩ := slot b _ (neL b o e) hb (neC b o e hx) e1 (I.base.free b o e n hx)
    exact ⟨sl', e2⟩
  · obtain ⟨o', e1⟩ := I.base.there b o e hx
    exact free b o' (neC b o e hx) e1 (I.base.free b o e n hx)
  · obtain ⟨o', e1⟩ := I.base.there b o e hx
    exact there b o' (neC b o e hx) e1
  · obtain ⟨m1, e1⟩ := I.base.tbls b ps e
    obtain ⟨m2, e2⟩ := tbls b _ e1
    exact ⟨m1 ++ m2, by rw [e2, Array.append_assoc]⟩
  · obtain ⟨m, hn, hl⟩ := I.loc
    refine ⟨m, ns m hn, fun i x v e1 e2 e3 => ?_⟩
    obtain ⟨u, r, l⟩ := hl i x v e1 e2 e3
    refine ⟨u, r, ?_⟩
    rcases l with l | ⟨k, c, e, z⟩
    · exact .inl l
    · exact .inr ⟨k, c, e, cellK x c e _ z⟩
  · obtain ⟨v, z⟩ := I.cell x c e
    exact ⟨v, cellK x c e v z⟩
  · obtain ⟨m, ⟨o, _, _, ho, _⟩, _⟩ := I.loc
    exact free _ o (fun z => (hch _ z).2.1 rfl) ho I.free
  · obtain ⟨v, o, ho, hd⟩ := I.cell x c e
    exact free c o (fun z => (hch c z).2.2.1 x c e rfl) ho (I.freeC x c e)
  · obtain ⟨e, n, ne, nf, d⟩ := I.pin p hp
    have nch : p.1 ∉ ch := fun z => (hch p.1 z).2.2.2 p hp rfl
    exact ⟨keep p.1 p.2 ne nf nch e n, free p.1 p.2 nch e n, ne, nf, d⟩
theorem Inv.callN {g' : Array GenState} {t' : Nat} {d' : Drawn} {ch : List Addr} (I : Inv X pins σ H s) (u : Un (frs X.stack) ch H H' s.heap h') (hok : HOk X.prog X.w H' h') (hg : AllBare g')
    (hch : ∀ b ∈ ch, (b ∈ X.ex ∨ X.s_0.heap.get? b = none) ∧ b ≠ X.env.locals ∧ (∀ x c, X.env.cells.lookup x = some c → c ≠ b) ∧ ∀ p ∈ X.pn ++ pins, p.1 ≠ b) :
    Inv X pins σ H' { s with heap := h', gens := g', drawn := d', toks := t' } := by
  obtain ⟨m, ⟨o, es, ep, ho, r⟩, _⟩ := id I.loc
  obtain ⟨sl, hL⟩ := u.any ho I.free fun z => (hch _ z).2.1 rfl
  exact I.stepN (ch := ch) hch (fun b o hL hb hc e n => u.keep b o e n (fun z => (List.mem_cons.mp (I.stkSub b z)).elim hL hb) hc) (fun b o _ _ hc e n => u.any e n hc) (fun b o hc e n => u.free b o e n hc) (fun b o hc e => u.there b o e hc) u.tups u.frzs u.tbls (fun m' hm => by
    obtain ⟨o', es', ep', ho', r'⟩ := hm
    rw [ho] at ho'; cases ho'
    exact ⟨_, es', ep', hL, r'⟩) hok hg
theorem Inv.callN' {s' : Shared} {ch : List Addr} (I : Inv X pins σ H s) (ho : s'.os = s.os) (u : Un (frs X.stack) ch H H' s.heap s'.heap) (hok : HOk X.prog X.w H' s'.heap) (hg : AllBare s'.gens)
    (hch : ∀ b ∈ ch, (b ∈ X.ex ∨ X.s_0.heap.get? b = none) ∧ b ≠ X.env.locals ∧ (∀ x c, X.env.cells.lookup x = some c → c ≠ b) ∧ ∀ p ∈ X.pn ++ pins, p.1 ≠ b) : Inv X pins σ H' s' := by
  obtain ⟨h', g', d', t', o'⟩ := s'
  have e : o' = s.os := ho
  subst e
  exact I.callN (g' := g') (t' := t') (d' := d') u hok hg hch
end

structure Fly (nw : Addr → Prop) (H : Hp) (h : Heap) (e : Addr) (C : Value) (tb : Bool) : Prop where
  new : nw e
  un : H e = none
  obj : ∃ oe vs, h.get? e = some oe ∧ oe.cls = C ∧ oe.data = .fields vs ∧ ((tb = false ∧ vs[1]? = some .none) ∨ ∃ T oT ts, vs[1]? = some (.ref T) ∧ nw T ∧ H T = none ∧ T ≠ e ∧ h.get? T = some oT ∧ oT.data = .fields ts ∧ 3 < ts.size)
theorem Fly.mono {nw nw' : Addr → Prop} {H : Hp} {h : Heap} {e : Addr} {C : Value} {tb : Bool} (F : Fly nw H h e C tb) (k : ∀ b, nw b → nw' b) : Fly nw' H h e C tb := by
  obtain ⟨n, u, oe, vs, h1, h2, h3, h4⟩ := F
  refine ⟨k e n, u, oe, vs, h1, h2, h3, ?_⟩
  rcases h4 with h4 | ⟨T, oT, ts, a, b, c⟩
  · exact .inl h4
  · exact .inr ⟨T, oT, ts, a, k T b, c⟩
theorem Fly.any {nw : Addr → Prop} {H : Hp} {h : Heap} {e : Addr} {C : Value} {tb : Bool} (F : Fly nw H h e C tb) : Fly nw H h e C false := by
  obtain ⟨n, u, oe, vs, h1, h2, h3, h4⟩ := F
  refine ⟨n, u, oe, vs, h1, h2, h3, ?_⟩
  rcases h4 with h4 | h4
  · exact .inl ⟨rfl, h4.2⟩
  · exact .inr h4
def Cx.nw (X : Cx) (b : Addr) : Prop := b ∈ X.ex ∨ X.s_0.heap.get? b = none
def FrIs (X : Cx) (L : Addr) : Prop := X.env.frame = some L ∧ ∃ env1 outer1, X.stack = env1 :: outer1 ∧ env1.frame = some L

section
variable {X : Cx} {σ : List (Option V)} {H : Hp} {s : Shared} {e L : Addr} {C : Value} {tb : Bool}
theorem Inv.rec2 {h' : Heap} {e T : Addr} {oe oT : Obj} {vs ts : Array Value} (I : Inv X [] σ H s) (hpn : X.pn = []) (ge : s.heap.get? e = some oe) (de : oe.data = .fields vs) (gT : s.heap.get? T = some oT) (dT : oT.data = .fields ts) (ne : X.nw e) (nT : X.nw T)
    (he : H e = none) (hT : H T = none) (keep : ∀ b o, b ∉ frs X.stack → b ≠ e → b ≠ T → s.heap.get? b = some o → h'.get? b = some o)
    (slot : ∀ b o, b ∈ frs X.stack → s.heap.get? b = some o → ∃ sl, h'.get? b = some { o with slots := sl }) (there : ∀ b o, s.heap.get? b = some o → ∃ o', h'.get? b = some o') : Inv X [] σ H { s with heap := h' } := by
  have nL : ∀ b o vs', s.heap.get? b = some o → o.data = .fields vs' → b ≠ X.env.locals := fun b o vs' q d z => by
    obtain ⟨m, ⟨o', es, ep, ho, hd, _⟩, _⟩ := I.loc
    rw [z, ho] at q; cases q; rw [hd] at d; cases d
  have nC : ∀ b o vs', s.heap.get? b = some o → o.data = .fields vs' → ∀ x c, X.env.cells.lookup x = some c → c ≠ b := fun b o vs' q d x c hx z => by
    obtain ⟨v, o', ho, hd⟩ := I.cell x c hx
    rw [z, q] at ho; cases ho; rw [d] at hd; cases hd
  have u : Un (frs X.stack) [e, T] H H s.heap h' := ⟨fun b o q n hb hx => keep b o hb (fun z => hx (by simp [z])) (fun z => hx (by simp [z])) q, fun b o q n hb hx => slot b o hb q, fun b o q n hx => n, fun b o q hx => there b o q, fun b xs q => q, fun b o u q => q, fun b ps q => ⟨#[], by rw [q]; simp⟩⟩
  have hok : HOk X.prog X.w H h' := fun a o q => (I.hok a o q).stay (fun b u hb z => by
    have hb' : ∃ o', H b = some o' := by
      rcases hb with z1 | z1
      · exact ⟨o, by rw [z1]; exact q⟩
      · exact ⟨_, z1⟩
    obtain ⟨o', hb'⟩ := hb'
    refine keep b u (fun z2 => ?_) (fun z2 => ?_) (fun z2 => ?_) z
    · rw [I.stkFree b z2] at hb'; cases hb'
    · rw [z2, he] at hb'; cases hb'
    · rw [z2, hT] at hb'; cases hb') (fun _ q => q) fun _ _ q => q
  refine I.callN (g' := s.gens) (t' := s.toks) (d' := s.drawn) u hok I.bare fun b hb => ?_
  have hb' : b = e ∨ b = T := by simpa using hb
  have fin : ∀ {b : Addr} {o : Obj} {vs' : Array Value}, s.heap.get? b = some o → o.data = .fields vs' → X.nw b → (b ∈ X.ex ∨ X.s_0.heap.get? b = none) ∧ b ≠ X.env.locals ∧ (∀ x c, X.env.cells.lookup x = some c → c ≠ b) ∧ ∀ p ∈ X.pn ++ ([] : List (Addr × Obj)), p.1 ≠ b :=
    fun {b o vs'} q d n => ⟨n, nL b o vs' q d, nC b o vs' q d, fun p hp => by rw [hpn] at hp; exact absurd hp (by simp)⟩
  rcases hb' with z | z
  · rw [z]; exact fin ge de ne
  · rw [z]; exact fin gT dT nT

theorem Inv.note {M : Model} {E : Value → Shared → Prop} {Q : Unit → Shared → Prop} {env : Env} (I : Inv X [] σ H s) (hpn : X.pn = []) (fr : FrIs X L) (hf : env.frame = some L) (F : Fly X.nw H s.heap e C tb)
    (h : ∀ s', s'.os = s.os → s'.gens = s.gens → Inv X [] σ H s' → Fly X.nw H s'.heap e C true → Q () s') : wpAny M X.A (noteFrame (.ref e) env) Q E s := by
  obtain ⟨ne, he, oe, vs, ge, hc, de, tbo⟩ := F
  obtain ⟨_, env1, outer1, hst, hf1⟩ := fr
  refine note_raw I.ok.frames hst hf1 hf I.stack ge de ?_ fun h' N => ?_
  · rcases tbo with ⟨_, z⟩ | ⟨T, oT, ts, z, _, _, nTe, gT, dT, hz⟩
    · exact .inl z
    · exact .inr ⟨T, oT, ts, z, nTe, gT, dT, hz⟩
  obtain ⟨oe', vs', T', oT', ts', q1, q2, q3, q4, q5, q6, q7, q8, q9⟩ := N.tb
  -- the elder traceback, or the exception itself where there is none
  obtain ⟨T, oT, ts, gT, dT, nT, uT, only⟩ : ∃ T oT ts, s.heap.get? T = some oT ∧ oT.data = .fields ts ∧ X.nw T ∧ H T = none ∧ ∀ b, vs[1]? = some (Value.ref b) → b = T := by
    rcases tbo with ⟨_, z⟩ | ⟨T, oT, ts, z, nT, uT, _, gT, dT, _⟩
    · exact ⟨e, oe, vs, ge, de, ne, he, fun b q => by rw [z] at q; cases q⟩
    · exact ⟨T, oT, ts, gT, dT, nT, uT, fun b q => by rw [z] at q; cases q; rfl⟩
  have I' : Inv X [] σ H { s with heap := h' } := I.rec2 hpn ge de gT dT ne nT he uT (fun b o hb h1 h2 q => N.keep b o hb h1 (fun z => h2 (only b z)) q) N.slot N.there
  have nT' : X.nw T' := by
    rcases q5 with z | z
    · rw [only T' z]; exact nT
    · by_cases hx : T' ∈ X.ex
      · exact .inl hx
      · refine .inr ?_
        cases q : X.s_0.heap.get? T' with
        | none => rfl
        | some o =>
          obtain ⟨o', q'⟩ := I.base.there T' o q hx
          rw [z] at q'; cases q'
  have uT' : H T' = none := by
    rcases q5 with z | z
    · rw [only T' z]; exact uT
    · exact I.hok.none_of z
  exact h _ rfl rfl I' ⟨ne, he, oe', vs', q1, q2.trans hc, q3, .inr ⟨T', oT', ts', q4, nT', uT', q6, q7, q8, q9⟩⟩

theorem Inv.flight {M : Model} {A : Around} {E : Value → Shared → Prop} {Q : Unit → Shared → Prop} {fl : Option Addr} (I : Inv X [] σ H s) (hpn : X.pn = []) (F : Fly X.nw H s.heap e C true)
    (h : ∀ s', s'.os = s.os → s'.gens = s.gens → Inv X [] σ H s' → Fly X.nw H s'.heap e C true → Q () s') : wpAny M A (setFlight (.ref e) fl) Q E s := by
  obtain ⟨ne, he, oe, vs, ge, hc, de, tbo⟩ := F
  rcases tbo with ⟨z, _⟩ | ⟨T, oT, ts, h1, nT, uT, nTe, gT, dT, hz⟩
  · cases z
  unfold setFlight
  refine wpAny_bind (wpAny_field ge de h1 ?_)
  rw [if_pos (show (Value.ref T != Value.none) = true from by simp)]
  refine wpAny_setField gT dT hz ?_
  have other : ∀ b, b ≠ T → ∀ (x : Value), (s.heap.update T (Obj.mapFields (·.setIfInBounds 3 x))).get? b = s.heap.get? b := fun b hb x => Heap.get?_update_other _ _ (Ne.symm hb)
  generalize (Option.elim fl Value.none fun f => rawInt f) = x
  have hT' := Heap.get?_update_self (Obj.mapFields (·.setIfInBounds 3 x)) gT (Obj.isFreed_of_fields (Obj.data_mapFields dT _))
  have nfr : T ∉ frs X.stack := fun hm => by
    obtain ⟨_, o', ho, hnf⟩ := I.stack.mem hm
    rw [gT] at ho; cases ho; exact hnf _ dT
  refine h _ rfl rfl (I.rec2 hpn ge de gT dT ne nT he uT (fun b o _ _ hb q => (other b hb x).trans q) (fun b o hb q => ⟨o.slots, (other b (fun z => nfr (z ▸ hb)) x).trans q⟩) fun b o q => ?_) ⟨ne, he, oe, vs, (other e (Ne.symm nTe) x).trans ge, hc, de, .inr ⟨T, _, _, h1, nT, uT, nTe, hT', Obj.data_mapFields dT _, by simpa using hz⟩⟩
  by_cases z : b = T
  · subst z; exact ⟨_, hT'⟩
  · exact ⟨o, (other b z x).trans q⟩
end

def noS (X : Cx) : St := List.replicate X.N.length none
theorem Inv.forget {X : Cx} {pins : List (Addr × Obj)} {σ : St} {H : Hp} {s : Shared} (I : Inv X pins σ H s) : Inv X [] (noS X) H s :=
  (I.pins_of (pins' := []) fun p hp => absurd hp (by simp)).weak (by rw [noS, List.length_replicate, I.len]) fun i v e => by
    unfold noS at e
    rw [List.getElem?_replicate] at e
    split at e <;> cases e
def XIn (X : Cx) (E : XK) (tb : Bool) (e : Value) (s' : Shared) : Prop :=
  ∃ ea C H', e = .ref ea ∧ X.pn = [] ∧ (∃ L, FrIs X L) ∧ Inv X [] (noS X) H' s' ∧ Fly X.nw H' s'.heap ea C tb ∧ E C none H'
abbrev Cx.exn (X : Cx) (E : XK) : Cx := X.wish (XIn X E false)
def CXE (P : Program) (w : World) : CXT := fun outer H s E e s' =>
  ∃ ea C H', e = .ref ea ∧ s'.os = s.os ∧ AllBare s'.gens ∧ Un (frs outer) [] H H' s.heap s'.heap ∧ HOk P w H' s'.heap ∧ Fly (fun b => s.heap.get? b = none) H' s'.heap ea C true ∧ E C none H'

theorem XIn.any {X : Cx} {E : XK} {tb : Bool} {e : Value} {s' : Shared} (h : XIn X E tb e s') : XIn X E false e s' :=
  let ⟨ea, C, H', a, b, c, d, f, g⟩ := h; ⟨ea, C, H', a, b, c, d, f.any, g⟩
theorem XIn.noted {X : Cx} {E : XK} {tb : Bool} {e : Value} {s : Shared} {M : Model} {E' : Value → Shared → Prop} {Q : Unit → Shared → Prop} {env : Env} (h : XIn X E tb e s) (hf : env.frame = X.env.frame) (q : ∀ s', XIn X E true e s' → Q () s') :
    wpAny M X.A (noteFrame e env) Q E' s := by
  obtain ⟨ea, C, H', rfl, hpn, ⟨L, fr⟩, I, F, x⟩ := h
  exact I.note hpn fr (hf.trans fr.1) F fun s' _ _ I' F' => q s' ⟨ea, C, H', rfl, hpn, ⟨L, fr⟩, I', F', x⟩
theorem XIn.flown {X : Cx} {E : XK} {e : Value} {s : Shared} {M : Model} {A : Around} {E' : Value → Shared → Prop} {Q : Unit → Shared → Prop} {fl : Option Addr} (h : XIn X E true e s) (q : ∀ s', XIn X E true e s' → Q () s') :
    wpAny M A (setFlight e fl) Q E' s := by
  obtain ⟨ea, C, H', rfl, hpn, fr, I, F, x⟩ := h
  exact I.flight hpn F fun s' _ _ I' F' => q s' ⟨ea, C, H', rfl, hpn, fr, I', F', x⟩
theorem XIn.head {X : Cx} {E : XK} {e : Value} {s : Shared} {M : Model} {A : Around} {E' : Value → Shared → Prop} {Q : Value → Shared → Prop} (h : XIn X E true e s) (q : ∀ T, Q (.ref T) s) : wpAny M A (field e 1) Q E' s := by
  obtain ⟨ea, C, H', rfl, hpn, fr, I, ⟨_, _, oe, vs, ge, _, de, tbo⟩, x⟩ := h
  rcases tbo with ⟨z, _⟩ | ⟨T, _, _, h1, _⟩
  · cases z
  · exact wpAny_field ge de h1 (q T)
theorem XIn.cameBack {X : Cx} {E : XK} {e : Value} {s : Shared} {M : Model} (h : XIn X E true e s) : cameBackBy M X.A X.env (XIn X E false) e s := by
  unfold cameBackBy
  refine wpAny_bind (XIn.head h fun T => ?_)
  rw [if_neg (by simp)]
  exact XIn.flown h fun s' h' => h'.any
theorem passes_own_x {X : Cx} {E : XK} : PassesOwn (model X.prog X.w) X.A X.env (XIn X E false) := fun e s' h =>
  XIn.noted h rfl fun s'' h' => h'.cameBack

theorem passX {X : Cx} {E : XK} (hpn : X.pn = []) (fr : ∃ L, FrIs X L) : Passes (CXE X.prog X.w) (X.exn E) E := fun pins σ H s e s' I h => by
  have I := I.unwish
  obtain ⟨ea, C, H', rfl, os, bare, un, hok, F, x⟩ := h
  have I' : Inv X pins σ H' s' := I.callN' (ch := []) os un hok bare fun b hb => absurd hb (by simp)
  refine ⟨ea, C, H', rfl, hpn, fr, I'.forget, (F.mono fun b hb => ?_).any, x⟩
  by_cases hx : b ∈ X.ex
  · exact .inl hx
  · refine .inr ?_
    cases q : X.s_0.heap.get? b with
    | none => rfl
    | some o =>
      obtain ⟨o', q'⟩ := I.base.there b o q hx
      rw [hb] at q'; cases q'

theorem frIs_def {CX : CXT} {P : Program} {w : World} {K : PySem.W.Frag} {mg : Str → Option Value} {base : Heap} {N : List Str} {qual : Str} {scope : Scope} {f : Addr} {cd : Value} {A : Around} {outer : List Env} {s : Shared} {H : Hp} {E : XK} :
    ∃ L, FrIs (cxOf CX P w K mg base N qual scope f cd A outer s H E) L := ⟨s.heap.objs.size, rfl, _, _, rfl, rfl⟩
theorem exitX {P : Program} {w : World} {K : PySem.W.Frag} {mg : Str → Option Value} {base : Heap} {N : List Str} {qual : Str} {scope : Scope} {f : Addr} {cd : Value} {A : Around} {outer : List Env} {s : Shared} {H : Hp} {E : XK} {e : Value} {s' : Shared}
    (h : XIn (cxOf (CXE P w) P w K mg base N qual scope f cd A outer s H E) E false e s') : (cxOf (CXE P w) P w K mg base N qual scope f cd A outer s H E).xe e s' := by
  show wpAny (model P w) (A.deeper (envOfC qual scope s.heap.objs.size f cd)) (leaving (envOfC qual scope s.heap.objs.size f cd) e) _ _ s'
  unfold leaving
  refine wpAny_bind (XIn.noted h rfl fun s1 h1 => XIn.flown h1 fun s2 h2 => ?_)
  obtain ⟨ea, C, H', rfl, _, _, I, F, x⟩ := h2
  exact ⟨ea, C, H', rfl, I.os, I.bare, I.base, I.hok, F.mono fun b hb => hb.elim (fun z => absurd (show b ∈ ([] : List Addr) from z) (by simp)) id, x⟩
theorem PSs.exn {X : Cx} {E : Value → Shared → Prop} {st : List Stmt} {t : TS} (h : PSs (X.wish E) st t) (hx : ∀ e s', E e s' → X.xe e s') : PSs X st t := fun pins s σ H D I hw =>
  wpAny_mono (h pins s σ H D (I.wish _) hw) (fun _ _ q => q.unwish) hx
section
variable {P : Program} {w : World} {K : PySem.W.Frag} {mg : Str → Option Value} {base : Heap}
theorem Fun.okX {x qual : Str} {st : Stmt} {f : Addr} {fd : FuncData} {N ps : List Str} {k : Nat} {sp : Sp} (F : Fun K x qual st f fd) (S : FnScope N ps (defScope st)) (len : ∀ vs H Q E, sp vs H Q E → vs.length = ps.length)
    (hbody : ∀ (cdv : Value) (A : Around) (outer : List Env) (s : Shared) (H : Hp) (vs : List V) (Q : VK) (E : XK), Room k (A.deeper (envOfC qual (defScope st) s.heap.objs.size f cdv)) → sp vs H Q E →
      ∃ t, PSs ((cxOf (CXE P w) P w K mg base N qual (defScope st) f cdv A outer s H E).exn E) (defBody st) t ∧ t { nx := fun _ H' => Q .non H', rt := Q } (start N vs) H) : FnOk P w K mg base (CXE P w) (k + 1) f fd ps sp := by
  obtain ⟨oc, od, kV, doc, pm, an, cdv, ct, osl, rfl, lk, hcd⟩ := F.ex
  refine fn_of lk hcd S len fun A outer s H vs Q E hr hsp => ?_
  obtain ⟨t, h, q⟩ := hbody cdv A outer s H vs Q E hr hsp
  exact ⟨t, PSs.exn h fun e s' => exitX, q⟩
end
end L2

set_option linter.all false
set_option maxRecDepth 100000
namespace L2
open PySem PySem.Spec PyProof.Rows

def tRaise (E : XK) (C : Addr) (ta : TA) : TS := fun _ σ H => ta σ H fun vs H1 => vs.length ≤ sizeLine ∧ E (.ref C) none H1
theorem Inv.nw_of {X : Cx} {pins : List (Addr × Obj)} {σ : St} {H : Hp} {s : Shared} {b : Addr} (I : Inv X pins σ H s) (h : s.heap.get? b = none) : X.nw b := by
  by_cases hx : b ∈ X.ex
  · exact .inl hx
  · refine .inr ?_
    cases q : X.s_0.heap.get? b with
    | none => rfl
    | some o =>
      obtain ⟨o', q'⟩ := I.base.there b o q hx
      rw [h] at q'; cases q'
theorem ps_raise {X : Cx} {E : XK} {x : Str} {C : Addr} {bm : List Value} {B newId initId : String} {e0 : Expr} {rest : List Expr} {ta : TA} {np cpos pos : Pos} (hpn : X.pn = []) (fr : ∃ L, FrIs X L) (hc : X.calm = true)
    (hg : Gl X x) (O : OwnCls x C bm newId X.mg X.base) (FB : ExcBaseFacts B newId initId bm) (ha : PA (X.exn E) (e0 :: rest) ta)
    (hst : starEach (e0 :: rest) X.env = (false, eval e0 X.env) :: starEach rest X.env := by rfl) (hpl : (backTo cpos (starEach rest X.env)).any (·.1) = false := by rfl) (hd : (x == ("__debug__" : Str)) = false := by decide) :
    PS (X.exn E) (.Raise (some (.Call (.Name x np) (e0 :: rest) [] cpos)) none pos) (tRaise E C ta) := by
  intro pins s σ H D I h
  obtain ⟨tl, N, nm, q, bs, hdct, sn, sub, ab, col, dd, k0, k1, k2, k3, k5, mN, hC, hN, hni, T⟩ := O.obj
  refine wpAny_Raise_call_subT (C := C) (nm := nm) (q := q) (N := N) (bs := bs) (bm := tl) (hdct := hdct) (sn := sn) (sub := sub) (ab := ab) (col := col) (dd := dd) (k0 := k0) (k1 := k1) (k2 := k2) (k3 := k3) (k5 := k5)
    FB (mN := mN) (T.hasType FB.hasBase) (I.ok.hd hc) (by rw [hst]; show (false || (backTo cpos (starEach rest X.env)).any (·.1)) = false; rw [hpl]; rfl) hni (ld_glob I hg O.bound ⟨rfl, ?_⟩ hd)
  have h2 := ha cpos pins s σ H _ I h
  rw [hst] at h2 ⊢
  refine Calls.evalArgs_plain (wpAny_mono h2 (fun us s2 hq => ?_) fun _ _ y => y)
  obtain ⟨vs, H2, I2, r2, z2, x2⟩ := hq
  have k := I2.bk
  refine ⟨rfl, by rw [← r2.length]; exact z2, k _ _ hC, hN.keeps k, T.keeps k, fun h' e hm => ?_⟩
  have J := I2.unwish
  obtain ⟨t, g, _, _⟩ := hm.there
  exact ⟨e, .ref C, H2, rfl, hpn, fr, (J.kept (t' := s2.toks) hm.keeps).forget, ⟨J.nw_of hm.new, J.hok.none_of hm.new, _, _, g, rfl, rfl, .inl ⟨rfl, rfl⟩⟩, x2⟩

def PlainX (h : Heap) (C : Addr) : Prop := ∃ nm q N bs bm hdct sn sub ab col dd k0 k1 k2 k3 k5 newId, h.get? C = some (excClassObj nm q C N bs bm hdct sn sub ab col dd k0 k1 k2 k3 k5 newId) ∧ bm.contains (.type "BaseException") = true ∧ ∀ a : Addr, bm.contains (.ref a) = false
theorem excMatches_own {M : Model} {A : Around} {E : Value → Shared → Prop} {s : Shared} {e C C1 : Addr} {oe : Obj} {Q : Bool → Shared → Prop} (hC : PlainX s.heap C) (hC1 : PlainX s.heap C1) (he : s.heap.get? e = some oe) (hcls : oe.cls = .ref C)
    (hq : Q (decide (C = C1)) s) : wpAny M A (excMatches (.ref e) (.ref C1)) Q E s := by
  obtain ⟨h, g, d, t, os⟩ := s
  by_cases c : C = C1
  · subst c
    obtain ⟨nm, q, N, bs, bm, hdct, sn, sub, ab, col, dd, k0, k1, k2, k3, k5, newId, hC, hb, hr⟩ := hC
    rw [decide_eq_true rfl] at hq
    exact wpAny_excMatches_sub_self hC he hcls hb hq
  · obtain ⟨nm, q, N, bs, bm, hdct, sn, sub, ab, col, dd, k0, k1, k2, k3, k5, newId, hC, hb, hr⟩ := hC
    obtain ⟨nm', q', N', bs', bm', hdct', sn', sub', ab', col', dd', k0', k1', k2', k3', k5', newId', hC1, hb', _⟩ := hC1
    rw [decide_eq_false c] at hq
    have hcB : (Value.ref C1 :: bm').contains (.type "BaseException") = true := by rw [List.contains_cons, hb', Bool.or_true]
    have hcC : (Value.ref C :: bm).contains (.ref C1) = false := by
      rw [List.contains_cons, hr C1, Bool.or_false]
      simp [Ne.symm c]
    have f := tc_notTuple
    unfold excMatches
    repeat (first | (with_reducible refine wpAny_loadPart_at he ?_; rw [hcls]) | with_reducible refine wpAny_loadPart_at hC1 ?_ | with_reducible refine wpAny_loadPart_at hC ?_ | (with_reducible refine wpAny_isSubtype_exc hC1 ?_; rw [hcB]) | (with_reducible refine wpAny_isSubtype_exc hC ?_; rw [hcC]) | wp_step)
    exact hq

abbrev Cx.suite (X : Cx) (e : Addr) : Cx := { X with A := X.A.mark (some (.ref e)), calm := false, xe := fun _ _ => False }
theorem Inv.suite {X : Cx} {pins : List (Addr × Obj)} {σ : St} {H : Hp} {s : Shared} (I : Inv X pins σ H s) (e : Addr) : Inv (X.suite e) pins σ H s :=
  ⟨⟨I.ok.mod, I.ok.kind, I.ok.glob, I.ok.blt, I.ok.above, I.ok.inj, I.ok.has, I.ok.cab, (fun z => by cases z), I.ok.frames, I.ok.stk, I.ok.exf, I.ok.bs, I.ok.bsz, I.ok.noex, I.ok.exfs, I.ok.funs, I.ok.frf⟩, I.os, I.bare, I.base, I.loc, I.cell, I.free, I.freeC, I.pin, I.hok, I.len⟩
theorem Inv.unsuite {X : Cx} {pins : List (Addr × Obj)} {σ : St} {H : Hp} {s : Shared} {e : Addr} (I : Inv (X.suite e) pins σ H s) (ok : X.Ok) : Inv X pins σ H s :=
  ⟨ok, I.os, I.bare, I.base, I.loc, I.cell, I.free, I.freeC, I.pin, I.hok, I.len⟩
theorem SP.unsuite {X : Cx} {D : Ends} {f : Flow} {s' : Shared} {e : Addr} {pins : List (Addr × Obj)} (h : SP (X.suite e) pins D f s') (ok : X.Ok) : SP X pins D f s' := by
  cases f with
  | next => obtain ⟨σ', H', I, q⟩ := h; exact ⟨σ', H', I.unsuite ok, q⟩
  | brk => obtain ⟨σ', H', I, q⟩ := h; exact ⟨σ', H', I.unsuite ok, q⟩
  | cont => obtain ⟨σ', H', I, q⟩ := h; exact ⟨σ', H', I.unsuite ok, q⟩
  | ret u => obtain ⟨v, σ', H', I, r, q⟩ := h; exact ⟨v, σ', H', I.unsuite ok, r, q⟩

abbrev THs := Ends → Value → Hp → Prop
def hEnd : THs := fun _ _ _ => False
def hCl (base : Heap) (n : Nat) (C1 : Addr) (t : TS) (r : THs) : THs := fun D C H => ∃ C0, C = .ref C0 ∧ PlainX base C0 ∧ ((C0 = C1 ∧ t D (List.replicate n none) H) ∨ (C0 ≠ C1 ∧ r D C H))
def PHs (X : Cx) (hs : List ExceptHandler) (r : THs) : Prop := ∀ (s : Shared) (e : Addr) (C : Value) (H : Hp) (D : Ends), X.pn = [] → Inv X [] (noS X) H s → Fly X.nw H s.heap e C true → r D C H → wpAny (model X.prog X.w) X.A (handleBy (.ref e) X.env hs) (SP X [] D) X.xe s
theorem PlainX.keeps {h h' : Heap} {C : Addr} (x : PlainX h C) (k : ∀ b o, h.get? b = some o → h'.get? b = some o) : PlainX h' C := by
  obtain ⟨nm, q, N, bs, bm, hdct, sn, sub, ab, col, dd, k0, k1, k2, k3, k5, newId, hC, hb, hr⟩ := x
  exact ⟨nm, q, N, bs, bm, hdct, sn, sub, ab, col, dd, k0, k1, k2, k3, k5, newId, k _ _ hC, hb, hr⟩
theorem phs_nil {X : Cx} : PHs X [] hEnd := fun _ _ _ _ _ _ _ _ h => h.elim
theorem phs_cons {X : Cx} {x : Str} {C1 : Addr} {b0 : Stmt} {suite : List Stmt} {np pos : Pos} {hs : List ExceptHandler} {t : TS} {r : THs} (hg : Gl X x) (hm : X.mg x = some (.ref C1)) (p1 : PlainX X.base C1) (hsu : ∀ e, PSs (X.suite e) (b0 :: suite) t) (hr : PHs X hs r)
    (hd : (x == ("__debug__" : Str)) = false := by decide) : PHs X (.ExceptHandler (some (.Name x np)) none (b0 :: suite) pos :: hs) (hCl X.base X.N.length C1 t r) := by
  intro s e C H D hpn I F h
  obtain ⟨C0, rfl, p0, h⟩ := h
  refine wpAny_handleBy_cons (codeAny_handlers_test (ld_glob (X := X.suite e) (I.suite e) hg hm ?_ hd)) (by intro q; cases q)
  obtain ⟨oe, vs, ge, hc, _⟩ := F.obj
  refine excMatches_own (p0.keeps I.bk) (p1.keeps I.bk) ge hc ?_
  rcases h with ⟨c, h⟩ | ⟨c, h⟩
  · rw [decide_eq_true c]
    refine codeAny_handlers_suite (I.flight hpn F fun s1 _ _ I1 F1 => ?_)
    refine wpAny_mono (hsu e [] s1 (noS X) H D (I1.suite e) h) (fun f s2 q => q.unsuite I.ok) fun _ _ z => z.elim
  · rw [decide_eq_false c]
    exact hr s e _ H D hpn I F h
def PSs0 (X : Cx) (st : List Stmt) (t : TS) : Prop :=
  ∀ (s : Shared) (σ : St) (H : Hp) (D : Ends), Inv X [] σ H s → t D σ H → wpAny (model X.prog X.w) X.A (execs st X.env) (SP X [] D) X.xe s
def tTry (tb : XK → TS) (r : THs) : TS := fun D σ H => tb (fun C _ H' => r D C H') D σ H
theorem pss0_try {X : Cx} {body : List Stmt} {h0 : ExceptHandler} {hs : List ExceptHandler} {pos : Pos} {tb : XK → TS} {r : THs} (hpn : X.pn = []) (fr : ∃ L, FrIs X L) (hb : ∀ E2, PSs (X.exn E2) body (tb E2)) (hh : PHs X (h0 :: hs) r) :
    PSs0 X [.Try body (h0 :: hs) [] [] pos] (tTry tb r) := by
  intro s σ H D I h
  have main : wpAny (model X.prog X.w) X.A (exec (.Try body (h0 :: hs) [] [] pos) X.env) (SP X [] D) X.xe s := by
    refine wpAny_Try_except (wpAny_mono (hb _ [] s σ H D (I.wish _) h) (fun f s1 q => ?_) fun e s1 hx => ?_)
    · have q' := q.unwish
      cases f with
      | next => exact wpAny_execs_nil q'
      | ret v => exact q'
      | brk => exact q'
      | cont => exact q'
    · refine XIn.noted (X := X) (E := fun C _ H' => r D C H') hx rfl fun s2 h2 => XIn.flown h2 fun s3 h3 => ?_
      obtain ⟨ea, C, H3, rfl, _, _, I3, F3, x3⟩ := h3
      exact hh s3 ea C H3 D hpn I3 F3 x3
  refine wpAny_execs_cons (thn main fun f s1 q => ?_)
  cases f with
  | next => exact wpAny_execs_nil q
  | ret v => exact q
  | brk => exact q
  | cont => exact q

section
variable {X : Cx}
theorem blk_out {E : XK} {pins : List (Addr × Obj)} {σ : St} {H3 : Hp} {s3 s' : Shared} {scope : Scope} {ce : Env} {fp : List Addr} {e : Value} {use : Option (Value → Sem Unit)} {Qf : Value → Shared → Prop} {D : Value}
    (hpn : X.pn = []) (fr : ∃ L, FrIs X L) (hxe : ∀ e s', XIn X E true e s' → X.xe e s') (I3 : Inv X pins σ H3 s3) (f3 : ∀ b ∈ fp, FpOk X pins H3 b ∧ b < s3.heap.objs.size) (cf : ce.frame = X.env.frame) (cL : ce.locals = s3.heap.objs.size)
    (h : XIn (X.blk s3 H3 scope ce fp) E true e s') : compPost (model X.prog X.w) X.A X.xe use Qf D s3.heap.objs.size (.error e) s' := by
  obtain ⟨ea, C, H', rfl, _, _, J, F, x⟩ := h
  have I7 : Inv X pins σ H' s' := I3.call' (ch := fp) J.os J.base J.hok J.bare fun b hb => ⟨(f3 b hb).1.2.2.2.1, (f3 b hb).1.2.1, (f3 b hb).1.2.2.2.2.1, (f3 b hb).1.2.2.2.2.2⟩
  have nC : H' s3.heap.objs.size = none := by
    have z : H' ce.locals = none := J.free
    rw [cL] at z
    exact z
  obtain ⟨m, hn, _⟩ := J.loc
  have hn : s'.heap.Ns ce.locals m := hn
  rw [cL] at hn
  refine ⟨m, hn, fun h' sb cenv hce => ?_⟩
  obtain ⟨f0, f1, f2, f3', f4, f5⟩ := I3.fpOk (Nat.le_refl _) nC
  have I8 : Inv X pins σ H' { s' with heap := h' } := I7.turned (t' := s'.toks) (fun b o hb q => (sb.2 b hb).trans q) f0 f1 f3' f4 f5
  have nF : ∀ b o vs, s'.heap.get? b = some o → o.data = .fields vs → b ≠ s3.heap.objs.size := fun b o vs q d z => by
    obtain ⟨o', es, ep, ho, hd, _⟩ := hn
    rw [z, ho] at q; cases q; rw [hd] at d; cases d
  have nw : ∀ b, (X.blk s3 H3 scope ce fp).nw b → X.nw b := fun b hb => by
    rcases hb with hb | hb
    · rcases (f3 b hb).1.2.2.2.1 with z | z
      · exact .inl z
      · exact .inr (Heap.get?_none_of_le z)
    · exact I3.nw_of hb
  have F' : Fly X.nw H' h' ea C true := by
    obtain ⟨n, u, oe, vs, g, c, d, tb⟩ := F.mono nw
    refine ⟨n, u, oe, vs, (sb.2 _ (nF ea oe vs g d)).trans g, c, d, ?_⟩
    rcases tb with ⟨z, _⟩ | ⟨T, oT, ts, a1, a2, a3, a4, a5, a6, a7⟩
    · cases z
    · exact .inr ⟨T, oT, ts, a1, a2, a3, a4, (sb.2 _ (nF T oT ts a5 a6)).trans a5, a6, a7⟩
  have hx : XIn X E true (.ref ea) { s' with heap := h' } := ⟨ea, C, H', rfl, hpn, fr, I8.forget, F', x⟩
  unfold PySem.passOn
  refine wpAny_bind (XIn.head hx fun T => ?_)
  rw [if_neg (by simp)]
  exact wpAny_bind (XIn.flown hx fun s4 h4 => wpAny_throw (hxe _ _ h4))
theorem lc_coreX {E : XK} {L : Addr} {pins : List (Addr × Obj)} {s : Shared} {σ : St} {H : Hp} {Q : VK} {elt tg iter : Expr} {ifs : List Expr} {scope : Scope} {own : List (Str × Nat)} {pos pos' : Pos} {wi : TI} {g : TG} {tt : TT} {te : TE} {use : Option (Value → Sem Unit)} {Qf : Value → Shared → Prop}
    (hc : X.calm = true) (hpn : X.pn = []) (fr : FrIs X L) (hxe : ∀ e s', XIn X E true e s' → X.xe e s') (hN : X.N.Nodup) (I : Inv X pins σ H s) (hi : PI X tg iter wi) (ok : BlkOk X.N X.env.scope scope own)
    (hg : ∀ (s : Shared) (H : Hp) (C : Addr) (cl : List (Str × Addr)) (fp : List Addr), PG (X.blk s H scope (compEnvC scope cl C X.env) fp) tg g) (ht : ∀ (s : Shared) (H : Hp) (C : Addr) (cl : List (Str × Addr)) (fp : List Addr), PTs (X.blk s H scope (compEnvC scope cl C X.env) fp) ifs tt)
    (he : ∀ (s : Shared) (H : Hp) (C : Addr) (cl : List (Str × Addr)) (fp : List Addr), PE ((X.blk s H scope (compEnvC scope cl C X.env) fp).exn E) elt te) (hs : ∀ x, foldedSetIterable iter X.env x = pure x)
    (h : tLc wi g tt te (own.map (·.2)) σ H Q)
    (hRR : ∀ D C s' m H', Inv X pins σ H' s' → Q (.ref D) H' → s'.heap.Ns C m → FpOk X pins H' C → compPost (model X.prog X.w) X.A X.xe use Qf (.ref D) C (.ok .next) s') :
    wpAny (model X.prog X.w) X.A (comprehension (.ListComp elt [⟨tg, iter, ifs, 0⟩] scope pos) scope X.env pos' (newList []) false (eval iter X.env) use) Qf X.xe s := by
  have hfree : ∀ y ∈ scope.names, y.2 = .free → ∃ c, X.env.cells.lookup y.1 = some c := fun y hy e => by
    rcases ok.free y hy e with k | k
    · exact I.ok.has _ (.inl k)
    · exact I.ok.has _ (.inr k)
  refine wpAny_comprehension_free (use := use) rfl hs (closure_ok hfree) ok.kind (fun y hy e => by rw [ok.uniq y hy, e])
    (thn (hi pins s σ H _ I h) fun xv s1 hx => thn hx fun itv s2 h2 => ?_)
  obtain ⟨it, fp, tn, J, H2, e, I2, T, st2, f2, q⟩ := h2
  subst e
  refine wpAny_newObj_type (newEnv_comp ?_) (by show 0 ≤ sizeLine; decide)
  generalize hD : s2.heap.objs.size = D
  have hDn : H2 D = none := I2.hok.fresh (Nat.le_of_eq hD)
  obtain ⟨W, ⟨m0, w0⟩, turn⟩ := q D hDn
  -- the new list
  generalize hs3 : ({ s2 with heap := s2.heap.push { cls := .type "list", data := .seq ([] : List Value).toArray } } : Shared) = s3
  have I3 : Inv X pins σ (upd H2 D (.lst [])) s3 := by
    rw [← hs3]
    refine I2.laid (t' := s2.toks) (fun b o e => Heap.get?_push_of_some _ e) (Nat.le_of_eq hD) ⟨Nat.zero_le _, [], 0, .nil, ?_⟩
    rw [← hD]
    exact Heap.get?_push_size _ rfl
  have h3 : s3.heap = s2.heap.push { cls := .type "list", data := .seq ([] : List Value).toArray } := by rw [← hs3]
  have sz : ∀ b ∈ fp, b < s2.heap.objs.size := fun b hb => by
    obtain ⟨o, e, _⟩ := T.obj _ _ st2 b hb
    exact Heap.lt_size e
  have f3 : ∀ b ∈ fp, FpOk X pins (upd H2 D (.lst [])) b ∧ b < s3.heap.objs.size := fun b hb => by
    have hlt := sz b hb
    refine ⟨⟨?_, (f2 b hb).2⟩, by rw [h3, Heap.size_push]; exact Nat.lt_succ_of_lt hlt⟩
    rw [upd_ne (by rw [← hD]; exact Nat.ne_of_lt hlt)]
    exact (f2 b hb).1
  have st3 : tn 0 s3.heap := T.keep _ _ _ st2 fun b _ o e => by rw [h3]; exact Heap.get?_push_of_some _ e
  have I4 := block_start I3 ok hN f3
  have pg := hg s3 (upd H2 D (.lst [])) s3.heap.objs.size (cellsFrom (s3.heap.objs.size + 1) scope.names (cloFrom X.env.cells scope.names [])) fp
  have pt := ht s3 (upd H2 D (.lst [])) s3.heap.objs.size (cellsFrom (s3.heap.objs.size + 1) scope.names (cloFrom X.env.cells scope.names [])) fp
  have pe := he s3 (upd H2 D (.lst [])) s3.heap.objs.size (cellsFrom (s3.heap.objs.size + 1) scope.names (cloFrom X.env.cells scope.names [])) fp
  show codeAny _ _ (.compStart (.ListComp elt [⟨tg, iter, ifs, 0⟩] scope pos) 0 (.ref it) (.ref D) (compEnvC scope (cellsFrom (s3.heap.objs.size + 1) scope.names (cloFrom X.env.cells scope.names [])) s3.heap.objs.size X.env)) (compPost (model X.prog X.w) X.A X.xe use Qf (.ref D) s3.heap.objs.size) { s3 with heap := pushCells (s3.heap.push { cls := .type "dict", data := .dict #[] }) scope.names }
  have nfp : ∀ b ∈ fp, (upd H2 D (.lst [])) b = none := fun b hb => (f3 b hb).1.1
  generalize hce : compEnvC scope (cellsFrom (s3.heap.objs.size + 1) scope.names (cloFrom X.env.cells scope.names [])) s3.heap.objs.size X.env = ce at I4 pg pt pe ⊢
  have cL : ce.locals = s3.heap.objs.size := by subst hce; rfl
  generalize hH3 : upd H2 D (.lst []) = H3 at I3 I4 pg pt pe w0 nfp f3
  generalize hs4 : ({ s3 with heap := pushCells (s3.heap.push { cls := .type "dict", data := .dict #[] }) scope.names } : Shared) = s4 at I4 ⊢
  have st4 : tn 0 s4.heap := T.keep _ _ _ st3 fun b _ o e => by rw [← hs4]; exact pushCells_keeps _ _ _ _ (Heap.get?_push_of_some _ e)
  have stat : ∀ {σ' : St} {H' : Hp} {s' : Shared}, Inv (X.blk s3 H3 scope ce fp) [] σ' H' s' → (∀ b ∈ fp, H' b = none) → ∀ b ∈ fp, FpOk (X.blk s3 H3 scope ce fp) [] H' b := fun {σ' H' s'} I' hn b hb =>
    ⟨hn b hb, (I'.ok.exf b hb).1, I'.ok.exfs b hb, .inl hb, fun x c e => (I'.ok.exf b hb).2 x c e, fun p hp => absurd (show p ∈ ([] : List (Addr × Obj)) ++ [] from hp) (by simp)⟩
  have loop : codeAny (model X.prog X.w) X.A (.compLoop (.ListComp elt [⟨tg, iter, ifs, 0⟩] scope pos) 0 (.ref it) (.ref D) ce) (compPost (model X.prog X.w) X.A X.xe use Qf (.ref D) s3.heap.objs.size) s4 := by
    refine compLoop_any (fun n s' => ∃ i H', Inv (X.blk s3 H3 scope ce fp) [] (wipe σ (own.map (·.2))) H' s' ∧ tn i s'.heap ∧ (∀ b ∈ fp, H' b = none) ∧ W i n H') ?_ m0 ⟨0, H3, I4, st4, nfp, w0⟩
    rintro n s5 ⟨i, H5, I5, st5, n5, w5⟩
    rcases turn i n H5 w5 with ⟨stop, qq⟩ | ⟨go, Nx, hNx, step⟩
    · have td := T.done (X.blk s3 H3 scope ce fp) rfl rfl rfl hc i [] s5 _ H5 (fun _ _ => False) I5 (stat I5 n5) st5 stop
      refine thnF td fun r s6 ⟨hr, I6⟩ => ?_
      subst hr
      -- back in the def's context
      have I7 : Inv X pins σ H5 s6 := I3.call' (ch := fp) I6.os I6.base I6.hok I6.bare fun b hb => ⟨(f3 b hb).1.2.2.2.1, (f3 b hb).1.2.1, (f3 b hb).1.2.2.2.2.1, (f3 b hb).1.2.2.2.2.2⟩
      have nC : H5 s3.heap.objs.size = none := by
        have z : H5 ce.locals = none := I6.free
        rw [cL] at z
        exact z
      obtain ⟨m, hn, _⟩ := I6.loc
      have hn : s6.heap.Ns ce.locals m := hn
      rw [cL] at hn
      exact hRR D s3.heap.objs.size s6 m H5 I7 qq hn (I3.fpOk (Nat.le_refl _) nC)
    · have ti := T.item (X.blk s3 H3 scope ce fp) rfl rfl rfl hc i [] s5 _ H5 (fun _ _ => False) I5 (stat I5 n5) st5 go
      refine thnF ti fun r s6 ⟨u, hr, h6⟩ => ?_
      subst hr
      refine thnF h6 fun _ s7 ⟨x, H7, I7, r7, y7, st7, n7⟩ => ?_
      have I7' := I7.pinned (stat I7 n7) (T.obj _ _ st7)
      refine thnF (pg _ s7 _ H7 x u _ I7' r7 (step x H7 y7)) fun _ s8 ⟨σ8, H8, I8, hw8, q8⟩ => ?_
      refine thnF (pt _ s8 σ8 H8 _ I8 q8) fun b s9 ⟨H9, I9, q9⟩ => ?_
      -- the turn's end
      have fin : ∀ {s' : Shared} {H' : Hp}, Inv (X.blk s3 H3 scope ce fp) ([] ++ pinsAt fp s7.heap) σ8 H' s' → Nx H' → ∃ m, m < n ∧ ∃ i H', Inv (X.blk s3 H3 scope ce fp) [] (wipe σ (own.map (·.2))) H' s' ∧ tn i s'.heap ∧ (∀ b ∈ fp, H' b = none) ∧ W i m H' := fun {s' H'} I' nx => by
        obtain ⟨m', hm, w'⟩ := hNx H' nx
        have pin' : ∀ b ∈ fp, ∀ o, s7.heap.get? b = some o → s'.heap.get? b = some o ∧ H' b = none := fun b hb o e =>
          let z := I'.pin (b, o) (List.mem_append_right _ (List.mem_append_right _ (mem_pinsAt hb e)))
          ⟨z.1, z.2.1⟩
        have hl : (wipe σ (own.map (·.2))).length = σ8.length := by rw [← hw8, wipe_length]
        refine ⟨m', hm, i + 1, H', (I'.unpinned (pins := [])).weak hl (fun j v e => ?_), T.keep _ _ _ st7 fun b hb o e => (pin' b hb o e).1, fun b hb => ?_, w'⟩
        · rw [← hw8] at e
          exact (wipe_some e).1
        · obtain ⟨o, e, _⟩ := T.obj _ _ st7 b hb
          exact (pin' b hb o e).2
      cases b with
      | false =>
        simp only [Bool.false_eq_true, if_false] at q9 ⊢
        exact fin I9 q9
      | true =>
        simp only [if_true] at q9 ⊢
        refine wpAny_mono (pe _ s9 σ8 H9 _ (I9.wish _) q9) (fun z s10 ⟨yv, H10, I10, r10, acc, hD10, hz10, nx⟩ => ?_) fun e s10 hx => ?_
        · exact app_ok (X := X.blk s3 H3 scope ce fp) I10.unwish hD10 hz10 r10 fun s11 I11 => fin I11 nx
        · exact XIn.noted (X := X.blk s3 H3 scope ce fp) (E := E) hx rfl fun s11 hy => blk_out hpn ⟨L, fr⟩ hxe I3 f3 (by rw [← hce]; rfl) cL hy
  exact codeAny_compStart_list loop (T.self X.A 0 _ _ _ st4 loop)
theorem pe_lcX {E : XK} {L : Addr} {elt tg iter : Expr} {ifs : List Expr} {scope : Scope} {own : List (Str × Nat)} {pos : Pos} {wi : TI} {g : TG} {tt : TT} {te : TE} (hc : X.calm = true) (hpn : X.pn = []) (fr : FrIs X L) (hxe : ∀ e s', XIn X E true e s' → X.xe e s') (hN : X.N.Nodup) (hi : PI X tg iter wi) (ok : BlkOk X.N X.env.scope scope own)
    (hg : ∀ (s : Shared) (H : Hp) (C : Addr) (cl : List (Str × Addr)) (fp : List Addr), PG (X.blk s H scope (compEnvC scope cl C X.env) fp) tg g) (ht : ∀ (s : Shared) (H : Hp) (C : Addr) (cl : List (Str × Addr)) (fp : List Addr), PTs (X.blk s H scope (compEnvC scope cl C X.env) fp) ifs tt)
    (he : ∀ (s : Shared) (H : Hp) (C : Addr) (cl : List (Str × Addr)) (fp : List Addr), PE ((X.blk s H scope (compEnvC scope cl C X.env) fp).exn E) elt te) (hs : ∀ x, foldedSetIterable iter X.env x = pure x := by intro _; rfl) :
    PE X (.ListComp elt [⟨tg, iter, ifs, 0⟩] scope pos) (tLc wi g tt te (own.map (·.2))) := by
  intro pins s σ H Q I h
  rw [eval_ListComp]
  refine lc_coreX hc hpn fr hxe hN I hi ok hg ht he hs h fun D C s' m H' I' q hn f => ⟨m, hn, fun h'' sb => ?_⟩
  obtain ⟨f0, f1, f2, f3, f4, f5⟩ := f
  exact ⟨.ref D, H', I'.turned (t' := s'.toks) (fun b o hb e => (sb.2 b hb).trans e) f0 f1 f3 f4 f5, rfl, q⟩
end
end L2

set_option linter.all false
set_option maxRecDepth 100000
namespace L2
open PySem PySem.Spec PyProof.Rows

theorem PSs.zero {X : Cx} {st : List Stmt} {t : TS} (h : PSs X st t) : PSs0 X st t := fun s σ H D I q => h [] s σ H D I q
theorem fn_of0 {P : Program} {w : World} {K : PySem.W.Frag} {mg : Str → Option Value} {base : Heap} {k : Nat} {f : Addr} {name qual : Str} {params : Arguments} {body : List Stmt} {scope : Scope} {dV kV doc pm cdv ct oc : Value} {an od : Option Addr}
    {osl : Array (Option Value)} {N ps : List Str} {sp : Sp} (lk : K.lookup f = some ⟨oc, od, .func (PySem.W.fnOf name qual params body scope dV kV doc pm an cdv ct), osl⟩) (hcd : PySem.W.codeIn K cdv qual = true) (S : FnScope N ps scope)
    (len : ∀ vs H Q E, sp vs H Q E → vs.length = ps.length)
    (hbody : ∀ (A : Around) (outer : List Env) (s : Shared) (H : Hp) (vs : List V) (Q : VK) (E : XK), Room k (A.deeper (envOfC qual scope s.heap.objs.size f cdv)) → sp vs H Q E →
      ∃ t, PSs0 ((cxOf (CXE P w) P w K mg base N qual scope f cdv A outer s H E).exn E) body t ∧ t { nx := fun _ H' => Q .non H', rt := Q } (start N vs) H) :
    FnOk P w K mg base (CXE P w) (k + 1) f (PySem.W.fnOf name qual params body scope dV kV doc pm an cdv ct) ps sp := by
  refine ⟨len, fun A outer s H args us vs Q E hr e0 hb r hsp => ?_⟩
  have hl := len _ _ _ _ hsp
  have KX : K.In s.heap := e0.mod.kin.keeps fun b o e => (e0.bs b o e).1
  have lim : s.heap.NoLimit := e0.mod.nolimit.keeps fun b o e => (e0.bs b o e).1
  have hkind : ∀ y ∈ ps.zip us, scope.names.lookup y.1 = some .local ∨ (scope.names.lookup y.1 = some .cell ∧ ((cellsFrom (s.heap.objs.size + 1) scope.names []).lookup y.1).isSome = true) := fun ⟨n, v⟩ hy => by
    rcases S.par n (List.of_mem_zip hy).1 with q | q
    · exact .inl q
    · exact .inr ⟨q, PySem.W.cellsFrom_some _ _ _ (.inl q)⟩
  refine codeAny_call_function hr.depth (KX _ _ lk) rfl S.co S.gen rfl (PySem.W.codeRec_of KX hcd) (hb _ _ _ _ ?_)
  refine wpAny_newFunctionEnv_cells S.kind hkind fun env he s1 x => ?_
  subst he
  refine ⟨lim.keeps x.toInCall.keep, codeAny_func ?_⟩
  obtain ⟨t, ht, hq⟩ := hbody A outer s H vs Q E (hr.deeper _) hsp
  have I : Inv (cxOf (CXE P w) P w K mg base N qual scope f cdv A outer s H E) [] (start N vs) H s1 := inv_start S hr.hd e0 hl r x
  refine wpAny_mono (ht s1 (start N vs) H _ (I.wish _) hq) (fun fl s' hs => ?_) fun e s' hs => exitX hs
  have hs := hs.unwish
  have fin : ∀ {σ' : St} {H' : Hp} {v : V} {u : Value}, Inv (cxOf (CXE P w) P w K mg base N qual scope f cdv A outer s H E) [] σ' H' s' → RelV v u → Q v H' → CE outer P w H s Q u s' :=
    fun {σ' H' v u} J rv q => ⟨v, H', J.os, J.bare, J.base, J.hok, rv, q⟩
  cases fl with
  | ret u =>
    obtain ⟨v, σ', H', J, rv, q⟩ := hs
    exact fin J rv q
  | next =>
    obtain ⟨σ', H', J, q⟩ := hs
    exact fin (v := V.non) (u := Value.none) J rfl q
  | brk =>
    obtain ⟨_, _, _, q⟩ := hs
    exact False.elim q
  | cont =>
    obtain ⟨_, _, _, q⟩ := hs
    exact False.elim q

def fnAt (f : Addr) (fo : Obj) : HO := .ext fun h => h.get? f = some fo
def codeAt (c : Addr) (qual : Str) : HO := .ext fun h => h.CodeRec (.ref c) qual
structure Clo (P : Program) (w : World) (K : PySem.W.Frag) (mg : Str → Option Value) (base : Heap) (k : Nat) (f : Addr) (fo : Obj) (c' : Addr) (qual : Str) (sp : Hp → VK → XK → Prop) : Prop where
  fn : ∃ fd, fo.data = .func fd
  run : ∀ (A : Around) (outer : List Env) (s : Shared) (H : Hp) (Q : VK) (E : XK), Room k A → Env0 P w K mg base A outer s H → s.heap.get? f = some fo → s.heap.CodeRec (.ref c') qual → sp H Q E →
    codeAny (model P w) A (.call (.ref f) ⟨[], []⟩) (CR (CXE P w) outer P w H s Q E) s
def tCallV (P : Program) (w : World) (K : PySem.W.Frag) (mg : Str → Option Value) (base : Heap) (k i : Nat) (E : XK) : TE := fun σ H Q =>
  ∃ f fo c' qual sp E0, σ[i]? = some (some (.ref f)) ∧ Clo P w K mg base k f fo c' qual sp ∧ H f = some (fnAt f fo) ∧ H c' = some (codeAt c' qual) ∧ sp H Q E0 ∧ ∀ C d H', E0 C d H' → E C d H'
theorem pe_callV0 {X : Cx} {E : XK} {i k : Nat} {x : Str} {p pos : Pos} (hpn : X.pn = []) (fr : ∃ L, FrIs X L) (hr : Room k X.A) (hN : X.N[i]? = some x) (hv : Vis X.env.scope x) (hd : (x == ("__debug__" : Str)) = false := by decide) (hcd : (x == ("__classdict__" : Str)) = false := by decide) :
    PE (X.exn E) (.Call (.Name x p) [] [] pos) (tCallV X.prog X.w X.K X.mg X.base k i E) := by
  intro pins s σ H Q I h
  obtain ⟨f, fo, c', qual, sp, E0, hi, C, hf, hc, hsp, hE⟩ := h
  refine wpAny_Call_Name_kw (thn (pe_var (X := X.exn E) (pos := p) hN hv hd hcd pins s σ H (fun v H' => v = .ref f ∧ H' = H) I ⟨_, hi, rfl, rfl⟩) fun u s1 hq => ?_)
  obtain ⟨v, H1, I1, r, rfl, rfl⟩ := hq
  obtain rfl : u = Value.ref f := r
  obtain ⟨gf, _, _⟩ := I1.hok f _ hf
  obtain ⟨gc, _, _⟩ := I1.hok c' _ hc
  refine PySem.W.callWith_of (P := fun h => h.get? f = some fo) (first := []) (args := backTo pos (starEach [] X.env)) (keywords := []) rfl (fun h e => ?_) (PyProof.Rows.evalArgs_nil3 ⟨gf, ?_⟩)
  · obtain ⟨fd, hfd⟩ := C.fn
    obtain ⟨oc, od, dt, sl⟩ := fo
    have hfd : dt = .func fd := hfd
    subst hfd
    exact ⟨.frame, .inl rfl, (PySem.W.Looks.ld (part := none) e).andThen .now⟩
  · refine wpAny_call (codeAny_mono (C.run X.A X.stack s1 H1 Q E0 hr I1.unwish.env0 gf gc hsp) fun r s' hq => ?_)
    cases r with
    | error e =>
      obtain ⟨ea, cl, H', a1, a2, a3, a4, a5, a6, a7⟩ := hq
      exact passX hpn fr pins σ H1 s1 e s' I1 ⟨ea, cl, H', a1, a2, a3, a4, a5, a6, hE _ _ _ a7⟩
    | ok fl =>
      cases fl with
      | ret u => exact I1.after hq
      | next => exact False.elim hq
      | brk => exact False.elim hq
      | cont => exact False.elim hq

def lamCx (P : Program) (w : World) (K : PySem.W.Frag) (mg : Str → Option Value) (base : Heap) (N : List Str) (qual : Str) (scope : Scope) (f : Addr) (cd : Value) (cl : List (Str × Addr)) (A : Around) (outer : List Env) (s : Shared) (H : Hp) : Cx where
  prog := P
  w := w
  K := K
  mg := mg
  base := base
  A := A.deeper (PySem.W.envX qual scope s.heap.objs.size f cd cl)
  N := N
  s_0 := s
  H_0 := H
  env := PySem.W.envX qual scope s.heap.objs.size f cd cl
  outer := outer
  stack := PySem.W.envX qual scope s.heap.objs.size f cd cl :: outer
  ex := []
  calm := true
  fn := fun _ => false
  pn := []
  xe := fun _ _ => False
theorem frIs_lam {P : Program} {w : World} {K : PySem.W.Frag} {mg : Str → Option Value} {base : Heap} {N : List Str} {qual : Str} {scope : Scope} {f : Addr} {cd : Value} {cl : List (Str × Addr)} {A : Around} {outer : List Env} {s : Shared} {H : Hp} :
    ∃ L, FrIs (lamCx P w K mg base N qual scope f cd cl A outer s H) L := ⟨s.heap.objs.size, rfl, _, _, rfl, rfl⟩
structure LamScope (scope : Scope) : Prop where
  kind : scope.kind = .function
  co : scope.isCoroutine = false
  gen : scope.isGenerator = false
  uniq : ∀ y ∈ scope.names, scope.names.lookup y.1 = some y.2
  only : ∀ y ∈ scope.names, y.2 ≠ .local ∧ y.2 ≠ .cell
theorem clo_of {P : Program} {w : World} {K : PySem.W.Frag} {mg : Str → Option Value} {base : Heap} {k : Nat} {f c' : Addr} {name qual : Str} {params : Arguments} {body : Expr} {scope : Scope} {cl : List (Str × Addr)} {pm ct : Value} {N : List Str} {σ : St} {sp : Hp → VK → XK → Prop}
    (S : LamScope scope) (hbind : bindArgs (PySem.W.kla_fn name qual params body scope cl pm (.ref c') ct) ⟨[], []⟩ = pure [])
    (inj : ∀ x y c, cl.lookup x = some c → cl.lookup y = some c → x = y) (has : ∀ x, scope.names.lookup x = some .free → ∃ c, cl.lookup x = some c) (cb : ∀ x c, cl.lookup x = some c → ∃ v, base.IsCell c v)
    (caps : ∀ (i : Nat) (x : Str) (v : V), N[i]? = some x → σ[i]? = some (some v) → scope.names.lookup x = some .free → ∃ c u, cl.lookup x = some c ∧ RelV v u ∧ base.IsCell c (some u)) (hlen : σ.length = N.length)
    (hbody : ∀ (A : Around) (outer : List Env) (s : Shared) (H : Hp) (Q : VK) (E : XK), Room k (A.deeper (PySem.W.envX qual scope s.heap.objs.size f (.ref c') cl)) → sp H Q E →
      ∃ t, PE ((lamCx P w K mg base N qual scope f (.ref c') cl A outer s H).exn E) body t ∧ t σ H Q) :
    Clo P w K mg base (k + 1) f (PySem.W.kla_obj name qual params body scope cl pm c' ct) c' qual sp := by
  refine ⟨⟨_, rfl⟩, fun A outer s H Q E hr e0 gf gc hsp => ?_⟩
  have lim : s.heap.NoLimit := e0.mod.nolimit.keeps fun b o e => (e0.bs b o e).1
  refine PySem.W.kla_callFunE hr.depth gf rfl S.co S.gen rfl gc ?_
  rw [hbind]
  refine wpAny_pure (wpAny_newFunctionEnv (fun x hx => (S.only x hx).2) (fun y hy => absurd hy (by simp)) (fun h₁ hns hsb => ⟨lim.fresh _ hsb, ?_⟩) S.kind)
  show codeAny _ _ (.expr body (PySem.W.envX qual scope s.heap.objs.size f (.ref c') cl)) _ _
  have hk : ∀ b o, s.heap.get? b = some o → h₁.get? b = some o := fun b o e => hsb.extBut b o (Nat.ne_of_lt (Heap.lt_size e)) (Heap.get?_push_of_some _ e)
  obtain ⟨t, ht, hq⟩ := hbody A outer s H Q E (hr.deeper _) hsp
  have cellAt : ∀ {c v}, base.IsCell c v → s.heap.IsCell c v ∧ H c = none := fun {c v} ⟨o, ho, hd⟩ => ⟨⟨o, (e0.bs c o ho).1, hd⟩, (e0.bs c o ho).2⟩
  have noA : ∀ b : Addr, b ∉ ([] : List Addr) := fun b z => absurd z (by simp)
  have I : Inv (lamCx P w K mg base N qual scope f (.ref c') cl A outer s H) [] σ H { s with heap := h₁, toks := s.toks + ([] : List (Str × Value)).length } := by
    refine ⟨⟨e0.mod, S.kind, rfl, rfl, Nat.le_refl _, inj, fun y hy => ?_, (fun y c z _ => by cases z), fun _ => hr.hd, Around.frames_deeper e0.frames, .inr ⟨rfl, rfl⟩, fun b z => absurd z (noA b), e0.bs, e0.bsz, fun b _ _ => noA b, fun b z => absurd z (noA b), e0.funs, e0.frf⟩,
      rfl, e0.bare, Un.kept hk, ⟨fun _ => none, ?_, fun i y v h1 h2 h3 => ?_⟩, fun y c h => ?_, e0.hok.fresh (Nat.le_refl _), fun y c h => ?_, fun p hp => absurd (show p ∈ ([] : List (Addr × Obj)) from hp) (by simp), e0.hok.kept hk, hlen⟩
    · have hy : scope.names.lookup y = some .cell ∨ scope.names.lookup y = some .free := hy
      rcases hy with hy | hy
      · exact absurd rfl (S.only _ (PySem.mem_of_lookup hy)).2
      · exact has y hy
    · exact hns
    · have h3 : scope.names.lookup y = some .local ∨ scope.names.lookup y = some .cell ∨ scope.names.lookup y = some .free := h3
      rcases h3 with h3 | h3 | h3
      · exact absurd rfl (S.only _ (PySem.mem_of_lookup h3)).1
      · exact absurd rfl (S.only _ (PySem.mem_of_lookup h3)).2
      · obtain ⟨c, u, e1, r, z⟩ := caps i y v h1 h2 h3
        exact ⟨u, r, .inr ⟨.inr h3, c, e1, (cellAt z).1.keeps hk⟩⟩
    · obtain ⟨v, z⟩ := cb y c h
      exact ⟨v, (cellAt z).1.keeps hk⟩
    · obtain ⟨v, z⟩ := cb y c h
      exact (cellAt z).2
  refine PySem.W.kla_codeExpr (wpAny_mono (ht [] _ σ H Q (I.wish _) hq) (fun u s' hs => ?_) fun e s' hs => ?_)
  · obtain ⟨v, H', J, rv, q⟩ := hs
    have J := J.unwish
    exact ⟨v, H', J.os, J.bare, J.base, J.hok, rv, q⟩
  · unfold leaving
    refine wpAny_bind (XIn.noted (X := lamCx P w K mg base N qual scope f (.ref c') cl A outer s H) hs rfl fun s1 h1 => XIn.flown h1 fun s2 h2 => ?_)
    obtain ⟨ea, C, H', rfl, _, _, J, F, x⟩ := h2
    exact ⟨ea, C, H', rfl, J.os, J.bare, J.base, J.hok, F.mono fun b hb => hb.elim (fun z => absurd (show b ∈ ([] : List Addr) from z) (by simp)) id, x⟩

theorem clo_look {cells : List (Str × Addr)} {names : List (Str × NameKind)} {x : Str} {c : Addr} (h : (x, NameKind.free) ∈ names) (e : cells.lookup x = some c) : (cloFrom cells names []).lookup x = some c := by
  obtain ⟨c', e'⟩ := mem_lookup (cloFrom_has (cells := cells) (acc := []) h)
  rcases cloFrom_mem (PySem.mem_of_lookup e') with z | ⟨_, z⟩
  · cases z
  · rw [e] at z
    rw [e', z]; rfl
theorem clo_unlook {cells : List (Str × Addr)} {names : List (Str × NameKind)} {x : Str} {c : Addr} (hf : ∀ y ∈ names, y.2 = .free → ∃ c, cells.lookup y.1 = some c) (h : (cloFrom cells names []).lookup x = some c) : cells.lookup x = some c := by
  rcases cloFrom_mem (PySem.mem_of_lookup h) with z | ⟨h1, z⟩
  · cases z
  · obtain ⟨c1, e1⟩ := hf _ h1 rfl
    have e1 : cells.lookup x = some c1 := e1
    rw [e1] at z
    rw [e1, z]; rfl
theorem funFrames_to {h base base2 : Heap} : ∀ {l : List Env}, h.FunFrames base l → (∀ b ∈ frs l, base2.get? b = none) → h.FunFrames base2 l
  | [], _, _ => trivial
  | env :: r, ⟨hk, ⟨L, o, hf, _, ho, hd⟩, hr⟩, hn => ⟨hk, ⟨L, o, hf, hn L (by unfold frs; rw [List.filterMap_cons, hf]; exact List.mem_cons_self), ho, hd⟩, funFrames_to hr fun b hb => hn b (by unfold frs; rw [List.filterMap_cons, hf]; exact List.mem_cons_of_mem _ hb)⟩
theorem Mod.keeps {K : PySem.W.Frag} {mg : Str → Option Value} {base base2 : Heap} (m : Mod K mg base) (k : ∀ b o, base.get? b = some o → base2.get? b = some o) : Mod K mg base2 :=
  ⟨m.kin.keeps k, m.glob.keeps k, let ⟨mb, h1, h2⟩ := m.blt; ⟨mb, h1.keeps k, h2⟩, m.nolimit.keeps k⟩
def spTakes (P : Program) (w : World) (K : PySem.W.Frag) (mg : Str → Option Value) (base : Heap) (k : Nat) (ansE : VK → XK) : Sp := fun vs H Q _ =>
  ∃ f fo c' qual sp, vs = [.ref f] ∧ Clo P w K mg base k f fo c' qual sp ∧ H f = some (fnAt f fo) ∧ H c' = some (codeAt c' qual) ∧ sp H Q (ansE Q)
def tAnsw (P : Addr) (lpos : Pos) (ansE : VK → XK) (te : XK → TE) : TE := fun σ H Q => ∃ ps : Array Value, H P = some (.tbl ps) ∧ TriplesOk ps.toList ∧ codeAmong lpos ps.toList = none ∧
  ∀ H1, (∀ b o, b ≠ P → H b = some o → H1 b = some o) → te (ansE Q) σ H1 Q
theorem pe_answ {X : Cx} {k k2 : Nat} {g P c : Addr} {gd : FuncData} {x y : Str} {lps : Arguments} {lbody : Expr} {lscope : Scope} {lpos p cpos : Pos} {te : XK → TE} {ansE : VK → XK} {E : XK} (hxe : Passes (CXE X.prog X.w) X E)
    (hg : Gl X x) (hm : X.mg x = some (.ref g)) (hk : PySem.W.keepIn X.K (.ref g) = true) (hr : Room k X.A) (hb : Binds X.K gd [y] []) (hfn : ∀ z, X.fn z = true)
    (hcode : X.env.code = .ref c) (hC : PySem.W.CodeHd X.base c P) (hbm : ∃ bm ob, X.mg "__builtins__" = some (.ref bm) ∧ bm ≠ builtinsNs ∧ X.base.get? bm = some ob ∧ ob.cls = .type "module" ∧ ob.dict = some builtinsNs ∧ ob.data = .plain)
    {sc : Scope} (hsc : X.env.scope = sc) (S : LamScope lscope) (hfree : ∀ z ∈ lscope.names, z.2 = .free → sc.names.lookup z.1 = some .cell)
    (hbind : ∀ cl pm cd ct, bindArgs (PySem.W.kla_fn "<lambda>" (X.env.qual ++ "<lambda>") lps lbody lscope cl pm cd ct) ⟨[], []⟩ = pure []) (hdef : defaultsOf lps X.env = ([], []))
    (F : ∀ base2 : Heap, (∀ b o, X.base.get? b = some o → base2.get? b = some o) → Mod X.K X.mg base2 → FnOk X.prog X.w X.K X.mg base2 (CXE X.prog X.w) k g gd [y] (spTakes X.prog X.w X.K X.mg base2 (k2 + 1) ansE))
    (hte : ∀ (base2 : Heap) (A : Around) (outer : List Env) (s : Shared) (H : Hp) (f : Addr) (cd : Value) (cl : List (Str × Addr)) (E : XK), (∀ b o, X.base.get? b = some o → base2.get? b = some o) → Mod X.K X.mg base2 → Room k2 (A.deeper (PySem.W.envX (X.env.qual ++ "<lambda>") lscope s.heap.objs.size f cd cl)) →
      PE ((lamCx X.prog X.w X.K X.mg base2 X.N (X.env.qual ++ "<lambda>") lscope f cd cl A outer s H).exn E) lbody (te E))
    (hdb : (x == ("__debug__" : Str)) = false := by decide) :
    PE X (.Call (.Name x p) [.Lambda lps lbody lscope lpos] [] cpos) (tAnsw P lpos ansE te) := by
  subst hsc
  intro pins s σ H Q I h
  obtain ⟨ps, hP, ht, hnf, h⟩ := h
  refine wpAny_Call_Name_kw (ld_glob I hg hm ?_ hdb)
  refine PySem.W.callWith_K (h₀ := X.base) I.ok.mod.kin hk ?_ rfl rfl
  refine Calls.spliced_cons (PySem.W.kla_eval hdef ?_)
  have hfc : ∀ y ∈ lscope.names, y.2 = .free → ∃ c, X.env.cells.lookup y.1 = some c := fun y hy e => I.ok.has _ (.inl (hfree y hy e))
  have gP : s.heap.get? P = some (PySem.W.tabObj ps) := I.hok P _ hP
  obtain ⟨bm, ob, b1, b2, b3, b4, b5, b6⟩ := hbm
  have hgs : s.heap.Ns mainGlobals X.mg := I.mod.glob.keeps I.bk
  have nP : ∀ b o, X.base.get? b = some o → b ≠ P := fun b o e z => by
    have q := (I.bs b o e).2
    rw [z, hP] at q; cases q
  have hgP : mainGlobals ≠ P := by
    obtain ⟨o, es, ep, e, hd, _⟩ := I.mod.glob
    exact nP _ _ e
  have hbG : bm ≠ mainGlobals := fun q => by
    obtain ⟨o, es, ep, e, hd, _⟩ := I.mod.glob
    rw [q, e] at b3; cases b3; rw [hd] at b6; cases b6
  refine PySem.W.kla_makeFunction (mg := X.mg) (closure_ok hfc) I.ok.glob hgs hcode (hC.keeps I.bk) gP ht hnf hgP ⟨bm, ob, b1, b2, hbG, nP _ _ b3, I.bk _ _ b3, b4, b5, b6⟩ fun c' ctv h' tk hx hge hlt hrec htb => ?_
  generalize hcl : cloFrom X.env.cells lscope.names [] = cl
  generalize hfo : PySem.W.kla_obj "<lambda>" (X.env.qual ++ "<lambda>") lps lbody lscope cl ((X.mg "__name__").getD .none) c' ctv = fo
  have gFree : fo.isFreed = false := by rw [← hfo]; rfl
  generalize hf : h'.objs.size = f
  have fge : s.heap.objs.size ≤ f := by rw [← hf]; exact Nat.le_trans hge (Nat.le_of_lt hlt)
  have ltP : P < s.heap.objs.size := Heap.lt_size gP
  have fnc : f ≠ c' := by rw [← hf]; exact Nat.ne_of_gt hlt
  have fnP : f ≠ P := Nat.ne_of_gt (Nat.lt_of_lt_of_le ltP fge)
  have cnP : c' ≠ P := Nat.ne_of_gt (Nat.lt_of_lt_of_le ltP hge)
  have kp : ∀ b o, b ≠ P → s.heap.get? b = some o → (h'.push fo).get? b = some o := fun b o hb e => Heap.get?_push_of_some _ (hx b o hb e)
  have old : ∀ b o, s.heap.get? b = some o → b ≠ f ∧ b ≠ c' := fun b o e => ⟨Nat.ne_of_lt (Nat.lt_of_lt_of_le (Heap.lt_size e) fge), Nat.ne_of_lt (Nat.lt_of_lt_of_le (Heap.lt_size e) hge)⟩
  have oldT : ∀ b o, H b = some o → b ≠ f ∧ b ≠ c' := fun b o e => let ⟨ob', z⟩ := (I.hok b o e).there; old b ob' z
  generalize hH1 : upd (upd (upd H P (.tbl (ps ++ #[rawInt lpos.line, rawInt lpos.col, .ref c']))) c' (codeAt c' (X.env.qual ++ "<lambda>"))) f (fnAt f fo) = H1
  have H1f : H1 f = some (fnAt f fo) := by rw [← hH1]; exact upd_same
  have H1c : H1 c' = some (codeAt c' (X.env.qual ++ "<lambda>")) := by rw [← hH1, upd_ne (Ne.symm fnc)]; exact upd_same
  have H1P : H1 P = some (.tbl (ps ++ #[rawInt lpos.line, rawInt lpos.col, .ref c'])) := by rw [← hH1, upd_ne (Ne.symm fnP), upd_ne (Ne.symm cnP)]; exact upd_same
  have H1o : ∀ b, b ≠ f → b ≠ c' → b ≠ P → H1 b = H b := fun b h1 h2 h3 => by rw [← hH1, upd_ne h1, upd_ne h2, upd_ne h3]
  have gPn : (h'.push fo).get? P = some (PySem.W.tabObj (ps ++ #[rawInt lpos.line, rawInt lpos.col, .ref c'])) := Heap.get?_push_of_some _ htb
  have gf : (h'.push fo).get? f = some fo := by rw [← hf]; exact Heap.get?_push_size h' gFree
  have gc : (h'.push fo).CodeRec (.ref c') (X.env.qual ++ "<lambda>") := Heap.CodeRec.at hrec fun o e => Heap.get?_push_of_some _ e
  have un : Un X.fs [] H H1 s.heap (h'.push fo) := by
    refine ⟨fun b o q n _ _ => kp b o (fun z => by rw [z, hP] at n; cases n) q, fun b o q n _ _ => ⟨o.slots, kp b o (fun z => by rw [z, hP] at n; cases n) q⟩, fun b o q n _ => ?_, fun b o q _ => ?_, fun b xs q => ?_, fun b o u q => ?_, fun b ps' q => ?_⟩
    · rw [H1o b (old b o q).1 (old b o q).2 fun z => by rw [z, hP] at n; cases n]; exact n
    · by_cases z : b = P
      · exact ⟨_, by rw [z]; exact gPn⟩
      · exact ⟨o, kp b o z q⟩
    · rw [H1o b (oldT b _ q).1 (oldT b _ q).2 fun z => by rw [z, hP] at q; cases q]; exact q
    · rw [H1o b (oldT b _ q).1 (oldT b _ q).2 fun z => by rw [z, hP] at q; cases q]; exact q
    · by_cases z : b = P
      · subst z
        rw [hP] at q; cases q
        exact ⟨_, H1P⟩
      · exact ⟨#[], by rw [H1o b (oldT b _ q).1 (oldT b _ q).2 z, q]; simp⟩
  have hok : HOk X.prog X.w H1 (h'.push fo) := fun a o q => by
    by_cases z1 : a = f
    · subst z1
      rw [H1f] at q; cases q
      exact ⟨gf, ⟨_, gf⟩, fun h1 h2 e k => k _ e⟩
    · by_cases z2 : a = c'
      · subst z2
        rw [H1c] at q; cases q
        refine ⟨gc, ?_, fun h1 h2 e k => Heap.CodeRec.at e k⟩
        obtain ⟨c2, o, vs, t, e2, g2, _⟩ := gc
        cases e2
        exact ⟨o, g2⟩
      · by_cases z3 : a = P
        · subst z3
          rw [H1P] at q; cases q
          exact gPn
        · rw [H1o a z1 z2 z3] at q
          refine (I.hok a o q).stay (fun b u hb e => kp b u ?_ e) (fun b hb => ?_) fun b xs hb => ?_
          · rcases hb with z | z
            · rw [z]; exact z3
            · intro zz; rw [zz, hP] at z; cases z
          · rw [H1o b (oldT b _ hb).1 (oldT b _ hb).2 fun z => by rw [z, hP] at hb; cases hb]; exact hb
          · rw [H1o b (oldT b _ hb).1 (oldT b _ hb).2 fun z => by rw [z, hP] at hb; cases hb]; exact hb
  have I1 : Inv X pins σ H1 { s with heap := h'.push fo, toks := tk } := I.un (t' := tk) un hok
  generalize ({ s with heap := h'.push fo, toks := tk } : Shared) = s1 at I1
  refine Calls.spliced_nil ⟨I1.kIn, ?_⟩
  -- the base of what runs below: all that is not tracked and no frame
  have nfr : ∀ b o, X.base.get? b = some o → b ∉ frs X.stack := fun b o e hb => by
    rcases List.mem_cons.mp (I1.stkSub b hb) with z | z
    · have l := Heap.lt_size e
      rw [z] at l
      exact absurd (Nat.lt_of_lt_of_le l (Nat.le_trans I1.ok.bsz I1.ok.above)) (Nat.lt_irrefl _)
    · exact I1.ok.nofr e z
  generalize hb2 : PySem.W.hideAll (hidT s1.heap H1) (frs X.stack) = base2
  have B1 : ∀ b o, base2.get? b = some o → s1.heap.get? b = some o ∧ H1 b = none := fun b o e => by
    rw [← hb2] at e
    exact of_hidT (PySem.W.of_hideAll _ e)
  have B2 : ∀ b o, s1.heap.get? b = some o → H1 b = none → b ∉ frs X.stack → base2.get? b = some o := fun b o e n hb => by
    rw [← hb2]
    exact PySem.W.hideAll_get _ (hidT_get e n) hb
  have sub : ∀ b o, X.base.get? b = some o → base2.get? b = some o := fun b o e => B2 b o (I1.bs b o e).1 (I1.bs b o e).2 (nfr b o e)
  have e0 : Env0 X.prog X.w X.K X.mg base2 X.A X.stack s1 H1 := by
    refine ⟨I1.ok.frames, I1.mod.keeps sub, B1, ?_, funFrames_to I1.stack fun b hb => ?_, I1.stkFree, I1.hok, I1.bare⟩
    · rw [← hb2, PySem.W.hideAll_size, hidT_size]; exact Nat.le_refl _
    · rw [← hb2]; exact PySem.W.hideAll_none _ hb
  -- the cells stand in that base
  have cellB : ∀ z c v, X.env.cells.lookup z = some c → s1.heap.IsCell c v → base2.IsCell c v := fun z c v e ⟨o, ho, hd⟩ => by
    refine ⟨o, B2 c o ho (I1.freeC z c e) fun hb => ?_, hd⟩
    rcases List.mem_cons.mp (I1.stkSub c hb) with q | q
    · exact I1.cne z c e q
    · obtain ⟨_, o', ho', _⟩ := I1.ok.funs.mem q
      exact absurd (Nat.lt_of_lt_of_le (Heap.lt_size ho') (I1.ok.cab z c (hfn z) e)) (Nat.lt_irrefl _)
  have clo : Clo X.prog X.w X.K X.mg base2 (k2 + 1) f fo c' (X.env.qual ++ "<lambda>") (fun H' Q' E' => te E' σ H' Q') := by
    rw [← hfo]
    refine clo_of (N := X.N) (σ := σ) S (hbind _ _ _ _) (fun z1 z2 c h1 h2 => ?_) (fun z hz => ?_) (fun z c hz => ?_) (fun i z v h1 h2 h3 => ?_) I1.len (fun A outer s2 H2 Q2 E2 hr2 hs2 => ⟨te E2, hte base2 A outer s2 H2 f (.ref c') cl E2 sub (I1.mod.keeps sub) hr2, hs2⟩)
    · rw [← hcl] at h1 h2
      exact I1.ok.inj z1 z2 c (clo_unlook hfc h1) (clo_unlook hfc h2)
    · have hm' : (z, NameKind.free) ∈ lscope.names := PySem.mem_of_lookup hz
      obtain ⟨c, e⟩ := hfc _ hm' rfl
      exact ⟨c, by rw [← hcl]; exact clo_look hm' e⟩
    · rw [← hcl] at hz
      have e := clo_unlook hfc hz
      obtain ⟨v, q⟩ := I1.cell z c e
      exact ⟨v, cellB z c v e q⟩
    · have hm' : (z, NameKind.free) ∈ lscope.names := PySem.mem_of_lookup h3
      have hk' := hfree _ hm' rfl
      obtain ⟨m, hn, hl⟩ := I1.loc
      obtain ⟨u, r, l⟩ := hl i z v h1 h2 (.inr (.inl hk'))
      rcases l with ⟨l, _⟩ | ⟨_, c, e, q⟩
      · have l : X.env.scope.names.lookup z = some .local := l
        rw [hk'] at l; cases l
      · exact ⟨c, u, by rw [← hcl]; exact clo_look hm' e, r, cellB z c _ e q⟩
  have hsp : spTakes X.prog X.w X.K X.mg base2 (k2 + 1) ansE [.ref f] H1 Q E := ⟨f, fo, c', _, _, rfl, clo, H1f, H1c, h H1 fun b o hb e => by rw [H1o b (oldT b _ e).1 (oldT b _ e).2 hb]; exact e⟩
  have F2 := F base2 sub (I1.mod.keeps sub)
  refine wpAny_call (codeAny_mono (F2.run X.A X.stack s1 H1 ⟨[.ref f], []⟩ [.ref f] [.ref f] Q E hr e0 (hb s1 [.ref f] I1.kIn rfl) (.cons rfl .nil) hsp) fun r s' hq => ?_)
  cases r with
  | error e => exact hxe pins σ H1 s1 e s' I1 hq
  | ok fl =>
    cases fl with
    | ret u => exact I1.after hq
    | next => exact False.elim hq
    | brk => exact False.elim hq
    | cont => exact False.elim hq
theorem Fun.ok0 {P : Program} {w : World} {K : PySem.W.Frag} {mg : Str → Option Value} {base : Heap} {x qual : Str} {st : Stmt} {f : Addr} {fd : FuncData} {N ps : List Str} {k : Nat} {sp : Sp} (F : Fun K x qual st f fd) (S : FnScope N ps (defScope st)) (len : ∀ vs H Q E, sp vs H Q E → vs.length = ps.length)
    (hbody : ∀ (cdv : Value) (A : Around) (outer : List Env) (s : Shared) (H : Hp) (vs : List V) (Q : VK) (E : XK), Room k (A.deeper (envOfC qual (defScope st) s.heap.objs.size f cdv)) → sp vs H Q E →
      ∃ t, PSs0 ((cxOf (CXE P w) P w K mg base N qual (defScope st) f cdv A outer s H E).exn E) (defBody st) t ∧ t { nx := fun _ H' => Q .non H', rt := Q } (start N vs) H) : FnOk P w K mg base (CXE P w) (k + 1) f fd ps sp := by
  obtain ⟨oc, od, kV, doc, pm, an, cdv, ct, osl, rfl, lk, hcd⟩ := F.ex
  exact fn_of0 lk hcd S len fun A outer s H vs Q E hr hsp => hbody cdv A outer s H vs Q E hr hsp
end L2

set_option linter.all false
set_option maxRecDepth 100000
namespace L2
open PySem PySem.Spec PyProof.Rows

inductive AD where
  | int (z : Int)
  | lst (l : List Int)
def AD.w : AD → PySem.W.WData
  | .int z => .int z
  | .lst l => .list (l.map .int)
def RelA (K : PySem.W.Frag) (H : Hp) : AD → V → Prop
  | .int z, v => v = .int z
  | .lst l, v => ∃ a, v = .ref a ∧ SqL K H a (l.map V.int)
def absL (o : Obj) : List V := match o.data with
  | .seq its _ => its.toList.map fun v => (absV v).getD .non
  | _ => []
theorem absL_ints {vs : List Value} {l : List Int} (h : IntsAre vs l) : (vs.map fun v => (absV v).getD V.non) = l.map V.int := by
  induction h with
  | nil => rfl
  | cons n t _ ih => rw [List.map_cons, List.map_cons, ih]; rfl
def refsOf (vals : List Value) : List Addr := vals.filterMap fun v => match v with | .ref a => some a | _ => none
def argH (K : PySem.W.Frag) (h : Heap) (P : Addr) (as : List Addr) : Hp := fun b => if b = P then some (.tbl #[]) else if b ∈ as ∧ K.lookup b = none then (h.get? b).map (fun o => .frz o (.lst (absL o))) else none
def LiesAt (h : Heap) (a : Addr) (l : List Int) : Prop := ∃ vs, h.get? a = some { cls := .type "list", data := .seq vs.toArray } ∧ IntsAre vs l
theorem shapes {Pm : Params} {h : Heap} : ∀ {ds : List AD} {vals : List Value}, PySem.W.WellAll Pm h vals (ds.map AD.w) → ∀ a ∈ refsOf vals, ∃ l, AD.lst l ∈ ds ∧ LiesAt h a l
  | [], vals, w, a, ha => by
    rw [List.map_nil] at w
    cases w
    exact absurd ha (by simp [refsOf])
  | d :: ds, vals, w, a, ha => by
    rw [List.map_cons] at w
    cases w with
    | @cons v vs _ _ w1 w2 =>
      have go : a ∈ refsOf vs → ∃ l, AD.lst l ∈ d :: ds ∧ LiesAt h a l := fun z =>
        let ⟨l, h1, h2⟩ := shapes w2 a z
        ⟨l, List.mem_cons_of_mem _ h1, h2⟩
      cases d with
      | int z =>
        cases w1
        exact go (by simpa [refsOf] using ha)
      | lst l =>
        have w1 : PySem.W.Well Pm h v (.list (l.map .int)) := w1
        cases w1 with
        | list ho hall =>
          rename_i a' vs'
          have ha' : a = a' ∨ a ∈ refsOf vs := by simpa [refsOf] using ha
          rcases ha' with z | z
          · subst z
            exact ⟨l, List.mem_cons_self, vs', ho, Att.ints_of_wellAll l vs' hall⟩
          · exact go z
theorem relAs {K : PySem.W.Frag} {Pm : Params} {h : Heap} {H : Hp} {as : List Addr} (hS : ∀ a l, LiesAt h a l → a ∈ as → l.length ≤ sizeLine → SqL K H a (l.map V.int)) :
    ∀ {ds : List AD} {vals : List Value}, PySem.W.WellAll Pm h vals (ds.map AD.w) → (∀ a ∈ refsOf vals, a ∈ as) → (∀ l, AD.lst l ∈ ds → l.length ≤ sizeLine) → ∃ vs, Vals vs vals ∧ Paired (RelA K H) ds vs
  | [], vals, w, _, _ => by
    rw [List.map_nil] at w
    cases w
    exact ⟨[], .nil, .nil⟩
  | d :: ds, vals, w, hin, hl => by
    rw [List.map_cons] at w
    cases w with
    | @cons v vs _ _ w1 w2 =>
      have sub : ∀ a ∈ refsOf vs, a ∈ as := fun a ha => hin a (by
        unfold refsOf at ha ⊢
        rw [List.filterMap_cons]
        split
        · exact ha
        · exact List.mem_cons_of_mem _ ha)
      obtain ⟨us, r, p⟩ := relAs hS w2 sub fun l hm => hl l (List.mem_cons_of_mem _ hm)
      cases d with
      | int z =>
        have w1 : PySem.W.Well Pm h v (.int z) := w1
        cases w1 with
        | int _ t => exact ⟨.int z :: us, .cons ⟨t, rfl⟩ r, .cons rfl p⟩
      | lst l =>
        have w1 : PySem.W.Well Pm h v (.list (l.map .int)) := w1
        cases w1 with
        | list ho hall =>
          rename_i a' vs'
          refine ⟨.ref a' :: us, .cons rfl r, .cons ⟨a', rfl, hS a' l ⟨vs', ho, Att.ints_of_wellAll l vs' hall⟩ (hin a' (by simp [refsOf])) (hl l List.mem_cons_self)⟩ p⟩
theorem reads_ints {cl : Str → Option Addr} {h : Heap} : ∀ {vs : List Value} {l : List Int}, IntsAre vs l → PySem.W.ReadsAllW [] cl h vs (l.map .int) []
  | _, _, .nil => .nil
  | _, _, .cons n t r => PySem.W.ReadsAllW.cons (as := []) (bs := []) (.int n t) (reads_ints r)
theorem spec_call {P : Program} {w : World} {K : PySem.W.Frag} {mg mb : Str → Option Value} {k : Nat} {fa c Pt : Addr} {fd : FuncData} {ps : List Str} {sp : Sp} {s₁ : Shared} {vals : List Value} {ds : List AD} {res : List Int} {cl : Str → Option Addr}
    (KX : K.In s₁.heap) (hKt : K.lookup Pt = none) (hns : s₁.heap.Ns mainGlobals mg) (hb : s₁.heap.Ns builtinsNs mb) (hbb : ∀ x : Str, x ≠ "__name__" → mb x = bootBuiltins x) (hlim : s₁.heap.NoLimit) (hg : s₁.gens = #[])
    (hC : PySem.W.CodeHd s₁.heap c Pt) (hPt : s₁.heap.get? Pt = some (PySem.W.tabObj #[])) (hwl : PySem.W.WellAll w.params s₁.heap vals (ds.map AD.w)) (hl : ∀ l, AD.lst l ∈ ds → l.length ≤ sizeLine) (hr : Room k callerA)
    (F : ∀ base : Heap, (∀ b o, s₁.heap.get? b = some o → b ≠ Pt → (∀ its n, o.data ≠ .seq its n) → base.get? b = some o) → Mod K mg base → FnOk P w K mg base (CXE P w) k fa fd ps sp) (hbind : Binds K fd ps []) (hlen : ds.length = ps.length)
    (hsp : ∀ (H : Hp) (vs : List V), H Pt = some (.tbl #[]) → Paired (RelA K H) ds vs → sp vs H (fun v H' => ∃ a, v = .ref a ∧ H' a = some (.lst (res.map V.int))) fun _ _ _ => False) :
    codeAny (model P w) callerA (.call (.ref fa) ⟨vals, []⟩) (fun r s' => ∃ a as, r = .ok (.ret (.ref a)) ∧ PySem.W.ReadsW [] cl s'.heap (.ref a) (.list (res.map .int)) as ∧ OldK s₁.heap s'.heap ∧ s'.os = s₁.os ∧ AllBare s'.gens) s₁ := by
  have shp := shapes hwl
  generalize hH : argH K s₁.heap Pt (refsOf vals) = H
  have HP : H Pt = some (.tbl #[]) := by rw [← hH]; exact if_pos rfl
  have Hcases : ∀ b o, H b = some o → (b = Pt ∧ o = .tbl #[]) ∨ (b ≠ Pt ∧ K.lookup b = none ∧ ∃ l vs, l.length ≤ sizeLine ∧ s₁.heap.get? b = some { cls := .type "list", data := .seq vs.toArray } ∧ IntsAre vs l ∧ o = .frz { cls := .type "list", data := .seq vs.toArray } (.lst (l.map V.int))) := fun b o e => by
    rw [← hH] at e
    unfold argH at e
    by_cases z : b = Pt
    · rw [if_pos z] at e; cases e
      exact .inl ⟨z, rfl⟩
    · rw [if_neg z] at e
      by_cases y : b ∈ refsOf vals ∧ K.lookup b = none
      · rw [if_pos y] at e
        obtain ⟨l, hm, vs, ho, hi⟩ := shp b y.1
        rw [ho] at e
        have e' : HO.frz { cls := .type "list", data := .seq vs.toArray } (.lst (absL { cls := .type "list", data := .seq vs.toArray })) = o := Option.some.inj e
        refine .inr ⟨z, y.2, l, vs, hl l hm, ho, hi, ?_⟩
        rw [← e']
        congr 2
        show (vs.toArray.toList.map _) = _
        rw [List.toList_toArray]
        exact absL_ints hi
      · rw [if_neg y] at e; cases e
  have hok : HOk P w H s₁.heap := fun b o e => by
    rcases Hcases b o e with ⟨z, rfl⟩ | ⟨_, _, l, vs, hz, ho, hi, rfl⟩
    · rw [z]; exact hPt
    · exact ⟨ho, by rw [List.length_map]; exact hz, vs, 0, vals_ints hi, ho⟩
  have hS : ∀ a l, LiesAt s₁.heap a l → a ∈ refsOf vals → l.length ≤ sizeLine → SqL K H a (l.map V.int) := fun a l ⟨vs, ho, hi⟩ ha hz => by
    have rv := vals_ints hi
    cases hk : K.lookup a with
    | some o =>
      have e := KX a o hk
      rw [ho] at e
      cases e
      exact .inr ⟨_, vs.toArray, _, hk, rfl, rfl, rfl, by rw [List.size_toArray, ← rv.length, List.length_map]; exact hz, by simpa using rv⟩
    | none =>
      have nP : a ≠ Pt := fun z => by rw [z, hPt] at ho; cases ho
      refine .inl (.inr ⟨{ cls := .type "list", data := .seq vs.toArray }, ?_⟩)
      rw [← hH]
      unfold argH
      rw [if_neg nP, if_pos ⟨ha, hk⟩, ho]
      show some (HO.frz _ (.lst (absL _))) = _
      congr 3
      show (vs.toArray.toList.map _) = _
      rw [List.toList_toArray]
      exact absL_ints hi
  obtain ⟨vs, rv, ra⟩ := relAs hS hwl (fun a ha => ha) hl
  have none_of : ∀ b o, s₁.heap.get? b = some o → b ≠ Pt → (∀ its n, o.data ≠ .seq its n) → H b = none := fun b o e nb nd => by
    cases q : H b with
    | none => rfl
    | some u =>
      rcases Hcases b u q with ⟨z, _⟩ | ⟨_, _, l, vs, _, ho, _⟩
      · exact absurd z nb
      · rw [e] at ho; cases ho
        exact absurd rfl (nd _ _)
  have noK : ∀ b o, K.lookup b = some o → H b = none := fun b o e => by
    cases q : H b with
    | none => rfl
    | some u =>
      rcases Hcases b u q with ⟨z, _⟩ | ⟨_, hk, _⟩
      · rw [z, hKt] at e; cases e
      · rw [hk] at e; cases e
  have nsK : ∀ {b : Addr} {m : Str → Option Value}, s₁.heap.Ns b m → (hidT s₁.heap H).Ns b m := fun {b m} ⟨o, es, ep, e, d, r⟩ => ⟨o, es, ep, hidT_get e (none_of b o e (fun z => by rw [z, hPt] at e; cases e; cases d) fun its n q => by rw [d] at q; cases q), d, r⟩
  have hKb : K.In (hidT s₁.heap H) := fun b o e => hidT_get (KX b o e) (noK b o e)
  have hM : Mod K mg (hidT s₁.heap H) := ⟨hKb, nsK hns, ⟨mb, nsK hb, hbb⟩, let ⟨mc, h1, h2⟩ := hlim; ⟨mc, nsK h1, h2⟩⟩
  have e0 : Env0 P w K mg (hidT s₁.heap H) callerA [] s₁ H := ⟨rfl, hM, fun b o e => of_hidT e, Nat.le_of_eq (hidT_size _ _), trivial, fun b hb => absurd (show b ∈ ([] : List Addr) from hb) (by simp), hok, .of_eq hg⟩
  have lenV : vals.length = ps.length := by
    rw [← hlen, ra.length]
    exact rv.length.symm
  have hbd := hbind s₁ vals KX (by rw [List.append_nil]; exact lenV)
  rw [List.append_nil] at hbd
  refine codeAny_mono ((F _ (fun b o e nb nd => hidT_get e (none_of b o e nb nd)) hM).run callerA [] s₁ H ⟨vals, []⟩ vals vs _ _ hr e0 hbd rv (hsp H vs HP ra)) fun r s' h => ?_
  cases r with
  | error e =>
    obtain ⟨_, _, _, _, _, _, _, _, _, z⟩ := h
    exact z.elim
  | ok fl =>
    cases fl with
    | next => exact False.elim h
    | brk => exact False.elim h
    | cont => exact False.elim h
    | ret u =>
      obtain ⟨v, H', os, bare, un, hok', r', a, rfl, ha⟩ := h
      obtain rfl : u = Value.ref a := r'
      obtain ⟨_, its, n, ri, go⟩ := hok' a _ ha
      have hi := ri.ints
      have noF : ∀ b : Addr, b ∉ frs ([] : List Env) := fun b z => absurd (show b ∈ ([] : List Addr) from z) (by simp)
      refine ⟨a, _, rfl, .list go rfl rfl (by rw [List.toList_toArray]; exact reads_ints hi), ⟨fun b o e => ?_, fun b o e => un.there b o e (by simp)⟩, os, bare⟩
      cases q : H b with
      | none => exact .inl (un.keep b o e q (noF b) (by simp))
      | some u =>
        rcases Hcases b u q with ⟨z, rfl⟩ | ⟨_, _, l, vs, _, ho, _, rfl⟩
        · subst z
          rw [hPt] at e; cases e
          obtain ⟨more, q2⟩ := un.tbls b _ q
          have g2 : s'.heap.get? b = some { cls := .none, data := .fields (#[] ++ more) } := hok' b _ q2
          obtain ⟨oc, ovs, _, _, _, _, _, _, _, c1, c2, c3, c4, _⟩ := hC
          exact .inr (.inl ⟨⟨c, oc, ovs, c1, c2, c3, c4⟩, rfl, #[], more, rfl, g2⟩)
        · have z2 := un.frzs b _ _ q
          obtain ⟨e2, _⟩ := hok' b _ z2
          rw [ho] at e; cases e
          exact .inl e2
end L2

set_option linter.all false
set_option maxRecDepth 100000
namespace L2
open PySem PySem.Spec PyProof.Rows

def Has (P : Program) (w : World) (K : PySem.W.Frag) (mg : Str → Option Value) (base : Heap) (k : Nat) (x : Str) (ps : List Str) (sp : Sp) : Prop :=
  ∃ f fd, FnOk P w K mg base (CXE P w) k f fd ps sp ∧ Binds K fd ps [] ∧ PySem.W.keepIn K (.ref f) = true ∧ mg x = some (.ref f)
theorem Has.mono {P : Program} {w : World} {K : PySem.W.Frag} {mg : Str → Option Value} {base : Heap} {j k : Nat} {x : Str} {ps : List Str} {sp : Sp} (h : Has P w K mg base j x ps sp) (hjk : j ≤ k) : Has P w K mg base k x ps sp :=
  let ⟨f, fd, F, r⟩ := h; ⟨f, fd, F.mono hjk, r⟩
theorem Has.imp {P : Program} {w : World} {K : PySem.W.Frag} {mg : Str → Option Value} {base : Heap} {k : Nat} {x : Str} {ps : List Str} {sp sp' : Sp} (h : Has P w K mg base k x ps sp) (i : ∀ vs H Q E, sp' vs H Q E → sp vs H Q E) : Has P w K mg base k x ps sp' :=
  let ⟨f, fd, F, r⟩ := h; ⟨f, fd, F.imp i, r⟩
theorem pe_callH {X : Cx} {E : XK} {k : Nat} {x : Str} {ps : List Str} {sp : Sp} {p pos : Pos} {e : Expr} {es : List Expr} {t : TA} (h : Has X.prog X.w X.K X.mg X.base k x ps sp) (hr : Room k X.A) (hx : Passes (CXE X.prog X.w) X E) (ha : PA X (e :: es) t)
    (hg : Gl X x := by rfl) (hdb : (x == ("__debug__" : Str)) = false := by decide) (he : starEach (e :: es) X.env = (false, eval e X.env) :: starEach es X.env := by rfl) (hpl : (backTo pos (starEach es X.env)).any (·.1) = false := by rfl) :
    PE X (.Call (.Name x p) (e :: es) [] pos) (tCall sp [] E t) := by
  obtain ⟨f, fd, F, hb, hk, hm⟩ := h
  exact pe_call F hr hg hm hk hb .nil hx ha hdb he hpl
theorem FrIs.blk {X : Cx} {L : Addr} (fr : FrIs X L) {s : Shared} {H : Hp} {scope : Scope} {cl : List (Str × Addr)} {C : Addr} {fp : List Addr} : FrIs (X.blk s H scope (compEnvC scope cl C X.env) fp) L := ⟨fr.1, fr.2⟩

def B20 (i : Int) : Prop := Builtin.Int.intBits i ≤ 1048576
theorem b20_of {i : Int} {k : Nat} (h : i.natAbs < 2 ^ k) (hk : k ≤ 1048576) : B20 i := by
  unfold B20 Builtin.Int.intBits
  by_cases c : i = 0
  · subst c; simp
  · have c' : (i == 0) = false := by simpa using c
    rw [c', if_neg (by decide)]
    have : i.natAbs.log2 < k := (Nat.log2_lt (by omega)).mpr h
    omega
section
variable {X : Cx}
theorem op_mulB : OpR X (binaryOp .Mult) (rI (fun i j => B20 i ∧ B20 j) fun i j => .int (i * j)) := opI fun _ _ _ _ _ _ _ hc q => mul_int q (IntMulOk.of_bits hc.1 hc.2)
theorem op_shlB : OpR X (binaryOp .LShift) (rI (fun i j => 0 ≤ j ∧ j ≤ 1048576 ∧ B20 i) fun i j => .int (i * 2 ^ j.toNat)) := opI fun i j _ _ _ _ _ hc q => lshift_int hc.1 (by
  have h := hc.2.2
  unfold B20 at h
  have h1 := hc.2.1
  have e : (2 : Int) ^ 27 = 134217728 := by decide
  rw [e]
  omega) q
end

theorem Same.new {H : Hp} {p : Addr} (h : H p = none) (o : HO) : Same H (upd H p o) := fun b u q => by rw [upd_ne (ne_of_none q h)]; exact q
theorem Same.upd_new {H H' : Hp} {p : Addr} {o : HO} (g : Same H H') (h : H p = none) : Same H (upd H' p o) := fun b u q => by rw [upd_ne (ne_of_none q h)]; exact g b u q
theorem Same.seqT {K : PySem.W.Frag} {H H' : Hp} {a : Addr} {xs : List V} (e : Same H H') (h : SqT K H a xs) : SqT K H' a xs := by
  rcases h with (h | ⟨o, h⟩) | h
  · exact .inl (.inl (e _ _ h))
  · exact .inl (.inr ⟨o, e _ _ h⟩)
  · exact .inr h
abbrev LI (K : PySem.W.Frag) (H : Hp) (v : V) (l : List Int) : Prop := ∃ a, v = .ref a ∧ SqL K H a (l.map V.int)
theorem LI.same {K : PySem.W.Frag} {H H' : Hp} {v : V} {l : List Int} (g : Same H H') (h : LI K H v l) : LI K H' v l := let ⟨a, e, q⟩ := h; ⟨a, e, g.seq q⟩
theorem LI.of {K : PySem.W.Frag} {H : Hp} {a : Addr} {l : List Int} (h : H a = some (.lst (l.map V.int))) : LI K H (.ref a) l := ⟨a, rfl, SqL.of h⟩
abbrev LLI (K : PySem.W.Frag) (H : Hp) (v : V) (l : List (List Int)) : Prop := ∃ a xs, v = .ref a ∧ SqL K H a xs ∧ Paired (LI K H) xs l
theorem Paired.sameLI {K : PySem.W.Frag} {H H' : Hp} {xs : List V} {l : List (List Int)} (g : Same H H') (h : Paired (LI K H) xs l) : Paired (LI K H') xs l := Paired.imp' (fun _ _ z => LI.same g z) h
theorem LLI.same {K : PySem.W.Frag} {H H' : Hp} {v : V} {l : List (List Int)} (g : Same H H') (h : LLI K H v l) : LLI K H' v l := let ⟨a, xs, e, q, p⟩ := h; ⟨a, xs, e, g.seq q, Paired.sameLI g p⟩

theorem for_enum {K : PySem.W.Frag} {a : Addr} {xs : List V} {g : TG} {tb : TS} {D : Ends} {σ : St} {H : Hp} (Pv : Nat → St → Hp → Prop) (h0 : Pv 0 σ H) (hl : ∀ i σ H, i ≤ xs.length → Pv i σ H → SqL K H a xs)
    (hs : ∀ i x T σ H, xs[i]? = some x → Pv i σ H → H T = none → g (.ref T) σ (upd H T (.tup [.int (i : Nat), x])) fun σ2 H2 => tb { D with nx := Pv (i + 1), ct := Pv (i + 1), bk := D.nx } σ2 H2) (hd : ∀ σ H, Pv xs.length σ H → D.nx σ H) :
    ∃ W : Nat → Nat → St → Hp → Prop, (∃ m, W 0 m σ H) ∧ ∀ i m σ H, W i m σ H →
      ((Ite K a).stop i H ∧ D.nx σ H) ∨ ((Ite K a).go i H ∧ ∃ N : St → Hp → Prop, (∀ σ' H', N σ' H' → ∃ m', m' < m ∧ W (i + 1) m' σ' H') ∧ ∀ x H', (Ite K a).yld i H x H' → g x σ H' fun σ2 H2 => tb { D with nx := N, ct := N, bk := D.nx } σ2 H2) := by
  refine ⟨fun i m σ H => m = xs.length - i ∧ i ≤ xs.length ∧ Pv i σ H, ⟨xs.length, by simp, Nat.zero_le _, h0⟩, ?_⟩
  rintro i m σ H ⟨rfl, hi, p⟩
  have q := hl i σ H hi p
  by_cases hlt : i < xs.length
  · refine .inr ⟨⟨xs, xs[i], q, by simp [hlt]⟩, Pv (i + 1), fun σ' H' p' => ⟨xs.length - (i + 1), by omega, rfl, hlt, p'⟩, fun x H' y => ?_⟩
    obtain ⟨T, x', rfl, hT, rfl, y⟩ := y
    exact hs i x' T σ _ (y xs q) p hT
  · have e : i = xs.length := by omega
    subst e
    exact .inl ⟨⟨xs, q, Nat.le_refl _⟩, hd σ H p⟩
def SameX (D : Addr) (H H' : Hp) : Prop := ∀ b o, b ≠ D → H b = some o → H' b = some o
theorem Same.x {D : Addr} {H H' : Hp} (g : Same H H') : SameX D H H' := fun b o _ e => g b o e
theorem SameX.upd {D : Addr} {H H' : Hp} {o : HO} (g : SameX D H H') : SameX D H (upd H' D o) := fun b u hb e => by rw [upd_ne hb]; exact g b u hb e
theorem SameX.trans {D : Addr} {H H1 H2 : Hp} (a : SameX D H H1) (b : SameX D H1 H2) : SameX D H H2 := fun c o hc e => b c o hc (a c o hc e)
theorem lc_any {J : It} {n : Nat} {g : TG} {te : TE} {vs : List Nat} {σ : St} {H1 : Hp} {D : Addr} {Qd : Hp → Prop} (R : Nat → Hp → V → Prop) (hR : ∀ i H H' v, SameX D H H' → R i H v → R i H' v) (hD : H1 D = none) (hz : n ≤ sizeLine)
    (hst : ∀ H, Same H1 H → J.stop n H) (hgo : ∀ i H, i < n → Same H1 H → J.go i H)
    (hs : ∀ i x H H' (Q : VK), i < n → Same H1 H → H D ≠ none → J.yld i H x H' → (∀ v H'', Same H H'' → R i H'' v → Q v H'') → g x (wipe σ vs) H' fun σ2 H2 => wipe σ2 vs = wipe σ vs ∧ te σ2 H2 Q)
    (hd : ∀ H ys, Same H1 H → H D = some (.lst ys) → ys.length = n → (∀ (i : Nat) (v : V), ys[i]? = some v → R i H v) → Qd H) :
    ∃ W : Nat → Nat → Hp → Prop, (∃ m, W 0 m (upd H1 D (.lst []))) ∧ ∀ i m H, W i m H →
      (J.stop i H ∧ Qd H) ∨ (J.go i H ∧ ∃ Nx : Hp → Prop, (∀ H', Nx H' → ∃ m', m' < m ∧ W (i + 1) m' H') ∧ ∀ x H', J.yld i H x H' → g x (wipe σ vs) H' fun σ2 H2 => wipe σ2 vs = wipe σ vs ∧ tYes σ2 H2 fun b H3 =>
        if b = true then te σ2 H3 fun y H4 => ∃ acc, H4 D = some (.lst acc) ∧ acc.length < sizeLine ∧ Nx (upd H4 D (.lst (acc ++ [y]))) else Nx H3) := by
  let Pv : Nat → Hp → Prop := fun i H => Same H1 H ∧ ∃ ys, H D = some (.lst ys) ∧ ys.length = i ∧ ∀ j v, ys[j]? = some v → R j H v
  refine ⟨fun i m H => m = n - i ∧ i ≤ n ∧ Pv i H, ⟨n, by simp, Nat.zero_le _, Same.upd_new (Same.refl _) hD, [], upd_same, rfl, fun j v e => by simp at e⟩, ?_⟩
  rintro i m H ⟨rfl, hi, g1, ys, eD, ely, er⟩
  by_cases hlt : i < n
  · refine .inr ⟨hgo i H hlt g1, Pv (i + 1), fun H' p' => ⟨n - (i + 1), by omega, rfl, hlt, p'⟩, fun x H' y => ?_⟩
    refine hs i x H H' _ hlt g1 (by rw [eD]; simp) y fun v H'' g2 r => ?_
    refine ⟨ys, g2 _ _ eD, by omega, (g1.trans g2).upd_new hD, ys ++ [v], upd_same, by rw [List.length_append, ely]; rfl, fun j u eu => ?_⟩
    by_cases hj : j < ys.length
    · rw [List.getElem?_append_left hj] at eu
      exact hR j H _ u (SameX.upd g2.x) (er j u eu)
    · have ej : j = ys.length := by
        have := (List.getElem?_eq_some_iff.mp eu).1
        rw [List.length_append, List.length_singleton] at this
        omega
      subst ej
      rw [List.getElem?_append_right (Nat.le_refl _), Nat.sub_self] at eu
      cases eu
      rw [ely]
      exact hR i H'' _ _ (SameX.upd (fun b o _ e => e)) r
  · have e : i = n := by omega
    subst e
    exact .inl ⟨hst H g1, hd H ys g1 eD ely er⟩
theorem ints_of {ys : List V} {l : List Int} (hl : ys.length = l.length) (h : ∀ (i : Nat) (v : V), ys[i]? = some v → ∃ z : Int, l[i]? = some z ∧ v = .int z) : ys = l.map V.int := by
  refine List.ext_getElem? fun i => ?_
  rw [List.getElem?_map]
  cases e : ys[i]? with
  | none =>
    have : l[i]? = none := List.getElem?_eq_none_iff.mpr (by have := List.getElem?_eq_none_iff.mp e; omega)
    rw [this]; rfl
  | some v =>
    obtain ⟨z, e1, rfl⟩ := h i v e
    rw [e1]; rfl
theorem paired_of {α : Type} {R : V → α → Prop} : ∀ {ys : List V} {l : List α}, ys.length = l.length → (∀ (i : Nat) (v : V), ys[i]? = some v → ∃ z, l[i]? = some z ∧ R v z) → Paired R ys l
  | [], [], _, _ => .nil
  | [], _ :: _, h, _ => by cases h
  | _ :: _, [], h, _ => by cases h
  | y :: ys, z :: l, h, k => by
    obtain ⟨z', e, r⟩ := k 0 y rfl
    cases e
    exact .cons r (paired_of (Nat.succ.inj h) fun i v e => k (i + 1) v e)
theorem pgI {X : Cx} {x : Str} {i : Int} {t : Tok} {pos : Pos} (hm : X.mg x = some (.int i t)) (hg : Gl X x := by rfl) (hd : (x == ("__debug__" : Str)) = false := by decide) : PE X (.Name x pos) (tC (.int i)) := pe_glob hg hm ⟨_, rfl⟩ hd
section
variable {C : Int → Int → Prop} {g : Int → Int → V} {u : Int → V} {a b : Int} {H : Hp} {Q : VK}
theorem rI_int : rI C g (.int a) (.int b) H Q = (C a b ∧ Q (g a b) H) := propext ⟨fun ⟨i, j, e1, e2, c, q⟩ => by cases e1; cases e2; exact ⟨c, q⟩, fun ⟨c, q⟩ => ⟨a, b, rfl, rfl, c, q⟩⟩
theorem rI0_int : rI0 g (.int a) (.int b) H Q = Q (g a b) H := propext ⟨fun ⟨i, j, e1, e2, q⟩ => by cases e1; cases e2; exact q, fun q => ⟨a, b, rfl, rfl, q⟩⟩
theorem rU_int : rU u (.int a) H Q = Q (u a) H := propext ⟨fun ⟨i, e1, q⟩ => by cases e1; exact q, fun q => ⟨a, rfl, q⟩⟩
theorem rEq_int : rEq (.int a) (.int b) H Q = Q (.bl (decide (a = b))) H := by
  unfold rEq scal
  simp only [V.int.injEq, true_and]
theorem rNe_int : rNe (.int a) (.int b) H Q = Q (.bl (!decide (a = b))) H := by
  unfold rNe scal
  simp only [V.int.injEq, true_and]
end
theorem XIn.unwish {X : Cx} {E : XK} {tb : Bool} {e : Value} {s' : Shared} {E' : Value → Shared → Prop} (h : XIn (X.wish E') E tb e s') : XIn X E tb e s' :=
  let ⟨ea, C, H', a, b, c, d, f, g⟩ := h; ⟨ea, C, H', a, b, c, d.unwish, f, g⟩
theorem pe_lcE {X : Cx} {E : XK} {L : Addr} {elt tg iter : Expr} {scope : Scope} {own : List (Str × Nat)} {pos : Pos} {wi : TI} {g : TG} {te : TE} (hc : X.calm = true) (hpn : X.pn = []) (fr : FrIs X L) (hN : X.N.Nodup) (hi : PI (X.exn E) tg iter wi) (ok : BlkOk X.N X.env.scope scope own)
    (hg : ∀ (s : Shared) (H : Hp) (C : Addr) (cl : List (Str × Addr)) (fp : List Addr), PG ((X.exn E).blk s H scope (compEnvC scope cl C X.env) fp) tg g)
    (he : ∀ (s : Shared) (H : Hp) (C : Addr) (cl : List (Str × Addr)) (fp : List Addr), PE (((X.exn E).blk s H scope (compEnvC scope cl C X.env) fp).exn E) elt te) (hs : ∀ x, foldedSetIterable iter X.env x = pure x := by intro _; rfl) :
    PE (X.exn E) (.ListComp elt [⟨tg, iter, [], 0⟩] scope pos) (tLc wi g tYes te (own.map (·.2))) :=
  pe_lcX (X := X.exn E) hc hpn ⟨fr.1, fr.2⟩ (fun _ _ h => h.any.unwish) hN hi ok hg (fun _ _ _ _ _ => pts_nil) he hs
theorem cxOf_K {CX : CXT} {P : Program} {w : World} {K : PySem.W.Frag} {mg : Str → Option Value} {base : Heap} {N : List Str} {qual : Str} {scope : Scope} {f : Addr} {cd : Value} {A : Around} {outer : List Env} {s : Shared} {H : Hp} {E : XK} :
    (cxOf CX P w K mg base N qual scope f cd A outer s H E).K = K := rfl
theorem lamCx_K {P : Program} {w : World} {K : PySem.W.Frag} {mg : Str → Option Value} {base : Heap} {N : List Str} {qual : Str} {scope : Scope} {f : Addr} {cd : Value} {cl : List (Str × Addr)} {A : Around} {outer : List Env} {s : Shared} {H : Hp} :
    (lamCx P w K mg base N qual scope f cd cl A outer s H).K = K := rfl
theorem lc_zipI {K : PySem.W.Frag} {a b : Addr} {la lb : List Int} {g : TG} {te : TE} {vs : List Nat} {σ : St} {H1 : Hp} {D : Addr} {Qd : Hp → Prop} (hD : H1 D = none) (hl : la.length = lb.length) (hz : la.length ≤ sizeLine) (ha : SqL K H1 a (la.map V.int)) (hb : SqL K H1 b (lb.map V.int)) (f : Int → Int → Int)
    (hg : ∀ (i : Nat) (x y : Int) (T : Addr) (H : Hp) (Q : VK), la[i]? = some x → lb[i]? = some y → H T = none → (∀ H'', Same H H'' → Q (.int (f x y)) H'') → g (.ref T) (wipe σ vs) (upd H T (.tup [.int x, .int y])) fun σ2 H2 => wipe σ2 vs = wipe σ vs ∧ te σ2 H2 Q)
    (hd : ∀ H, Same H1 H → H D = some (.lst ((List.zipWith f la lb).map V.int)) → Qd H) :
    ∃ W : Nat → Nat → Hp → Prop, (∃ m, W 0 m (upd H1 D (.lst []))) ∧ ∀ i m H, W i m H →
      ((Itz K a b).stop i H ∧ Qd H) ∨ ((Itz K a b).go i H ∧ ∃ Nx : Hp → Prop, (∀ H', Nx H' → ∃ m', m' < m ∧ W (i + 1) m' H') ∧ ∀ x H', (Itz K a b).yld i H x H' → g x (wipe σ vs) H' fun σ2 H2 => wipe σ2 vs = wipe σ vs ∧ tYes σ2 H2 fun b H3 =>
        if b = true then te σ2 H3 fun y H4 => ∃ acc, H4 D = some (.lst acc) ∧ acc.length < sizeLine ∧ Nx (upd H4 D (.lst (acc ++ [y]))) else Nx H3) := by
  have get : ∀ (l : List Int) (i : Nat) (hi : i < l.length), (l.map V.int)[i]? = some (.int l[i]) := fun l i hi => by rw [List.getElem?_map, List.getElem?_eq_getElem hi]; rfl
  refine lc_any (n := la.length) (fun i _ v => ∃ z, (List.zipWith f la lb)[i]? = some z ∧ v = .int z) (fun i H H' v _ r => r) hD hz (fun H2 g2 => ⟨_, _, g2.seq ha, g2.seq hb, .inl (by rw [List.length_map]; exact Nat.le_refl _)⟩)
    (fun i H2 hi g2 => ⟨_, _, _, _, g2.seq ha, g2.seq hb, get la i hi, get lb i (by omega)⟩) (fun i x H2 H3 Q' hi g2 _ y hQ => ?_) fun H2 ys g2 hD2 ely hys => ?_
  · obtain ⟨T, x', y', rfl, hT, rfl, e1, e2⟩ := y
    have e1 := e1 _ (g2.seq ha)
    have e2 := e2 _ (g2.seq hb)
    rw [get la i hi] at e1
    rw [get lb i (by omega)] at e2
    cases e1
    cases e2
    refine hg i _ _ T H2 Q' (List.getElem?_eq_getElem hi) (List.getElem?_eq_getElem (by omega)) hT fun H'' g3 => hQ _ _ g3 ⟨_, ?_, rfl⟩
    rw [List.getElem?_zipWith, List.getElem?_eq_getElem hi, List.getElem?_eq_getElem (by omega : i < lb.length)]
  · have ey : ys = (List.zipWith f la lb).map V.int := ints_of (by rw [List.length_zipWith]; omega) hys
    exact hd H2 g2 (by rw [hD2, ey])
theorem pg_two {X : Cx} (K : PySem.W.Frag) (i j : Nat) {x y : Str} {p1 p2 pos : Pos} {k : Nat} (hc : X.calm = true) (hN : X.N.Nodup) (hK : X.K = K := by rfl) (hi : X.N[i]? = some x := by rfl) (hj : X.N[j]? = some y := by rfl) (hx : Loc X.env.scope x := by first | exact Or.inl rfl | exact Or.inr rfl) (hy : Loc X.env.scope y := by first | exact Or.inl rfl | exact Or.inr rfl)
    (hf : X.fn x = true ∨ X.env.scope.names.lookup x = some .local := by first | exact .inl rfl | exact .inr rfl) (hg : X.fn y = true ∨ X.env.scope.names.lookup y = some .local := by first | exact .inl rfl | exact .inr rfl) :
    PG X (.Tuple [.Name x p1, .Name y p2] k pos) (gTup K 2 (gCons (gName i) (gCons (gName j) gNil))) := by
  subst hK
  exact pg_tup hc (pgs_cons (pg_name hN hi hx hf) (pgs_cons (pg_name hN hj hy hg) pgs_nil))
section
variable {X : Cx} (K : PySem.W.Frag)
theorem ixL (hK : X.K = K := by rfl) : IxR X (rIxL K) := by subst hK; exact ix_list
theorem slL (hK : X.K = K := by rfl) : SlR X (rSlL K) := by subst hK; exact sl_list
theorem lenS (hK : X.K = K := by rfl) : CallR X (.builtin "len") (fun xs H Q => ∃ p ys, xs = [.ref p] ∧ (SqL K H p ys ∨ SqT K H p ys) ∧ Q (.int ys.length) H) := by subst hK; exact call_len_seq
theorem notInS (hK : X.K = K := by rfl) : OpR X (compareOp .NotIn) (rIn K true) := by subst hK; exact op_notIn_seq
end
theorem cutV_to {xs : List V} {j : Nat} : cutV xs none (some (j : Int)) = xs.take j := by
  unfold cutV
  rw [HT.sIx_none, HT.sIx_nat, List.drop_zero, Nat.sub_zero, List.take_eq_take_iff]
  omega
theorem cutV_from {xs : List V} {j : Nat} : cutV xs (some (j : Int)) none = xs.drop j := by
  unfold cutV
  rw [HT.sIx_none, HT.sIx_nat]
  by_cases h : j ≤ xs.length
  · rw [Nat.min_eq_left h]
    exact List.take_of_length_le (by rw [List.length_drop]; exact Nat.le_refl _)
  · rw [Nat.min_eq_right (by omega), List.drop_of_length_le (by omega : xs.length ≤ j), List.drop_of_length_le (Nat.le_refl _)]
    simp
theorem SqL.sameX {K : PySem.W.Frag} {D : Addr} {H H' : Hp} {a : Addr} {xs : List V} (g : SameX D H H') (na : a ≠ D) (h : SqL K H a xs) : SqL K H' a xs := by
  rcases h with (h | ⟨o, h⟩) | h
  · exact .inl (.inl (g _ _ na h))
  · exact .inl (.inr ⟨o, g _ _ na h⟩)
  · exact .inr h
theorem Paired.get {α : Type} {R : V → α → Prop} : ∀ {xs : List V} {l : List α} {i : Nat} {x : V}, Paired R xs l → xs[i]? = some x → ∃ z, l[i]? = some z ∧ R x z
  | _, _, 0, _, .cons r _, e => by cases e; exact ⟨_, rfl, r⟩
  | _, _, i + 1, x, .cons _ t, e => Paired.get (i := i) (x := x) t (by simpa using e)
  | _, _, _, _, .nil, e => by simp at e
theorem ipI_int {f : Int → Int → Int} {a b : Int} {H : Hp} {Q : VK} : ipI f (.int a) (.int b) H Q = Q (.int (f a b)) H := propext ⟨fun ⟨i, j, e1, e2, q⟩ => by cases e1; cases e2; exact q, fun q => ⟨a, b, rfl, rfl, q⟩⟩
end L2

set_option linter.all false
set_option maxRecDepth 100000
namespace L2
open PySem PySem.Spec PyProof.Rows

abbrev Plainly (h base : Heap) : Prop := ∀ b o, h.get? b = some o → (∀ vs, o.data ≠ .fields vs) → (∀ its n, o.data ≠ .seq its n) → base.get? b = some o
theorem ns_to {h base : Heap} (k : Plainly h base) {a : Addr} {m : Str → Option Value} (n : h.Ns a m) : base.Ns a m := by
  obtain ⟨o, es, ep, e, d, r⟩ := n
  exact ⟨o, es, ep, k _ _ e (fun vs q => by rw [d] at q; cases q) (fun its n q => by rw [d] at q; cases q), d, r⟩
theorem ownTail_to {h base : Heap} (k : Plainly h base) {bmB tl : List Value} (T : OwnTail h bmB tl) : OwnTail base bmB tl := by
  induction T with
  | base => exact .base
  | own g n i _ ih => exact .own (k _ _ g (fun vs q => by cases q) (fun its n q => by cases q)) (ns_to k n) i ih
theorem OwnCls.to {h base : Heap} (k : Plainly h base) {x : Str} {C : Addr} {bm : List Value} {newId : String} {mg : Str → Option Value} (O : OwnCls x C bm newId mg h) : OwnCls x C bm newId mg base := by
  obtain ⟨bm', N, nm, q, bs, hdct, sn, sub, ab, col, dd, k0, k1, k2, k3, k5, mN, hC, hN, hni, T⟩ := O.obj
  exact ⟨O.bound, bm', N, nm, q, bs, hdct, sn, sub, ab, col, dd, k0, k1, k2, k3, k5, mN, k _ _ hC (fun vs q => by cases q) (fun its n q => by cases q), ns_to k hN, hni, ownTail_to k T⟩
theorem plainX_of {K : PySem.W.Frag} {base : Heap} (X : K.In base) {nm q : Str} {C N : Addr} {bs bm : List Value} {hdct : Bool} {sn : List Str} {sub : List Value} {ab : Bool} {col : Option Bool} {dd : Option Addr} {k0 k1 k2 k3 k5 : Option Value} {newId : String}
    (e : K.lookup C = some (excClassObj nm q C N bs bm hdct sn sub ab col dd k0 k1 k2 k3 k5 newId)) (h1 : bm.contains (.type "BaseException") = true) (h2 : ∀ a : Addr, bm.contains (.ref a) = false) : PlainX base C :=
  ⟨nm, q, N, bs, bm, hdct, sn, sub, ab, col, dd, k0, k1, k2, k3, k5, newId, X _ _ e, h1, h2⟩

def spEnt (K : PySem.W.Frag) (Pt : Addr) (ok : List AD → List Int → Prop) : Sp := fun vs H Q _ => ∃ ds res, ok ds res ∧ Paired (RelA K H) ds vs ∧ H Pt = some (.tbl #[]) ∧ ∀ r H', H' r = some (.lst (res.map V.int)) → Q (.ref r) H'
theorem walk_spec {r : PySem.W.OpenSpec} {q : Program} {loose : List Str} {XP : (Str → Option Value) → Heap → Prop} {YP : World → Heap → Prop} {d : DefRec} {kwd : List (Str × Expr)} {K : Params → PySem.W.Frag} {k : Nat} {ps : List Str} {ok : List AD → List Int → Prop}
    (hY : ∀ (w : World) (h : Heap), YP w h → (K w.params).In h) (hr : Room k callerA)
    (hd : ∀ args, r.pre args = true → ∃ ds res, args = ds.map AD.w ∧ ok ds res ∧ (∀ l, AD.lst l ∈ ds → l.length ≤ sizeLine) ∧ ds.length = ps.length ∧ r.claim.post args (.list (res.map .int)) args = true)
    (F : ∀ (w : World) (s₀ : Shared) (mg mb : Str → Option Value) (fa : Addr) (h : Heap), (K w.params).In h → Top q (PySem.W.looseW q loose) (ExcName.means s₀.heap) mg mb h → mg d.name = some (.ref fa) →
      ∃ fd c Pt, Binds (K w.params) fd ps [] ∧ (K w.params).lookup Pt = none ∧ PySem.W.CodeHd h c Pt ∧ h.get? Pt = some (PySem.W.tabObj #[]) ∧
        ∀ base : Heap, Plainly h base → (∀ o, h.get? c = some o → base.get? c = some o) → Mod (K w.params) mg base → FnOk r.prog w (K w.params) mg base (CXE r.prog w) k fa fd ps (spEnt (K w.params) Pt ok)) :
    PySem.W.WalkOS q loose XP YP r d kwd (fun f vs => PySem.call f vs) := by
  intro w s₀ s₁ mg mb G Y fa o pm cd doc dV kV ho hdd hcd hD hmg hg args vals as hpre hlay hrd hwl hlo
  have KX := hY w _ Y
  obtain ⟨fd, c, Pt, hb, hKt, hC, hPt, hF⟩ := F w s₀ mg mb fa _ KX G.T hmg
  obtain ⟨ds, res, rfl, hok, hl, hlen, hpost⟩ := hd args hpre
  show wpAny (model r.prog w) callerA (PySem.call (Value.ref fa) vals) _ _ s₁
  refine PySem.W.enter_call (codeAny_mono (spec_call (res := res) (cl := classAt s₀.heap) KX hKt G.T.g G.T.b G.T.builtins G.T.nolimit hg hC hPt hwl hl hr (fun base k M => hF base (fun b o e h1 h2 => k b o e (fun z => ?_) h2) (fun o e => k c o e ?_ ?_) M) hb hlen (fun H vs h1 h2 => ⟨ds, res, hok, h2, h1, fun r H' e => ⟨r, rfl, e⟩⟩)) fun rr s' hq => ?_)
  · rw [z, hPt] at e
    cases e
    exact h1 _ rfl
  · obtain ⟨o', vs, _, _, _, _, _, _, _, c1, c2, _⟩ := hC
    intro z
    rw [z, hPt] at c1
    cases c1
    cases c2
  · obtain ⟨o', vs, _, _, _, _, _, _, _, c1, _, c3, _⟩ := hC
    rw [e] at c1
    cases c1
    intro its n z
    rw [c3] at z
    cases z
  · obtain ⟨a, as', rfl, hrd', hold, hos, hbare⟩ := hq
    exact ⟨.inl ⟨.ref a, _, as', rfl, fun _ => rfl, hrd', hpost, fun z => by cases z⟩, hold, hos, hbare⟩
end L2

set_option linter.all false
set_option maxRecDepth 100000
namespace L2
open PySem PySem.Spec PyProof.Rows
section
open PySem.SeqAt PySem.AutoSeq1 PySem.MeetsSeq PySem.MeetsSeq2 PySem.MeetsSeq3
end
section
variable {X : Cx}
end
end L2

set_option linter.all false
set_option maxRecDepth 100000
namespace L2
open PySem PySem.Spec PyProof.Rows
section
variable {prog : Program} {w : World} {A : Around} {R : Result → Shared → Prop} {I : Addr} {fp wr : List Addr} {n : Nat} {P : Nat → Value → Prop} {St : Nat → Heap → Prop}
abbrev Bx (v : List Value) (c : Nat) : Obj := { cls := .type "list", dict := none, data := .seq v.toArray c, slots := #[] }
end
section
variable {X : Cx}
end
end L2

set_option linter.all false
set_option maxRecDepth 100000
namespace L2
open PySem PySem.Spec PyProof.Rows
section
variable {X : Cx}
def D9 (j : Int) : Prop := 0 < j ∧ j.natAbs < 2 ^ 9000
theorem D9.plain {i j : Int} (h : D9 j) : Builtin.divisionGoesByPylong i j = false := PyProof.noPylong_of_log2 ((Nat.log2_lt (by have := h.1; omega)).mpr h.2)
end
end L2

set_option linter.all false
set_option maxRecDepth 100000
namespace L2
open PySem PySem.Spec PyProof.Rows
section
variable {X : Cx}
def DZ (j : Int) : Prop := j ≠ 0 ∧ j.natAbs < 2 ^ 9000
theorem DZ.plain {i j : Int} (h : DZ j) : Builtin.divisionGoesByPylong i j = false := PyProof.noPylong_of_log2 ((Nat.log2_lt (by have := h.1; omega)).mpr h.2)
def tBits (to : TE) : TE := fun σ H Q => to σ H fun x H1 => ∃ i, x = .int i ∧ Q (.int ((Builtin.Int.intBits i : Nat) : Int)) H1
def rAbs : List V → Hp → VK → Prop := fun xs H Q => ∃ i, xs = [.int i] ∧ Q (.int (if i < 0 then -i else i)) H
def rMax2 : List V → Hp → VK → Prop := fun xs H Q => ∃ i j, xs = [.int i, .int j] ∧ Q (.int (if j > i then j else i)) H
def rMin2 : List V → Hp → VK → Prop := fun xs H Q => ∃ i j, xs = [.int i, .int j] ∧ Q (.int (if j < i then j else i)) H
theorem rAbs_int {a : Int} {H : Hp} {Q : VK} : rAbs [.int a] H Q = Q (.int (if a < 0 then -a else a)) H := propext ⟨fun ⟨i, e, q⟩ => by cases e; exact q, fun q => ⟨a, rfl, q⟩⟩
theorem rMax2_int {a b : Int} {H : Hp} {Q : VK} : rMax2 [.int a, .int b] H Q = Q (.int (if b > a then b else a)) H := propext ⟨fun ⟨i, j, e, q⟩ => by cases e; exact q, fun q => ⟨a, b, rfl, q⟩⟩
theorem rMin2_int {a b : Int} {H : Hp} {Q : VK} : rMin2 [.int a, .int b] H Q = Q (.int (if b < a then b else a)) H := propext ⟨fun ⟨i, j, e, q⟩ => by cases e; exact q, fun q => ⟨a, b, rfl, q⟩⟩
variable (K : PySem.W.Frag)
end
abbrev EV (K : PySem.W.Frag) (H : Hp) (v : V) (x : Int × Int) : Prop := ∃ a, v = .ref a ∧ SqT K H a [.int x.1, .int x.2]
theorem EV.same {K : PySem.W.Frag} {H H' : Hp} {v : V} {x : Int × Int} (g : Same H H') (h : EV K H v x) : EV K H' v x := let ⟨a, e, q⟩ := h; ⟨a, e, g.seqT q⟩
theorem EV.of {K : PySem.W.Frag} {H : Hp} {a : Addr} {v p : Int} (h : H a = some (.tup [.int v, .int p])) : EV K H (.ref a) (v, p) := ⟨a, rfl, SqT.of h⟩
abbrev LEV (K : PySem.W.Frag) (H : Hp) (v : V) (xs : List (Int × Int)) : Prop := ∃ a ys, v = .ref a ∧ SqL K H a ys ∧ Paired (EV K H) ys xs
theorem LEV.same {K : PySem.W.Frag} {H H' : Hp} {v : V} {l : List (Int × Int)} (g : Same H H') (h : LEV K H v l) : LEV K H' v l := let ⟨a, xs, e, q, p⟩ := h; ⟨a, xs, e, g.seq q, Paired.imp' (fun _ _ z => EV.same g z) p⟩
theorem ix_at {K : PySem.W.Frag} {H : Hp} {u : Addr} {l : List Int} {i : Nat} {z : Int} {Q : VK} (h : SqL K H u (l.map V.int)) (hz : z = (i : Int)) (hi : i < l.length) (q : Q (.int (l.getD i 0)) H) : rIxL K (.ref u) (.int z) H Q := by
  refine ⟨u, _, z, _, rfl, rfl, h, ?_, q⟩
  rw [hz]
  refine atI_nat ?_
  rw [List.getElem?_map, List.getD_eq_getElem?_getD, List.getElem?_eq_getElem hi]
  rfl
end L2

set_option linter.all false
set_option maxRecDepth 100000
namespace L2
open PySem PySem.Spec PyProof.Rows
section
variable {prog : Program} {w : World} {A : Around} {E : Value → Shared → Prop}
end
end L2

set_option linter.all false
set_option maxRecDepth 100000
namespace L2
open PySem PySem.Spec PyProof.Rows
abbrev Pr (K : PySem.W.Frag) (H : Hp) (v : V) (x : Int × Int) : Prop := ∃ a, v = .ref a ∧ (SqL K H a [.int x.1, .int x.2] ∨ SqT K H a [.int x.1, .int x.2])
theorem Pr.same {K : PySem.W.Frag} {H H' : Hp} {v : V} {x : Int × Int} (g : Same H H') (h : Pr K H v x) : Pr K H' v x := let ⟨a, e, q⟩ := h; ⟨a, e, q.imp g.seq g.seqT⟩
theorem Pr.tup {K : PySem.W.Frag} {H : Hp} {a : Addr} {x y : Int} (h : H a = some (.tup [.int x, .int y])) : Pr K H (.ref a) (x, y) := ⟨a, rfl, .inr (SqT.of h)⟩
theorem Pr.lst {K : PySem.W.Frag} {H : Hp} {a : Addr} {x y : Int} (h : H a = some (.lst [.int x, .int y])) : Pr K H (.ref a) (x, y) := ⟨a, rfl, .inl (SqL.of h)⟩
abbrev LP (K : PySem.W.Frag) (H : Hp) (v : V) (xs : List (Int × Int)) : Prop := ∃ a ys, v = .ref a ∧ SqL K H a ys ∧ Paired (Pr K H) ys xs
theorem Paired.sameP {K : PySem.W.Frag} {H H' : Hp} {xs : List V} {l : List (Int × Int)} (g : Same H H') (h : Paired (Pr K H) xs l) : Paired (Pr K H') xs l := Paired.imp' (fun _ _ z => Pr.same g z) h
theorem LP.same {K : PySem.W.Frag} {H H' : Hp} {v : V} {l : List (Int × Int)} (g : Same H H') (h : LP K H v l) : LP K H' v l := let ⟨a, xs, e, q, p⟩ := h; ⟨a, xs, e, g.seq q, Paired.sameP g p⟩
end L2

set_option linter.all false
set_option maxRecDepth 100000
namespace L2
open PySem PySem.Spec PyProof.Rows
section
variable {prog : Program} {w : World} {A : Around} {E : Value → Shared → Prop} {s : Shared}
theorem wpAny_loadIfAlive {a : Addr} {Q : Option Obj → Shared → Prop} (h : Q (s.heap.get? a) s) : wpAny (model prog w) A (loadIfAlive a) Q E s := fun Γ p hΓ => by
  unfold loadIfAlive
  rw [Sem.wp_loadIfAlive]
  exact wpAny_pure h Γ p hΓ
abbrev IsZipK (h : Heap) (z TI TO T0 : Addr) (f1 : Bool) : Prop :=
  h.get? z = some { cls := .type "zip", dict := none, data := .fields #[rawInt T0, .bool f1, .bool false, .ref TI, .ref TO], slots := #[] }

theorem owned_kept {z TI TO T0 : Addr} {f1 : Bool} {o0 : Obj} {Q : Bool → Shared → Prop} (hz : IsZipK s.heap z TI TO T0 f1) (h0 : s.heap.get? T0 = some o0)
    (hQ : ∀ h', IsZipK h' z TI TO T0 true → Heap.SameBut z s.heap h' → Q false { s with heap := h' }) : wpAny (model prog w) A (Builtin.SmallTypes.ownedTupleIsFree (.ref z)) Q E s := by
  unfold Builtin.SmallTypes.ownedTupleIsFree
  refine wpAny_bind (wpAny_field hz rfl (x := rawInt T0) rfl ?_)
  show wpAny _ _ (loadIfAlive T0 >>= _) _ _ _
  refine wpAny_bind (wpAny_loadIfAlive ?_)
  rw [h0]
  show wpAny _ _ (field (.ref z) 1 >>= _) _ _ _
  refine wpAny_bind (wpAny_field hz rfl (x := .bool f1) rfl ?_)
  cases f1 with
  | true => exact wpAny_pure (hQ s.heap hz ⟨rfl, fun _ _ => rfl⟩)
  | false =>
    show wpAny _ _ (setField (.ref z) 1 (.bool true) >>= fun _ => pure false) _ _ _
    exact wpAny_bind (wpAny_setField_rec hz (by simp) fun h₁ hz₁ hs₁ => wpAny_pure (hQ h₁ hz₁ hs₁))
theorem zip_next_kept {z TI TO i1 i2 l1 l2 T0 : Addr} {k1 k2 : Nat} {f1 : Bool} {xs ys : Array Value} {x y : Value} {o0 : Obj} {Q : Value → Shared → Prop} (D : ZipApart z TI TO i1 i2 l1 l2)
    (hz : IsZipK s.heap z TI TO T0 f1) (h0 : s.heap.get? T0 = some o0) (hTI : IsPair s.heap TI (.ref i1) (.ref i2))
    (h1 : s.heap.IsListIter i1 l1 k1) (h2 : s.heap.IsListIter i2 l2 k2) (hl1 : s.heap.IsList l1 xs) (hl2 : s.heap.IsList l2 ys) (hx : xs[k1]? = some x) (hy : ys[k2]? = some y)
    (hQ : ∀ h', IsZipK h' z TI TO T0 true → h'.IsListIter i1 l1 (k1 + 1) → h'.IsListIter i2 l2 (k2 + 1) → IsPair h' s.heap.objs.size x y → h'.objs.size = s.heap.objs.size + 1 →
      (∀ c o, c ≠ z → c ≠ i1 → c ≠ i2 → s.heap.get? c = some o → h'.get? c = some o) → Q (.ref s.heap.objs.size) { s with heap := h' }) :
    wpAny (model prog w) A (Builtin.«zip.__next__» ⟨[.ref z], []⟩) (fun fin s' => ∃ v, fin = .done (.ret v) ∧ Q v s') E s := by
  show wpAny _ _ (field (.ref z) 2 >>= _) _ _ _
  refine wpAny_bind (wpAny_field hz rfl (x := .bool false) rfl ?_)
  show wpAny _ _ (field (.ref z) 3 >>= _) _ _ _
  refine wpAny_bind (wpAny_field hz rfl (x := .ref TI) rfl ?_)
  refine wpAny_bind (wpAny_seqItems hTI rfl ?_)
  show wpAny _ _ (Builtin.SmallTypes.ownedTupleIsFree (.ref z) >>= _) _ _ _
  refine wpAny_bind (owned_kept hz h0 fun h₁ hz₁ hs₁ => ?_)
  simp only [Bool.false_eq_true, if_false]
  refine wpAny_bind ?_
  simp only [← Array.forIn_toList, List.forIn_cons, List.forIn_nil]
  refine wpAny_bind (wpAny_bind (wpAny_holding ?_))
  show wpAny _ _ (Builtin.SmallTypes.nextOf (.ref i1) >>= _) _ _ _
  refine wpAny_bind (wpAny_nextOf_list_item (h1.extBut hs₁.extBut D.i1z) (hl1.extBut hs₁.extBut D.l1z) hx fun h₂ h1₂ hs₂ => wpAny_pure ?_)
  refine wpAny_pure ?_
  refine wpAny_bind (wpAny_bind (wpAny_holding ?_))
  show wpAny _ _ (Builtin.SmallTypes.nextOf (.ref i2) >>= _) _ _ _
  refine wpAny_bind (wpAny_nextOf_list_item ((h2.extBut hs₁.extBut D.i2z).extBut hs₂.extBut D.i12.symm) ((hl2.extBut hs₁.extBut D.l2z).extBut hs₂.extBut D.l2i1) hy fun h₄ h2₄ hs₄ => wpAny_pure ?_)
  refine wpAny_pure (wpAny_pure ?_)
  refine wpAny_bind (wpAny_newTuple (hsz := by show 2 ≤ sizeLine; decide) ?_)
  have hsz : h₄.objs.size = s.heap.objs.size := by rw [hs₄.1, hs₂.1, hs₁.1]
  have up : ∀ c o, c ≠ z → c ≠ i1 → c ≠ i2 → s.heap.get? c = some o → h₄.get? c = some o := fun c o c1 c3 c4 e =>
    hs₄.extBut _ _ c4 (hs₂.extBut _ _ c3 (hs₁.extBut _ _ c1 e))
  have hz₄ : IsZipK h₄ z TI TO T0 true := hs₄.extBut _ _ D.i2z.symm (hs₂.extBut _ _ D.i1z.symm hz₁)
  have h1₄ : h₄.IsListIter i1 l1 (k1 + 1) := h1₂.extBut hs₄.extBut D.i12
  refine wpAny_pure ⟨_, rfl, ?_⟩
  show Q (.ref h₄.objs.size) _
  rw [hsz]
  exact hQ _ (Heap.get?_push_of_some _ hz₄) (h1₄.at fun o e => Heap.get?_push_of_some _ e) (h2₄.at fun o e => Heap.get?_push_of_some _ e) (by rw [← hsz]; exact Heap.get?_push_size _ rfl) (by rw [Heap.size_push, hsz]) fun c o c1 c3 c4 e => Heap.get?_push_of_some _ (up c o c1 c3 c4 e)
theorem zip_next_keptEnd {z TI TO i1 i2 l1 l2 T0 : Addr} {k1 k2 : Nat} {f1 : Bool} {xs ys : Array Value} {o0 : Obj} {Q : Fin → Shared → Prop} (hh : A.handled = none) (D : ZipApart z TI TO i1 i2 l1 l2)
    (hz : IsZipK s.heap z TI TO T0 f1) (h0 : s.heap.get? T0 = some o0) (hTI : IsPair s.heap TI (.ref i1) (.ref i2))
    (h1 : s.heap.IsListIter i1 l1 k1) (h2 : s.heap.IsListIter i2 l2 k2) (hl1 : s.heap.IsList l1 xs) (hl2 : s.heap.IsList l2 ys) (hend : xs[k1]? = none ∨ ys[k2]? = none)
    (hE : ∀ h' e, (∀ c o, c ≠ z → c ≠ i1 → c ≠ i2 → s.heap.get? c = some o → h'.get? c = some o) → (∃ o, h'.get? e = some o ∧ o.cls = .type "StopIteration") → E (.ref e) { s with heap := h' }) :
    wpAny (model prog w) A (Builtin.«zip.__next__» ⟨[.ref z], []⟩) Q E s := by
  show wpAny _ _ (field (.ref z) 2 >>= _) _ _ _
  refine wpAny_bind (wpAny_field hz rfl (x := .bool false) rfl ?_)
  show wpAny _ _ (field (.ref z) 3 >>= _) _ _ _
  refine wpAny_bind (wpAny_field hz rfl (x := .ref TI) rfl ?_)
  refine wpAny_bind (wpAny_seqItems hTI rfl ?_)
  show wpAny _ _ (Builtin.SmallTypes.ownedTupleIsFree (.ref z) >>= _) _ _ _
  refine wpAny_bind (owned_kept hz h0 fun h₁ hz₁ hs₁ => ?_)
  simp only [Bool.false_eq_true, if_false]
  refine wpAny_bind ?_
  simp only [← Array.forIn_toList, List.forIn_cons, List.forIn_nil]
  refine wpAny_bind (wpAny_bind (wpAny_holding ?_))
  show wpAny _ _ (Builtin.SmallTypes.nextOf (.ref i1) >>= _) _ _ _
  cases hx : xs[k1]? with
  | none =>
    exact wpAny_bind (wpAny_nextOf_list_end hh (h1.extBut hs₁.extBut D.i1z) (hl1.extBut hs₁.extBut D.l1z) hx fun h₂ e hs₂ he => hE h₂ e (fun c o c1 c3 _ x => hs₂ _ _ c3 (hs₁.extBut _ _ c1 x)) he)
  | some x =>
    have hy : ys[k2]? = none := by rcases hend with h | h; rw [hx] at h; cases h; exact h
    refine wpAny_bind (wpAny_nextOf_list_item (h1.extBut hs₁.extBut D.i1z) (hl1.extBut hs₁.extBut D.l1z) hx fun h₂ h1₂ hs₂ => wpAny_pure ?_)
    refine wpAny_pure ?_
    refine wpAny_bind (wpAny_bind (wpAny_holding ?_))
    show wpAny _ _ (Builtin.SmallTypes.nextOf (.ref i2) >>= _) _ _ _
    exact wpAny_bind (wpAny_nextOf_list_end hh ((h2.extBut hs₁.extBut D.i2z).extBut hs₂.extBut D.i12.symm) ((hl2.extBut hs₁.extBut D.l2z).extBut hs₂.extBut D.l2i1) hy fun h₄ e hs₄ he => hE h₄ e (fun c o c1 c3 c4 x => hs₄ _ _ c4 (hs₂.extBut _ _ c3 (hs₁.extBut _ _ c1 x))) he)
theorem wpAny_pyNext_kept {z TI TO i1 i2 l1 l2 T0 : Addr} {k1 k2 : Nat} {f1 : Bool} {xs ys : Array Value} {x y : Value} {o0 : Obj} {Q : Option Value → Shared → Prop} (D : ZipApart z TI TO i1 i2 l1 l2)
    (hz : IsZipK s.heap z TI TO T0 f1) (h0 : s.heap.get? T0 = some o0) (hTI : IsPair s.heap TI (.ref i1) (.ref i2))
    (h1 : s.heap.IsListIter i1 l1 k1) (h2 : s.heap.IsListIter i2 l2 k2) (hl1 : s.heap.IsList l1 xs) (hl2 : s.heap.IsList l2 ys) (hx : xs[k1]? = some x) (hy : ys[k2]? = some y)
    (hQ : ∀ h', IsZipK h' z TI TO T0 true → h'.IsListIter i1 l1 (k1 + 1) → h'.IsListIter i2 l2 (k2 + 1) → IsPair h' s.heap.objs.size x y → h'.objs.size = s.heap.objs.size + 1 →
      (∀ c o, c ≠ z → c ≠ i1 → c ≠ i2 → s.heap.get? c = some o → h'.get? c = some o) → Q (some (.ref s.heap.objs.size)) { s with heap := h' }) :
    wpAny (model prog w) A (pyNext (.ref z)) Q E s := by
  have hT : s.TypeIs (.ref z) "zip" := ⟨_, hz, rfl⟩
  unfold pyNext
  exact wpAny_bind (wpAny_attempt (wpAny_callSpecial?_slot (name := Str.ofString "__next__") hT F.slot_zip_next
    (wpAny_call_entry F.slot_zip_next hT F.entry_zip_next
      (zip_next_kept D hz h0 hTI h1 h2 hl1 hl2 hx hy fun h' a1 a3 a4 a5 a6 a7 => wpAny_pure (hQ h' a1 a3 a4 a5 a6 a7)) (F.args_zip_next_1 _))))
theorem wpAny_pyNext_keptEnd {z TI TO i1 i2 l1 l2 T0 : Addr} {k1 k2 : Nat} {f1 : Bool} {xs ys : Array Value} {o0 : Obj} {Q : Option Value → Shared → Prop} (hh : A.handled = none) (D : ZipApart z TI TO i1 i2 l1 l2)
    (hz : IsZipK s.heap z TI TO T0 f1) (h0 : s.heap.get? T0 = some o0) (hTI : IsPair s.heap TI (.ref i1) (.ref i2))
    (h1 : s.heap.IsListIter i1 l1 k1) (h2 : s.heap.IsListIter i2 l2 k2) (hl1 : s.heap.IsList l1 xs) (hl2 : s.heap.IsList l2 ys) (hend : xs[k1]? = none ∨ ys[k2]? = none)
    (hQ : ∀ h', (∀ c o, c ≠ z → c ≠ i1 → c ≠ i2 → s.heap.get? c = some o → h'.get? c = some o) → Q none { s with heap := h' }) : wpAny (model prog w) A (pyNext (.ref z)) Q E s := by
  have hT : s.TypeIs (.ref z) "zip" := ⟨_, hz, rfl⟩
  unfold pyNext
  refine wpAny_bind (wpAny_attempt (wpAny_callSpecial?_slot (name := Str.ofString "__next__") hT F.slot_zip_next
    (wpAny_call_entry F.slot_zip_next hT F.entry_zip_next (zip_next_keptEnd hh D hz h0 hTI h1 h2 hl1 hl2 hend fun h' e hk he => ?_) (F.args_zip_next_1 _))))
  obtain ⟨o, ho, hc⟩ := he
  refine wpAny_bind (wpAny_isInstance (T := "StopIteration") (b := true) ⟨o, ho, hc⟩ isSubtype_stop ?_)
  exact wpAny_pure (hQ _ hk)
end

def ZS (h : Heap) (H : Hp) (z TI TO i1 i2 a b : Addr) (i : Nat) : Prop :=
  (IsZip h z TI TO .none ∨ ∃ T0 f1 l, IsZipK h z TI TO T0 f1 ∧ H T0 = some (.tup l)) ∧ (∃ p q, IsPair h TO p q) ∧ IsPair h TI (.ref i1) (.ref i2) ∧ h.IsListIter i1 a i ∧ h.IsListIter i2 b i
theorem ZS.next {X : Cx} {A : Around} {pins : List (Addr × Obj)} {σ : St} {H : Hp} {s : Shared} {z TI TO i1 i2 a b : Addr} {i : Nat} {u u2 : Value} {its its2 : Array Value} {Q : Option Value → Shared → Prop} {E : Value → Shared → Prop} (D : ZipApart z TI TO i1 i2 a b)
    (I : Inv X pins σ H s) (Z : ZS s.heap H z TI TO i1 i2 a b i) (ha : s.heap.IsList a its) (hb : s.heap.IsList b its2) (hu : its[i]? = some u) (hu2 : its2[i]? = some u2)
    (hQ : ∀ (h' : Heap) (T0 : Addr) (f1 : Bool), IsZipK h' z TI TO T0 f1 → (T0 = s.heap.objs.size ∨ ∃ l, H T0 = some (.tup l)) → (∃ p q, IsPair h' TO p q) → IsPair h' TI (.ref i1) (.ref i2) → h'.IsListIter i1 a (i + 1) → h'.IsListIter i2 b (i + 1) → IsPair h' s.heap.objs.size u u2 →
      (∀ c o, c ≠ z → c ≠ TO → c ≠ i1 → c ≠ i2 → s.heap.get? c = some o → h'.get? c = some o) → Q (some (.ref s.heap.objs.size)) { s with heap := h' }) :
    wpAny (model X.prog X.w) A (pyNext (.ref z)) Q E s := by
  obtain ⟨hz | ⟨T0, f1, l, hz, hT0⟩, ⟨p, q, hTO⟩, hTI, h1, h2⟩ := Z
  · refine wpAny_pyNext_zip_item D hz hTI hTO h1 h2 ha hb hu hu2 fun h' a1 a2 a3 a4 a5 a6 a7 => ?_
    exact hQ h' _ false a1 (.inl rfl) ⟨_, _, a2⟩ (a7 _ _ D.TIz D.TITO D.TIi1 D.TIi2 hTI) a3 a4 a5 a7
  · obtain ⟨_, its3, _, o, ho, _⟩ := I.hok T0 _ hT0
    refine wpAny_pyNext_kept D hz ho hTI h1 h2 ha hb hu hu2 fun h' a1 a3 a4 a5 a6 a7 => ?_
    exact hQ h' _ _ a1 (.inr ⟨l, hT0⟩) ⟨p, q, a7 _ _ D.TOz D.TOi1 D.TOi2 hTO⟩ (a7 _ _ D.TIz D.TIi1 D.TIi2 hTI) a3 a4 a5 fun c o c1 _ c3 c4 e => a7 c o c1 c3 c4 e
theorem ZS.last {X : Cx} {A : Around} (hh : A.handled = none) {pins : List (Addr × Obj)} {σ : St} {H : Hp} {s : Shared} {z TI TO i1 i2 a b : Addr} {i : Nat} {its its2 : Array Value} {Q : Option Value → Shared → Prop} {E : Value → Shared → Prop} (D : ZipApart z TI TO i1 i2 a b)
    (I : Inv X pins σ H s) (Z : ZS s.heap H z TI TO i1 i2 a b i) (ha : s.heap.IsList a its) (hb : s.heap.IsList b its2) (he : its[i]? = none ∨ its2[i]? = none)
    (hQ : ∀ (h' : Heap), (∀ c o, c ≠ z → c ≠ TO → c ≠ i1 → c ≠ i2 → s.heap.get? c = some o → h'.get? c = some o) → Q none { s with heap := h' }) :
    wpAny (model X.prog X.w) A (pyNext (.ref z)) Q E s := by
  obtain ⟨hz | ⟨T0, f1, l, hz, hT0⟩, ⟨p, q, hTO⟩, hTI, h1, h2⟩ := Z
  · exact wpAny_pyNext_zip_end hh D hz hTI hTO h1 h2 ha hb he hQ
  · obtain ⟨_, its3, _, o, ho, _⟩ := I.hok T0 _ hT0
    exact wpAny_pyNext_keptEnd hh D hz ho hTI h1 h2 ha hb he fun h' k => hQ h' fun c o c1 _ c3 c4 e => k c o c1 c3 c4 e
def Zipped (H : Hp) (xs ys : List V) (ts : List Addr) : Prop := ∀ (i : Nat) (t : Addr), ts[i]? = some t → ∃ x y, xs[i]? = some x ∧ ys[i]? = some y ∧ H t = some (.tup [x, y])
theorem FpOk.upd {X : Cx} {pins : List (Addr × Obj)} {H : Hp} {c T : Addr} {o : HO} (h : FpOk X pins H c) (n : c ≠ T) : FpOk X pins (upd H T o) c := ⟨(upd_ne n).trans h.1, h.2⟩
theorem boot_list5 : bootBuiltins "list" = some (.type "list") := by decide +kernel
def tListZip (K : PySem.W.Frag) (ta : TA) : TE := fun σ H Q => ta σ H fun vs H1 => ∃ a b xs ys, vs = [.ref a, .ref b] ∧ SqL K H1 a xs ∧ SqL K H1 b ys ∧
  ∀ H' D ts, Same H1 H' → H1 D = none → H' D = some (.lst (ts.map V.ref)) → ts.length = min xs.length ys.length → Zipped H' xs ys ts → Q (.ref D) H'
end L2

set_option linter.all false
set_option maxRecDepth 100000
namespace L2
open PySem PySem.Spec PyProof.Rows
section
open PySem.SeqAt PySem.AutoSeq1 PySem.MeetsSeq PySem.MeetsSeq2 PySem.MeetsSeq3
end
section
variable {X : Cx}
end
theorem map_of {α : Type} {f : α → V} {ys : List V} {l : List α} (hl : ys.length = l.length) (h : ∀ (i : Nat) (v : V), ys[i]? = some v → ∃ z, l[i]? = some z ∧ v = f z) : ys = l.map f := by
  refine List.ext_getElem? fun i => ?_
  rw [List.getElem?_map]
  by_cases hi : i < ys.length
  · obtain ⟨z, ez, ev⟩ := h i _ (List.getElem?_eq_getElem hi)
    rw [List.getElem?_eq_getElem hi, ez, ev]
    rfl
  · rw [List.getElem?_eq_none (by omega), List.getElem?_eq_none (by omega)]
    rfl
end L2

set_option linter.all false
set_option maxRecDepth 100000
namespace L2
open PySem PySem.Spec PyProof.Rows
end L2

set_option linter.all false
set_option maxRecDepth 100000
set_option maxHeartbeats 4000000
namespace L2
open PySem PySem.Spec PyProof.Rows
section
variable {prog : Program} {w : World} {A : Around} {R : Result → Shared → Prop} {I : Addr} {fp wr : List Addr} {n : Nat} {P : Nat → Value → Prop} {St : Nat → Heap → Prop}

end
section
variable {X : Cx}
def KPost (X : Cx) (pins : List (Addr × Obj)) (σ : St) (n0 : Nat) (u1 u2 : Value) (i : Nat) (l : List Value) (c : Nat) (H1 : Hp) (p : Int × Int) (u' : Value) (s' : Shared) : Prop := ∃ H2 t, u' = .ref t ∧ Inv X pins σ H2 s' ∧ Same H1 H2 ∧ H2 t = some (.tup [.int p.1, .int p.2]) ∧ (s'.heap.IsTupleIter (n0 + 1) n0 i ∧ s'.heap.IsTuple n0 #[u1, u2]) ∧ s'.heap.get? (n0 + 2) = some (Bx l c) ∧ ∀ b ∈ [n0, n0 + 1, n0 + 2], H2 b = none
theorem KPost.S {pins : List (Addr × Obj)} {σ : St} {n0 : Nat} {u1 u2 : Value} {i : Nat} {l : List Value} {c : Nat} {H1 : Hp} {p : Int × Int} {u' : Value} {s' : Shared} (h : KPost X pins σ n0 u1 u2 i l c H1 p u' s') : s'.heap.get? (n0 + 2) = some (Bx l c) := let ⟨_, _, _, _, _, _, _, h, _⟩ := h; h
end
end L2

set_option linter.all false
set_option maxRecDepth 100000
namespace L2
open PySem PySem.Spec PyProof.Rows

end L2

set_option linter.all false
set_option maxRecDepth 100000
set_option maxHeartbeats 4000000
namespace L2
open PySem PySem.Spec PyProof.Rows
section
variable {prog : Program} {w : World} {A : Around} {E : Value → Shared → Prop} {s : Shared}
structure Ap3 (z TI TO i1 i2 i3 l1 t2 t3 : Addr) : Prop where
  nd : [z, TI, TO, i1, i2, i3].Nodup
  a1 : l1 ∉ [z, TI, TO, i1, i2, i3]
  a2 : t2 ∉ [z, TI, TO, i1, i2, i3]
  a3 : t3 ∉ [z, TI, TO, i1, i2, i3]
end
end L2

set_option linter.all false
set_option maxRecDepth 100000
namespace L2
open PySem PySem.Spec PyProof.Rows
section
variable {prog : Program} {w : World} {K : Type} [DecidableEq K] {knd : HeapKind prog w K} {A : Around} {E : Value → Shared → Prop} {s : Shared}
theorem dsd_heap {d a : Addr} {xs : List (K × Addr × Value)} {k : K} {z : Value} {Q : Value → Shared → Prop} (hu : knd.room A) (hkey : knd.is s.heap k a) (hm : s.heap.DictOfH knd d xs) (hsz : xs.length ≤ sizeLine)
    (h1 : ∀ v, (atKey xs k).map (·.2) = some v → Q v { s with toks := s.toks + knd.draws k })
    (h2 : atKey xs k = none → ∀ h', h'.DictOfH knd d (storedH xs k a z) → Heap.SameBut d s.heap h' → Q z { s with heap := h', toks := s.toks + knd.draws k }) :
    wpAny (model prog w) A (dictSetDefault d (.ref a) z) Q E s := by
  obtain ⟨o, es, ep, ho, hc, hd, he, his, hn⟩ := hm
  unfold dictSetDefault; try with_reducible refine wpAny_holding ?_
  refine wpAny_bind (knd.pyHash hu hkey ?_)
  refine wpAny_bind (wpAny_dictFind_heap (s := { s with toks := s.toks + knd.draws k }) hu hkey ho hd he his hn (fun hno => ?_) fun j p hj => ?_)
  · have nt : k ∉ xs.map (·.1) := not_mem_keys_of_get hno
    have st := storedH_new (a := a) (v := z) (atKey_none_of_get hno)
    refine wpAny_bind (wpAny_rule (wpAny_bind (wpAny_updateDictKeys (hz := by have e := size_of_entries he; omega) (s := { s with toks := s.toks + knd.draws k }) ho hd (wpAny_pure (h2 (atKey_none_of_get hno) _ ⟨_, _, ep + 1, Heap.get?_update_self _ ho (Obj.isFreed_of_dict (Obj.data_mapDictKeys hd _)),
      hc.mapDictKeys _, Obj.data_mapDictKeys hd _, ?_, ?_, ?_⟩ (Heap.SameBut.update ..))))))
    · rw [st]; simp [he, entryOfKey]
    · rw [st]; intro x hx
      rcases List.mem_append.mp hx with hx | hx
      · exact knd.keeps (his x hx) ho hd (Heap.SameBut.update ..)
      · rw [List.mem_singleton.mp hx]; exact knd.keeps hkey ho hd (Heap.SameBut.update ..)
    · rw [st, List.map_append, List.nodup_append]
      refine ⟨hn, by simp, fun x hx y hy e => nt ?_⟩
      rw [← (by simpa using hy : y = k), ← e]; exact hx
  · refine wpAny_bind (wpAny_dictEntries (s := { s with toks := s.toks + knd.draws k }) ho hd ?_)
    rw [entry_at he j, hj]
    exact wpAny_bind (wpAny_rule (wpAny_pure (h1 p.2 (by rw [atKey_of_get hn hj]; rfl))))
theorem meetsH_dsd (knd : HeapKind prog w K) (d a : Addr) (hd : (d == sysModules) = false) (z : Value) :
    MeetsIn prog w (Builtin.«dict.setdefault» ⟨[.ref d, .ref a, z], []⟩) (fun A R s => knd.room A.in1 ∧ ∃ k xs, knd.is s.heap k a ∧ s.heap.DictOfH knd d xs ∧ xs.length ≤ sizeLine ∧
      (∀ v, (atKey xs k).map (·.2) = some v → R (.ok (.ret v)) { s with toks := s.toks + knd.draws k }) ∧
      (atKey xs k = none → ∀ h', h'.DictOfH knd d (storedH xs k a z) → Heap.SameBut d s.heap h' → R (.ok (.ret z)) { s with heap := h', toks := s.toks + knd.draws k })) :=
  .of_wp fun A R s ⟨hu, k, xs, hkey, hm, hz, h1, h2⟩ => by
    unfold Builtin.«dict.setdefault» Builtin.Dict.keyAndDefault
    refine wpAny_bind (wpAny_bind (wpAny_notOrdered_dict hm.typeIs ?_))
    show wpAny _ _ (pure (d, Value.ref a, some z)) _ _ s
    refine wpAny_pure ?_
    show wpAny _ _ (if (d == sysModules) = true then _ else (dictSetDefault d (.ref a) z >>= _)) _ _ s
    rw [if_neg (by rw [hd]; decide)]
    exact wpAny_bind (dsd_heap hu hkey hm hz (fun v hv => wpAny_pure ⟨v, rfl, h1 v hv⟩) fun hn h' hm' hs' => wpAny_pure ⟨z, rfl, h2 hn h' hm' hs'⟩)
end
def rSetDef : V → List V → Hp → VK → Prop := fun x vs H Q => ∃ d b v kvs k, x = .ref d ∧ vs = [.ref b, v] ∧ H d = some (.dT kvs) ∧ H b = some (.tup (k.map kV)) ∧ kvs.length < sizeLine ∧
  ∀ r, (valV kvs k = some r → Q r H) ∧ (valV kvs k = none → Q v (upd H d (.dT (kvs ++ [(k, v)]))))
theorem args_dsd (a b c : Value) : argsOk "dict.setdefault" ⟨[a, b, c], []⟩ := by
  exact PySem.F.args_dict_setdefault_3 a b c
theorem mt_setdef {X : Cx} (hu : X.A.units + 1 < cLine) : MtM X "dict.setdefault" rSetDef := by
  intro pins s σ H x vs u us Q I rx rv h
  obtain ⟨d, b, v, kvs, k, rfl, rfl, hH, hb, hz, q⟩ := h
  cases rx
  obtain ⟨u1, u2, rfl, r1, r2⟩ := rv.two
  cases r1
  obtain ⟨z, hd, xs, rel, dd⟩ := dt_of I.hok hH
  have hl := Paired.length rel
  refine call_meetsIn PySem.F.slot_dict_setdefault dd.typeIs PySem.F.entry_dict_setdefault (args_dsd _ _ _) (meetsH_dsd (tupleKind (mixKind X.prog X.w)) d b hd u2) ⟨tupleKind_room_in1 hu, k, xs, key_of I.hok hb, dd, by omega, ?_, ?_⟩
  · intro w hw
    have rr := rel.val k; rw [hw] at rr
    cases e : valV kvs k with
    | none => rw [e] at rr; exact False.elim rr
    | some y => rw [e] at rr; exact ⟨y, H, I.tok _, rr, (q y).1 e⟩
  · intro hn h' dd' hs
    have e : valV kvs k = none := by
      have rr := (rel.val k).isSome_eq; rw [hn] at rr; simpa using rr
    have rp := rel.put k hb r2; rw [putK_new v e] at rp
    obtain ⟨o2, es, ep, hq, h2, h3, h4, _, h5⟩ := dd'
    refine ⟨v, upd H d (.dT (kvs ++ [(k, v)])), d_write I (by rw [hH]; exact True.intro) hs ⟨o2, hq⟩ ⟨by rw [List.length_append]; exact hz, hd, _, rp.keeps fun c ys ec => ?_, o2, es, ep, hq, h2, h3, h4, h5⟩, r2, (q .non).2 e⟩
    rw [upd_ne (ne_of ec hH (fun z => nomatch z))]; exact ec
end L2

set_option linter.all false
set_option maxRecDepth 100000
namespace L2
open PySem PySem.Spec PyProof.Rows
section
variable {prog : Program} {w : World} {A : Around} {E : Value → Shared → Prop} {s : Shared} {d : Addr} {o : Obj} {es : Array DictEntry} {ep : Nat}
abbrev keyAt (es : Array DictEntry) (i : Nat) (v : Value) : Prop := ∃ en, es[i]? = some en ∧ v = en.key
theorem walk_keysO (hh : A.handled = none) (I : Addr) (hne : d ≠ I) (hod : o.data = .dict es ep) :
    Walks prog w A I [I, d] [I] es.size (keyAt es) (fun i h => h.IsKeyIter I d i es.size ep ∧ h.get? d = some o) where
  sub := fun b hb => by rw [List.mem_singleton.mp hb]; exact List.mem_cons_self
  frame := fun _ _ _ st k => ⟨st.1.at fun q e => k I (by simp) q e, k d (by simp) _ st.2⟩
  item := fun i s Q E hi st hQ => next_key_item st.1 st.2 hod rfl (Array.getElem?_eq_getElem hi) fun h' it' sb =>
    hQ _ h' s.toks ⟨_, Array.getElem?_eq_getElem hi, rfl⟩ ⟨it', (sb.2 d hne).trans st.2⟩ fun b q hb e => (sb.2 b (fun h => hb (by simp [h]))).trans e
  done := fun s Q E st hQ => next_key_end hh st.1 st.2 hod rfl (Nat.le_refl _) fun h' eb => hQ h' s.toks fun b q hb e => eb b q (fun h => hb (by simp [h])) e
  self := fun _ _ _ _ st hQ => wpAny_pyIter_keyiter st.1 hQ
theorem src_keysO (hs : (d == sysModules) = false) (hx : o.ExactDict) (hod : o.data = .dict es ep) : PySem.W.KdlSrc prog w "dict" d d es.size (keyAt es) (fun h => h.get? d = some o) where
  type := fun _ e => ⟨o, e, hx.1⟩
  there := fun _ e => ⟨Heap.lt_size e, Heap.lt_size e⟩
  keep := fun _ _ e k => k d (.inl rfl) _ e
  notList := by decide
  notTuple := by decide
  hint := fun _ _ _ _ e hq => PySem.W.kdl_hint_dict ⟨o, e, hx.1⟩ hq
  iter := fun _ s hh e => ⟨_, _, (fun _ _ hq => iter_keys hs e hx hod hq), walk_keysO hh _ (Nat.ne_of_lt (Heap.lt_size e)) hod, ⟨⟨_, Heap.get?_push_size _ rfl, rfl, rfl⟩, Heap.get?_push_of_some _ e⟩⟩
end
def rdP (H : Hp) : Value → Int × Int
  | .ref b => match H b with
    | some (.tup [.int x, .int y]) => (x, y)
    | _ => (0, 0)
  | _ => (0, 0)
def rdA : Value → Addr
  | .ref b => b
  | _ => 0
def PairAt (H : Hp) (v : Value) : Prop := ∃ b x y, v = .ref b ∧ H b = some (.tup [.int x, .int y])
theorem PairAt.eq {H : Hp} {v : Value} (h : PairAt H v) : v = .ref (rdA v) ∧ H (rdA v) = some (.tup [.int (rdP H v).1, .int (rdP H v).2]) := by
  obtain ⟨b, x, y, rfl, e⟩ := h
  have q : rdP H (.ref b) = (x, y) := by simp only [rdP, e]
  rw [q]; exact ⟨rfl, e⟩
abbrev noStr : Nat → Bool := fun _ => false
theorem PairAt.heap {X : Cx} {pins : List (Addr × Obj)} {σ : St} {H : Hp} {s : Shared} {v : Value} (I : Inv X pins σ H s) (h : PairAt H v) :
    ∃ o x y n, v = .ref (rdA v) ∧ s.heap.get? (rdA v) = some o ∧ o.cls = .type "tuple" ∧ o.data = .seq #[x, y] n ∧ (∃ t, x = Value.int (rdP H v).1 t) ∧ ∃ t, y = Value.int (rdP H v).2 t := by
  obtain ⟨e1, e2⟩ := h.eq
  obtain ⟨_, its, r, o, h1, h2, n, h3⟩ := (show ObjOk X.prog X.w H s.heap (rdA v) (.tup _) from I.hok _ _ e2)
  obtain ⟨x, y, rfl, r1, r2⟩ := r.two
  exact ⟨o, x, y, n, e1, h1, h2, h3, r1, r2⟩
section
variable {X : Cx} {pins : List (Addr × Obj)} {σ : St} {H : Hp} {s : Shared}
theorem pair_key {v : Value} {h' : Heap} (I : Inv X pins σ H s) (k : ∀ b u, s.heap.get? b = some u → h'.get? b = some u) (h : PairAt H v) :
    G.tupKeyC h' noStr v = some [.inl (rdP H v).1, .inl (rdP H v).2] ∧ ∃ f, TupOf h' noStr v f := by
  obtain ⟨o, x, y, n, e1, h1, h2, h3, ⟨t1, rfl⟩, t2, rfl⟩ := h.heap I
  have h4 := k _ _ h1
  refine ⟨?_, _, rdA v, o, _, n, e1, h4, h2, h3, rfl, fun _ => ⟨_, _, rfl⟩, fun z => nomatch z⟩
  generalize rdP H v = p at *
  rw [e1]
  simp only [G.tupKeyC, G.isTupObj, h4, h2]
  simp only [tupKey, h4, h3]
  rfl
theorem tups_of {h' : Heap} (I : Inv X pins σ H s) (k : ∀ b u, s.heap.get? b = some u → h'.get? b = some u) : ∀ {vs : List Value}, (∀ v ∈ vs, PairAt H v) → ∃ fs, TupsOf h' noStr vs fs
  | [], _ => ⟨[], .nil⟩
  | v :: vs, h => by
    obtain ⟨f, hf⟩ := (pair_key I k (h v List.mem_cons_self)).2
    obtain ⟨fs, hfs⟩ := tups_of I k (vs := vs) fun u hu => h u (List.mem_cons_of_mem _ hu)
    exact ⟨f :: fs, .cons hf hfs⟩
end
def lexLe (p q : Int × Int) : Prop := p.1 < q.1 ∨ (p.1 = q.1 ∧ p.2 ≤ q.2)
theorem lexLe_of {h' : Heap} {sh : Nat → Bool} {a b c d : Int} (h : (G.tupKindC h' sh).kle [Sum.inl a, Sum.inl b] [Sum.inl c, Sum.inl d]) : lexLe (a, b) (c, d) := by
  have q : PyProof.Rows.lexLt itemOrd [Sum.inl c, Sum.inl d] [Sum.inl a, Sum.inl b] = false := h
  simp only [PyProof.Rows.lexLt, itemLt, Bool.or_eq_false_iff, Bool.and_eq_false_iff, decide_eq_false_iff_not, Bool.not_eq_false', decide_eq_true_eq] at q
  unfold lexLe; omega
theorem pairs_same {vs : List Value} {p : Keyed} (h : p ∈ (pairsOf vs).toList) : p.1 = p.2 ∧ p.1 ∈ vs := by
  rw [pairsOf_toList] at h
  exact mem_zip_self h
theorem zip_snd (vs : List Value) : (vs.zip vs).map (·.2) = vs := by
  induction vs with
  | nil => rfl
  | cons v r ih => rw [List.zip_cons_cons, List.map_cons, ih]
def rSortedT : List V → Hp → VK → Prop := fun vs H Q => ∃ d kvs, vs = [V.ref d] ∧ H d = some (.dT kvs) ∧ (∀ p ∈ kvs, ∃ a b : Int, p.1 = [Sum.inl a, Sum.inl b]) ∧
  ∀ (qs : List Addr) (ps : List (Int × Int)) (p : Addr), (ps.map fun z => [Sum.inl z.1, Sum.inl z.2]).Perm (kvs.map (·.1)) → ps.Pairwise lexLe → Paired (fun q z => H q = some (.tup [.int z.1, .int z.2])) qs ps → H p = none → Q (.ref p) (upd H p (.lst (qs.map V.ref)))
theorem cr_sortedT {X : Cx} (hc : X.calm = true) : CallR X (.builtin "sorted") rSortedT := by
  intro pins s σ H vs us Q I r h
  obtain ⟨d, kvs, rfl, hH, hint, q⟩ := h
  rw [Vals.ref1 r]
  obtain ⟨hz, hsys, xs, rel, o, es, ep, ho, hx, hod, he, his, hn⟩ := dt_of I.hok hH
  have lx : es.size = xs.length := size_of_entries he
  have lk : kvs.length = xs.length := Paired.length rel
  -- the keys of the entries
  have kall : ∀ v, ∀ i, keyAt es i v → ∃ (p : List Key × V) (b : Addr), kvs[i]? = some p ∧ v = .ref b ∧ H b = some (.tup (p.1.map kV)) := by
    rintro v i ⟨en, e1, rfl⟩
    have q1 := entry_at he i; rw [e1] at q1
    cases ex : xs[i]? with
    | none => rw [ex] at q1; cases q1
    | some y =>
      rw [ex] at q1; cases q1
      have hi : i < kvs.length := by rw [lk]; exact (List.getElem?_eq_some_iff.mp ex).1
      obtain ⟨b, hb, e2, e3, _⟩ := paired_get rel (List.getElem?_eq_getElem hi)
      rw [ex] at hb; cases hb
      exact ⟨_, _, List.getElem?_eq_getElem hi, rfl, e3⟩
  refine Calls.call_function_entry kind_sorted plain_sorted entry_sorted (args_sorted1 _) ?_
  unfold Builtin.«sorted»; refine wpAny_bind (m := checkCount "sorted" 1 1 _) (wpAny_pure ?_)
  refine wpAny_bind (PySem.W.kdu_collect (A := X.A.in1) (src_keysO hsys hx hod) (I.ok.hd hc) ho (by omega) fun h1 tk acc hk hacc => ?_)
  have la : acc.toList.length = es.size := by rw [Array.length_toList]; exact hacc.1
  have kacc : ∀ v ∈ acc.toList, PairAt H v := by
    intro v hv
    obtain ⟨i, hi, rfl⟩ := List.mem_iff_getElem.mp hv
    obtain ⟨p, b, e1, e2, e3⟩ := kall _ i (hacc.2 i _ (by rw [← Array.getElem?_toList]; exact List.getElem?_eq_getElem hi))
    obtain ⟨x, y, e4⟩ := hint p (List.mem_of_getElem? e1)
    rw [e4] at e3
    exact ⟨b, x, y, e2, e3⟩
  have krd : acc.toList.map (fun v => [Sum.inl (rdP H v).1, Sum.inl (rdP H v).2]) = kvs.map (·.1) := by
    apply List.ext_getElem
    · rw [List.length_map, List.length_map]; omega
    · intro i h1 h2
      rw [List.length_map] at h1 h2
      rw [List.getElem_map, List.getElem_map]
      obtain ⟨p, b, e1, e2, e3⟩ := kall _ i (hacc.2 i _ (by rw [← Array.getElem?_toList]; exact List.getElem?_eq_getElem h1))
      obtain ⟨x, y, e4⟩ := hint p (List.mem_of_getElem? e1)
      have e5 : kvs[i] = p := by rw [List.getElem?_eq_getElem h2] at e1; cases e1; rfl
      rw [e4] at e3
      have e6 : rdP H (acc.toList[i]) = (x, y) := by rw [e2]; simp only [rdP]; rw [e3]; rfl
      rw [e6, e5, e4]
  refine wpAny_bind (wpAny_newList ?_ (by omega))
  have hoL : (h1.push (seqObj "list" acc.toList.toArray 0)).get? h1.objs.size = some (seqObj "list" acc.toList.toArray 0) := Heap.get?_push_size _ rfl
  have hk2 : ∀ b u, s.heap.get? b = some u → (h1.push (seqObj "list" acc.toList.toArray 0)).get? b = some u := fun b u e => Heap.get?_push_of_some _ (hk b u e)
  obtain ⟨fs, hfs⟩ := tups_of I hk2 kacc
  refine wpAny_bind (wpAny_holding (wpAny_call_entry slot_list_sort ⟨_, hoL, rfl⟩ entry_list_sort (G.list_sort_tups (shape := noStr) hoL hfs (fun v hv => ⟨_, (pair_key I hk2 (kacc v hv)).1⟩) (by omega) fun st' a1 a2 a3 => ⟨_, rfl, wpAny_pure ⟨_, rfl, ?_⟩⟩) (args_list_sort _)))
  -- what comes out
  generalize hout : arrOf st' = arr at a1 a2 a3 ⊢
  have pl : arr.toList.Perm (acc.toList.zip acc.toList) := by have := a1.toList; rw [pairsOf_toList] at this; exact this
  have po : (arr.map (·.2)).toList.Perm acc.toList := by
    rw [Array.toList_map]; have := pl.map (·.2); rw [zip_snd] at this; exact this
  have ko : ∀ v ∈ (arr.map (·.2)).toList, PairAt H v := fun v hv => kacc v (po.mem_iff.mp hv)
  obtain ⟨e0, he'⟩ := sortedHeap_at (vs := acc.toList) (out := arr.map (·.2)) hoL
  have lo : (arr.map (·.2)).toList.length = acc.toList.length := po.length_eq
  have I1 : Inv X pins σ H { s with heap := h1, toks := tk } := I.kept hk
  have hold : ∀ b u, h1.get? b = some u → (sortedHeap (h1.push (seqObj "list" acc.toList.toArray 0)) h1.objs.size acc.toList (arr.map (·.2))).get? b = some u := fun b u e => by
    have hb : b < h1.objs.size := Heap.lt_size e
    rw [sortedHeap_old (Nat.ne_of_lt hb) (by rw [size_push']; exact Nat.lt_succ_of_lt hb)]; exact Heap.get?_push_of_some _ e
  have vout : ∀ {l : List Value}, (∀ v ∈ l, PairAt H v) → Vals ((l.map rdA).map V.ref) l := by
    intro l
    induction l with
    | nil => intro _; exact .nil
    | cons v t ih =>
      intro hl
      refine .cons ?_ (ih fun u hu => hl u (List.mem_cons_of_mem _ hu))
      have := (hl v List.mem_cons_self).eq.1
      exact this
  have pout : ∀ {l : List Value}, (∀ v ∈ l, PairAt H v) → Paired (fun q (z : Int × Int) => H q = some (.tup [.int z.1, .int z.2])) (l.map rdA) (l.map (rdP H)) := by
    intro l
    induction l with
    | nil => intro _; exact .nil
    | cons v t ih =>
      intro hl
      exact .cons (hl v List.mem_cons_self).eq.2 (ih fun u hu => hl u (List.mem_cons_of_mem _ hu))
  refine ⟨.ref h1.objs.size, upd H h1.objs.size (.lst (((arr.map (·.2)).toList.map rdA).map V.ref)), I1.laid (t' := tk) hold (Nat.le_refl _) ⟨?_, (arr.map (·.2)).toList, e0, vout ko, he'⟩, rfl, q _ ((arr.map (·.2)).toList.map (rdP H)) _ ?_ ?_ (pout ko) (I1.hok.fresh (Nat.le_refl _))⟩
  · rw [List.length_map, List.length_map, lo, la, lx, ← lk]; exact hz
  · rw [List.map_map, ← krd]; exact po.map _
  · rw [List.pairwise_iff_getElem]
    intro i j hi hj hij
    rw [List.length_map] at hi hj
    rw [List.getElem_map, List.getElem_map]
    have kk : ∀ i, (hi : i < (arr.map (·.2)).toList.length) → KK (G.tupKindC (h1.push (seqObj "list" acc.toList.toArray 0)) noStr) arr i = [Sum.inl (rdP H ((arr.map (·.2)).toList[i])).1, Sum.inl (rdP H ((arr.map (·.2)).toList[i])).2] := by
      intro i hi
      have ha : i < arr.size := by simpa using hi
      have hm : arr[i] ∈ (pairsOf acc.toList).toList := by rw [pairsOf_toList]; exact pl.mem_iff.mp (Array.getElem_mem_toList ha)
      obtain ⟨m1, m2⟩ := pairs_same hm
      have e3 : (arr.map (·.2)).toList[i] = arr[i].2 := by simp
      unfold KK; rw [Array.getElem?_eq_getElem ha, e3, ← m1]
      show (G.tupKeyC _ noStr arr[i].1).getD _ = _
      rw [(pair_key I hk2 (kacc _ m2)).1]; rfl
    have := a2 i j (Nat.le_of_lt hij) (by rw [pairsOf_size]; omega)
    rw [kk i hi, kk j hj] at this
    exact lexLe_of this
end L2

set_option linter.all false
set_option maxRecDepth 100000
namespace L2
open PySem PySem.Spec PyProof.Rows
theorem lri_nolen : typeLookup (.type "list_reverseiterator") "__len__" = pure none := by rw [typeLookup_type, builtinLookup_eq_fast]; kernel_rfl
theorem lri_hint : typeLookup (.type "list_reverseiterator") "__length_hint__" = pure (some (.builtin "list_reverseiterator.__length_hint__")) := by rw [typeLookup_type, builtinLookup_eq_fast]; kernel_rfl
theorem hint_rev {prog : Program} {w : World} {A : Around} {E : Value → Shared → Prop} {s : Shared} {r : Addr} {Q : Bool → Shared → Prop} (hT : s.TypeIs (.ref r) "list_reverseiterator") (h : Q false s) : wpAny (model prog w) A (Builtin.List.listLengthHint (.ref r)) Q E s := by
  unfold Builtin.List.listLengthHint; refine wpAny_bind (wpAny_specialOf hT lri_nolen ?_)
  show wpAny _ _ (specialOf (Value.ref r) (Str.ofString "__length_hint__") >>= _) _ _ _
  refine wpAny_bind (wpAny_specialOf hT lri_hint ?_)
  generalize hid : ("list_reverseiterator.__length_hint__" : String) = id0; (fail_if_success (clear hid id0)); wp_delta; rw [show splitId id0 = some ("list_reverseiterator", "__length_hint__") from by subst hid; decide +kernel]; subst hid
  refine wpAny_bind (wpAny_isInstance (b := true) hT (by rw [isSubtype_type]; kernel_rfl) ?_)
  exact wpAny_pure h
def tListRev (K : PySem.W.Frag) (ta : TA) : TE := fun σ H Q => ta σ H fun vs H1 => ∃ a xs, vs = [.ref a] ∧ SqL K H1 a xs ∧ ∀ D, H1 D = none → Q (.ref D) (upd H1 D (.lst xs.reverse))
theorem vals_rev {xs : List V} {its acc : List Value} (r : Vals xs its) (hl : acc.length = its.length) (h : ∀ j v, acc[j]? = some v → its[its.length - 1 - j]? = some v) : Vals xs.reverse acc := by
  have e : acc = its.reverse := by
    apply List.ext_getElem
    · rw [List.length_reverse, hl]
    · intro i h1 h2
      have q := h i _ (List.getElem?_eq_getElem h1)
      rw [List.getElem_reverse]
      obtain ⟨hlt, e⟩ := List.getElem?_eq_some_iff.mp q
      rw [← e]
  rw [e]; exact r.reverse
theorem pe_listRev {X : Cx} {e : Expr} {ta : TA} {p p2 pos pos2 : Pos} (hcl : X.calm = true) (hg : Gl X "list") (hm : X.mg "list" = none) (hg2 : Gl X "reversed") (hm2 : X.mg "reversed" = none) (ha : PA X [e] ta)
    (hs : starEach [e] X.env = [(false, eval e X.env)] := by rfl)
    (hs2 : starEach [Expr.Call (.Name "reversed" p2) [e] [] pos2] X.env = [(false, eval (.Call (.Name "reversed" p2) [e] [] pos2) X.env)] := by rfl) :
    PE X (.Call (.Name "list" p) [.Call (.Name "reversed" p2) [e] [] pos2] [] pos) (tListRev X.K ta) := by
  intro pins s σ H Q I h
  refine wpAny_Call_Name_kw (ld_blt I hg hm boot_list5 (PyProof.Rows.callWith_type1 ?_ hs2 rfl))
  rw [hs2]; show wpAny _ _ (spliced ((false, eval (.Call (.Name "reversed" p2) [e] [] pos2) X.env) :: [])) _ _ s
  refine Calls.spliced_cons (wpAny_Call_Name_kw (ld_blt I hg2 hm2 boot_reversed5 (PyProof.Rows.callWith_type1 (thn (ha pos2 pins s σ H _ I h) fun us s1 ⟨vs, H1, I1, r1, q1⟩ => ?_) hs rfl)))
  obtain ⟨a, xs, rfl, hq, q⟩ := q1
  rw [Vals.ref1 r1]
  obtain ⟨its, rv, p1, hz⟩ := I1.list hq
  have hl := rv.length
  have la : a < s1.heap.objs.size := p1.lt
  refine call_reversed_list p1.isList (Calls.spliced_nil ?_)
  generalize hr0 : revObj a ((its.toArray.size : Int) - 1) = ro
  have hit : (s1.heap.push ro).IsRevIter s1.heap.objs.size a ((its.toArray.size : Int) - 1 - ((0 : Nat) : Int)) := by
    subst hr0
    refine ⟨_, Heap.get?_push_size _ rfl, rfl, ?_⟩
    simp [revObj]
  have I2 : Inv X pins σ H1 { s1 with heap := s1.heap.push ro } := I1.kept (t' := s1.toks) fun b u x => Heap.get?_push_of_some _ x
  have hsz : (s1.heap.push ro).objs.size = s1.heap.objs.size + 1 := size_push' _ _
  have hL : (s1.heap.push ro).IsList a its.toArray := p1.isList.at fun o x => Heap.get?_push_of_some _ x
  generalize hh1 : s1.heap.push ro = h1 at *
  show wpAny _ _ (call (.type "list") [.ref s1.heap.objs.size]) _ _ { s1 with heap := h1 }
  refine callType_codes (Q₁ := fun obj s₁ => obj = .ref h1.objs.size ∧ s₁ = { s1 with heap := h1.push { cls := .type "list", data := .seq #[] } }) PySem.F.called_list (PySem.F.typeCall_list_1 _) PySem.F.entry_list_init (code_list_new _ ⟨rfl, rfl⟩) fun obj s₁ hx => ?_
  obtain ⟨rfl, rfl⟩ := hx
  have hS : (h1.push { cls := .type "list", data := .seq #[] }).get? h1.objs.size = some { cls := .type "list", data := .seq #[] } := Heap.get?_push_size _ rfl
  have hS1 : H1 h1.objs.size = none := I2.hok.fresh (Nat.le_refl _)
  refine ⟨⟨_, hS, rfl⟩, PySem.F.args_list_init_2 _ _, ?_⟩
  show wpAny _ _ (do let old ← Builtin.List.listItems (.ref h1.objs.size); Builtin.List.listUpdate (.ref h1.objs.size) (fun _ => #[]); letGo old.toList.reverse; Builtin.List.listExtendWith (.ref h1.objs.size) (.ref s1.heap.objs.size) .none) _ _ _
  refine wpAny_bind ?_; unfold Builtin.List.listItems; refine wpAny_bind (wpAny_seqItems hS rfl (wpAny_pure ?_))
  show wpAny _ _ (updateSeq h1.objs.size (fun _ => #[]) >>= fun _ => letGo (#[] : Array Value).toList.reverse >>= fun _ => Builtin.List.listExtendWith (.ref h1.objs.size) (.ref s1.heap.objs.size) .none) _ _ _
  refine wpAny_bind (wpAny_updateSeq hS rfl (wpAny_bind (wpAny_letGo ?_)))
  have hS₂ := Heap.get?_update_self (Obj.mapSeq (fun _ => (#[] : Array Value))) hS rfl
  have oth : ∀ b o, h1.get? b = some o → ((h1.push { cls := .type "list", data := .seq #[] }).update h1.objs.size (Obj.mapSeq (fun _ => (#[] : Array Value)))).get? b = some o := fun b o x =>
    (Heap.get?_update_other _ _ (Nat.ne_of_gt (Heap.lt_size x))).trans (Heap.get?_push_of_some _ x)
  generalize hh2 : (h1.push { cls := .type "list", data := .seq #[] }).update h1.objs.size (Obj.mapSeq (fun _ => (#[] : Array Value))) = hp2 at hS₂ oth
  have hit2 := hit.at fun o x => oth _ o x
  unfold Builtin.List.listExtendWith; refine wpAny_bind (wpAny_typeOf (T := "list_reverseiterator") hit2.typeIs ?_)
  have hSI : h1.objs.size ≠ s1.heap.objs.size := by rw [hsz]; exact Nat.succ_ne_self _
  have k1 : Builtin.List.listSameRef (.ref h1.objs.size) (.ref s1.heap.objs.size) = false := by simp [Builtin.List.listSameRef, hSI]
  rw [if_neg (by rw [k1]; decide)]
  refine wpAny_bind (wpAny_pyIter_revIter hit2 (wpAny_bind (wpAny_holding (hint_rev hit2.typeIs ?_))))
  rw [if_neg (by decide)]
  have hne : a ≠ s1.heap.objs.size := Nat.ne_of_lt la
  have hna : h1.objs.size ≠ a := by rw [hsz]; exact Nat.ne_of_gt (Nat.lt_succ_of_lt la)
  refine wpAny_pure ⟨plainId_quiet PySem.F.plain_extend_loop _, codeAny_extend_loopS (Walks.listRev (A := X.A.in1.in1) (I.ok.hd hcl) s1.heap.objs.size a hne its.toArray).toS ?_ h1.objs.size ?_ .none its.toArray.size 0 _ #[] _ rfl (Nat.zero_le _) ⟨Nat.zero_le _, hit2, hL.at fun o x => oth _ o x⟩ hS₂ (ItemsOf.nil _) fun s' acc' c' hm hS' hacc => ?_⟩
  · simp only [List.size_toArray]; omega
  · intro hmem
    have : h1.objs.size = s1.heap.objs.size ∨ h1.objs.size = a := by simpa using hmem
    rcases this with z | z
    · exact hSI z
    · exact hna z
  · rw [Moved.eq_with hm]
    refine ⟨rfl, .ref h1.objs.size, upd H1 h1.objs.size (.lst xs.reverse), ?_, rfl, q _ hS1⟩
    have lt : ∀ b u, s1.heap.get? b = some u → s'.heap.get? b = some u := fun b u x => by
      have hb := Heap.lt_size x
      refine hm.heap b u (fun hmem => ?_) (oth b u (by rw [← hh1]; exact Heap.get?_push_of_some _ x))
      have : b = h1.objs.size ∨ b = s1.heap.objs.size := by simpa using hmem
      rcases this with z | z
      · rw [hsz] at z; exact absurd hb (by rw [z]; exact Nat.not_lt_of_le (Nat.le_succ _))
      · exact absurd hb (by rw [z]; exact Nat.lt_irrefl _)
    refine I1.laid (t' := s'.toks) lt (by rw [hsz]; exact Nat.le_succ _) ⟨by rw [List.length_reverse]; exact hz, acc'.toList, c', vals_rev rv ?_ ?_, by rw [Array.toArray_toList]; exact hS'⟩
    · rw [Array.length_toList, hacc.1]; simp
    · intro j v hv
      have := hacc.2 j v (by rw [← Array.getElem?_toList]; exact hv)
      simpa using this
end L2

namespace M
open Sh25
theorem num_iff {b : Nat} (hb : b < 2 ^ 64) : isNum b = true ↔ (b / 2 ^ 52) % 2048 ≠ 2047 := by
  unfold isNum SIGN INF
  rw [Bool.and_eq_true, decide_eq_true_eq, decide_eq_true_eq]
  omega
def szI (b : Nat) : Int := if 0 < b / 2 ^ 52 % 2048 then (((b % 2 ^ 52 : Nat) : Int) + 4503599627370496) * 2 ^ (b / 2 ^ 52 % 2048 - 1) else ((b % 2 ^ 52 : Nat) : Int)
theorem val_eq {b : Nat} (hb : b < 2 ^ 64) : val b = if b / 2 ^ 63 = 1 then -(szI b) else szI b := by
  unfold val SIGN
  have un : ∀ r : Nat, r < 2 ^ 63 → r % 2 ^ 52 = b % 2 ^ 52 → r / 2 ^ 52 = (b / 2 ^ 52) % 2048 → (units r : Int) = szI b := by
    intro r h0 h1 h2
    unfold units szI
    by_cases c : r < 2 ^ 52
    · rw [if_pos c, if_neg (by omega)]; omega
    · rw [if_neg c, if_pos (by omega), h1, h2, Nat.add_comm, Int.natCast_mul, Int.natCast_add, Int.natCast_pow]
      rfl
  by_cases c : b < 2 ^ 63
  · rw [if_pos c, if_neg (by omega), un b c rfl (by omega)]
  · rw [if_neg c, if_pos (by omega), un (b - 2 ^ 63) (by omega) (by omega) (by omega)]
end M

namespace M
open Sh25
theorem at_get {l : Vec} {i : Nat} {z : Int} (h : l[i]? = some z) : at_ l i = z := by
  unfold at_
  rw [List.getD_eq_getElem?_getD, h]; rfl
theorem sub_zip {a b : List Int} (h : a.length = b.length) : sub b a = List.zipWith (fun x y => y - x) a b := by
  refine List.ext_getElem? fun i => ?_
  unfold sub
  rw [List.getElem?_map, List.getElem?_zipWith]
  by_cases hi : i < b.length
  · rw [List.getElem?_range hi, List.getElem?_eq_getElem hi, List.getElem?_eq_getElem (by omega : i < a.length)]
    show some (at_ b i - at_ a i) = some _
    rw [at_get (List.getElem?_eq_getElem hi), at_get (List.getElem?_eq_getElem (by omega : i < a.length))]
  · rw [List.getElem?_eq_none (by simpa using hi), List.getElem?_eq_none (by omega : b.length ≤ i)]
    cases a[i]? <;> rfl
theorem sub_length (a b : Vec) : (sub a b).length = a.length := by unfold sub; rw [List.length_map, List.length_range]
def LB (B : Nat) (l : List Int) : Prop := ∀ z ∈ l, z.natAbs < 2 ^ B
theorem at_lb {B : Nat} {l : List Int} (h : LB B l) (i : Nat) : (at_ l i).natAbs < 2 ^ B := by
  unfold at_
  rw [List.getD_eq_getElem?_getD]
  cases e : l[i]? with
  | none => simp; exact Nat.two_pow_pos B
  | some z => exact h z (List.mem_of_getElem? e)
theorem lb_sub {B : Nat} {a b : List Int} (ha : LB B a) (hb : LB B b) : LB (B + 1) (sub a b) := by
  intro z hz
  unfold sub at hz
  obtain ⟨i, _, rfl⟩ := List.mem_map.mp hz
  have h1 := at_lb ha i
  have h2 := at_lb hb i
  rw [Nat.pow_succ]
  omega
theorem sum_bound {α : Type} {f : α → Int} {m : Nat} : ∀ {l : List α}, (∀ x ∈ l, (f x).natAbs ≤ m) → (l.map f).sum.natAbs ≤ l.length * m
  | [], _ => by simp
  | x :: r, h => by
    have h1 := h x List.mem_cons_self
    have h2 := sum_bound (l := r) fun y hy => h y (List.mem_cons_of_mem _ hy)
    rw [List.map_cons, List.sum_cons, List.length_cons, Nat.succ_mul]
    omega
theorem lb_minor {B : Nat} {m : List Vec} (h : ∀ r ∈ m, LB B r) (j : Nat) : ∀ r ∈ minor m j, LB B r := by
  intro r hr z hz
  unfold minor at hr
  obtain ⟨r', h1, rfl⟩ := List.mem_map.mp hr
  exact h r' h1 z (List.mem_of_mem_eraseIdx hz)
theorem det_bound {B : Nat} : ∀ {n : Nat} {m : List Vec}, n ≤ 7 → (∀ r ∈ m, LB B r) → (det n m).natAbs < 2 ^ (n * (B + 3) + 1)
  | 0, m, _, _ => by unfold det; rw [Nat.zero_mul]; decide
  | n + 1, [], _, _ => by unfold det; simp; exact Nat.two_pow_pos _
  | n + 1, r :: q, hn, h => by
    unfold det
    have hr := h r List.mem_cons_self
    have hq := fun j => lb_minor (fun r hr => h r (List.mem_cons_of_mem _ hr)) (m := q) j
    have key : ∀ j ∈ List.range (n + 1), ((if j % 2 = 0 then (1 : Int) else -1) * at_ r j * det n (minor q j)).natAbs ≤ 2 ^ B * 2 ^ (n * (B + 3) + 1) := by
      intro j _
      rw [Int.natAbs_mul, Int.natAbs_mul]
      have e : (if j % 2 = 0 then (1 : Int) else -1).natAbs = 1 := by split <;> rfl
      rw [e, Nat.one_mul]
      exact Nat.mul_le_mul (Nat.le_of_lt (at_lb hr j)) (Nat.le_of_lt (det_bound (by omega) (hq j)))
    have := sum_bound key
    rw [List.length_range] at this
    refine Nat.lt_of_le_of_lt this ?_
    have e1 : (n + 1) * (B + 3) + 1 = 3 + B + (n * (B + 3) + 1) := by rw [Nat.succ_mul]; omega
    have e2 : 2 ^ (3 + B + (n * (B + 3) + 1)) = 8 * (2 ^ B * 2 ^ (n * (B + 3) + 1)) := by
      rw [Nat.pow_add 2 (3 + B), Nat.pow_add 2 3, Nat.mul_assoc]
    rw [e1, e2]
    have p : 0 < 2 ^ B * 2 ^ (n * (B + 3) + 1) := Nat.mul_pos (Nat.two_pow_pos _) (Nat.two_pow_pos _)
    exact Nat.mul_lt_mul_of_pos_right (by omega) p
theorem units_lt {r : Nat} (h : r < INF) : units r < 2 ^ 2098 := by
  unfold units
  unfold INF at h
  split
  · rename_i c
    exact Nat.lt_of_lt_of_le c (Nat.pow_le_pow_right (by decide) (by decide))
  · have h1 : 2 ^ 52 + r % 2 ^ 52 < 2 ^ 53 := by omega
    have h2 : 2 ^ (r / 2 ^ 52 - 1) ≤ 2 ^ 2045 := Nat.pow_le_pow_right (by decide) (by omega)
    calc (2 ^ 52 + r % 2 ^ 52) * 2 ^ (r / 2 ^ 52 - 1) < 2 ^ 53 * 2 ^ (r / 2 ^ 52 - 1) := Nat.mul_lt_mul_of_pos_right h1 (Nat.two_pow_pos _)
      _ ≤ 2 ^ 53 * 2 ^ 2045 := Nat.mul_le_mul_left _ h2
      _ = 2 ^ 2098 := by rw [← Nat.pow_add]
theorem val_lt {b : Nat} (h : isNum b = true) : (val b).natAbs < 2 ^ 2098 := by
  unfold isNum at h
  rw [Bool.and_eq_true, decide_eq_true_eq, decide_eq_true_eq] at h
  unfold val
  split
  · rename_i c
    rw [Int.natAbs_natCast]
    exact units_lt (by rw [Nat.mod_eq_of_lt c] at h; exact h.2)
  · rename_i c
    rw [Int.natAbs_neg, Int.natAbs_natCast]
    refine units_lt ?_
    have : b % SIGN = b - SIGN := by unfold SIGN at *; omega
    rw [← this]; exact h.2
theorem lb_ex {l : List Nat} (h : ∀ b ∈ l, isNum b = true) : LB 2098 (ex l) := by
  intro z hz
  unfold ex at hz
  obtain ⟨b, hb, rfl⟩ := List.mem_map.mp hz
  exact val_lt (h b hb)
end M

namespace M
open PySem L2
def inW (a : List Int) : Prop := (∀ z ∈ a, 0 ≤ z ∧ z ≤ 18446744073709551615) ∧ a.length ≤ 12500
theorem ints_nats {a : List Int} (h : inW a) : Sh25.ints (Sh25Neutral.nats a) = a := by
  unfold Sh25.ints Sh25Neutral.nats
  rw [List.map_map]
  conv => rhs; rw [← List.map_id a]
  refine List.map_congr_left fun z hz => ?_
  have := (h.1 z hz).1
  show ((z.toNat : Nat) : Int) = z
  omega
theorem nats_lt {a : List Int} (h : inW a) : ∀ b ∈ Sh25Neutral.nats a, b < 2 ^ 64 := fun b hb => by
  unfold Sh25Neutral.nats at hb
  obtain ⟨z, hz, rfl⟩ := List.mem_map.mp hb
  have := h.1 z hz
  omega
theorem nats_len {a : List Int} (h : inW a) : (Sh25Neutral.nats a).length ≤ 100000 := by
  unfold Sh25Neutral.nats
  rw [List.length_map]
  have := h.2
  omega
def ansOf (x : Sh25.Ans) : List Int := if x.v < 0 then [x.v] else x.v :: x.l
theorem pt_lb {k : Nat} {l : List Nat} (h : Sh25.pt k l = true) : (Sh25.ex l).length = k ∧ LB 2098 (Sh25.ex l) := by
  unfold Sh25.pt at h
  rw [Bool.and_eq_true, beq_iff_eq, List.all_eq_true] at h
  exact ⟨by unfold Sh25.ex; rw [List.length_map]; exact h.1, lb_ex h.2⟩
theorem inW_of {least most : Nat} {a : List Int} (h : PySem.W.Codec.within (.list least most (.int 0 18446744073709551615)) a = true) (hm : most ≤ 12500) : inW a ∧ a.length ≤ sizeLine := by
  have h1 := PySem.W.Codec.and_of (show (PySem.W.Codec.inLen least most a && a.all (PySem.W.Codec.inInt 0 18446744073709551615)) = true from h)
  have h2 := PySem.W.Codec.inNat_iff.mp h1.1
  refine ⟨⟨fun z hz => PySem.W.Codec.inInt_iff.mp (List.all_eq_true.mp h1.2 z hz), by omega⟩, Nat.le_trans (by omega : a.length ≤ 12500) (by decide)⟩
theorem keepLI {K : PySem.W.Frag} {H H1 : Hp} {Pt : Addr} (hP : H Pt = some (.tbl #[])) (k1 : ∀ b o, b ≠ Pt → H b = some o → H1 b = some o) {v : V} {l : List Int} (h : LI K H v l) : LI K H1 v l := by
  obtain ⟨x, e, q⟩ := h
  refine ⟨x, e, ?_⟩
  rcases q with (q | ⟨o, q⟩) | q
  · exact .inl (.inl (k1 _ _ (fun z => by rw [z, hP] at q; cases q) q))
  · exact .inl (.inr ⟨o, k1 _ _ (fun z => by rw [z, hP] at q; cases q) q⟩)
  · exact .inr q
theorem dot_bound {B : Nat} {a b : List Int} (ha : LB B a) (hb : LB B b) (hl : a.length ≤ 7) : (Sh25.dot a b).natAbs < 2 ^ (2 * B + 3) := by
  unfold Sh25.dot
  have key : ∀ i ∈ List.range a.length, (Sh25.at_ a i * Sh25.at_ b i).natAbs ≤ 2 ^ B * 2 ^ B := fun i _ => by
    rw [Int.natAbs_mul]
    exact Nat.mul_le_mul (Nat.le_of_lt (at_lb ha i)) (Nat.le_of_lt (at_lb hb i))
  have := sum_bound key
  rw [List.length_range] at this
  refine Nat.lt_of_le_of_lt this ?_
  have e : 2 ^ (2 * B + 3) = 8 * (2 ^ B * 2 ^ B) := by
    rw [Nat.pow_add, Nat.mul_comm 2 B, Nat.pow_mul, Nat.pow_two, Nat.mul_comm]
  rw [e]
  exact Nat.mul_lt_mul_of_pos_right (by omega) (Nat.mul_pos (Nat.two_pow_pos _) (Nat.two_pow_pos _))
theorem far_sym (a b : List Int) (h : a.length = b.length) : Sh25.dot (Sh25.sub b a) (Sh25.sub b a) = Sh25.far a b := by
  unfold Sh25.far Sh25.dot
  rw [sub_length, sub_length, h]
  congr 1
  refine List.map_congr_left fun i hi => ?_
  have hi : i < b.length := List.mem_range.mp hi
  have e1 : Sh25.at_ (Sh25.sub b a) i = Sh25.at_ b i - Sh25.at_ a i := at_get (by unfold Sh25.sub; rw [List.getElem?_map, List.getElem?_range hi]; rfl)
  have e2 : Sh25.at_ (Sh25.sub a b) i = Sh25.at_ a i - Sh25.at_ b i := at_get (by unfold Sh25.sub; rw [List.getElem?_map, List.getElem?_range (by omega)]; rfl)
  rw [e1, e2, show Sh25.at_ a i - Sh25.at_ b i = -(Sh25.at_ b i - Sh25.at_ a i) by omega, Int.neg_mul_neg]
end M

set_option linter.all false
namespace M
open PySem L2
section
variable {a b c d : List Int} (la : a.length = 2) (lb : b.length = 2) (lc : c.length = 2) (ld : d.length = 2)
include la lb lc ld
end
end M

set_option linter.all false
namespace M
open Sh25
def bitsN (n : Nat) : Nat := if n = 0 then 0 else n.log2 + 1
theorem bits_le {n k : Nat} : bitsN n ≤ k ↔ n < 2 ^ k := by
  unfold bitsN
  by_cases h : n = 0
  · subst h; simp [Nat.two_pow_pos]
  · rw [if_neg h, Nat.succ_le_iff, Nat.log2_lt h]
theorem lt_bits {n k : Nat} : k < bitsN n ↔ 2 ^ k ≤ n := by
  have := @bits_le n k; omega
theorem bits_eq {n k : Nat} (h1 : 2 ^ k ≤ n) (h2 : n < 2 ^ (k + 1)) : bitsN n = k + 1 := by
  have a := lt_bits.mpr h1
  have b := bits_le.mpr h2
  omega
theorem last_bits (q : Nat) : last q = bitsN q - 53 := by
  unfold last
  split
  · rename_i h
    have := bits_le.mpr h; omega
  · rename_i h
    unfold bitsN
    split
    · omega
    · omega
def RDn (N D z : Int) : Prop := z * D ≤ N ∧ N < z * D + D
def RUp (N D z : Int) : Prop := N ≤ z * D ∧ z * D < N + D
def RNr (N D z : Int) : Prop := 2 * N ≤ 2 * (z * D) + D ∧ 2 * (z * D) ≤ 2 * N + D ∧ ((2 * N = 2 * (z * D) + D ∨ 2 * (z * D) = 2 * N + D) → z % 2 = 0)
def Rel (way : Nat) (N D z : Int) : Prop := if way = 0 then RNr N D z else if way = 1 then RDn N D z else if way = 2 then RUp N D z else if N < 0 then RUp N D z else RDn N D z
theorem step_mul {z y D : Int} (h : 0 < D) (c : z < y) : z * D + D ≤ y * D := by
  have := Int.mul_le_mul_of_nonneg_right (show z + 1 ≤ y from c) (Int.le_of_lt h)
  rw [Int.add_mul, Int.one_mul] at this; exact this
theorem RDn.uniq {N D z y : Int} (h : 0 < D) (a : RDn N D z) (b : RDn N D y) : z = y := by
  unfold RDn at *
  rcases Int.lt_trichotomy z y with c | c | c
  · have := step_mul h c; omega
  · exact c
  · have := step_mul h c; omega
theorem RUp.uniq {N D z y : Int} (h : 0 < D) (a : RUp N D z) (b : RUp N D y) : z = y := by
  unfold RUp at *
  rcases Int.lt_trichotomy z y with c | c | c
  · have := step_mul h c; omega
  · exact c
  · have := step_mul h c; omega
theorem RNr.uniq1 {N D z y : Int} (h : 0 < D) (a : RNr N D z) (b : RNr N D y) (c : z < y) : False := by
  unfold RNr at *
  have := step_mul h c
  have e1 : z % 2 = 0 := a.2.2 (by omega)
  have e2 : y % 2 = 0 := b.2.2 (by omega)
  have := step_mul h (show z + 1 < y by omega)
  rw [Int.add_mul] at this
  omega
theorem RNr.uniq {N D z y : Int} (h : 0 < D) (a : RNr N D z) (b : RNr N D y) : z = y := by
  rcases Int.lt_trichotomy z y with c | c | c
  · exact (a.uniq1 h b c).elim
  · exact c
  · exact (b.uniq1 h a c).elim
theorem Rel.uniq {way : Nat} {N D z y : Int} (h : 0 < D) (a : Rel way N D z) (b : Rel way N D y) : z = y := by
  unfold Rel at *
  split at a
  · rw [if_pos (by assumption)] at b; exact a.uniq h b
  · rw [if_neg (by assumption)] at b
    split at a
    · rw [if_pos (by assumption)] at b; exact a.uniq h b
    · rw [if_neg (by assumption)] at b
      split at a
      · rw [if_pos (by assumption)] at b; exact a.uniq h b
      · rw [if_neg (by assumption)] at b
        split at a
        · rw [if_pos (by assumption)] at b; exact a.uniq h b
        · rw [if_neg (by assumption)] at b; exact a.uniq h b
theorem Rel.scale {way : Nat} {N D z c : Int} (hc : 0 < c) (a : Rel way N D z) : Rel way (N * c) (D * c) z := by
  have hl : ∀ {x y : Int}, x ≤ y → x * c ≤ y * c := fun h => Int.mul_le_mul_of_nonneg_right h (Int.le_of_lt hc)
  have hs : ∀ {x y : Int}, x < y → x * c < y * c := fun h => Int.mul_lt_mul_of_pos_right h hc
  have hi : ∀ {x y : Int}, x * c = y * c → x = y := fun h => Int.eq_of_mul_eq_mul_right (Int.ne_of_gt hc) h
  have sg : (N * c < 0) ↔ (N < 0) := ⟨fun h => by
      rcases Int.lt_or_le N 0 with z | z
      · exact z
      · have := Int.mul_nonneg z (Int.le_of_lt hc); omega, fun h => by have := hs h; omega⟩
  have e : z * (D * c) = z * D * c := (Int.mul_assoc _ _ _).symm
  have dn : RDn N D z → RDn (N * c) (D * c) z := fun h => by
    unfold RDn at *
    rw [e, ← Int.add_mul]; exact ⟨hl h.1, hs h.2⟩
  have up : RUp N D z → RUp (N * c) (D * c) z := fun h => by
    unfold RUp at *
    rw [e, ← Int.add_mul]; exact ⟨hl h.1, hs h.2⟩
  have nr : RNr N D z → RNr (N * c) (D * c) z := fun h => by
    unfold RNr at *
    have f1 : 2 * (N * c) = 2 * N * c := (Int.mul_assoc _ _ _).symm
    have f2 : 2 * (z * D * c) = 2 * (z * D) * c := (Int.mul_assoc _ _ _).symm
    rw [e, f1, f2, ← Int.add_mul, ← Int.add_mul]
    exact ⟨hl h.1, hl h.2.1, fun q => h.2.2 (q.imp hi hi)⟩
  unfold Rel at *
  simp only [sg]
  repeat' split
  all_goals simp_all
theorem wholeOf_rel (way : Nat) (N : Int) {D : Nat} (h : 0 < D) : Rel way N D (wholeOf way N D) := by
  have hm := Nat.div_add_mod N.natAbs D
  have hr := Nat.mod_lt N.natAbs h
  unfold wholeOf
  generalize N.natAbs / D = q at *
  generalize N.natAbs % D = r at *
  have hz : ((D * q + r : Nat) : Int) = (N.natAbs : Nat) := by rw [hm]
  rw [Int.natCast_add, Int.natCast_mul, Int.mul_comm] at hz
  have a1 : (((q + 1 : Nat) : Int)) * D = (q : Int) * D + D := by rw [Int.natCast_add, Int.add_mul]; simp
  have a2 : (((q + q % 2 : Nat) : Int)) * D = (q : Int) * D + ((q % 2 : Nat) : Int) * D := by rw [Int.natCast_add, Int.add_mul]
  have a3 : q % 2 = 0 ∨ q % 2 = 1 := by omega
  have a4 : ((q % 2 : Nat) : Int) * D = if q % 2 = 0 then 0 else D := by
    rcases a3 with e | e <;> rw [e] <;> simp
  rw [a4] at a2
  by_cases c : N < 0
  · have hn : (N.natAbs : Int) = -N := by omega
    simp only [c, decide_true, if_true]
    unfold cut Rel RNr RDn RUp
    simp only [c, if_true, true_and, Bool.true_eq_false, false_and, if_false, Int.neg_mul]
    generalize hP : (q : Int) * D = P at *
    repeat' split
    all_goals (try rw [a1]); (try rw [a2]); (try rw [hP]); (try split); all_goals omega
  · have hn : (N.natAbs : Int) = N := by omega
    simp only [c, decide_false, if_false]
    unfold cut Rel RNr RDn RUp
    simp only [c, if_false, true_and, Bool.false_eq_true, false_and]
    generalize hP : (q : Int) * D = P at *
    repeat' split
    all_goals (try rw [a1]); (try rw [a2]); (try rw [hP]); (try split); all_goals omega
end M

set_option linter.all false
namespace M
open Sh25
def tnN (v p : Int) : Int := v * 2 ^ (1074 - p).toNat
def tnD (p : Int) : Nat := 2 ^ (p - 1074).toNat
def tn (way : Nat) (v p : Int) : Option Nat := toNum way (tnN v p) (tnD p)
theorem units_s {c E : Nat} (h : c ≤ 2 ^ 53) (h2 : E = 0 ∨ 2 ^ 52 ≤ c) : units (E * 2 ^ 52 + c) = c * 2 ^ E := by
  unfold units
  by_cases c1 : E * 2 ^ 52 + c < 2 ^ 52
  · rw [if_pos c1]
    have : E = 0 := by omega
    subst this; simp
  · rw [if_neg c1]
    by_cases c2 : c = 2 ^ 53
    · have e1 : (E * 2 ^ 52 + c) % 2 ^ 52 = 0 := by omega
      have e2 : (E * 2 ^ 52 + c) / 2 ^ 52 = E + 2 := by omega
      rw [e1, e2, c2, show E + 2 - 1 = E + 1 by omega, Nat.pow_succ 2 E]
      omega
    · have e1 : (E * 2 ^ 52 + c) % 2 ^ 52 = c - 2 ^ 52 := by omega
      have e2 : (E * 2 ^ 52 + c) / 2 ^ 52 = E + 1 := by omega
      rw [e1, e2, show 2 ^ 52 + (c - 2 ^ 52) = c by omega, Nat.add_sub_cancel]
theorem cut_le {way : Nat} {neg : Bool} {q r d : Nat} : q ≤ cut way neg q r d ∧ cut way neg q r d ≤ q + 1 := by
  unfold cut
  repeat' split
  all_goals omega
theorem cut_zero {way : Nat} {neg : Bool} {q d : Nat} (h : 0 < d) : cut way neg q 0 d = q := by
  unfold cut
  repeat' split
  all_goals omega
theorem cut_bnd {way : Nat} {neg : Bool} {n D : Nat} (hD : 0 < D) : let e := last (n / D)
    cut way neg (n / (D * 2 ^ e)) (n % (D * 2 ^ e)) (D * 2 ^ e) ≤ 2 ^ 53 ∧ (e = 0 ∨ 2 ^ 52 ≤ n / (D * 2 ^ e)) ∧ n / (D * 2 ^ e) < 2 ^ 53 := by
  intro e
  have he : e = bitsN (n / D) - 53 := last_bits _
  have hb : n / D < 2 ^ (53 + e) := bits_le.mp (by omega)
  have h1 : n / (D * 2 ^ e) < 2 ^ 53 := by
    rw [← Nat.div_div_eq_div_mul, Nat.div_lt_iff_lt_mul (Nat.two_pow_pos _), ← Nat.pow_add]; exact hb
  have h2 : e = 0 ∨ 2 ^ 52 ≤ n / (D * 2 ^ e) := by
    by_cases c : e = 0
    · exact .inl c
    · refine .inr ?_
      rw [← Nat.div_div_eq_div_mul, Nat.le_div_iff_mul_le (Nat.two_pow_pos _), ← Nat.pow_add]
      exact lt_bits.mp (by omega)
  have := @cut_le way neg (n / (D * 2 ^ e)) (n % (D * 2 ^ e)) (D * 2 ^ e)
  exact ⟨by omega, h2, h1⟩
theorem val_signed {neg : Bool} {s : Nat} (h : s < INF) : val (signed neg s) = if neg = true then -(units s : Int) else units s := by
  unfold val signed SIGN
  unfold INF at h
  have u0 : units 0 = 0 := by unfold units; simp
  cases neg with
  | false => simp only [Bool.false_eq_true, false_and, if_false]; rw [if_pos (by omega)]
  | true =>
    simp only [true_and, if_true]
    by_cases c : s = 0
    · subst c; simp [u0]
    · rw [if_pos c, if_neg (by omega), show 2 ^ 63 + s - 2 ^ 63 = s by omega]
theorem signed_num {neg : Bool} {s : Nat} (h : s < INF) : isNum (signed neg s) = true ∧ signed neg s ≠ SIGN := by
  unfold isNum signed SIGN
  unfold INF at *
  simp only [Bool.and_eq_true, decide_eq_true_eq]
  split <;> omega
theorem max_inf {n D : Nat} {way : Nat} {neg : Bool} (hD : 0 < D) (hw : way ≠ 0) (h : n ≤ MAX * D) : size way neg n D < INF := by
  unfold size
  obtain ⟨b1, b2, b3⟩ := @cut_bnd way neg n D hD
  generalize he : last (n / D) = e at *
  have hq : n / D ≤ MAX := by
    have := Nat.div_le_div_right (c := D) h
    rw [Nat.mul_div_cancel _ hD] at this
    exact this
  have hE : e ≤ 2045 := by
    rw [last_bits] at he
    have : bitsN (n / D) ≤ 2098 := bits_le.mpr (Nat.lt_of_le_of_lt hq (by unfold MAX; decide +kernel))
    omega
  unfold INF
  show e * 2 ^ 52 + _ < _
  by_cases c : e = 2045
  · subst c
    have hm : n ≤ (2 ^ 53 - 1) * (D * 2 ^ 2045) := by
      unfold MAX at h
      rw [Nat.mul_comm D, ← Nat.mul_assoc]
      exact h
    have hpos : 0 < D * 2 ^ 2045 := Nat.mul_pos hD (Nat.two_pow_pos _)
    have hq2 : n / (D * 2 ^ 2045) ≤ 2 ^ 53 - 1 := by
      have := Nat.div_le_div_right (c := D * 2 ^ 2045) hm
      rw [Nat.mul_div_cancel _ hpos] at this
      exact this
    by_cases c2 : n / (D * 2 ^ 2045) = 2 ^ 53 - 1
    · have hr : n % (D * 2 ^ 2045) = 0 := by
        have := Nat.div_add_mod n (D * 2 ^ 2045)
        rw [c2, Nat.mul_comm] at this
        omega
      rw [hr, cut_zero hpos, c2]
      decide
    · have := (@cut_le way neg (n / (D * 2 ^ 2045)) (n % (D * 2 ^ 2045)) (D * 2 ^ 2045)).2
      omega
  · omega
theorem toNum_some {way : Nat} {N : Int} {D b : Nat} (hD : 0 < D) (h : toNum way N D = some b) :
    val b = wholeOf way N (D * 2 ^ last (N.natAbs / D)) * 2 ^ last (N.natAbs / D) ∧ isNum b = true ∧ b ≠ SIGN := by
  unfold toNum at h
  have lt : size way (decide (N < 0)) N.natAbs D < INF ∧ signed (decide (N < 0)) (size way (decide (N < 0)) N.natAbs D) = b := by
    simp only at h
    by_cases hw : way = 0
    · simp only [hw, if_true, decide_eq_true_eq] at h ⊢
      split at h
      · exact ⟨by assumption, Option.some.inj h⟩
      · cases h
    · simp only [hw, if_false, decide_eq_true_eq] at h ⊢
      split at h
      · exact ⟨max_inf hD hw (by assumption), Option.some.inj h⟩
      · cases h
  obtain ⟨h1, rfl⟩ := lt
  refine ⟨?_, signed_num h1⟩
  rw [val_signed h1]
  obtain ⟨b1, b2, b3⟩ := @cut_bnd way (decide (N < 0)) N.natAbs D hD
  have hu : units (size way (decide (N < 0)) N.natAbs D) = _ := units_s b1 (b2.imp id fun z => Nat.le_trans z cut_le.1)
  rw [hu]
  unfold wholeOf
  simp only [decide_eq_true_eq]
  split
  · rw [Int.natCast_mul, Int.natCast_pow, Int.neg_mul]; rfl
  · rw [Int.natCast_mul, Int.natCast_pow]; rfl
end M

set_option linter.all false
namespace M
open Sh25
theorem bits_c {c : Nat} (h : c ≤ 2 ^ 53) (h2 : 2 ^ 52 ≤ c) : bitsN c = if c = 2 ^ 53 then 54 else 53 := by
  split
  · subst c; exact bits_eq (k := 53) (Nat.le_refl _) (by decide)
  · exact bits_eq (k := 52) h2 (by omega)
theorem ovf0 {c E : Nat} (h : c ≤ 2 ^ 53) (h2 : E = 0 ∨ 2 ^ 52 ≤ c) : (2098 < bitsN c + E) ↔ ¬ (E * 2 ^ 52 + c < INF) := by
  unfold INF
  by_cases c1 : 2 ^ 52 ≤ c
  · rw [bits_c h c1]
    split <;> omega
  · have : E = 0 := by omega
    subst this
    have : bitsN c ≤ 53 := bits_le.mpr (by omega)
    omega
theorem up_abs {n D : Nat} {m : Nat} (hm : m = D * 2 ^ last (n / D)) (hD : 0 < D) : (2098 < bitsN (cut 2 false (n / m) (n % m) m) + last (n / D)) ↔ ¬ (n ≤ MAX * D) := by
  subst hm
  obtain ⟨b1, b2, b3⟩ := @cut_bnd 2 false n D hD
  have hc := @cut_le 2 false (n / (D * 2 ^ last (n / D))) (n % (D * 2 ^ last (n / D))) (D * 2 ^ last (n / D))
  have key := ovf0 b1 (b2.imp id fun z => Nat.le_trans z hc.1)
  rw [key]
  have hpos : 0 < D * 2 ^ last (n / D) := Nat.mul_pos hD (Nat.two_pow_pos _)
  constructor
  · intro h1 h2
    exact h1 (max_inf (neg := false) hD (by decide) h2)
  · intro h1 h2
    apply h1
    -- below: n ≤ c * m
    have hn : n ≤ cut 2 false (n / (D * 2 ^ last (n / D))) (n % (D * 2 ^ last (n / D))) (D * 2 ^ last (n / D)) * (D * 2 ^ last (n / D)) := by
      have e := Nat.div_add_mod n (D * 2 ^ last (n / D))
      have hr := Nat.mod_lt n hpos
      generalize n / (D * 2 ^ last (n / D)) = q at *
      generalize n % (D * 2 ^ last (n / D)) = r at *
      generalize D * 2 ^ last (n / D) = m at *
      unfold cut
      simp only [show ¬ (2 : Nat) = 0 by decide, show ¬ (2 : Nat) = 1 by decide, if_false, if_true, true_and]
      split
      · rw [Nat.add_mul, Nat.mul_comm q, Nat.one_mul]; omega
      · rw [Nat.mul_comm q]; omega
    generalize cut 2 false (n / (D * 2 ^ last (n / D))) (n % (D * 2 ^ last (n / D))) (D * 2 ^ last (n / D)) = c at *
    generalize last (n / D) = e at *
    refine Nat.le_trans hn ?_
    rw [Nat.mul_comm D, ← Nat.mul_assoc]
    refine Nat.mul_le_mul_right _ ?_
    unfold INF at h2
    unfold MAX
    by_cases ce : e ≤ 2044
    · calc c * 2 ^ e ≤ 2 ^ 53 * 2 ^ 2044 := Nat.mul_le_mul b1 (Nat.pow_le_pow_right (by decide) ce)
        _ ≤ _ := by decide +kernel
    · have ee : e = 2045 := by omega
      subst ee
      exact Nat.mul_le_mul_right _ (by omega)
theorem wholeOf_abs {way : Nat} {N : Int} {D : Nat} : (wholeOf way N D).natAbs = cut way (decide (N < 0)) (N.natAbs / D) (N.natAbs % D) D := by
  unfold wholeOf
  simp only
  split <;> simp
theorem told_plain {way : Nat} {N : Int} {D b : Nat} (hD : 0 < D) (h : toNum way N D = some b) : plain b = b := by
  unfold plain
  rw [if_neg (toNum_some hD h).2.2]
end M

set_option linter.all false
namespace M
open Sh25
theorem toNum_of {way : Nat} {N N1 : Int} {D D1 : Nat} (hD : 0 < D) (hD1 : 0 < D1) (hs : N < 0 ↔ N1 < 0) (hl : last (N.natAbs / D) = last (N1.natAbs / D1))
    (hw : ∀ w, wholeOf w N (D * 2 ^ last (N.natAbs / D)) = wholeOf w N1 (D1 * 2 ^ last (N.natAbs / D)))
    (ha : ∀ w, wholeOf w (N.natAbs : Int) (D * 2 ^ last (N.natAbs / D)) = wholeOf w (N1.natAbs : Int) (D1 * 2 ^ last (N.natAbs / D))) : toNum way N D = toNum way N1 D1 := by
  have e1 : decide (N < 0) = decide (N1 < 0) := by rw [decide_eq_decide]; exact hs
  have cw := congrArg Int.natAbs (hw way)
  rw [wholeOf_abs, wholeOf_abs] at cw
  have c2 := congrArg Int.natAbs (ha 2)
  rw [wholeOf_abs, wholeOf_abs, Int.natAbs_natCast, Int.natAbs_natCast] at c2
  have nn : ∀ n : Nat, decide ((n : Int) < 0) = false := fun n => by rw [decide_eq_false_iff_not]; omega
  rw [nn, nn] at c2
  have u1 := up_abs (n := N.natAbs) (D := D) rfl hD
  have u2 := up_abs (n := N1.natAbs) (D := D1) rfl hD1
  rw [← hl] at u2
  rw [c2] at u1
  have u3 : (N.natAbs ≤ MAX * D) ↔ (N1.natAbs ≤ MAX * D1) := Decidable.not_iff_not.mp (u1.symm.trans u2)
  have es : size way (decide (N < 0)) N.natAbs D = size way (decide (N1 < 0)) N1.natAbs D1 := by
    unfold size
    simp only
    rw [cw, ← hl]
  unfold toNum
  simp only
  rw [es, e1]
  simp only [u3]
theorem rel_unscale {way : Nat} {N z c : Int} {D : Nat} (hD : 0 < D) (hc : 0 < c) (h : Rel way (N * c) (D * c) z) : z = wholeOf way N D :=
  Rel.uniq (Int.mul_pos (by omega) hc) h (Rel.scale hc (wholeOf_rel way N hD))
theorem wholeOf_eq {way : Nat} {N N1 : Int} {D D1 : Nat} (hD : 0 < D) (hD1 : 0 < D1) (h : N * D1 = N1 * D) : wholeOf way N D = wholeOf way N1 D1 := by
  have h1 : (0 : Int) < D := by omega
  have h2 : (0 : Int) < D1 := by omega
  refine rel_unscale (c := (D : Int)) hD1 h1 ?_
  have := Rel.scale h2 (wholeOf_rel way N hD)
  rw [h, Int.mul_comm (D : Int)] at this
  exact this
theorem abs_mul_eq {N N1 : Int} {D D1 : Nat} (h : N * D1 = N1 * D) : N.natAbs * D1 = N1.natAbs * D := by
  have := congrArg Int.natAbs h
  rwa [Int.natAbs_mul, Int.natAbs_mul, Int.natAbs_natCast, Int.natAbs_natCast] at this
theorem neg_mul_iff {N : Int} {c : Int} (hc : 0 < c) : N * c < 0 ↔ N < 0 := by
  constructor
  · intro h
    rcases Int.lt_or_le N 0 with z | z
    · exact z
    · have := Int.mul_nonneg z (Int.le_of_lt hc); omega
  · intro h
    have := Int.mul_lt_mul_of_pos_right h hc
    omega
theorem toNum_eq {way : Nat} {N N1 : Int} {D D1 : Nat} (hD : 0 < D) (hD1 : 0 < D1) (h : N * D1 = N1 * D) : toNum way N D = toNum way N1 D1 := by
  have ha := abs_mul_eq h
  have hq : N.natAbs / D = N1.natAbs / D1 := by
    rw [← Nat.mul_div_mul_right N.natAbs D hD1, ha, Nat.mul_comm D D1, Nat.mul_div_mul_right _ _ hD]
  have hs : N < 0 ↔ N1 < 0 := by
    rw [← neg_mul_iff (N := N) (c := (D1 : Int)) (by omega), h, neg_mul_iff (by omega)]
  have hp : ∀ e, 0 < D * 2 ^ e := fun e => Nat.mul_pos hD (Nat.two_pow_pos _)
  have hp1 : ∀ e, 0 < D1 * 2 ^ e := fun e => Nat.mul_pos hD1 (Nat.two_pow_pos _)
  refine toNum_of hD hD1 hs (by rw [hq]) (fun w => wholeOf_eq (hp _) (hp1 _) ?_) fun w => wholeOf_eq (hp _) (hp1 _) ?_
  · rw [Int.natCast_mul, Int.natCast_mul, ← Int.mul_assoc, ← Int.mul_assoc, h]
  · rw [Int.natCast_mul, Int.natCast_mul, ← Int.mul_assoc, ← Int.mul_assoc, ← Int.natCast_mul N.natAbs, ← Int.natCast_mul N1.natAbs, ha]
end M

set_option linter.all false
namespace M
open Sh25
theorem pow_AB (p : Int) (hp : 0 ≤ p) : ((2 ^ (p - 1074).toNat : Nat) : Int) * 2 ^ 1074 = ((2 ^ (1074 - p).toNat : Nat) : Int) * 2 ^ p.toNat := by
  rw [Int.natCast_pow, Int.natCast_pow]
  show (2 : Int) ^ _ * 2 ^ 1074 = 2 ^ _ * 2 ^ _
  rw [← Int.pow_add, ← Int.pow_add]
  congr 1
  omega
end M

set_option linter.all false
namespace M
open Sh25
theorem le_sqrt {m x : Nat} : m ≤ Nat.sqrt x ↔ m * m ≤ x := by
  constructor
  · intro h
    exact Nat.le_trans (Nat.mul_le_mul h h) (Nat.sqrt_le x)
  · intro h
    have h1 := Nat.lt_succ_sqrt x
    rcases Nat.lt_or_ge (Nat.sqrt x) m with c | c
    · have := Nat.mul_le_mul (show Nat.succ (Nat.sqrt x) ≤ m from c) (show Nat.succ (Nat.sqrt x) ≤ m from c)
      omega
    · exact c
theorem le_sqrt_div {m n d : Nat} (hd : 0 < d) : m ≤ Nat.sqrt (n / d) ↔ m * m * d ≤ n := by
  rw [le_sqrt, Nat.le_div_iff_mul_le hd]
def RK (v a b n d : Nat) : Prop := ∀ u : Nat, (4 * u ≤ v ↔ (4 * u * 2 ^ a) * (4 * u * 2 ^ a) * d ≤ n * (2 ^ b * 2 ^ b)) ∧ (4 * u = v ↔ (4 * u * 2 ^ a) * (4 * u * 2 ^ a) * d = n * (2 ^ b * 2 ^ b))
theorem sq_scale {x y d n B : Nat} (hB : 0 < B) (e : x * B = y) : (x * x * d ≤ n ↔ y * y * d ≤ n * (B * B)) ∧ (x * x * d = n ↔ y * y * d = n * (B * B)) := by
  have q : y * y * d = x * x * d * (B * B) := by rw [← e]; grind
  rw [q]
  have hp : 0 < B * B := Nat.mul_pos hB hB
  exact ⟨(Nat.mul_le_mul_right_iff hp).symm, ⟨fun h => by rw [h], fun h => Nat.eq_of_mul_eq_mul_right hp h⟩⟩
theorem RK.bits {v a b n d : Nat} (hd : 0 < d) (hv : 2 ^ 62 ≤ v) (h : RK v a b n d) : bitsN (Nat.sqrt (n / d)) = bitsN v + a - b := by
  have hk := lt_bits.mpr hv
  have le : ∀ j, bitsN (Nat.sqrt (n / d)) ≤ j ↔ bitsN v + a - b ≤ j := fun j => by
    rw [bits_le, ← Nat.not_le, le_sqrt_div hd]
    by_cases c : a + 2 ≤ j + b
    · have e : 2 ^ j * 2 ^ b = 4 * 2 ^ (j + b - a - 2) * 2 ^ a := by
        rw [show (4 : Nat) = 2 ^ 2 from rfl, ← Nat.pow_add, ← Nat.pow_add, ← Nat.pow_add]
        congr 1
        omega
      rw [(sq_scale (Nat.two_pow_pos b) e).1, ← (h _).1]
      have e2 : 4 * 2 ^ (j + b - a - 2) = 2 ^ (j + b - a) := by
        rw [show (4 : Nat) = 2 ^ 2 from rfl, ← Nat.pow_add]
        congr 1
        omega
      rw [e2, ← lt_bits]
      omega
    · constructor
      · intro hx
        exfalso
        apply hx
        have h4 := (h 1).1.mp (by omega)
        rw [(sq_scale (x := 2 ^ j) (Nat.two_pow_pos b) rfl).1]
        refine Nat.le_trans (Nat.mul_le_mul_right _ ?_) h4
        have : 2 ^ j * 2 ^ b ≤ 4 * 1 * 2 ^ a := by
          rw [← Nat.pow_add, show 4 * 1 * 2 ^ a = 2 ^ (2 + a) by rw [Nat.pow_add]]
          exact Nat.pow_le_pow_right (by decide) (by omega)
        exact Nat.mul_le_mul this this
      · intro hx
        omega
  exact Nat.le_antisymm ((le _).mpr (Nat.le_refl _)) ((le _).mp (Nat.le_refl _))
end M

set_option linter.all false
namespace M
open Sh25
end M

set_option linter.all false
set_option maxRecDepth 100000
namespace M
open PySem L2
def res3 (ok th : Bool) (a : List Int) : List Int := if ok = true then (if th = true then a else [-5]) else [-8]
def vals (l : List (Option Nat)) : List Int := match Sh25.all? l with
  | some r => 0 :: Sh25.ints r
  | none => [-7]
theorem due_gen (ok th : Bool) (a : Sh25.Ans) : ansOf (Sh25.asked ok th a) = res3 ok th (ansOf a) := by
  cases ok
  · rfl
  · cases th <;> rfl
theorem vals_some {l : List (Option Nat)} {r : List Nat} (h : Sh25.all? l = some r) : vals l = 0 :: Sh25.ints r := by unfold vals; rw [h]
theorem vals_none {l : List (Option Nat)} (h : Sh25.all? l = none) : vals l = [-7] := by unfold vals; rw [h]
theorem tn_told {way : Nat} {v N : Int} {p D : Nat} (hD : 0 < D) (h : N * 2 ^ p = v * 2 ^ 1074 * D) : tn way v p = Sh25.toNum way N D := by
  refine toNum_eq (Nat.two_pow_pos _) hD ?_
  have hAB := pow_AB p (by omega)
  rw [Int.toNat_natCast] at hAB
  have hp : (2 : Int) ^ p ≠ 0 := Int.ne_of_gt (Int.pow_pos (by decide))
  refine Int.eq_of_mul_eq_mul_right hp ?_
  unfold tnN tnD
  rw [show (2 : Int) ^ (1074 - (p : Int)).toNat = ((2 ^ (1074 - (p : Int)).toNat : Nat) : Int) by rw [Int.natCast_pow]; rfl]
  generalize ((2 ^ (1074 - (p : Int)).toNat : Nat) : Int) = A at *
  generalize ((2 ^ ((p : Int) - 1074).toNat : Nat) : Int) = B at *
  generalize (2 : Int) ^ 1074 = T at *
  generalize (2 : Int) ^ p = Q at *
  calc v * A * D * Q = v * D * (A * Q) := by grind
    _ = v * D * (B * T) := by rw [hAB]
    _ = (v * T * D) * B := by grind
    _ = (N * Q) * B := by rw [h]
    _ = N * B * Q := by grind
end M
namespace M
open PySem L2
theorem pieces_len {α : Type} {n : Nat} : ∀ {k : Nat} {l : List α}, (Sh25.pieces n k l).length = k
  | 0, _ => rfl
  | k + 1, l => by show (Sh25.pieces n k (l.drop n)).length + 1 = _; rw [pieces_len]
theorem pieces_get {α : Type} {n : Nat} : ∀ {k : Nat} {l : List α} {i : Nat}, i < k → (Sh25.pieces n k l)[i]? = some ((l.drop (i * n)).take n)
  | k + 1, l, 0, _ => by show some _ = _; simp
  | k + 1, l, i + 1, h => by
    show (Sh25.pieces n k (l.drop n))[i]? = _
    rw [pieces_get (by omega), List.drop_drop, Nat.succ_mul, Nat.add_comm]
theorem pieces_map {α β : Type} {n : Nat} (f : α → β) : ∀ {k : Nat} {l : List α}, Sh25.pieces n k (l.map f) = (Sh25.pieces n k l).map (List.map f)
  | 0, _ => rfl
  | k + 1, l => by
    show (l.map f).take n :: Sh25.pieces n k ((l.map f).drop n) = (l.take n).map f :: (Sh25.pieces n k (l.drop n)).map (List.map f)
    rw [← List.map_take, ← List.map_drop, pieces_map]
theorem paired_ints {K : PySem.W.Frag} {H : Hp} : ∀ {ys : List V} {l : List (List Int)}, Paired (fun y g => ∃ a, y = V.ref a ∧ H a = some (.lst g)) ys (l.map (List.map V.int)) → Paired (LI K H) ys l
  | [], [], _ => .nil
  | _ :: _, _ :: _, .cons ⟨a, e, q⟩ t => .cons ⟨a, e, SqL.of q⟩ (paired_ints t)
theorem rgc_groups {n s : Nat} (hs : 0 < s) (hs2 : s ≤ 100000) (hn : n ≤ 100000) (hd : n % s = 0) : RgC 0 (n : Int) (s : Int) (n / s) := by
  have e : Builtin.Range.rangeSize 0 (n : Int) (s : Int) = ((n / s : Nat) : Int) := by
    rw [PyProof.Rows.rangeSize_pos (by omega) (by omega)]
    obtain ⟨q, rfl⟩ := Nat.dvd_of_mod_eq_zero hd
    rw [Nat.mul_div_cancel_left _ hs, Int.natCast_mul, show (s : Int) * q + s - 1 = (s - 1) + s * q by omega, Int.add_mul_ediv_left _ _ (by omega), Int.ediv_eq_zero_of_lt (by omega) (by omega), Int.zero_add]
  refine ⟨by omega, by omega, ?_, e⟩
  unfold Builtin.Range.small
  rw [e]
  have hq : n / s ≤ n := Nat.div_le_self _ _
  simp only [Builtin.Range.rangeFitsLong, Bool.and_eq_true, Bool.or_eq_true, decide_eq_true_eq, beq_iff_eq, show (s : Int) > 0 by omega, if_true]
  have hm : n / s * s ≤ n := Nat.div_mul_le_self _ _
  have hm' : ((n / s : Nat) : Int) * (s : Int) ≤ n := by rw [← Int.natCast_mul]; omega
  have e2 : (n : Int) / (s : Int) = ((n / s : Nat) : Int) := by rw [Int.natCast_ediv]
  generalize n / s = q at *
  refine ⟨?_, ?_⟩ <;> omega
theorem cutV_mid {xs : List V} {a b : Nat} : cutV xs (some (a : Int)) (some (b : Int)) = (xs.drop a).take (b - a) := by
  unfold cutV
  rw [HT.sIx_nat, HT.sIx_nat]
  refine List.ext_getElem? fun i => ?_
  rw [List.getElem?_take, List.getElem?_take, List.getElem?_drop, List.getElem?_drop]
  by_cases h : a ≤ xs.length
  · rw [Nat.min_eq_left h]
    by_cases h2 : i < b - a
    · rw [if_pos h2]
      by_cases h3 : i < min b xs.length - a
      · rw [if_pos h3]
      · rw [if_neg h3, List.getElem?_eq_none (by omega)]
    · rw [if_neg h2, if_neg (by omega)]
  · rw [List.getElem?_eq_none (by omega : xs.length ≤ a + i), List.getElem?_eq_none (by omega : xs.length ≤ min a xs.length + i)]
    split <;> split <;> rfl
theorem dims_le {k : Nat} (h : Sh25.dims k = true) : 2 ≤ k ∧ k ≤ 3 := by
  unfold Sh25.dims at h
  rw [Bool.or_eq_true, beq_iff_eq, beq_iff_eq] at h
  omega
def okPts (k a b : Nat) (l : List Nat) : Bool := Sh25.among (Sh25Neutral.points k l).length a b && Sh25.pts k (Sh25Neutral.points k l)
def okNums (a b : Int) (l : List Nat) : Bool := decide (a ≤ l.length) && decide ((l.length : Int) ≤ b) && l.all Sh25.isNum
theorem pieces_pts {k : Nat} : ∀ {q : Nat} {l : List Nat}, l.length = k * q → Sh25.pts k (Sh25.pieces k q l) = l.all Sh25.isNum
  | 0, l, h => by
    have : l = [] := List.eq_nil_of_length_eq_zero (by omega)
    subst this; rfl
  | q + 1, l, h => by
    rw [Nat.mul_succ] at h
    show (Sh25.pt k (l.take k) && Sh25.pts k (Sh25.pieces k q (l.drop k))) = _
    rw [pieces_pts (by rw [List.length_drop]; omega)]
    unfold Sh25.pt
    rw [show ((l.take k).length == k) = true by rw [beq_iff_eq, List.length_take]; omega, Bool.true_and]
    conv => rhs; rw [← List.take_append_drop k l, List.all_append]
theorem points_q {k q : Nat} {l : List Nat} (hk : 0 < k) (h : l.length = k * q) : Sh25Neutral.points k l = Sh25.pieces k q l := by
  unfold Sh25Neutral.points
  congr 1
  rw [h, show k * q + k - 1 = (k - 1) + k * q by omega, Nat.add_mul_div_left _ _ hk, Nat.div_eq_of_lt (by omega), Nat.zero_add]
theorem okPts_eq {k a b : Nat} {l : List Nat} (hk : 0 < k) : okPts k a b l = (okNums ((a : Int) * k) ((b : Int) * k) l && decide (l.length % k = 0)) := by
  unfold okPts
  by_cases c : l.length % k = 0
  · obtain ⟨q, hq⟩ := Nat.dvd_of_mod_eq_zero c
    rw [points_q hk hq, pieces_len, pieces_pts hq, decide_eq_true c, Bool.and_true]
    unfold okNums Sh25.among
    congr 1
    rw [← Int.natCast_mul, ← Int.natCast_mul, Bool.eq_iff_iff]
    simp only [Bool.and_eq_true, decide_eq_true_eq]
    rw [hq]
    have e1 : a ≤ q ↔ a * k ≤ k * q := by rw [Nat.mul_comm k q]; exact (Nat.mul_le_mul_right_iff hk).symm
    have e2 : q ≤ b ↔ k * q ≤ b * k := by rw [Nat.mul_comm k q]; exact (Nat.mul_le_mul_right_iff hk).symm
    rw [e1, e2]
    omega
  · rw [decide_eq_false c, Bool.and_false, Bool.and_eq_false_iff]
    right
    rw [Bool.eq_false_iff]
    intro h
    unfold Sh25.pts Sh25Neutral.points at h
    rw [List.all_eq_true] at h
    have hq : l.length / k < (l.length + k - 1) / k := by
      have h1 := Nat.div_add_mod l.length k
      rw [show l.length + k - 1 = (l.length % k + k - 1) + k * (l.length / k) by omega, Nat.add_mul_div_left _ _ hk]
      have : 1 ≤ (l.length % k + k - 1) / k := (Nat.le_div_iff_mul_le hk).mpr (by omega)
      omega
    have h2 := h _ (List.mem_of_getElem? (pieces_get (n := k) (l := l) hq))
    unfold Sh25.pt at h2
    rw [Bool.and_eq_true, beq_iff_eq, List.length_take, List.length_drop] at h2
    have h1 := Nat.div_add_mod l.length k
    rw [Nat.mul_comm] at h1
    have := Nat.mod_lt l.length hk
    omega
theorem pieces_ex {k : Nat} {l : List Nat} (hk : 0 < k) (h : l.length % k = 0) : (Sh25Neutral.points k l).map Sh25.ex = Sh25.pieces k (l.length / k) (Sh25.ex l) := by
  obtain ⟨q, hq⟩ := Nat.dvd_of_mod_eq_zero h
  rw [points_q hk hq, hq, Nat.mul_div_cancel_left _ hk]
  unfold Sh25.ex
  rw [pieces_map]
end M
namespace M
open PySem L2
end M

set_option linter.all false
namespace M
open Sh25
end M

set_option linter.all false
namespace M
open Sh25
end M

set_option linter.all false
namespace M
open Sh25
abbrev Q2 := Int × Int
def lt2 (x y : Q2) : Prop := x.1 * y.2 < y.1 * x.2
instance (x y : Q2) : Decidable (lt2 x y) := inferInstanceAs (Decidable (_ < _))
structure FE (x y : Q2) : Prop where
  px : 0 < x.2
  py : 0 < y.2
  eq : x.1 * y.2 = y.1 * x.2
theorem FE.lt {x x' y y' : Q2} (h : FE x x') (g : FE y y') : lt2 x y ↔ lt2 x' y' := by
  obtain ⟨a, b, e⟩ := h
  obtain ⟨c, d, f⟩ := g
  unfold lt2
  have k1 : 0 < x'.2 * y'.2 := Int.mul_pos b d
  have k2 : 0 < x.2 * y.2 := Int.mul_pos a c
  have e1 : x.1 * y.2 * (x'.2 * y'.2) = x'.1 * y'.2 * (x.2 * y.2) := by grind
  have e2 : y.1 * x.2 * (x'.2 * y'.2) = y'.1 * x'.2 * (x.2 * y.2) := by grind
  constructor
  · intro z
    have := Int.mul_lt_mul_of_pos_right z k1
    rw [e1, e2] at this
    exact Int.lt_of_mul_lt_mul_right this (by omega)
  · intro z
    have := Int.mul_lt_mul_of_pos_right z k2
    rw [← e1, ← e2] at this
    exact Int.lt_of_mul_lt_mul_right this (by omega)
theorem FE.refl {x : Q2} (h : 0 < x.2) : FE x x := ⟨h, h, rfl⟩
theorem FE.symm {x y : Q2} (h : FE x y) : FE y x := ⟨h.py, h.px, h.eq.symm⟩
theorem FE.trans {x y z : Q2} (h : FE x y) (g : FE y z) : FE x z := by
  obtain ⟨a, b, e⟩ := h
  obtain ⟨c, d, f⟩ := g
  refine ⟨a, d, ?_⟩
  have : x.1 * z.2 * y.2 = z.1 * x.2 * y.2 := by grind
  exact Int.eq_of_mul_eq_mul_right (by omega) this
def Sc (α β : Int) (y y' : Q2) : Prop := α * y.1 = β * y'.1 ∧ α * y.2 = β * y'.2
inductive Scs (α β : Int) : List Q2 → List Q2 → Prop
  | nil : Scs α β [] []
  | cons {y y' r r'} : Sc α β y y' → Scs α β r r' → Scs α β (y :: r) (y' :: r')
end M

set_option linter.all false
namespace M
open Sh25
def ar (k : Nat) (s t p : Vec) : Int := area2 (drop_ k s) (drop_ k t) (drop_ k p)
def nd (c d e s t : Vec) : Int := ar 0 c d e * (at_ t 0 - at_ s 0) - ar 1 c d e * (at_ t 1 - at_ s 1) + ar 2 c d e * (at_ t 2 - at_ s 2)
theorem sgn_z {x : Int} : sgn x = 0 ↔ x = 0 := by
  unfold sgn
  split
  · omega
  · split <;> omega
end M

set_option linter.all false
namespace M
open Sh25
end M

set_option linter.all false
namespace M
open Sh25
end M

set_option linter.all false
namespace M
open Sh25
end M

set_option linter.all false
namespace HK
section
variable {α : Type}
def pop (T : α → α → α → Bool) (p : α) : List α → List α
  | t :: s :: r => if T s t p = true then pop T p (s :: r) else t :: s :: r
  | l => l
def chain (T : α → α → α → Bool) (l : List α) : List α := l.foldl (fun st p => p :: pop T p st) []
theorem pop_cons {T : α → α → α → Bool} {p t s : α} {r : List α} : pop T p (t :: s :: r) = if T s t p = true then pop T p (s :: r) else t :: s :: r := by rw [pop]
theorem pop_one {T : α → α → α → Bool} {p t : α} : pop T p [t] = [t] := by rw [pop]; intro _ _ _ h; cases h
theorem pop_nil {T : α → α → α → Bool} {p : α} : pop T p [] = [] := by rw [pop]; intro _ _ _ h; cases h
theorem pop_map {β : Type} {T : β → β → β → Bool} (f : α → β) (p : α) : ∀ st : List α, pop T (f p) (st.map f) = (pop (fun a b c => T (f a) (f b) (f c)) p st).map f
  | [] => by rw [List.map_nil, pop_nil, pop_nil]; rfl
  | [t] => by rw [List.map_cons, List.map_nil, pop_one, pop_one]; rfl
  | t :: s :: r => by
    have ih := pop_map (T := T) f p (s :: r)
    rw [List.map_cons] at ih
    rw [List.map_cons, List.map_cons, pop_cons, pop_cons, ih]
    split <;> rfl
theorem chain_map {β : Type} {T : β → β → β → Bool} (f : α → β) (l : List α) : chain T (l.map f) = (chain (fun a b c => T (f a) (f b) (f c)) l).map f := by
  have h : ∀ (l : List α) (st : List α), (l.map f).foldl (fun st p => p :: pop T p st) (st.map f) = (l.foldl (fun st p => p :: pop (fun a b c => T (f a) (f b) (f c)) p st) st).map f := by
    intro l
    induction l with
    | nil => intro st; rfl
    | cons a r ih =>
      intro st
      rw [List.map_cons, List.foldl_cons, List.foldl_cons, pop_map, ← List.map_cons, ih]
  exact h l []
theorem pop_sub {T : α → α → α → Bool} {p : α} : ∀ st : List α, (pop T p st).Sublist st
  | [] => by rw [pop_nil]; exact List.Sublist.refl _
  | [t] => by rw [pop_one]; exact List.Sublist.refl _
  | t :: s :: r => by
    rw [pop_cons]
    split
    · exact (pop_sub (s :: r)).cons _
    · exact List.Sublist.refl _
theorem chain_snoc {T : α → α → α → Bool} {l : List α} {p : α} : chain T (l ++ [p]) = p :: pop T p (chain T l) := by
  unfold chain; rw [List.foldl_append]; rfl
theorem chain_sub {T : α → α → α → Bool} (l : List α) : (chain T l).Sublist l.reverse := by
  have h : ∀ (l st : List α) (pd : List α), st.Sublist pd → (l.foldl (fun st p => p :: pop T p st) st).Sublist (l.reverse ++ pd) := by
    intro l
    induction l with
    | nil => intro st pd h; exact h
    | cons a r ih =>
      intro st pd h
      rw [List.foldl_cons, List.reverse_cons, List.append_assoc]
      exact ih _ _ (((pop_sub st).trans h).cons_cons a)
  have := h l [] [] (List.Sublist.refl _)
  rw [List.append_nil] at this
  exact this
end
section
variable {α : Type} (x h : α → Int)
def ar (a b c : α) : Int := (x b - x a) * (h c - h a) - (h b - h a) * (x c - x a)
variable {x h}
theorem ar_end {a b : α} : ar x h a b b = 0 := by unfold ar; grind
theorem ar_start {a b : α} : ar x h a b a = 0 := by unfold ar; grind
theorem ar_turn {a b c : α} : ar x h a c b = - ar x h a b c := by unfold ar; grind
theorem ar_one {s t p q : α} : (h t - h s) * ar x h s p q = (h q - h s) * ar x h s p t + (h p - h s) * ar x h s t q := by unfold ar; grind
theorem ar_two {s t p q : α} : (h t - h s) * ar x h t p q = (h p - h t) * ar x h s t q + (h t - h q) * ar x h s t p := by unfold ar; grind
theorem ar_three {u s t p : α} : (h t - h s) * ar x h u s p = (h p - h s) * ar x h u s t + (h s - h u) * ar x h s t p := by unfold ar; grind
theorem pos_of_mul {k z : Int} (hk : 0 < k) (h : 0 < k * z) : 0 < z := by
  rcases Int.lt_trichotomy z 0 with g | g | g
  · have := Int.mul_neg_of_pos_of_neg hk g; omega
  · subst g; rw [Int.mul_zero] at h; omega
  · exact g
theorem nonneg_of_mul {k z : Int} (hk : 0 < k) (h : 0 ≤ k * z) : 0 ≤ z := by
  rcases Int.lt_trichotomy z 0 with g | g | g
  · have := Int.mul_neg_of_pos_of_neg hk g; omega
  · omega
  · omega
variable (x h)
def Edge (pd : List α) (s t : α) : Prop := h s < h t ∧ ∀ q ∈ pd, 0 < ar x h s t q ∨ (ar x h s t q = 0 ∧ h s ≤ h q ∧ h q ≤ h t)
def Good (pd : List α) : List α → Prop
  | t :: s :: r => Edge x h pd s t ∧ Good pd (s :: r)
  | _ => True
variable {x h}
theorem Edge.nonneg {pd : List α} {s t q : α} (e : Edge x h pd s t) (m : q ∈ pd) : 0 ≤ ar x h s t q := by
  rcases e.2 q m with z | z
  · omega
  · omega
theorem good_more {pd : List α} {p : α} (hp : ∀ q ∈ pd, h q < h p) : ∀ {r : List α} {t s : α}, Good x h pd (t :: s :: r) → (∀ a ∈ t :: s :: r, a ∈ pd) → 0 < ar x h s t p → Good x h (p :: pd) (t :: s :: r)
  | [], t, s, g, m, a => ⟨⟨g.1.1, fun q m => by
      rcases List.mem_cons.mp m with e | m
      · subst e; exact .inl a
      · exact g.1.2 q m⟩, True.intro⟩
  | u :: r, t, s, g, ms, a => by
    have e1 := g.1
    have e2 := g.2.1
    have k : 0 < ar x h u s t := by
      rcases e2.2 t (ms t (by simp)) with z | z
      · exact z
      · have := e1.1; omega
    have k2 : 0 < ar x h u s p := by
      refine pos_of_mul (k := h t - h s) (by have := e1.1; omega) ?_
      rw [ar_three]
      have h1 := Int.mul_pos (show 0 < h p - h s by have := hp s (ms s (by simp)); omega) k
      have h2 := Int.mul_pos (show 0 < h s - h u by have := e2.1; omega) a
      omega
    refine ⟨⟨e1.1, fun q m => ?_⟩, good_more hp g.2 (fun b hb => ms b (List.mem_cons_of_mem _ hb)) k2⟩
    rcases List.mem_cons.mp m with e | m
    · subst e; exact .inl a
    · exact e1.2 q m
theorem pop_good {T : α → α → α → Bool} (hT : ∀ a b c, T a b c = true ↔ ar x h a b c ≤ 0) {pd : List α} {p : α} (hp : ∀ q ∈ pd, h q < h p) : ∀ (r : List α) (t : α), Good x h pd (t :: r) → (∀ a ∈ t :: r, a ∈ pd) →
    (∀ b, (t :: r).getLast? = some b → ∀ q ∈ pd, h b ≤ h q) → (∀ q ∈ pd, h t ≤ h q → 0 ≤ ar x h t p q) → Good x h (p :: pd) (p :: pop T p (t :: r)) ∧ (pop T p (t :: r)).getLast? = (t :: r).getLast?
  | [], t, g, ms, low, top => by
    rw [pop_one]
    have mt := ms t (by simp)
    refine ⟨⟨⟨hp t mt, fun q m => ?_⟩, True.intro⟩, rfl⟩
    rcases List.mem_cons.mp m with e | m
    · subst e; exact .inr ⟨ar_end, by have := hp t mt; omega, Int.le_refl _⟩
    · have l1 := low t rfl q m
      have l2 := top q m l1
      have l3 := hp q m
      by_cases z : ar x h t p q = 0
      · exact .inr ⟨z, l1, by omega⟩
      · exact .inl (by omega)
  | s :: r, t, g, ms, low, top => by
    have mt := ms t (by simp)
    have mss := ms s (by simp)
    have e1 := g.1
    have h1 := e1.1
    rw [pop_cons]
    by_cases c : T s t p = true
    · rw [if_pos c]
      have c' := (hT _ _ _).mp c
      have := pop_good hT hp r s g.2 (fun b hb => ms b (List.mem_cons_of_mem _ hb)) (fun b hb => low b (by rw [List.getLast?_cons_cons]; exact hb)) fun q m hq => by
        refine nonneg_of_mul (k := h t - h s) (by omega) ?_
        rw [ar_one, ar_turn (b := t) (c := p)]
        have a1 := Int.mul_nonneg (show 0 ≤ h q - h s by omega) (show 0 ≤ - ar x h s t p by omega)
        have a2 := Int.mul_nonneg (show 0 ≤ h p - h s by have := hp s mss; omega) (e1.nonneg m)
        omega
      rw [List.getLast?_cons_cons]
      exact this
    · rw [if_neg c]
      have c' : 0 < ar x h s t p := Int.not_le.mp fun z => c ((hT s t p).mpr z)
      refine ⟨⟨⟨hp t mt, fun q m => ?_⟩, good_more hp g ms c'⟩, rfl⟩
      rcases List.mem_cons.mp m with e | m
      · subst e; exact .inr ⟨ar_end, by have := hp t mt; omega, Int.le_refl _⟩
      · have l3 := hp q m
        by_cases hq : h t ≤ h q
        · have l2 := top q m hq
          by_cases z : ar x h t p q = 0
          · exact .inr ⟨z, hq, by omega⟩
          · exact .inl (by omega)
        · refine .inl (pos_of_mul (k := h t - h s) (by omega) ?_)
          rw [ar_two]
          have a1 := Int.mul_nonneg (show 0 ≤ h p - h t by have := hp t mt; omega) (e1.nonneg m)
          have a2 := Int.mul_pos (show 0 < h t - h q by omega) c'
          omega
theorem last_low : ∀ {pd : List α} {b : α}, pd.Pairwise (fun a b => h b < h a) → pd.getLast? = some b → ∀ q ∈ pd, h b ≤ h q
  | [], _, _, e, _, _ => nomatch e
  | [a], b, _, e, q, m => by
    cases e
    rw [List.mem_singleton.mp m]; exact Int.le_refl _
  | a :: c :: r, b, hp, e, q, m => by
    rw [List.getLast?_cons_cons] at e
    have ih := last_low (List.pairwise_cons.mp hp).2 e
    rcases List.mem_cons.mp m with z | m
    · subst z
      have h1 := (List.pairwise_cons.mp hp).1 b (List.mem_of_getLast? e)
      omega
    · exact ih q m
theorem chain_ok {T : α → α → α → Bool} (hT : ∀ a b c, T a b c = true ↔ ar x h a b c ≤ 0) {L : List α} (hL : L.Pairwise (fun a b => h a < h b)) :
    Good x h L.reverse (chain T L) ∧ (chain T L).head? = L.reverse.head? ∧ (chain T L).getLast? = L.reverse.getLast? := by
  have key : ∀ (n : Nat) (L : List α), L.length = n → L.Pairwise (fun a b => h a < h b) → Good x h L.reverse (chain T L) ∧ (chain T L).head? = L.reverse.head? ∧ (chain T L).getLast? = L.reverse.getLast? := by
    intro n
    induction n with
    | zero =>
      intro L hl _
      rw [List.eq_nil_of_length_eq_zero hl]
      exact ⟨True.intro, rfl, rfl⟩
    | succ n ih =>
      intro L hl hL
      have hne : L ≠ [] := fun z => by rw [z] at hl; simp at hl
      obtain ⟨L0, p, rfl⟩ : ∃ L0 p, L = L0 ++ [p] := ⟨L.dropLast, L.getLast hne, (List.dropLast_concat_getLast hne).symm⟩
      rw [List.length_append] at hl
      obtain ⟨p1, p2, p3⟩ := List.pairwise_append.mp hL
      obtain ⟨g, e1, e2⟩ := ih L0 (by simpa using hl) p1
      rw [chain_snoc, List.reverse_append, List.reverse_singleton, List.singleton_append]
      have sb := chain_sub (T := T) L0
      cases hc : chain T L0 with
      | nil =>
        rw [hc] at e1
        have : L0 = [] := by
          cases hr : L0.reverse with
          | nil => simpa using hr
          | cons a r => rw [hr] at e1; cases e1
        subst this
        rw [pop_nil]
        exact ⟨True.intro, rfl, rfl⟩
      | cons t r =>
        rw [hc] at g e1 e2 sb
        have hp : ∀ q ∈ L0.reverse, h q < h p := fun q m => p3 q (List.mem_reverse.mp m) p (by simp)
        have hpd : L0.reverse.Pairwise (fun a b => h b < h a) := List.pairwise_reverse.mpr p1
        have := pop_good hT hp r t g (fun a ha => sb.subset ha) (fun b hb => last_low hpd (by rw [← e2]; exact hb)) fun q m hq => by
          cases hr : L0.reverse with
          | nil => rw [hr] at m; cases m
          | cons a rr =>
            rw [hr] at e1 m hpd
            cases e1
            rcases List.mem_cons.mp m with z | m
            · subst z; rw [ar_start]; exact Int.le_refl _
            · have := (List.pairwise_cons.mp hpd).1 q m; omega
        refine ⟨this.1, rfl, ?_⟩
        have hn : ∃ b, (pop T p (t :: r)).getLast? = some b := by rw [this.2]; exact ⟨_, List.getLast?_eq_some_getLast (by simp)⟩
        obtain ⟨b, hb⟩ := hn
        have q1 : (p :: pop T p (t :: r)).getLast? = (pop T p (t :: r)).getLast? := by
          cases hq : pop T p (t :: r) with
          | nil => rw [hq] at hb; cases hb
          | cons a rr => rw [List.getLast?_cons_cons]
        rw [q1, this.2, e2]
        cases hr : L0.reverse with
        | nil => rw [hr] at e1; cases e1
        | cons a rr => rw [List.getLast?_cons_cons]
  exact key _ L rfl hL
end
end HK

set_option linter.all false
namespace HK
open Sh25
section
variable {α : Type}
def Lk (R : α → α → Prop) : List α → Prop
  | a :: b :: r => R a b ∧ Lk R (b :: r)
  | _ => True
theorem Lk.snoc {R : α → α → Prop} : ∀ {l : List α} {s t : α}, Lk R l → l.getLast? = some s → R s t → Lk R (l ++ [t])
  | [], _, _, _, e, _ => nomatch e
  | [a], s, t, _, e, r => by cases e; exact ⟨r, True.intro⟩
  | a :: b :: r, s, t, h, e, q => ⟨h.1, Lk.snoc (l := b :: r) h.2 (by rw [List.getLast?_cons_cons] at e; exact e) q⟩
theorem Lk.rev {R : α → α → Prop} : ∀ {l : List α}, Lk (fun a b => R b a) l → Lk R l.reverse
  | [], _ => True.intro
  | [a], _ => True.intro
  | a :: b :: r, h => by
    rw [List.reverse_cons]
    refine Lk.snoc (Lk.rev (l := b :: r) h.2) ?_ h.1
    rw [List.getLast?_reverse]; rfl
theorem Lk.join {R : α → α → Prop} {m : α} {b : List α} : ∀ {a : List α}, Lk R (a ++ [m]) → Lk R (m :: b) → Lk R (a ++ m :: b)
  | [], _, h => h
  | [c], h, h2 => ⟨h.1, h2⟩
  | c :: d :: a, h, h2 => ⟨h.1, Lk.join (a := d :: a) h.2 h2⟩
theorem Lk.next {R : α → α → Prop} {m : α} : ∀ {a : List α}, Lk R (a ++ [m]) → ∀ v ∈ a, ∃ w, R v w
  | [c], h, v, hv => by rw [List.mem_singleton.mp hv]; exact ⟨m, h.1⟩
  | c :: d :: a, h, v, hv => by
    rcases List.mem_cons.mp hv with e | hv
    · subst e; exact ⟨d, h.1⟩
    · exact Lk.next (a := d :: a) h.2 v hv
theorem Lk.mono {R S : α → α → Prop} (f : ∀ a b, R a b → S a b) : ∀ {l : List α}, Lk R l → Lk S l
  | [], _ => True.intro
  | [a], _ => True.intro
  | a :: b :: r, h => ⟨f _ _ h.1, Lk.mono f (l := b :: r) h.2⟩
theorem good_lk {x h : α → Int} {pd : List α} : ∀ {st : List α}, (∀ a ∈ st, a ∈ pd) → Good x h pd st → Lk (fun t s => t ∈ pd ∧ s ∈ pd ∧ Edge x h pd s t) st
  | [], _, _ => True.intro
  | [a], _, _ => True.intro
  | a :: b :: r, m, g => ⟨⟨m a (by simp), m b (by simp), g.1⟩, good_lk (fun c hc => m c (List.mem_cons_of_mem _ hc)) g.2⟩
theorem len_filter (U : α → Bool) : ∀ l : List α, l.length = (l.filter U).length + (l.filter (fun a => !U a)).length
  | [] => rfl
  | a :: r => by
    have ih := len_filter U r
    rw [List.filter_cons, List.filter_cons]
    cases U a with
    | true => simp; omega
    | false => simp; omega
theorem two_len {U : α → Bool} {L a b : List α} (ha : a.Sublist L) (hb : b.Sublist L.reverse) (ua : ∀ v ∈ a, U v = true) (ub : ∀ v ∈ b, U v = false) : a.length + b.length ≤ L.length := by
  have h1 := (ha.filter U).length_le
  have h2 := (hb.filter (fun a => !U a)).length_le
  rw [List.filter_eq_self.mpr ua] at h1
  rw [List.filter_eq_self.mpr (fun v hv => by rw [ub v hv]; rfl), List.filter_reverse, List.length_reverse] at h2
  have := len_filter U L
  omega
end
def Walk (f : Vec → Vec) (start : Vec) : Vec → List Vec → Prop
  | p, [] => f p = start
  | p, q :: r => f p = q ∧ q ≠ start ∧ q ≠ p ∧ Walk f start q r
theorem round_walk {l : List Vec} {start : Vec} : ∀ {w : List Vec} {p : Vec} {k : Nat}, Walk (onward l) start p w → w.length < k → round l start k p = p :: w
  | [], p, k + 1, h, _ => by
    have h' : onward l p = start := h
    simp only [round, h', beq_self_eq_true, Bool.true_or, if_true]
  | q :: w, p, k + 1, h, hk => by
    obtain ⟨h1, h2, h3, h4⟩ := h
    have e : (q == start || q == p) = false := by
      rw [Bool.or_eq_false_iff]; exact ⟨beq_eq_false_iff_ne.mpr h2, beq_eq_false_iff_ne.mpr h3⟩
    simp only [round, h1, e, Bool.false_eq_true, if_false]
    rw [round_walk h4 (by simpa using hk)]
theorem walk_of {f : Vec → Vec} {start : Vec} : ∀ {w : List Vec} {p : Vec}, Lk (fun a b => f a = b ∧ b ≠ a) (p :: (w ++ [start])) → (∀ q ∈ w, q ≠ start) → Walk f start p w
  | [], p, h, _ => h.1.1
  | q :: w, p, h, n => ⟨h.1.1, n q (by simp), h.1.2, walk_of (p := q) h.2 fun c hc => n c (List.mem_cons_of_mem _ hc)⟩
theorem onward_eq {l : List Vec} {s t : Vec} (ht : t ∈ l) (hts : t ≠ s) (hd : ∀ r ∈ l, r ≠ s → r ≠ t → 0 < side s t r ∨ (side s t r = 0 ∧ far s r < far s t)) (ng : ∀ r ∈ l, side s r t = - side s t r) : onward l s = t := by
  have key : ∀ (l' : List Vec) (q : Vec), (∀ r ∈ l', r ∈ l) → (q = s ∨ q ∈ l) → (t ∈ l' ∨ q = t) → l'.foldl (fun (q r : Vec) => if r == s then q else if q == s then r else
      let z := side s q r
      if z < 0 ∨ (z = 0 ∧ far s q < far s r) then r else q) q = t := by
    intro l'
    induction l' with
    | nil => intro q _ _ h; rcases h with h | h; exact nomatch h; exact h
    | cons r l' ih =>
      intro q hm hq h
      rw [List.foldl_cons]
      have mr := hm r (by simp)
      have hm' : ∀ r ∈ l', r ∈ l := fun c hc => hm c (List.mem_cons_of_mem _ hc)
      by_cases c1 : r = s
      · have e : (r == s) = true := beq_iff_eq.mpr c1
        rw [if_pos e]
        refine ih q hm' hq ?_
        rcases h with h | h
        · rcases List.mem_cons.mp h with z | h
          · exact absurd (z.trans c1) hts
          · exact .inl h
        · exact .inr h
      · have e : (r == s) = false := beq_eq_false_iff_ne.mpr c1
        rw [if_neg (by rw [e]; decide)]
        by_cases c2 : q = s
        · rw [if_pos (beq_iff_eq.mpr c2)]
          refine ih r hm' (.inr mr) ?_
          rcases h with h | h
          · rcases List.mem_cons.mp h with z | h
            · exact .inr z.symm
            · exact .inl h
          · exact absurd (h.symm.trans c2) hts
        · rw [if_neg (by rw [beq_eq_false_iff_ne.mpr c2]; decide)]
          have mq : q ∈ l := by rcases hq with z | z; exact absurd z c2; exact z
          dsimp only
          by_cases c3 : q = t
          · subst c3
            rw [if_neg]
            · exact ih q hm' hq (.inr rfl)
            · intro z
              by_cases c4 : r = q
              · subst c4
                have := ng r mr
                rcases z with z | z
                · omega
                · omega
              · rcases hd r mr c1 c4 with y | y
                · omega
                · omega
          · by_cases c4 : r = t
            · subst c4
              rw [if_pos]
              · exact ih r hm' (.inr mr) (.inr rfl)
              · have := ng q mq
                rcases hd q mq c2 c3 with y | y
                · exact .inl (by omega)
                · exact .inr ⟨by omega, y.2⟩
            · have h' : t ∈ l' := by
                rcases h with h | h
                · rcases List.mem_cons.mp h with z | h
                  · exact absurd z.symm c4
                  · exact h
                · exact absurd h c3
              split
              · exact ih r hm' (.inr mr) (.inl h')
              · exact ih q hm' hq (.inl h')
  exact key l s (fun _ h => h) (.inl rfl) (.inl ht)
def ar0 (a b c : Vec) : Int := (at_ b 0 - at_ a 0) * (at_ c 1 - at_ a 1) - (at_ b 1 - at_ a 1) * (at_ c 0 - at_ a 0)
theorem sgn_p {z : Int} : 0 < sgn z ↔ 0 < z := by unfold sgn; split; omega; split <;> omega
theorem sgn_z {z : Int} : sgn z = 0 ↔ z = 0 := by unfold sgn; split; omega; split <;> omega
theorem sgn_m (z : Int) : sgn (-z) = - sgn z := by
  unfold sgn
  rcases Int.lt_trichotomy z 0 with h | h | h
  · rw [if_neg (by omega), if_neg (by omega), if_pos h]; rfl
  · subst h; rfl
  · rw [if_pos (by omega), if_neg (by omega), if_neg (by omega)]
theorem sgn_le {z : Int} : sgn z ≤ 0 ↔ z ≤ 0 := by unfold sgn; split; omega; split <;> omega
theorem side_ar {a b c : Vec} (ha : a.length = 2) (hb : b.length = 2) (hc : c.length = 2) : side a b c = sgn (ar0 a b c) := by
  obtain ⟨a0, a1, rfl⟩ : ∃ u v, a = [u, v] := by match a, ha with | [u, v], _ => exact ⟨u, v, rfl⟩
  obtain ⟨b0, b1, rfl⟩ : ∃ u v, b = [u, v] := by match b, hb with | [u, v], _ => exact ⟨u, v, rfl⟩
  obtain ⟨c0, c1, rfl⟩ : ∃ u v, c = [u, v] := by match c, hc with | [u, v], _ => exact ⟨u, v, rfl⟩
  unfold side area2
  congr 1
theorem far_xy {a b : Vec} (ha : a.length = 2) (hb : b.length = 2) : far a b = (at_ b 0 - at_ a 0) * (at_ b 0 - at_ a 0) + (at_ b 1 - at_ a 1) * (at_ b 1 - at_ a 1) := by
  obtain ⟨a0, a1, rfl⟩ : ∃ u v, a = [u, v] := by match a, ha with | [u, v], _ => exact ⟨u, v, rfl⟩
  obtain ⟨b0, b1, rfl⟩ : ∃ u v, b = [u, v] := by match b, hb with | [u, v], _ => exact ⟨u, v, rfl⟩
  simp [far, dot, sub, at_, List.range_succ]
  grind
theorem vec_eq {a b : Vec} (ha : a.length = 2) (hb : b.length = 2) (h0 : at_ a 0 = at_ b 0) (h1 : at_ a 1 = at_ b 1) : a = b := by
  obtain ⟨a0, a1, rfl⟩ : ∃ u v, a = [u, v] := by match a, ha with | [u, v], _ => exact ⟨u, v, rfl⟩
  obtain ⟨b0, b1, rfl⟩ : ∃ u v, b = [u, v] := by match b, hb with | [u, v], _ => exact ⟨u, v, rfl⟩
  simp [at_] at h0 h1
  rw [h0, h1]
theorem part_sq {p q a b : Int} (h : q * a = p * b) (hp : p.natAbs < q.natAbs) : a * a ≤ b * b ∧ (b ≠ 0 → a * a < b * b) := by
  have h' : q.natAbs * a.natAbs = p.natAbs * b.natAbs := by rw [← Int.natAbs_mul, ← Int.natAbs_mul, h]
  have ea : a * a = ((a.natAbs * a.natAbs : Nat) : Int) := (Int.natAbs_mul_self (a := a)).symm
  have eb : b * b = ((b.natAbs * b.natAbs : Nat) : Int) := (Int.natAbs_mul_self (a := b)).symm
  have lt : b ≠ 0 → a.natAbs < b.natAbs := fun hb => by
    have b0 : 0 < b.natAbs := Int.natAbs_pos.mpr hb
    refine Nat.lt_of_not_le fun z => ?_
    have h1 := Nat.mul_le_mul_left q.natAbs z
    have h2 := Nat.mul_lt_mul_of_pos_right hp b0
    omega
  have lt2 : b ≠ 0 → a * a < b * b := fun hb => by
    rw [ea, eb]
    have := Nat.mul_lt_mul'' (lt hb) (lt hb)
    omega
  refine ⟨?_, lt2⟩
  by_cases hb : b = 0
  · subst hb
    rw [Int.mul_zero] at h
    have : a = 0 := by
      rcases Int.mul_eq_zero.mp h with z | z
      · rw [z] at hp; simp at hp
      · exact z
    subst this
    exact Int.le_refl _
  · exact Int.le_of_lt (lt2 hb)
def ht (M : Int) (a : Vec) : Int := M * at_ a 1 + at_ a 0
theorem ar_up {M : Int} {a b c : Vec} : ar (fun a => at_ a 0) (ht M) a b c = M * ar0 a b c := by unfold ar ht ar0; grind
theorem ar_dn {M : Int} {a b c : Vec} : ar (fun a => - at_ a 0) (fun a => - ht M a) a b c = M * ar0 a b c := by unfold ar ht ar0; grind
theorem far_part {M : Int} {s t r : Vec} (hs : s.length = 2) (h1 : t.length = 2) (h2 : r.length = 2) (z : ar0 s t r = 0) (k : (ht M r - ht M s).natAbs < (ht M t - ht M s).natAbs) : far s r < far s t := by
  rw [far_xy hs h2, far_xy hs h1]
  have e0 : (ht M t - ht M s) * (at_ r 0 - at_ s 0) = (ht M r - ht M s) * (at_ t 0 - at_ s 0) := by unfold ht; unfold ar0 at z; grind
  have e1 : (ht M t - ht M s) * (at_ r 1 - at_ s 1) = (ht M r - ht M s) * (at_ t 1 - at_ s 1) := by unfold ht; unfold ar0 at z; grind
  obtain ⟨p1, p2⟩ := part_sq e0 k
  obtain ⟨q1, q2⟩ := part_sq e1 k
  by_cases c : at_ t 0 - at_ s 0 = 0
  · have d : at_ t 1 - at_ s 1 ≠ 0 := fun d => by
      have e : ht M t - ht M s = M * (at_ t 1 - at_ s 1) + (at_ t 0 - at_ s 0) := by unfold ht; grind
      rw [e, c, d, Int.mul_zero] at k
      simp at k
    have := q2 d
    omega
  · have := p2 c
    omega
theorem edge_up {l pd : List Vec} {M : Int} (M0 : 0 < M) (hl : ∀ a ∈ l, a.length = 2) (sub : ∀ a, a ∈ pd ↔ a ∈ l) (inj : ∀ a ∈ pd, ∀ b ∈ pd, ht M a = ht M b → a = b) {s t : Vec} (ms : s ∈ pd) (mt : t ∈ pd)
    (e : Edge (fun a => at_ a 0) (ht M) pd s t) : onward l s = t ∧ ht M s < ht M t := by
  have ls := hl s ((sub s).mp ms)
  have lt := hl t ((sub t).mp mt)
  refine ⟨onward_eq ((sub t).mp mt) (fun z => by have := e.1; rw [z] at this; omega) (fun r mr n1 n2 => ?_) (fun r mr => ?_), e.1⟩
  · have lr := hl r mr
    have mr' := (sub r).mpr mr
    rw [side_ar ls lt lr, sgn_p, sgn_z]
    rcases e.2 r mr' with z | ⟨z, z1, z2⟩
    · rw [ar_up] at z
      exact .inl (pos_of_mul M0 z)
    · rw [ar_up] at z
      have z0 : ar0 s t r = 0 := by rcases Int.mul_eq_zero.mp z with y | y; omega; exact y
      have d1 : ht M r ≠ ht M s := fun y => n1 (inj r mr' s ms y)
      have d2 : ht M r ≠ ht M t := fun y => n2 (inj r mr' t mt y)
      exact .inr ⟨z0, far_part (M := M) ls lt lr z0 (by omega)⟩
  · have lr := hl r mr
    rw [side_ar ls lr lt, side_ar ls lt lr, ← sgn_m]
    congr 1
    unfold ar0; grind
theorem edge_dn {l pd : List Vec} {M : Int} (M0 : 0 < M) (hl : ∀ a ∈ l, a.length = 2) (sub : ∀ a, a ∈ pd ↔ a ∈ l) (inj : ∀ a ∈ pd, ∀ b ∈ pd, ht M a = ht M b → a = b) {s t : Vec} (ms : s ∈ pd) (mt : t ∈ pd)
    (e : Edge (fun a => - at_ a 0) (fun a => - ht M a) pd s t) : onward l s = t ∧ ht M t < ht M s := by
  have ls := hl s ((sub s).mp ms)
  have lt := hl t ((sub t).mp mt)
  have e1 : - ht M s < - ht M t := e.1
  refine ⟨onward_eq ((sub t).mp mt) (fun z => by rw [z] at e1; omega) (fun r mr n1 n2 => ?_) (fun r mr => ?_), by omega⟩
  · have lr := hl r mr
    have mr' := (sub r).mpr mr
    rw [side_ar ls lt lr, sgn_p, sgn_z]
    rcases e.2 r mr' with z | ⟨z, z1, z2⟩
    · rw [ar_dn] at z
      exact .inl (pos_of_mul M0 z)
    · rw [ar_dn] at z
      have z0 : ar0 s t r = 0 := by rcases Int.mul_eq_zero.mp z with y | y; omega; exact y
      have d1 : ht M r ≠ ht M s := fun y => n1 (inj r mr' s ms y)
      have d2 : ht M r ≠ ht M t := fun y => n2 (inj r mr' t mt y)
      have z1' : - ht M s ≤ - ht M r := z1
      have z2' : - ht M r ≤ - ht M t := z2
      exact .inr ⟨z0, far_part (M := M) ls lt lr z0 (by omega)⟩
  · have lr := hl r mr
    rw [side_ar ls lr lt, side_ar ls lt lr, ← sgn_m]
    congr 1
    unfold ar0; grind
def tst (a b c : Vec) : Bool := decide (ar0 a b c ≤ 0)
theorem mul_le0 {M z : Int} (M0 : 0 < M) : M * z ≤ 0 ↔ z ≤ 0 := by
  constructor
  · intro h
    rcases Int.lt_trichotomy z 0 with g | g | g
    · omega
    · omega
    · have := Int.mul_pos M0 g; omega
  · intro h
    have := Int.mul_nonneg (show 0 ≤ M by omega) (show 0 ≤ -z by omega)
    rw [Int.mul_neg] at this
    omega
theorem last_of {α : Type} {l : List α} {m : α} (h : l.getLast? = some m) : l = l.dropLast ++ [m] := by
  have hne : l ≠ [] := fun z => by rw [z] at h; cases h
  have := List.dropLast_concat_getLast hne
  rw [List.getLast?_eq_some_getLast hne] at h
  cases h
  exact this.symm
theorem round_chains {l L : List Vec} {M : Int} (M0 : 0 < M) (hl : ∀ a ∈ l, a.length = 2) (sub : ∀ a, a ∈ L ↔ a ∈ l) (hL : L.Pairwise (fun a b => ht M a < ht M b)) (len : L.length ≤ l.length) {lo hi : Vec} (elo : L.head? = some lo) (ehi : L.getLast? = some hi) (two : 2 ≤ L.length) :
    round l lo l.length lo = (chain tst L).reverse.dropLast ++ (chain tst L.reverse).reverse.dropLast := by
  have T1 : ∀ a b c, tst a b c = true ↔ ar (fun a => at_ a 0) (ht M) a b c ≤ 0 := fun a b c => by rw [ar_up, mul_le0 M0]; unfold tst; rw [decide_eq_true_eq]
  have T2 : ∀ a b c, tst a b c = true ↔ ar (fun a => - at_ a 0) (fun a => - ht M a) a b c ≤ 0 := fun a b c => by rw [ar_dn, mul_le0 M0]; unfold tst; rw [decide_eq_true_eq]
  have hLr : L.reverse.Pairwise (fun a b => - ht M a < - ht M b) := List.pairwise_reverse.mpr (hL.imp fun h => by omega)
  have inj : ∀ a ∈ L, ∀ b ∈ L, ht M a = ht M b → a = b := by
    have : ∀ {L : List Vec}, L.Pairwise (fun a b => ht M a < ht M b) → ∀ a ∈ L, ∀ b ∈ L, ht M a = ht M b → a = b := by
      intro L hL
      induction L with
      | nil => intro a ha; exact nomatch ha
      | cons c r ih =>
        obtain ⟨h1, h2⟩ := List.pairwise_cons.mp hL
        intro a ha b hb e
        rcases List.mem_cons.mp ha with z | ha <;> rcases List.mem_cons.mp hb with y | hb
        · rw [z, y]
        · have := h1 b hb; rw [z] at e; omega
        · have := h1 a ha; rw [y] at e; omega
        · exact ih h2 a ha b hb e
    exact this hL
  obtain ⟨g1, a1, b1⟩ := chain_ok T1 hL
  obtain ⟨g2, a2, b2⟩ := chain_ok T2 hLr
  have s1 := chain_sub (T := tst) L
  have s2 := chain_sub (T := tst) L.reverse
  rw [List.reverse_reverse] at g2 a2 b2 s2
  rw [List.head?_reverse, ehi] at a1
  rw [List.getLast?_reverse, elo] at b1
  rw [elo] at a2
  rw [ehi] at b2
  -- the two rows
  have k1 : Lk (fun a b => onward l a = b ∧ ht M a < ht M b) (chain tst L).reverse := Lk.rev (Lk.mono (fun t s ⟨mt, ms, e⟩ => edge_up M0 hl sub inj ((List.mem_reverse).mp ms) ((List.mem_reverse).mp mt)
    ⟨e.1, fun q m => e.2 q (List.mem_reverse.mpr m)⟩) (good_lk (fun a ha => s1.subset ha) g1))
  have k2 : Lk (fun a b => onward l a = b ∧ ht M b < ht M a) (chain tst L.reverse).reverse := Lk.rev (Lk.mono (fun t s ⟨mt, ms, e⟩ => edge_dn M0 hl sub inj ms mt e) (good_lk (fun a ha => s2.subset ha) g2))
  have u1 : (chain tst L).reverse.Sublist L := by have := s1.reverse; rw [List.reverse_reverse] at this; exact this
  have u2 : (chain tst L.reverse).reverse.Sublist L.reverse := s2.reverse
  have f1 : (chain tst L).reverse.head? = some lo := by rw [List.head?_reverse]; exact b1
  have f2 : (chain tst L).reverse.getLast? = some hi := by rw [List.getLast?_reverse]; exact a1
  have f3 : (chain tst L.reverse).reverse.head? = some hi := by rw [List.head?_reverse]; exact b2
  have f4 : (chain tst L.reverse).reverse.getLast? = some lo := by rw [List.getLast?_reverse]; exact a2
  generalize (chain tst L).reverse = CU at *
  generalize (chain tst L.reverse).reverse = CD at *
  have eU := last_of f2
  have eD := last_of f4
  have lohi : ht M lo < ht M hi := by
    match L, two with
    | a :: b :: r, _ =>
      cases elo
      rw [List.getLast?_cons_cons] at ehi
      exact (List.pairwise_cons.mp hL).1 hi (List.mem_of_getLast? ehi)
  have nlh : lo ≠ hi := fun z => by rw [z] at lohi; omega
  -- they begin with lo, with hi
  obtain ⟨cu, ecu⟩ : ∃ cu, CU.dropLast = lo :: cu := by
    match h : CU.dropLast with
    | [] => rw [h] at eU; rw [eU] at f1; cases f1; exact absurd rfl nlh
    | a :: cu => rw [h] at eU; rw [eU] at f1; cases f1; exact ⟨cu, rfl⟩
  obtain ⟨cd, ecd⟩ : ∃ cd, CD.dropLast = hi :: cd := by
    match h : CD.dropLast with
    | [] => rw [h] at eD; rw [eD] at f3; cases f3; exact absurd rfl nlh
    | a :: cd => rw [h] at eD; rw [eD] at f3; cases f3; exact ⟨cd, rfl⟩
  have pU : CU.Pairwise (fun a b => ht M a < ht M b) := hL.sublist u1
  have pD : CD.Pairwise (fun a b => - ht M a < - ht M b) := hLr.sublist u2
  rw [ecu] at eU
  rw [ecd] at eD
  rw [ecu, ecd, List.cons_append]
  have nU : ∀ q ∈ cu, ht M lo < ht M q := fun q hq => by
    rw [eU, List.cons_append] at pU
    exact (List.pairwise_cons.mp pU).1 q (List.mem_append_left _ hq)
  have nD : ∀ q ∈ hi :: cd, ht M lo < ht M q := fun q hq => by
    rw [eD] at pD
    have := (List.pairwise_append.mp pD).2.2 q hq lo (by simp)
    omega
  have kk : Lk (fun a b => onward l a = b ∧ b ≠ a) (lo :: ((cu ++ (hi :: cd)) ++ [lo])) := by
    have j1 := Lk.mono (S := fun a b => onward l a = b ∧ b ≠ a) (fun a b ⟨q1, q2⟩ => ⟨q1, fun z => by rw [z] at q2; omega⟩) k1
    have j2 := Lk.mono (S := fun a b => onward l a = b ∧ b ≠ a) (fun a b ⟨q1, q2⟩ => ⟨q1, fun z => by rw [z] at q2; omega⟩) k2
    rw [eU] at j1
    rw [eD, List.cons_append] at j2
    have := Lk.join j1 j2
    simpa using this
  refine round_walk (walk_of kk fun q hq => ?_) ?_
  · intro z
    rcases List.mem_append.mp hq with m | m
    · have := nU q m; rw [z] at this; omega
    · have := nD q m; rw [z] at this; omega
  · have v1 : (lo :: cu).Sublist L := by rw [eU] at u1; exact (List.sublist_append_left _ _).trans u1
    have v2 : (hi :: cd).Sublist L.reverse := by rw [eD] at u2; exact (List.sublist_append_left _ _).trans u2
    have := two_len (U := fun v => decide (ht M v < ht M (onward l v))) v1 v2 (fun v hv => by
      rw [eU] at k1
      obtain ⟨w, e, g⟩ := k1.next v hv
      rw [e]; exact decide_eq_true g) (fun v hv => by
      rw [eD] at k2
      obtain ⟨w, e, g⟩ := k2.next v hv
      rw [e]; exact decide_eq_false (by omega))
    rw [List.length_append]
    rw [List.length_cons, List.length_cons] at this
    rw [List.length_cons]
    omega
end HK

set_option linter.all false
namespace HK
open Sh25
def lo2 (a b : Vec) : Prop := at_ a 1 < at_ b 1 ∨ (at_ a 1 = at_ b 1 ∧ at_ a 0 < at_ b 0)
structure UP (l : List Vec) (us : List Nat) : Prop where
  lt : ∀ u ∈ us, u < l.length
  up : us.Pairwise (fun i j => lo2 (l.getD i []) (l.getD j []))
  first : ∀ u ∈ us, ∀ j, j < u → l.getD j [] ≠ l.getD u []
  all : ∀ a ∈ l, ∃ u ∈ us, l.getD u [] = a
  len : us.length ≤ l.length
def tstI (l : List Vec) (i j k : Nat) : Bool := tst (l.getD i []) (l.getD j []) (l.getD k [])
def tight (l : List Vec) (us : List Nat) : List Nat := (chain (tstI l) us).reverse
theorem wide (l : List Vec) : ∃ M : Int, 0 < M ∧ ∀ a ∈ l, ∀ b ∈ l, at_ a 0 - at_ b 0 < M := by
  have : ∃ B : Nat, ∀ a ∈ l, (at_ a 0).natAbs ≤ B := by
    induction l with
    | nil => exact ⟨0, fun a h => nomatch h⟩
    | cons c r ih =>
      obtain ⟨B, h⟩ := ih
      refine ⟨B + (at_ c 0).natAbs, fun a ha => ?_⟩
      rcases List.mem_cons.mp ha with e | ha
      · rw [e]; omega
      · have := h a ha; omega
  obtain ⟨B, h⟩ := this
  refine ⟨2 * B + 1, by omega, fun a ha b hb => ?_⟩
  have h1 := h a ha
  have h2 := h b hb
  omega
theorem ht_of {M : Int} {a b : Vec} (M0 : 0 < M) (w : at_ a 0 - at_ b 0 < M) (h : lo2 a b) : ht M a < ht M b := by
  have e : ht M b - ht M a = M * (at_ b 1 - at_ a 1) + (at_ b 0 - at_ a 0) := by unfold ht; grind
  rcases h with h | ⟨h1, h2⟩
  · have := Int.mul_le_mul_of_nonneg_left (show 1 ≤ at_ b 1 - at_ a 1 by omega) (show 0 ≤ M by omega)
    omega
  · rw [h1, Int.sub_self, Int.mul_zero] at e; omega
theorem lo_of {M : Int} {a b : Vec} (M0 : 0 < M) (w : at_ b 0 - at_ a 0 < M) (h : ht M a < ht M b) : lo2 a b := by
  unfold lo2
  rcases Int.lt_trichotomy (at_ a 1) (at_ b 1) with g | g | g
  · exact .inl g
  · refine .inr ⟨g, ?_⟩
    have e : ht M b - ht M a = M * (at_ b 1 - at_ a 1) + (at_ b 0 - at_ a 0) := by unfold ht; grind
    rw [g, Int.sub_self, Int.mul_zero] at e; omega
  · have := ht_of M0 (a := b) (b := a) w (.inl g); omega
theorem lower_iff {a b : Vec} : lower a b = true ↔ lo2 a b := by unfold lower lo2; simp
theorem best_min {l : List Vec} {M : Int} (M0 : 0 < M) (w : ∀ a ∈ l, ∀ b ∈ l, at_ a 0 - at_ b 0 < M) (ne : 0 < l.length) : best lower l < l.length ∧ ∀ i, i < l.length → ht M (l.getD (best lower l) []) ≤ ht M (l.getD i []) := by
  have mem : ∀ i, i < l.length → l.getD i [] ∈ l := fun i hi => by rw [List.getD_eq_getElem?_getD, List.getElem?_eq_getElem hi]; exact List.getElem_mem _
  have key : ∀ k, k < l.length → ∀ b, b = (List.range (k + 1)).foldl (fun (m i : Nat) => if lower (l.getD i []) (l.getD m []) = true then i else m) 0 → b ≤ k ∧ ∀ i, i ≤ k → ht M (l.getD b []) ≤ ht M (l.getD i []) := by
    intro k
    induction k with
    | zero =>
      intro _ b e
      have : b = 0 := by rw [e]; show (if _ then 0 else 0) = 0; split <;> rfl
      subst this
      exact ⟨Nat.le_refl _, fun i hi => by rw [Nat.le_zero.mp hi]; exact Int.le_refl _⟩
    | succ k ih =>
      intro hk b e
      rw [List.range_succ, List.foldl_append] at e
      obtain ⟨h1, h2⟩ := ih (by omega) _ rfl
      generalize (List.range (k + 1)).foldl (fun (m i : Nat) => if lower (l.getD i []) (l.getD m []) = true then i else m) 0 = c at *
      have e' : b = if lower (l.getD (k + 1) []) (l.getD c []) = true then k + 1 else c := e
      have m1 := mem (k + 1) hk
      have m2 := mem c (by omega)
      by_cases q : lower (l.getD (k + 1) []) (l.getD c []) = true
      · rw [if_pos q] at e'
        subst e'
        have := ht_of M0 (w _ m1 _ m2) (lower_iff.mp q)
        refine ⟨Nat.le_refl _, fun i hi => ?_⟩
        by_cases z : i = k + 1
        · rw [z]; exact Int.le_refl _
        · have := h2 i (by omega); omega
      · rw [if_neg q] at e'
        subst e'
        refine ⟨by omega, fun i hi => ?_⟩
        by_cases z : i = k + 1
        · rw [z]
          refine Int.not_lt.mp fun y => q (lower_iff.mpr (lo_of M0 (w _ m2 _ m1) y))
        · exact h2 i (by omega)
  obtain ⟨n, hn⟩ : ∃ n, l.length = n + 1 := ⟨l.length - 1, by omega⟩
  have := key n (by omega) (best lower l) (by unfold best; rw [hn])
  exact ⟨by omega, fun i hi => this.2 i (by omega)⟩
theorem idx_first {l : List Vec} {u : Nat} (hu : u < l.length) (hf : ∀ j, j < u → l.getD j [] ≠ l.getD u []) : (l.findIdx fun q => q == l.getD u []) = u := by
  have gd : ∀ i (hi : i < l.length), l.getD i [] = l[i] := fun i hi => by rw [List.getD_eq_getElem?_getD, List.getElem?_eq_getElem hi]; rfl
  rw [List.findIdx_eq hu]
  refine ⟨by rw [gd u hu]; simp, fun j hj => ?_⟩
  rw [beq_eq_false_iff_ne, ← gd j (by omega)]
  exact hf j hj
theorem onward_alone {l : List Vec} {p : Vec} (h : ∀ a ∈ l, a = p) : onward l p = p := by
  unfold onward
  have : ∀ l' : List Vec, (∀ a ∈ l', a = p) → l'.foldl (fun (q r : Vec) => if r == p then q else if q == p then r else
      let s := side p q r
      if s < 0 ∨ (s = 0 ∧ far p q < far p r) then r else q) p = p := by
    intro l'
    induction l' with
    | nil => intro _; rfl
    | cons a r ih =>
      intro h
      rw [List.foldl_cons, if_pos (beq_iff_eq.mpr (h a (by simp)))]
      exact ih fun b hb => h b (List.mem_cons_of_mem _ hb)
  exact this l h
theorem hull_up {l : List Vec} {us : List Nat} (hl : ∀ a ∈ l, a.length = 2) (ne : 0 < l.length) (h : UP l us) :
    (us.length = 1 → hull l = us) ∧ (us.length ≠ 1 → hull l = (tight l us).dropLast ++ (tight l us.reverse).dropLast) := by
  obtain ⟨M, M0, w⟩ := wide l
  obtain ⟨b1, b2⟩ := best_min M0 w ne
  have mem : ∀ i, i < l.length → l.getD i [] ∈ l := fun i hi => by rw [List.getD_eq_getElem?_getD, List.getElem?_eq_getElem hi]; exact List.getElem_mem _
  have nu : us ≠ [] := fun z => by
    obtain ⟨u, hu, _⟩ := h.all _ (mem 0 ne)
    rw [z] at hu; cases hu
  obtain ⟨u0, ur, eus⟩ : ∃ u0 ur, us = u0 :: ur := by cases us with | nil => exact absurd rfl nu | cons a r => exact ⟨a, r, rfl⟩
  have sub : ∀ a, a ∈ us.map (fun i => l.getD i []) ↔ a ∈ l := fun a => by
    rw [List.mem_map]
    constructor
    · rintro ⟨u, hu, rfl⟩; exact mem u (h.lt u hu)
    · intro ha; obtain ⟨u, hu, e⟩ := h.all a ha; exact ⟨u, hu, e⟩
  have hL : (us.map (fun i => l.getD i [])).Pairwise (fun a b => ht M a < ht M b) := by
    rw [List.pairwise_map]
    refine List.Pairwise.imp_of_mem (fun {a b} ha hb hab => ?_) h.up
    exact ht_of M0 (w _ (mem a (h.lt a ha)) _ (mem b (h.lt b hb))) hab
  have est : l.getD (best lower l) [] = l.getD u0 [] := by
    have m := (sub _).mpr (mem _ b1)
    rw [eus, List.map_cons] at m hL
    rcases List.mem_cons.mp m with z | z
    · exact z
    · have q1 := (List.pairwise_cons.mp hL).1 _ z
      have q2 := b2 u0 (h.lt u0 (by rw [eus]; simp))
      omega
  have back : ∀ is : List Nat, (∀ i ∈ is, i ∈ us) → (is.map (fun i => l.getD i [])).map (fun p => l.findIdx fun q => q == p) = is := by
    intro is
    induction is with
    | nil => intro _; rfl
    | cons a r ih =>
      intro his
      have ha := his a (by simp)
      rw [List.map_cons, List.map_cons, ih fun b hb => his b (List.mem_cons_of_mem _ hb), idx_first (h.lt a ha) (h.first a ha)]
  constructor
  · intro h1
    have e : us = [u0] := by
      rw [eus] at h1 ⊢
      have : ur = [] := List.eq_nil_of_length_eq_zero (by simpa using h1)
      rw [this]
    have alone : ∀ a ∈ l, a = l.getD u0 [] := fun a ha => by
      have := (sub a).mpr ha
      rw [e] at this
      simpa using this
    unfold hull
    rw [est]
    obtain ⟨n, hn⟩ : ∃ n, l.length = n + 1 := ⟨l.length - 1, by omega⟩
    have r1 : round l (l.getD u0 []) l.length (l.getD u0 []) = [u0].map (fun i => l.getD i []) := by
      rw [hn]
      exact round_walk (w := []) (onward_alone alone) (by simp)
    show (round l (l.getD u0 []) l.length (l.getD u0 [])).map _ = us
    rw [r1, e]
    exact back [u0] fun i hi => by rw [e]; exact hi
  · intro h1
    have two : 2 ≤ us.length := by
      have : us.length ≠ 0 := fun z => nu (List.eq_nil_of_length_eq_zero z)
      omega
    have elo : (us.map (fun i => l.getD i [])).head? = some (l.getD u0 []) := by rw [eus]; rfl
    obtain ⟨hi, ehi⟩ : ∃ hi, (us.map (fun i => l.getD i [])).getLast? = some hi := ⟨_, List.getLast?_eq_some_getLast (by simpa using nu)⟩
    have := round_chains M0 hl sub hL (by rw [List.length_map]; exact h.len) elo ehi (by rw [List.length_map]; exact two)
    rw [← List.map_reverse, chain_map, chain_map, ← List.map_reverse, ← List.map_reverse, ← List.map_dropLast, ← List.map_dropLast, ← List.map_append] at this
    unfold hull
    rw [est]
    show (round l (l.getD u0 []) l.length (l.getD u0 [])).map _ = _
    rw [this]
    refine back _ fun i hi => ?_
    rcases List.mem_append.mp hi with m | m
    · have := (chain_sub us).subset (List.mem_reverse.mp ((List.dropLast_subset _) m))
      simpa using this
    · have := (chain_sub us.reverse).subset (List.mem_reverse.mp ((List.dropLast_subset _) m))
      simpa using this
end HK

set_option linter.all false
set_option maxRecDepth 100000
set_option maxHeartbeats 2000000
namespace M
open PySem L2
local macro_rules | `(tactic| walk_at "rd") => `(tactic| try simp only [cxOf_K, lamCx_K, tCB, L2.wipe, L2.start, List.map_cons, List.map_nil, List.replicate_succ, List.replicate_zero, Nat.reduceAdd, Nat.reduceSub, Nat.zero_add, tSeq, tAsg, gName, tOp, tUn, tC, tVar, tTest, tIfS, tRet, tRetN, tNext, tDrop, tRaise, rI_int, rI0_int, rU_int, rEq_int, rNe_int, tCall, tCons, tNil, tLst, tTup, tSl, tPart, tNoPart, tBM, tBM0, tAug, ipI_int, tBits, tOr, tListZip, tAnd, tNot, tIf, tB, tOrV, tAndV, tNotV, tChain, Bool.false_eq_true, if_false, Bool.not_true, Bool.not_false, rAbs_int, rMax2_int, rMin2_int, List.getElem?_cons_zero, List.getElem?_cons_succ, Option.some.injEq, exists_eq_left, exists_eq_left', exists_eq_right, V.int.injEq, V.bl.injEq, V.ref.injEq, decide_eq_true_eq, Bool.not_eq_true', decide_eq_false_iff_not, and_true, true_and, List.set_cons_zero, List.set_cons_succ, List.nil_append, List.cons_append, List.append_nil, if_true, List.length_cons, List.length_nil])
def top (i : Nat) : Stmt := PySem.Challenge.pw_exactplaces_s12_hull.main.body.getD i (.Pass ⟨0, 0, 0, 0⟩)
abbrev s_sign_of : Stmt := top 1
abbrev s_way_between : Stmt := top 2
abbrev s_without_column : Stmt := top 3
abbrev s_determinant : Stmt := top 4
abbrev s_answered : Stmt := top 9
abbrev s_side_value : Stmt := top 11
abbrev s_side_sign : Stmt := top 12
abbrev s_tight_side : Stmt := top 14
abbrev s_upward_places : Stmt := top 15
abbrev s_hull_places : Stmt := top 16
abbrev s_hull_answer : Stmt := top 17
abbrev s_read_number : Stmt := top 22
abbrev s_read_choice : Stmt := top 23
abbrev s_read_numbers : Stmt := top 24
abbrev s_read_dimension : Stmt := top 25
abbrev s_in_groups : Stmt := top 26
abbrev s_read_points : Stmt := top 27
abbrev s_hull : Stmt := top 29
section
variable {P : Program} {w : World} {K : PySem.W.Frag} {mg : Str → Option Value} {base : Heap}
/-! answered -/
theorem one_two : (2 : Int) ^ 1074 * ((Sh25.ONE : Nat) : Int) = 2 ^ 2148 := by
  unfold Sh25.ONE
  rw [Int.natCast_pow]
  show (2 : Int) ^ 1074 * 2 ^ 1074 = 2 ^ 2148
  rw [← Int.pow_add]
theorem dot_self_nonneg (l : List Int) : 0 ≤ Sh25.dot l l := by
  unfold Sh25.dot
  generalize List.range l.length = r
  induction r with
  | nil => simp
  | cons i t ih =>
    rw [List.map_cons, List.sum_cons]
    have : 0 ≤ Sh25.at_ l i * Sh25.at_ l i := by
      rcases Int.le_total 0 (Sh25.at_ l i) with z | z
      · exact Int.mul_nonneg z z
      · exact Int.mul_nonneg_of_nonpos_of_nonpos z z
    omega
theorem due_if (b : Bool) (l : List Int) : ansOf (if b = true then ⟨0, l⟩ else Sh25.num (-7)) = if b = true then 0 :: l else [-7] := by
  cases b <;> rfl
theorem due_parts (o : Option (List Nat)) : ansOf (match o with | some l => ⟨((l.length : Nat) : Int), Sh25.ints l⟩ | none => Sh25.num (-7)) = match o with | some l => (l.length : Int) :: Sh25.ints l | none => [-7] := by
  cases o with
  | none => rfl
  | some l =>
    show (if ((l.length : Nat) : Int) < 0 then _ else _) = _
    rw [if_neg (by omega)]
theorem due_nat (n : Nat) : ansOf (Sh25.num (n : Int)) = [(n : Int)] := by
  show (if (n : Int) < 0 then _ else _) = _
  rw [if_neg (by omega)]
  rfl
theorem told_one (z : Int) : tn 0 z 2148 = Sh25.told z Sh25.ONE := by
  refine tn_told (p := 2148) (Nat.two_pow_pos _) ?_
  rw [Int.mul_assoc, one_two]
theorem mul_lt_pow {x y : Int} {A B : Nat} (hx : x.natAbs < 2 ^ A) (hy : y.natAbs < 2 ^ B) : (x * y).natAbs < 2 ^ (A + B) := by
  rw [Int.natAbs_mul, Nat.pow_add]
  exact Nat.mul_lt_mul'' hx hy
theorem add_lt_pow {x y : Int} {A : Nat} (hx : x.natAbs < 2 ^ A) (hy : y.natAbs < 2 ^ A) : (x + y).natAbs < 2 ^ (A + 1) ∧ (x - y).natAbs < 2 ^ (A + 1) := by
  rw [Nat.pow_succ]
  omega
theorem far_facts {a b : List Int} (hl : a.length = b.length) (hz : a.length ≤ 7) (ba : LB 2098 a) (bb : LB 2098 b) : 0 ≤ Sh25.far a b ∧ (Sh25.far a b).natAbs < 2 ^ 4201 := by
  have lb := lb_sub bb ba
  have := dot_bound lb lb (by rw [sub_length]; omega)
  rw [far_sym a b hl] at this
  exact ⟨by rw [← far_sym a b hl]; exact dot_self_nonneg _, this⟩
theorem ev_list {K : PySem.W.Frag} {H : Hp} : ∀ {ys : List V} {P : Nat → Int → Int → Prop}, (∀ (i : Nat) (v : V), ys[i]? = some v → ∃ t w p, v = .ref t ∧ H t = some (.tup [.int w, .int p]) ∧ P i w p) → ∃ xs : List (Int × Int), xs.length = ys.length ∧ Paired (EV K H) ys xs ∧ ∀ (i : Nat) (x : Int × Int), xs[i]? = some x → P i x.1 x.2
  | [], P, _ => ⟨[], rfl, .nil, fun i x e => by simp at e⟩
  | y :: ys, P, h => by
    obtain ⟨t, w, p, rfl, e, hp⟩ := h 0 y rfl
    obtain ⟨xs, l, pr, hx⟩ := ev_list (ys := ys) (P := fun i => P (i + 1)) fun i v e => h (i + 1) v e
    refine ⟨(w, p) :: xs, by rw [List.length_cons, List.length_cons, l], .cons (EV.of e) pr, fun i x ex => ?_⟩
    cases i with
    | zero => cases ex; exact hp
    | succ i => exact hx i x ex
theorem choose_list {α : Type} : ∀ {ys : List V} {P : Nat → V → α → Prop}, (∀ (i : Nat) (v : V), ys[i]? = some v → ∃ b, P i v b) → ∃ bs : List α, bs.length = ys.length ∧ ∀ (i : Nat) (v : V), ys[i]? = some v → ∃ b, bs[i]? = some b ∧ P i v b
  | [], P, _ => ⟨[], rfl, fun i v e => by simp at e⟩
  | y :: ys, P, h => by
    obtain ⟨b, hb⟩ := h 0 y rfl
    obtain ⟨bs, l, hx⟩ := choose_list (ys := ys) (P := fun i => P (i + 1)) fun i v e => h (i + 1) v e
    refine ⟨b :: bs, by rw [List.length_cons, List.length_cons, l], fun i v e => ?_⟩
    cases i with
    | zero => cases e; exact ⟨b, rfl, hb⟩
    | succ i => exact hx i v e
/-- an interval as it's kept -/
def bx (b : Sh25.Box) : Int × Int := (Sh25.lo b, Sh25.hi b)
abbrev LLP (K : PySem.W.Frag) (H : Hp) (v : V) (m : List (List (Int × Int))) : Prop := ∃ a xs, v = .ref a ∧ SqL K H a xs ∧ Paired (LP K H) xs m
theorem LLP.same {K : PySem.W.Frag} {H H' : Hp} {v : V} {l : List (List (Int × Int))} (g : Same H H') (h : LLP K H v l) : LLP K H' v l := let ⟨a, xs, e, q, p⟩ := h; ⟨a, xs, e, g.seq q, Paired.imp' (fun _ _ z => LP.same g z) p⟩
def VB (v p : Int) : Prop := v.natAbs < 2 ^ 100000 ∧ -100000 ≤ p ∧ p ≤ 100000
/-- a span at r: what its low and its high are told as, outwards -/
def TS (H : Hp) (r : Addr) (f g : Option Nat) : Prop := ∃ a b v p w q, H r = some (.tup [.ref a, .ref b]) ∧ H a = some (.tup [.int v, .int p]) ∧ H b = some (.tup [.int w, .int q]) ∧ VB v p ∧ VB w q ∧ tn 1 v p = f ∧ tn 2 w q = g
theorem TS.same {H H' : Hp} {r : Addr} {f g : Option Nat} (s : Same H H') (h : TS H r f g) : TS H' r f g := let ⟨a, b, v, p, w, q, e1, e2, e3, e4⟩ := h; ⟨a, b, v, p, w, q, s _ _ e1, s _ _ e2, s _ _ e3, e4⟩
/-- one that is new behind H0 -/
def TSf (H0 H : Hp) (r : Addr) (f g : Option Nat) : Prop := ∃ a b v p w q, H0 r = none ∧ H0 a = none ∧ H0 b = none ∧ H r = some (.tup [.ref a, .ref b]) ∧ H a = some (.tup [.int v, .int p]) ∧ H b = some (.tup [.int w, .int q]) ∧ VB v p ∧ VB w q ∧ tn 1 v p = f ∧ tn 2 w q = g
theorem TSf.ts {H0 H : Hp} {r : Addr} {f g : Option Nat} (h : TSf H0 H r f g) : TS H r f g := let ⟨a, b, v, p, w, q, _, _, _, e⟩ := h; ⟨a, b, v, p, w, q, e⟩
theorem TSf.pre {H00 H0 H : Hp} {r : Addr} {f g : Option Nat} (s : Same H00 H0) (h : TSf H0 H r f g) : TSf H00 H r f g := let ⟨a, b, v, p, w, q, n1, n2, n3, e⟩ := h; ⟨a, b, v, p, w, q, s.free n1, s.free n2, s.free n3, e⟩
/-- one in a list that grows at D -/
def RS (D : Addr) (H : Hp) (z : V) (f g : Option Nat) : Prop := ∃ t a b v p w q, z = V.ref t ∧ t ≠ D ∧ a ≠ D ∧ b ≠ D ∧ H t = some (.tup [.ref a, .ref b]) ∧ H a = some (.tup [.int v, .int p]) ∧ H b = some (.tup [.int w, .int q]) ∧ VB v p ∧ VB w q ∧ tn 1 v p = f ∧ tn 2 w q = g
theorem RS.mono {D : Addr} {H H' : Hp} {z : V} {f g : Option Nat} (s : SameX D H H') (h : RS D H z f g) : RS D H' z f g := let ⟨t, a, b, v, p, w, q, e, n1, n2, n3, e1, e2, e3, r⟩ := h; ⟨t, a, b, v, p, w, q, e, n1, n2, n3, s _ _ n1 e1, s _ _ n2 e2, s _ _ n3 e3, r⟩
theorem RS.of {D t : Addr} {H0 H : Hp} {f g : Option Nat} (nD : H0 D ≠ none) (h : TSf H0 H t f g) : RS D H (.ref t) f g := let ⟨a, b, v, p, w, q, n1, n2, n3, e⟩ := h; ⟨t, a, b, v, p, w, q, rfl, fun z => nD (z ▸ n1), fun z => nD (z ▸ n2), fun z => nD (z ▸ n3), e⟩
theorem iv_list {D : Addr} {H : Hp} : ∀ {ys : List V} {fs : List (Option Nat × Option Nat)}, ys.length = fs.length → (∀ (i : Nat) (v : V), ys[i]? = some v → ∃ f, fs[i]? = some f ∧ RS D H v f.1 f.2) → ∃ rs : List Addr, ys = rs.map V.ref ∧ ∀ (i : Nat) (r : Addr) (f : Option Nat × Option Nat), rs[i]? = some r → fs[i]? = some f → TS H r f.1 f.2
  | [], [], _, _ => ⟨[], rfl, fun i r f e => by simp at e⟩
  | [], _ :: _, h, _ => by cases h
  | _ :: _, [], h, _ => by cases h
  | y :: ys, f :: fs, l, h => by
    obtain ⟨f', e0, t, a, b, v, p, w, q, rfl, _, _, _, e⟩ := h 0 y rfl
    cases e0
    obtain ⟨rs, er, hr⟩ := iv_list (ys := ys) (fs := fs) (Nat.succ.inj l) fun i v e => h (i + 1) v e
    refine ⟨t :: rs, by rw [er]; rfl, fun i r f e1 e2 => ?_⟩
    cases i with
    | zero => cases e1; cases e2; exact ⟨a, b, v, p, w, q, e⟩
    | succ i => exact hr i r f e1 e2
def outO (x : Option Nat × Option Nat) : Option Sh25.Box := x.1.bind fun a => x.2.map fun b => (a, b)
theorem TS.num {H : Hp} {r : Addr} {f g : Option Nat} (h : TS H r f g) : (∀ a, f = some a → Sh25.isNum a = true ∧ Sh25.plain a = a) ∧ ∀ a, g = some a → Sh25.isNum a = true ∧ Sh25.plain a = a := by
  obtain ⟨_, _, v, p, w, q, _, _, _, _, _, t1, t2⟩ := h
  refine ⟨fun a e => ?_, fun a e => ?_⟩
  · rw [← t1] at e
    exact ⟨(toNum_some (Nat.two_pow_pos _) e).2.1, told_plain (Nat.two_pow_pos _) e⟩
  · rw [← t2] at e
    exact ⟨(toNum_some (Nat.two_pow_pos _) e).2.1, told_plain (Nat.two_pow_pos _) e⟩
theorem outO_some {f : Option Nat × Option Nat} {b : Sh25.Box} : outO f = some b ↔ f = (some b.1, some b.2) := by
  obtain ⟨x, y⟩ := f
  cases x <;> cases y <;> simp [outO, Prod.ext_iff]
theorem outO_none {f : Option Nat × Option Nat} (h : f.1 = none ∨ f.2 = none) : outO f = none := by
  obtain ⟨x, y⟩ := f
  cases x <;> cases y <;> simp_all [outO]
def bvals (l : List (Option Sh25.Box)) : List Int := match Sh25.all? l with
  | some r => 0 :: Sh25.flat r
  | none => [-7]
theorem due_boxed (l : List (Option Sh25.Box)) : ansOf (Sh25.boxed l) = bvals l := by
  unfold Sh25.boxed bvals
  cases Sh25.all? l <;> rfl
theorem bvals_some {l : List (Option Sh25.Box)} {r : List Sh25.Box} (h : Sh25.all? l = some r) : bvals l = 0 :: Sh25.flat r := by unfold bvals; rw [h]
theorem bvals_none {l : List (Option Sh25.Box)} (h : Sh25.all? l = none) : bvals l = [-7] := by unfold bvals; rw [h]
theorem map_pair {f : Int → Int → Option Nat} {g : Int → Option Nat} {c : Int} {l : List Int} (h : ∀ z, f z c = g z) : (l.map fun z => (z, c)).map (fun x => f x.1 x.2) = l.map g := by
  rw [List.map_map]
  exact List.map_congr_left fun z _ => h z
def inZ (a : List Int) : Prop := (∀ z ∈ a, -9223372036854775808 ≤ z ∧ z ≤ 18446744073709551615) ∧ a.length ≤ 12500
theorem inZ_of {least most : Nat} {a : List Int} (h : PySem.W.Codec.within (.list least most (.int (-9223372036854775808) 18446744073709551615)) a = true) (hm : most ≤ 12500) : inZ a ∧ a.length ≤ sizeLine := by
  have h1 := PySem.W.Codec.and_of (show (PySem.W.Codec.inLen least most a && a.all (PySem.W.Codec.inInt (-9223372036854775808) 18446744073709551615)) = true from h)
  have h2 := PySem.W.Codec.inNat_iff.mp h1.1
  exact ⟨⟨fun z hz => PySem.W.Codec.inInt_iff.mp (List.all_eq_true.mp h1.2 z hz), by omega⟩, Nat.le_trans (by omega : a.length ≤ 12500) (by decide)⟩
def ansE (cs : List (Addr × Int)) : VK → XK := fun Q C _ H2 => ∃ c z, (c, z) ∈ cs ∧ C = .ref c ∧ ∀ p, H2 p = none → Q (.ref p) (upd H2 p (.lst [.int z]))
theorem scAN : FnScope ["work"] ["work"] (defScope s_answered) := ⟨rfl, rfl, rfl, by decide +kernel, rfl, by decide +kernel, by decide +kernel⟩
theorem okAN {f cW cN cT : Addr} {fd : FuncData} {k : Nat} (F : Fun K "answered" "answered" s_answered f fd) (mW : mg "WrongInput" = some (.ref cW)) (mN : mg "NotThere" = some (.ref cN)) (mT : mg "CantBeTold" = some (.ref cT)) (pW : PlainX base cW) (pN : PlainX base cN) (pT : PlainX base cT) (ne : cW ≠ cN) (ne2 : cW ≠ cT) (ne3 : cN ≠ cT) :
    FnOk P w K mg base (CXE P w) (k + 1) f fd ["work"] (spTakes P w K mg base k (ansE [(cW, -8), (cN, -5), (cT, -7)])) := by
  refine F.ok0 scAN (fun vs H Q E h => ?_) (fun cdv A outer s H vs Q E hr h => ?_)
  · obtain ⟨_, _, _, _, _, rfl, _⟩ := h
    rfl
  obtain ⟨g, fo, c', qual, sp, rfl, hC, hg, hc, h⟩ := h
  obtain ⟨L, fr⟩ := @frIs_def (CXE P w) P w K mg base ["work"] "answered" (defScope s_answered) f cdv A outer s H E
  refine ⟨_, pss0_try rfl ⟨L, fr⟩ (fun E2 => pss_one (ps_ret (pe_callV0 (i := 0) rfl ⟨L, fr⟩ hr rfl (Or.inl rfl))))
    (phs_cons rfl mW pW (fun e => pss_one (ps_ret (pe_lst (pa_cons (pe_un un_neg pe_int) pa_nil)))) (phs_cons rfl mN pN (fun e => pss_one (ps_ret (pe_lst (pa_cons (pe_un un_neg pe_int) pa_nil)))) (phs_cons rfl mT pT (fun e => pss_one (ps_ret (pe_lst (pa_cons (pe_un un_neg pe_int) pa_nil)))) phs_nil))), ?_⟩
  refine ⟨g, fo, c', qual, sp, _, rfl, hC, hg, hc, h, fun C d H' hx => ?_⟩
  obtain ⟨c, z, hm, rfl, hq⟩ := hx
  have hm : (c = cW ∧ z = -8) ∨ (c = cN ∧ z = -5) ∨ (c = cT ∧ z = -7) := by simpa using hm
  rcases hm with ⟨rfl, rfl⟩ | ⟨rfl, rfl⟩ | ⟨rfl, rfl⟩
  · refine ⟨_, rfl, pW, .inl ⟨rfl, ?_⟩⟩
    walk_at "rd"
    exact ⟨by decide, hq⟩
  · refine ⟨_, rfl, pN, .inr ⟨Ne.symm ne, _, rfl, pN, .inl ⟨rfl, ?_⟩⟩⟩
    walk_at "rd"
    exact ⟨by decide, hq⟩
  · refine ⟨_, rfl, pT, .inr ⟨Ne.symm ne2, _, rfl, pT, .inr ⟨Ne.symm ne3, _, rfl, pT, .inl ⟨rfl, ?_⟩⟩⟩⟩
    walk_at "rd"
    exact ⟨by decide, hq⟩
abbrev cls3 (cW cN cT : Addr) : List (Addr × Int) := [(cW, -8), (cN, -5), (cT, -7)]
section
variable {cW cN cT : Addr} {ok th : Bool} {a : List Int} {Q : VK}
theorem bad8 (h : ∀ (r : Addr) (H' : Hp), H' r = some (.lst ((res3 ok th a).map V.int)) → Q (.ref r) H') (c : ok = false) (H' : Hp) : ansE [(cW, -8), (cN, -5), (cT, -7)] Q (.ref cW) none H' :=
  ⟨cW, -8, by simp, rfl, fun p hp => h p _ (by rw [c]; exact upd_same)⟩
theorem bad5 (h : ∀ (r : Addr) (H' : Hp), H' r = some (.lst ((res3 ok th a).map V.int)) → Q (.ref r) H') (c : ok = true) (d : th = false) (H' : Hp) : ansE [(cW, -8), (cN, -5), (cT, -7)] Q (.ref cN) none H' :=
  ⟨cN, -5, by simp, rfl, fun p hp => h p _ (by rw [c, d]; exact upd_same)⟩
theorem bad7 (h : ∀ (r : Addr) (H' : Hp), H' r = some (.lst ((res3 ok th a).map V.int)) → Q (.ref r) H') (c : ok = true) (d : th = true) (e : a = [-7]) (H' : Hp) : ansE [(cW, -8), (cN, -5), (cT, -7)] Q (.ref cT) none H' :=
  ⟨cT, -7, by simp, rfl, fun p hp => h p _ (by rw [c, d, e]; exact upd_same)⟩
theorem good3 (h : ∀ (r : Addr) (H' : Hp), H' r = some (.lst ((res3 ok th a).map V.int)) → Q (.ref r) H') (c : ok = true) (d : th = true) (r : Addr) (H' : Hp) (e : H' r = some (.lst (a.map V.int))) : Q (.ref r) H' := h r H' (by rw [c, d]; exact e)
theorem told_end {way : Nat} {l : List (Option Nat)} {xs : List (Int × Int)} {H : Hp} (h : ∀ (r : Addr) (H' : Hp), H' r = some (.lst ((res3 ok th (vals l)).map V.int)) → Q (.ref r) H') (c : ok = true) (d : th = true) (e : xs.map (fun x => tn way x.1 x.2) = l) :
    (∀ r, Sh25.all? (xs.map fun x => tn way x.1 x.2) = some r → ∀ q H', Same H H' → H' q = some (.lst ((0 :: Sh25.ints r).map V.int)) → Q (.ref q) H') ∧ (Sh25.all? (xs.map fun x => tn way x.1 x.2) = none → ∀ H', Same H H' → ansE [(cW, -8), (cN, -5), (cT, -7)] Q (.ref cT) none H') := by
  rw [e]
  exact ⟨fun r hr q H' _ e' => good3 h c d q H' (by rw [vals_some hr]; exact e'), fun hr H' _ => bad7 h c d (vals_none hr) H'⟩
end

/-! sign_of -/
def spSgn : Sp := fun vs H Q E => ∃ z : Int, vs = [.int z] ∧ Q (.int (Sh25.sgn z)) H
theorem scSO : FnScope ["value"] ["value"] (defScope s_sign_of) := ⟨rfl, rfl, rfl, by decide +kernel, rfl, by decide +kernel, by decide +kernel⟩
theorem okSO {f : Addr} {fd : FuncData} (F : Fun K "sign_of" "sign_of" s_sign_of f fd) : FnOk P w K mg base (CXE P w) 1 f fd ["value"] spSgn := by
  refine F.okX scSO (fun vs H Q E h => ?_) (fun cdv A outer s H vs Q E hr h => ?_)
  · obtain ⟨k, rfl, _⟩ := h
    rfl
  obtain ⟨z, rfl, h⟩ := h
  refine ⟨_, pss_cons (ps_if (pt_cmpR op_gt (pv 0) pe_int (nomark _)) (pss_one (ps_ret pe_int)) pss_nil) (pss_cons (ps_if (pt_cmpR op_lt (pv 0) pe_int (nomark _)) (pss_one (ps_ret (pe_un un_neg pe_int))) pss_nil) (pss_one (ps_ret pe_int))), ?_⟩
  walk_at "rd"
  unfold Sh25.sgn at h
  by_cases c : z < 0
  · rw [if_pos c] at h
    rw [if_neg (by omega), if_pos c]
    exact h
  · rw [if_neg c] at h
    by_cases d : z = 0
    · rw [if_pos d] at h
      rw [if_neg (by omega), if_neg (by omega)]
      exact h
    · rw [if_neg d] at h
      rw [if_pos (by omega)]
      exact h

/-! way_between -/
def spWay (K : PySem.W.Frag) : Sp := fun vs H Q E => ∃ (u v : V) (a b : List Int), vs = [u, v] ∧ LI K H u a ∧ LI K H v b ∧ a.length = b.length ∧ a.length ≤ 100000 ∧ ∀ r H', Same H H' → H r = none → H' r = some (.lst ((Sh25.sub b a).map V.int)) → Q (.ref r) H'
theorem scWB : FnScope ["a", "b", "x", "y"] ["a", "b"] (defScope s_way_between) := ⟨rfl, rfl, rfl, by decide +kernel, rfl, by decide +kernel, by decide +kernel⟩
theorem okWB {f : Addr} {fd : FuncData} (F : Fun K "way_between" "way_between" s_way_between f fd) (mz : mg "zip" = none) : FnOk P w K mg base (CXE P w) 1 f fd ["a", "b"] (spWay K) := by
  refine F.okX scWB (fun vs H Q E h => ?_) (fun cdv A outer s H vs Q E hr h => ?_)
  · obtain ⟨_, _, _, _, rfl, _⟩ := h
    rfl
  obtain ⟨_, _, a, b, rfl, ⟨u, rfl, ha⟩, ⟨v, rfl, hb⟩, hl, hz, h⟩ := h
  obtain ⟨L, fr⟩ := @frIs_def (CXE P w) P w K mg base ["a", "b", "x", "y"] "way_between" (defScope s_way_between) f cdv A outer s H E
  refine ⟨_, pss_one (ps_ret (pe_lcE (own := [("x", 2), ("y", 3)]) rfl rfl fr scWB.nd (pi_zip rfl mz (pa_cons (pv 0) (pa_cons (pv 1) pa_nil))) (blkOk_by rfl)
      (fun _ _ _ _ _ => pg_two K 2 3 rfl scWB.nd)
      (fun _ _ _ _ _ => pe_op op_sub (pv 3) (pv 2)))), ?_⟩
  refine ⟨_, rfl, _, rfl, u, v, _, _, rfl, ha, hb, fun D hD => ?_⟩
  refine lc_zipI hD hl (Nat.le_trans hz (by decide)) ha hb (fun x y => y - x) (fun i x y T H2 Q' _ _ hT hQ => ?_) fun H2 g2 hD2 => h D H2 g2 hD (by rw [sub_zip hl]; exact hD2)
  refine ⟨T, _, rfl, SqT.of upd_same, rfl, _, _, rfl, _, _, rfl, rfl, rfl, ?_⟩
  walk_at "rd"
  exact hQ _ (Same.new hT _)

/-! without_column -/
def spWC (K : PySem.W.Frag) : Sp := fun vs H Q E => ∃ (u : V) (j : Nat) (rows : List (List Int)), vs = [u, .int (j : Int)] ∧ LLI K H u rows ∧ rows.length ≤ 1000 ∧ (∀ r ∈ rows, r.length ≤ 1000) ∧ ∀ r H', Same H H' → H r = none → LLI K H' (.ref r) (Sh25.minor rows j) → Q (.ref r) H'
theorem scWC : FnScope ["rows", "column", "row"] ["rows", "column"] (defScope s_without_column) := ⟨rfl, rfl, rfl, by decide +kernel, rfl, by decide +kernel, by decide +kernel⟩
theorem okWC {f : Addr} {fd : FuncData} (F : Fun K "without_column" "without_column" s_without_column f fd) : FnOk P w K mg base (CXE P w) 1 f fd ["rows", "column"] (spWC K) := by
  refine F.okX scWC (fun vs H Q E h => ?_) (fun cdv A outer s H vs Q E hr h => ?_)
  · obtain ⟨_, _, _, rfl, _⟩ := h
    rfl
  obtain ⟨_, j, rows, rfl, ⟨u, xs, rfl, hu, hp⟩, hz, hz2, h⟩ := h
  obtain ⟨L, fr⟩ := @frIs_def (CXE P w) P w K mg base ["rows", "column", "row"] "without_column" (defScope s_without_column) f cdv A outer s H E
  refine ⟨_, pss_one (ps_ret (pe_lcE (own := [("row", 2)]) rfl rfl fr scWC.nd (pi_list (pv 0)) (blkOk_by rfl) (fun _ _ _ _ _ => pg_name (i := 2) scWC.nd rfl (Or.inl rfl))
      (fun _ _ _ _ _ => pe_op op_cat (pe_slice (slL K) (pv 2) po_none (po_some (pv 1))) (pe_slice (slL K) (pv 2) (po_some (pe_op op_add (pv 1) pe_int)) po_none)))), ?_⟩
  refine ⟨_, rfl, u, rfl, ⟨_, hu⟩, fun D hD => ?_⟩
  have lx : xs.length = rows.length := hp.length
  refine lc_any (n := rows.length) (fun i H v => ∃ a row, rows[i]? = some row ∧ v = .ref a ∧ a ≠ D ∧ SqL K H a ((row.eraseIdx j).map V.int)) (fun i H H' v g ⟨a, row, e1, e2, e3, e4⟩ => ⟨a, row, e1, e2, e3, e4.sameX g e3⟩) hD (Nat.le_trans hz (by decide)) (fun H2 g2 => ⟨_, g2.seq hu, Nat.le_of_eq lx⟩)
    (fun i H2 hi g2 => ⟨_, _, g2.seq hu, List.getElem?_eq_getElem (by omega)⟩) (fun i x H2 H3 Q' hi g2 nD y hQ => ?_) fun H2 ys g2 hD2 ely hys => ?_
  · obtain ⟨rfl, y⟩ := y
    obtain ⟨row, er, ar, rfl, hrow⟩ := Paired.get hp (y _ (g2.seq hu))
    have hrow := g2.seq hrow
    have lr : row.length ≤ 1000 := hz2 row (List.mem_of_getElem? er)
    refine ⟨rfl, ⟨_, rfl, _, rfl, _, rfl, ar, _, rfl, hrow, fun p1 h1 => ?_⟩⟩
    have g3 : Same H3 (upd H3 p1 (.lst (cutV (row.map V.int) none (some (j : Int))))) := Same.new h1 _
    refine ⟨_, rfl, _, rfl, _, _, rfl, rfl, _, rfl, ar, _, rfl, g3.seq hrow, fun p2 h2 => ?_⟩
    have g4 := Same.new h2 (.lst (cutV (row.map V.int) (some ((j : Int) + 1)) none))
    refine ⟨p1, p2, _, _, rfl, rfl, g4 _ _ upd_same, upd_same, ?_, fun p3 h3 => ?_⟩
    · have := cutV_length (row.map V.int) none (some (j : Int))
      have := cutV_length (row.map V.int) (some ((j : Int) + 1)) none
      rw [List.length_map] at *
      exact Nat.le_trans (by omega : _ ≤ 2000) (by decide)
    · have g5 := Same.new h3 (.lst (cutV (row.map V.int) none (some (j : Int)) ++ cutV (row.map V.int) (some ((j : Int) + 1)) none))
      refine hQ _ _ (g3.trans (g4.trans g5)) ⟨p3, row, er, rfl, fun z => ?_, ?_⟩
      · rw [z] at h3
        exact nD ((g3.trans g4).free h3)
      · refine SqL.of ?_
        rw [upd_same, show ((j : Int) + 1) = ((j + 1 : Nat) : Int) by omega, cutV_to, cutV_from, List.eraseIdx_eq_take_drop_succ, List.map_append, List.map_take, List.map_drop]
  · refine h D H2 g2 hD ⟨D, ys, rfl, SqL.of hD2, paired_of (by unfold Sh25.minor; rw [List.length_map]; exact ely) fun i v e => ?_⟩
    obtain ⟨a, row, e1, e2, _, e4⟩ := hys i v e
    exact ⟨row.eraseIdx j, by unfold Sh25.minor; rw [List.getElem?_map, e1]; rfl, a, e2, e4⟩

/-! determinant -/
def spDet (K : PySem.W.Frag) (B n : Nat) : Sp := fun vs H Q E => ∃ (u : V) (rows : List (List Int)), vs = [u] ∧ LLI K H u rows ∧ rows.length = n ∧ (∀ r ∈ rows, r.length = n) ∧ 1 ≤ n ∧ (∀ r ∈ rows, LB B r) ∧ ∀ H', Same H H' → Q (.int (Sh25.det n rows)) H'
theorem scDT : FnScope ["rows", "total", "column", "entry", "term"] ["rows"] (defScope s_determinant) := ⟨rfl, rfl, rfl, by decide +kernel, rfl, by decide +kernel, by decide +kernel⟩
theorem okDT {f : Addr} {fd : FuncData} {B n k : Nat} (F : Fun K "determinant" "determinant" s_determinant f fd) (hB : B ≤ 20000) (hn : n + 1 ≤ 6) (ml : mg "len" = none) (me : mg "enumerate" = none)
    (hDT : Has P w K mg base k "determinant" ["rows"] (spDet K B n)) (hWC : Has P w K mg base k "without_column" ["rows", "column"] (spWC K)) : FnOk P w K mg base (CXE P w) (k + 1) f fd ["rows"] (spDet K B (n + 1)) := by
  refine F.okX scDT (fun vs H Q E h => ?_) (fun cdv A outer s H vs Q E hr h => ?_)
  · obtain ⟨_, _, rfl, _⟩ := h
    rfl
  obtain ⟨_, rows, rfl, ⟨u, xs, rfl, hu, hp⟩, hz, hz2, _, hlb, h⟩ := h
  obtain ⟨L, fr⟩ := @frIs_def (CXE P w) P w K mg base ["rows", "total", "column", "entry", "term"] "determinant" (defScope s_determinant) f cdv A outer s H E
  refine ⟨_, pss_cons (ps_if (pt_cmpR op_eq (pe_callB (lenS K) rfl ml PySem.boot_len (pa_cons (pv 0) pa_nil)) pe_int (nomark _)) (pss_one (ps_ret (pe_ix (ixL K) (pe_ix (ixL K) (pv 0) pe_int (fun _ _ => rfl)) pe_int (fun _ _ => rfl)))) pss_nil)
    (pss_cons (ps_set (i := 1) scDT.nd rfl (Or.inl rfl) pe_int)
    (pss_cons (ps_for passes_own_x rfl (pi_enum rfl me (pa_cons (pe_ix (ixL K) (pv 0) pe_int (fun _ _ => rfl)) pa_nil)) (pg_two K 2 3 rfl scDT.nd)
      (pss_cons (ps_set (i := 4) scDT.nd rfl (Or.inl rfl) (pe_op op_mulB (pv 3) (pe_callH hDT hr (passX rfl ⟨L, fr⟩) (pa_cons (pe_callH hWC hr (passX rfl ⟨L, fr⟩) (pa_cons (pe_slice (slL K) (pv 0) (po_some pe_int) po_none) (pa_cons (pv 2) pa_nil))) pa_nil))))
      (pss_one (ps_if (pt_cmpR op_eq (pe_op op_mod (pv 2) pe_int) pe_int (nomark _)) (pss_one (ps_aug (i := 1) scDT.nd rfl (Or.inl rfl) (pv 4) ip_add)) (pss_one (ps_aug (i := 1) scDT.nd rfl (Or.inl rfl) (pv 4) ip_sub))))))
    (pss_one (ps_ret (pv 1))))), ?_⟩
  walk_at "rd"
  obtain ⟨r, q, rfl⟩ : ∃ r q, rows = r :: q := by
    cases rows with
    | nil => cases hz
    | cons r q => exact ⟨r, q, rfl⟩
  cases hp with
  | @cons x0 _ xq _ hx0 hpq =>
  obtain ⟨a0, rfl, h0⟩ := hx0
  have lr : r.length = n + 1 := hz2 r List.mem_cons_self
  have lq : q.length = n := by simpa using hz
  have lxq : xq.length = n := by rw [hpq.length]; exact lq
  have lbr : LB B r := hlb r List.mem_cons_self
  have lbq : ∀ x ∈ q, LB B x := fun x hx => hlb x (List.mem_cons_of_mem _ hx)
  have at0 : ∀ (l : List V) (x : V), atI (x :: l) 0 = some x := fun l x => atI_nat (j := 0) rfl
  refine ⟨u, _, rfl, .inl hu, ?_⟩
  by_cases c : n = 0
  · subst c
    rw [if_pos (by rw [List.length_cons, lxq]; rfl)]
    have er : r = [Sh25.at_ r 0] := by
      cases r with
      | nil => cases lr
      | cons z t =>
        cases t with
        | nil => rfl
        | cons _ _ => simp at lr
    refine ⟨u, _, 0, _, rfl, rfl, hu, at0 _ _, a0, _, 0, .int (Sh25.at_ r 0), rfl, rfl, h0, ?_, ?_⟩
    · rw [er]; exact at0 _ _
    · have := h H (Same.refl _)
      have e : Sh25.det 1 (r :: q) = Sh25.at_ r 0 := by
        unfold Sh25.det
        simp [Sh25.det]
      rw [← e]; exact this
  · rw [if_neg (by rw [List.length_cons, lxq]; omega)]
    refine ⟨_, rfl, u, _, 0, _, rfl, rfl, hu, at0 _ _, a0, _, rfl, h0, ?_⟩
    let G : Nat → Int := fun j => (if j % 2 = 0 then (1 : Int) else -1) * Sh25.at_ r j * Sh25.det n (Sh25.minor q j)
    refine for_enum (xs := r.map V.int) (fun i σ H2 => ∃ o1 o2 o3, σ = [some (V.ref u), some (V.int ((List.range i).map G).sum), o1, o2, o3] ∧ Same H H2) ⟨none, none, none, rfl, Same.refl _⟩ (fun i σ H2 _ ⟨_, _, _, _, g⟩ => g.seq h0) (fun i x T σ H2 ex p hT => ?_) fun σ H2 p => ?_
    · obtain ⟨o1, o2, o3, rfl, g1⟩ := p
      rw [List.getElem?_map] at ex
      obtain ⟨z, ez, rfl⟩ := Option.map_eq_some_iff.mp ex
      have hi : i < r.length := (List.getElem?_eq_some_iff.mp ez).1
      have eat : Sh25.at_ r i = z := at_get ez
      refine ⟨T, _, rfl, SqT.of upd_same, rfl, _, _, rfl, _, _, rfl, rfl, ?_⟩
      have g2 := g1.trans (Same.new hT (.tup [.int (i : Nat), .int z]))
      generalize upd H2 T (.tup [.int (i : Nat), .int z]) = H3 at g2 ⊢
      walk_at "rd"
      refine ⟨u, _, rfl, g2.seq hu, fun p hp => ?_⟩
      have ecut : cutV (V.ref a0 :: xq) (some 1) none = xq := cutV_from (j := 1)
      rw [ecut]
      have g3 := g2.trans (Same.new hp (.lst xq))
      refine ⟨_, i, q, rfl, ⟨p, xq, rfl, SqL.of upd_same, Paired.sameLI g3 hpq⟩, by omega, fun x hx => by have := hz2 x (List.mem_cons_of_mem _ hx); omega, fun r' H5 g5 hr' hll => ?_⟩
      refine ⟨_, _, rfl, hll, by unfold Sh25.minor; rw [List.length_map]; exact lq, fun x hx => ?_, by omega, lb_minor lbq i, fun H6 g6 => ?_⟩
      · unfold Sh25.minor at hx
        obtain ⟨x', h1, rfl⟩ := List.mem_map.mp hx
        have l1 := hz2 x' (List.mem_cons_of_mem _ h1)
        rw [List.length_eraseIdx_of_lt (by omega)]
        omega
      walk_at "rd"
      have gs : Same H H6 := g3.trans (g5.trans g6)
      have es : ((List.range (i + 1)).map G).sum = ((List.range i).map G).sum + G i := by rw [List.range_succ, List.map_append, List.sum_append]; simp
      have bz : B20 z := b20_of (lbr z (List.mem_of_getElem? ez)) (by omega)
      have bd : B20 (Sh25.det n (Sh25.minor q i)) := b20_of (det_bound (by omega) (lb_minor lbq i)) (by
        have : n * (B + 3) ≤ 6 * (B + 3) := Nat.mul_le_mul_right _ (by omega)
        omega)
      refine ⟨⟨bz, bd⟩, by decide, ?_⟩
      by_cases c2 : i % 2 = 0
      · rw [if_pos (by omega)]
        have eG : G i = z * Sh25.det n (Sh25.minor q i) := by show (if i % 2 = 0 then (1 : Int) else -1) * Sh25.at_ r i * _ = _; rw [if_pos c2, eat, Int.one_mul]
        exact ⟨_, _, _, by rw [es, eG], gs⟩
      · rw [if_neg (by omega)]
        have eG : G i = -(z * Sh25.det n (Sh25.minor q i)) := by show (if i % 2 = 0 then (1 : Int) else -1) * Sh25.at_ r i * _ = _; rw [if_neg c2, eat, Int.neg_mul, Int.one_mul, Int.neg_mul]
        exact ⟨_, _, _, by rw [es, eG, ← Int.sub_eq_add_neg], gs⟩
    · obtain ⟨o1, o2, o3, rfl, g1⟩ := p
      rw [List.length_map, lr]
      have e : Sh25.det (n + 1) (r :: q) = ((List.range (n + 1)).map G).sum := by
        conv => lhs; unfold Sh25.det
      exact ⟨_, rfl, by rw [← e]; exact h H2 g1⟩
/-- nothing can be asked of an empty one -/
theorem okDT0 {f : Addr} {fd : FuncData} {B k : Nat} : FnOk P w K mg base (CXE P w) k f fd ["rows"] (spDet K B 0) := by
  have no : ∀ vs H Q E, ¬ spDet K B 0 vs H Q E := fun vs H Q E h => by
    obtain ⟨_, _, _, _, _, _, h1, _⟩ := h
    omega
  exact ⟨fun vs H Q E h => absurd h (no vs H Q E), fun A outer s H args us vs Q E _ _ _ _ h => absurd h (no vs H Q E)⟩
theorem hasDT {f : Addr} {fd : FuncData} {B : Nat} (F : Fun K "determinant" "determinant" s_determinant f fd) (bF : Binds K fd ["rows"] []) (mF : mg "determinant" = some (.ref f)) (hB : B ≤ 20000) (ml : mg "len" = none) (me : mg "enumerate" = none)
    (hWC : Has P w K mg base 1 "without_column" ["rows", "column"] (spWC K)) : ∀ n, n ≤ 6 → Has P w K mg base (n + 1) "determinant" ["rows"] (spDet K B n)
  | 0, _ => ⟨f, fd, okDT0, bF, F.kp, mF⟩
  | n + 1, hn => ⟨f, fd, okDT F hB hn ml me (hasDT F bF mF hB ml me hWC n (by omega)) (hWC.mono (by omega)), bF, F.kp, mF⟩
def spDetU (K : PySem.W.Frag) : Sp := fun vs H Q E => ∃ B n, B ≤ 20000 ∧ n ≤ 6 ∧ spDet K B n vs H Q E
theorem hasDTU {f : Addr} {fd : FuncData} (F : Fun K "determinant" "determinant" s_determinant f fd) (bF : Binds K fd ["rows"] []) (mF : mg "determinant" = some (.ref f)) (ml : mg "len" = none) (me : mg "enumerate" = none)
    (hWC : Has P w K mg base 1 "without_column" ["rows", "column"] (spWC K)) : Has P w K mg base 7 "determinant" ["rows"] (spDetU K) := by
  have each : ∀ B n, B ≤ 20000 → n ≤ 6 → FnOk P w K mg base (CXE P w) 7 f fd ["rows"] (spDet K B n) := fun B n hB hn => by
    obtain ⟨f', fd', o, b, k, m⟩ := hasDT F bF mF hB ml me hWC n hn
    cases n with
    | zero => exact okDT0
    | succ n => exact (okDT F hB hn ml me (hasDT F bF mF hB ml me hWC n (by omega)) (hWC.mono (by omega))).mono (by omega)
  refine ⟨f, fd, ⟨fun vs H Q E h => ?_, fun A outer s H args us vs Q E r1 e1 b1 v1 h => ?_⟩, bF, F.kp, mF⟩
  · obtain ⟨B, n, hB, hn, h⟩ := h
    exact (each B n hB hn).len vs H Q E h
  · obtain ⟨B, n, hB, hn, h⟩ := h
    exact (each B n hB hn).run A outer s H args us vs Q E r1 e1 b1 v1 h

/-! side_value -/
def spSideV (K : PySem.W.Frag) : Sp := fun vs H Q E => ∃ (u v x : V) (a b c : List Int), vs = [u, v, x] ∧ LI K H u a ∧ LI K H v b ∧ LI K H x c ∧ a.length = 2 ∧ b.length = 2 ∧ c.length = 2 ∧ LB 2098 a ∧ LB 2098 b ∧ LB 2098 c ∧ ∀ H', Same H H' → Q (.int (Sh25.area2 a b c)) H'
theorem det2_side {a b c : List Int} (ha : a.length = 2) (hb : b.length = 2) (hc : c.length = 2) : Sh25.det 2 [Sh25.sub b a, Sh25.sub c a] = Sh25.area2 a b c := by
  match a, b, c, ha, hb, hc with
  | [a0, a1], [b0, b1], [c0, c1], _, _, _ =>
    show _ = (b0 - a0) * (c1 - a1) - (b1 - a1) * (c0 - a0)
    simp [Sh25.det, Sh25.sub, Sh25.at_, Sh25.minor, List.range, List.range.loop, Int.neg_mul]
    omega
theorem sc_side_value : FnScope ["a", "b", "c"] ["a", "b", "c"] (defScope s_side_value) := ⟨rfl, rfl, rfl, by decide +kernel, rfl, by decide +kernel, by decide +kernel⟩
theorem ok_side_value {f : Addr} {fd : FuncData} {k : Nat} (F : Fun K "side_value" "side_value" s_side_value f fd) (h_determinant : Has P w K mg base k "determinant" ["rows"] (spDetU K)) (h_way_between : Has P w K mg base k "way_between" ["a", "b"] (spWay K)) : FnOk P w K mg base (CXE P w) (k + 1) f fd ["a", "b", "c"] (spSideV K) := by
  refine F.okX sc_side_value (fun vs H Q E h => ?_) (fun cdv A outer s H vs Q E hr h => ?_)
  · obtain ⟨u, v, x, a, b, c, rfl, ha, hb, hc, la, lb, lc, ba, bb, bc, h⟩ := h
    rfl
  obtain ⟨u, v, x, a, b, c, rfl, ha, hb, hc, la, lb, lc, ba, bb, bc, h⟩ := h
  obtain ⟨L, fr⟩ := @frIs_def (CXE P w) P w K mg base ["a", "b", "c"] "side_value" (defScope s_side_value) f cdv A outer s H E
  refine ⟨_, (pss_one (ps_ret (pe_callH h_determinant hr (passX rfl ⟨L, fr⟩) (pa_cons (pe_lst (pa_cons (pe_callH h_way_between hr (passX rfl ⟨L, fr⟩) (pa_cons (pv 0) (pa_cons (pv 1) pa_nil))) (pa_cons (pe_callH h_way_between hr (passX rfl ⟨L, fr⟩) (pa_cons (pv 0) (pa_cons (pv 2) pa_nil))) pa_nil))) pa_nil)))), ?_⟩
  walk_at "rd"
  refine ⟨_, _, a, b, rfl, ha, hb, by omega, by omega, fun r1 H1 g1 n1 e1 => ?_⟩
  refine ⟨_, _, a, c, rfl, ha.same g1, hc.same g1, by omega, by omega, fun r2 H2 g2 n2 e2 => ?_⟩
  refine ⟨by decide, fun p hp => ?_⟩
  have g3 := Same.new hp (.lst [.ref r1, .ref r2])
  refine ⟨2099, 2, by decide, by decide, _, [Sh25.sub b a, Sh25.sub c a], rfl, ⟨p, _, rfl, SqL.of upd_same, .cons (LI.of ((g2.trans g3) _ _ e1)) (.cons (LI.of (g3 _ _ e2)) .nil)⟩, rfl, fun r hr => ?_, by omega, fun r hr => ?_, fun H4 g4 => ?_⟩
  · rcases List.mem_cons.mp hr with rfl | hr
    · rw [sub_length]; exact lb
    · rcases List.mem_cons.mp hr with rfl | hr
      · rw [sub_length]; exact lc
      · cases hr
  · rcases List.mem_cons.mp hr with rfl | hr
    · exact lb_sub bb ba
    · rcases List.mem_cons.mp hr with rfl | hr
      · exact lb_sub bc ba
      · cases hr
  · rw [det2_side la lb lc]
    exact h H4 (g1.trans (g2.trans (g3.trans g4)))
/-! side_sign -/
def spSide (K : PySem.W.Frag) : Sp := fun vs H Q E => ∃ (u v x : V) (a b c : List Int), vs = [u, v, x] ∧ LI K H u a ∧ LI K H v b ∧ LI K H x c ∧ a.length = 2 ∧ b.length = 2 ∧ c.length = 2 ∧ LB 2098 a ∧ LB 2098 b ∧ LB 2098 c ∧ ∀ H', Same H H' → Q (.int (Sh25.side a b c)) H'
theorem sc_side_sign : FnScope ["a", "b", "c"] ["a", "b", "c"] (defScope s_side_sign) := ⟨rfl, rfl, rfl, by decide +kernel, rfl, by decide +kernel, by decide +kernel⟩
theorem ok_side_sign {f : Addr} {fd : FuncData} {k : Nat} (F : Fun K "side_sign" "side_sign" s_side_sign f fd) (h_sign_of : Has P w K mg base k "sign_of" ["value"] spSgn) (h_side_value : Has P w K mg base k "side_value" ["a", "b", "c"] (spSideV K)) : FnOk P w K mg base (CXE P w) (k + 1) f fd ["a", "b", "c"] (spSide K) := by
  refine F.okX sc_side_sign (fun vs H Q E h => ?_) (fun cdv A outer s H vs Q E hr h => ?_)
  · obtain ⟨u, v, x, a, b, c, rfl, ha, hb, hc, la, lb, lc, ba, bb, bc, h⟩ := h
    rfl
  obtain ⟨u, v, x, a, b, c, rfl, ha, hb, hc, la, lb, lc, ba, bb, bc, h⟩ := h
  obtain ⟨L, fr⟩ := @frIs_def (CXE P w) P w K mg base ["a", "b", "c"] "side_sign" (defScope s_side_sign) f cdv A outer s H E
  refine ⟨_, (pss_one (ps_ret (pe_callH h_sign_of hr (passX rfl ⟨L, fr⟩) (pa_cons (pe_callH h_side_value hr (passX rfl ⟨L, fr⟩) (pa_cons (pv 0) (pa_cons (pv 1) (pa_cons (pv 2) pa_nil)))) pa_nil)))), ?_⟩
  walk_at "rd"
  exact ⟨u, v, x, a, b, c, rfl, ha, hb, hc, la, lb, lc, ba, bb, bc, fun H1 g1 => ⟨_, rfl, h H1 g1⟩⟩
/-! tight_side -/
def natV (n : Nat) : V := .int (n : Int)
def PTH (pts : List (List Int)) : Prop := ∀ q ∈ pts, q.length = 2 ∧ LB 2098 q
def spTight (K : PySem.W.Frag) : Sp := fun vs H Q E => ∃ (v : V) (u : Addr) (pts : List (List Int)) (ps : List Nat), vs = [v, .ref u] ∧ LLI K H v pts ∧ SqL K H u (ps.map natV) ∧ pts.length ≤ 512 ∧ PTH pts ∧ (∀ p ∈ ps, p < pts.length) ∧ ps.length ≤ 512 ∧
  ∀ r H', Same H H' → H r = none → H' r = some (.lst ((HK.tight pts ps).map natV)) → Q (.ref r) H'
theorem atI_snd {α : Type} (xs : List α) (a b : α) : atI (xs ++ [a, b]) (-2) = some a := by
  have hl : (xs ++ [a, b]).length = xs.length + 2 := by simp
  have e : ixN (xs ++ [a, b]).length (-2) = some xs.length := by
    unfold ixN
    rw [hl, if_neg (by decide), if_pos (by omega)]
    congr 1
    omega
  unfold atI
  rw [e]
  show (xs ++ [a, b])[xs.length]? = some a
  simp
theorem rIxL_mono {K : PySem.W.Frag} {x y : V} {H : Hp} {Q Q' : VK} (hq : ∀ v H, Q v H → Q' v H) : rIxL K x y H Q → rIxL K x y H Q' := fun ⟨p, xs, i, v, h1, h2, h3, h4, h5⟩ => ⟨p, xs, i, v, h1, h2, h3, h4, hq _ _ h5⟩
theorem spSide_mono {K : PySem.W.Frag} {vs : List V} {H : Hp} {Q Q' : VK} {E : XK} (hq : ∀ v H, Q v H → Q' v H) : spSide K vs H Q E → spSide K vs H Q' E := fun ⟨u, v, x, a, b, c, h1, h2, h3, h4, h5, h6, h7, h8, h9, h10, h11⟩ => ⟨u, v, x, a, b, c, h1, h2, h3, h4, h5, h6, h7, h8, h9, h10, fun H' g => hq _ _ (h11 H' g)⟩
theorem row_at {K : PySem.W.Frag} {H : Hp} {v : V} {pts : List (List Int)} {i : Nat} {Q : VK} (hv : LLI K H v pts) (hi : i < pts.length) (q : ∀ x, LI K H x (pts.getD i []) → Q x H) : rIxL K v (natV i) H Q := by
  obtain ⟨a, xs, rfl, hs, hx⟩ := hv
  have lx : xs.length = pts.length := hx.length
  obtain ⟨z, ez, hz⟩ := Paired.get hx (List.getElem?_eq_getElem (by omega : i < xs.length))
  refine ⟨a, xs, i, xs[i], rfl, rfl, hs, atI_nat (List.getElem?_eq_getElem (by omega)), q _ ?_⟩
  rw [List.getD_eq_getElem?_getD, ez]
  exact hz
theorem PTH.at {pts : List (List Int)} (h : PTH pts) {i : Nat} (hi : i < pts.length) : (pts.getD i []).length = 2 ∧ LB 2098 (pts.getD i []) := h _ (by rw [List.getD_eq_getElem?_getD, List.getElem?_eq_getElem hi]; exact List.getElem_mem _)
theorem sc_tight_side : FnScope ["points", "places", "side", "place"] ["points", "places"] (defScope s_tight_side) := ⟨rfl, rfl, rfl, by decide +kernel, rfl, by decide +kernel, by decide +kernel⟩
theorem ok_tight_side {f : Addr} {fd : FuncData} {k : Nat} (F : Fun K "tight_side" "tight_side" s_tight_side f fd) (m_len : mg "len" = none) (h_side_sign : Has P w K mg base k "side_sign" ["a", "b", "c"] (spSide K)) : FnOk P w K mg base (CXE P w) (k + 1) f fd ["points", "places"] (spTight K) := by
  refine F.okX sc_tight_side (fun vs H Q E h => ?_) (fun cdv A outer s H vs Q E hr h => ?_)
  · obtain ⟨v, u, pts, ps, rfl, hv, hu, hz, hq, hp, lp, h⟩ := h
    rfl
  obtain ⟨v, u, pts, ps, rfl, hv, hu, hz, hq, hp, lp, h⟩ := h
  obtain ⟨L, fr⟩ := @frIs_def (CXE P w) P w K mg base ["points", "places", "side", "place"] "tight_side" (defScope s_tight_side) f cdv A outer s H E
  refine ⟨_, (pss_cons (ps_set (i := 2) sc_tight_side.nd rfl (Or.inl rfl) (pe_lst pa_nil)) (pss_cons (ps_for passes_own_x rfl (pi_list (pv 1)) (pg_name (i := 3) sc_tight_side.nd rfl (Or.inl rfl)) (pss_cons (ps_while passes_own_x (PW.pt (pw_and (pt_cmpR op_gt (pe_callB (lenS K) rfl m_len PySem.boot_len (pa_cons (pv 2) pa_nil)) pe_int (nomark _)) (pw_and1 (pt_cmpR op_le (pe_callH h_side_sign hr (passX rfl ⟨L, fr⟩) (pa_cons (pe_ix (ixL K) (pv 0) (pe_ix (ixL K) (pv 2) (pe_un un_neg pe_int) (fun _ _ => rfl)) (fun _ _ => rfl)) (pa_cons (pe_ix (ixL K) (pv 0) (pe_ix (ixL K) (pv 2) (pe_un un_neg pe_int) (fun _ _ => rfl)) (fun _ _ => rfl)) (pa_cons (pe_ix (ixL K) (pv 0) (pv 3) (fun _ _ => rfl)) pa_nil)))) pe_int (nomark _))))) (pss_one (ps_expr (pe_bm0 PySem.F.plainAttrs_list PySem.F.slot_list_pop PySem.F.type_list_pop mt_pop (pv 2))))) (pss_one (ps_expr (pe_bm PySem.F.plainAttrs_list PySem.F.slot_list_append PySem.F.type_list_append mt_append (pv 2) (pa_cons (pv 3) pa_nil)))))) (pss_one (ps_ret (pv 2))))), ?_⟩
  walk_at "rd"
  refine ⟨by decide, fun D nD => ?_⟩
  have g0 := Same.new nD (.lst [])
  have lx : (ps.map natV).length = ps.length := List.length_map _
  refine ⟨_, rfl, u, rfl, ⟨_, g0.seq hu⟩, ?_⟩
  refine for_list (xs := ps.map natV) (fun i σ H3 => ∃ o1, σ = [some v, some (.ref u), some (.ref D), o1] ∧ Same H H3 ∧ H3 D = some (.lst ((HK.tight pts (ps.take i)).map natV)))
    ⟨none, rfl, g0, upd_same⟩ (fun i σ H3 _ ⟨_, _, g, _⟩ => g.seq hu) (fun i x σ H3 ex p => ?_) fun σ H3 p => ?_
  · obtain ⟨o1, rfl, g3, e3⟩ := p
    rw [List.getElem?_map] at ex
    cases ep : ps[i]? with
    | none => rw [ep] at ex; cases ex
    | some n =>
    rw [ep] at ex
    cases ex
    have hn := hp n (List.mem_of_getElem? ep)
    have tk : ps.take (i + 1) = ps.take i ++ [n] := by rw [List.take_add_one, ep]; rfl
    have sb : ∀ a ∈ HK.chain (HK.tstI pts) (ps.take i), a < pts.length := fun a ha => hp a (List.mem_of_mem_take (List.mem_reverse.mp ((HK.chain_sub _).subset ha)))
    have sl : (HK.chain (HK.tstI pts) (ps.take i)).length ≤ 512 := by
      have := (HK.chain_sub (T := HK.tstI pts) (ps.take i)).length_le
      rw [List.length_reverse, List.length_take] at this
      omega
    walk_at "rd"
    refine while_by (fun σ H4 => ∃ st : List Nat, σ = [some v, some (.ref u), some (.ref D), some (natV n)] ∧ Same H H4 ∧ H4 D = some (.lst (st.reverse.map natV)) ∧ HK.pop (HK.tstI pts) n st = HK.pop (HK.tstI pts) n (HK.chain (HK.tstI pts) (ps.take i)) ∧ (∀ a ∈ st, a < pts.length) ∧ st.length ≤ 512)
      (fun _ H4 => match H4 D with | some (.lst xs) => xs.length | _ => 0) ⟨_, rfl, g3, e3, rfl, sb, sl⟩ (fun σ H4 p => ?_) (fun σ H Q Q' hq x => ?_)
    · obtain ⟨st, rfl, g4, e4, e5, m4, l4⟩ := p
      walk_at "rd"
      have fin : ∀ H5, Same H4 H5 → HK.pop (HK.tstI pts) n st = st → tyV K "list" (V.ref D) H5 ∧ rAppend (V.ref D) [natV n] H5 fun x H1 => ∃ o1, [some v, some (V.ref u), some (V.ref D), some (natV n)] = [some v, some (V.ref u), some (V.ref D), o1] ∧ Same H H1 ∧ H1 D = some (HO.lst (List.map natV (HK.tight pts (List.take (i + 1) ps)))) := fun H5 g5 ef => by
        have e6 := g5 _ _ e4
        refine ⟨.inl ⟨rfl, _, SqL.of e6⟩, D, _, _, rfl, rfl, e6, ?_, _, rfl, (g4.trans g5).upd_new nD, ?_⟩
        · rw [List.length_map, List.length_reverse]
          exact Nat.lt_of_le_of_lt l4 (by decide)
        · rw [upd_same, tk]
          unfold HK.tight
          rw [HK.chain_snoc, ← e5, ef, List.reverse_cons, List.map_append]
          rfl
      refine ⟨D, _, rfl, .inl (SqL.of e4), ?_⟩
      rw [List.length_map, List.length_reverse]
      match hst : st with
      | [] => rw [if_neg (by simp)]; exact fin H4 (Same.refl _) HK.pop_nil
      | [t] => rw [if_neg (by simp)]; exact fin H4 (Same.refl _) HK.pop_one
      | t :: s :: r =>
        rw [if_pos (by simp; omega)]
        have mt := m4 t (by simp)
        have ms := m4 s (by simp)
        have er : (t :: s :: r).reverse.map natV = r.reverse.map natV ++ [natV s, natV t] := by simp
        have er2 : (t :: s :: r).reverse.map natV = (r.reverse.map natV ++ [natV s]) ++ [natV t] := by simp
        have hv4 := hv.same g4
        refine ⟨D, _, -2, natV s, rfl, rfl, SqL.of e4, by rw [er]; exact atI_snd _ _ _, row_at hv4 ms fun x1 q1 => ?_⟩
        refine ⟨D, _, -1, natV t, rfl, rfl, SqL.of e4, by rw [er2]; exact atI_last _ _, row_at hv4 mt fun x2 q2 => row_at hv4 hn fun x3 q3 => ?_⟩
        obtain ⟨l1, b1⟩ := hq.at ms
        obtain ⟨l2, b2⟩ := hq.at mt
        obtain ⟨l3, b3⟩ := hq.at hn
        refine ⟨_, _, _, _, _, _, rfl, q1, q2, q3, l1, l2, l3, b1, b2, b3, fun H5 g5 => ⟨_, _, rfl, rfl, _, rfl, ?_⟩⟩
        have ed : decide (Sh25.side (pts.getD s []) (pts.getD t []) (pts.getD n []) ≤ 0) = HK.tstI pts s t n := by
          unfold HK.tstI HK.tst
          rw [HK.side_ar l1 l2 l3]
          exact decide_eq_decide.mpr HK.sgn_le
        rw [ed]
        have e6 := g5 _ _ e4
        cases ct : HK.tstI pts s t n with
        | true =>
          rw [if_pos rfl]
          refine ⟨.inl ⟨rfl, _, SqL.of e6⟩, D, _, natV t, rfl, rfl, e6, ?_, ⟨s :: r, (g4.trans g5).upd_new nD, ?_, ?_, fun a ha => m4 a (List.mem_cons_of_mem _ ha), by simp at l4 ⊢; omega⟩, ?_⟩
          · rw [er2]; simp
          · rw [upd_same, er2, List.dropLast_concat]; simp
          · rw [← e5, HK.pop_cons, if_pos ct]
          · rw [upd_same, e4]
            simp
        | false =>
          rw [if_neg (by decide)]
          exact fin H5 g5 (by rw [HK.pop_cons, if_neg (by rw [ct]; decide)])
    · revert x
      walk_at "rd"
      rintro ⟨v0, f0, p0, ys, f1, f2, x⟩
      refine ⟨v0, f0, p0, ys, f1, f2, ?_⟩
      by_cases c : (1 : Int) < ys.length
      · rw [if_pos c] at x ⊢
        obtain ⟨a1, b1, a2, b2, x⟩ := x
        exact ⟨a1, b1, a2, b2, rIxL_mono (fun _ _ => rIxL_mono fun _ _ ⟨c1, d1, c2, d2, x⟩ => ⟨c1, d1, c2, d2, rIxL_mono (fun _ _ => rIxL_mono fun _ _ ⟨c3, d3, c4, d4, x⟩ => ⟨c3, d3, c4, d4, rIxL_mono (fun _ _ => spSide_mono fun _ _ ⟨i, j, k1, k2, k, k3, k4⟩ => ⟨i, j, k1, k2, k, k3, hq _ _ k4⟩) x⟩) x⟩) x⟩
      · rw [if_neg c] at x ⊢
        exact hq _ _ x
  · obtain ⟨o1, rfl, g3, e3⟩ := p
    walk_at "rd"
    rw [List.length_map, List.take_length] at e3
    exact h D H3 g3 nD e3
/-! upward_places -/
def keyP (p : List Int) : List Key := [Sum.inl (Sh25.at_ p 1), Sum.inl (Sh25.at_ p 0)]
def kvsOf (pts : List (List Int)) (fs : List Nat) : List (List Key × V) := fs.map fun u => (keyP (pts.getD u []), natV u)
/-- the first places of the points before i -/
structure FS (pts : List (List Int)) (i : Nat) (fs : List Nat) : Prop where
  lt : ∀ u ∈ fs, u < i
  first : ∀ u ∈ fs, ∀ j, j < u → pts.getD j [] ≠ pts.getD u []
  all : ∀ j, j < i → ∃ u ∈ fs, pts.getD u [] = pts.getD j []
  ne : fs.Pairwise fun a b => keyP (pts.getD a []) ≠ keyP (pts.getD b [])
  len : fs.length ≤ i
theorem keyP_inj {a b : List Int} (ha : a.length = 2) (hb : b.length = 2) (h : keyP a = keyP b) : a = b := by
  unfold keyP at h
  injection h with h1 h2
  injection h2 with h2 h3
  injection h1 with h1
  injection h2 with h2
  exact HK.vec_eq ha hb h2 h1
theorem valV_nil_of {pts : List (List Int)} {k : List Key} : ∀ {fs : List Nat}, valV (kvsOf pts fs) k = none → ∀ u ∈ fs, keyP (pts.getD u []) ≠ k
  | [], _, u, hu => nomatch hu
  | a :: fs, h, u, hu => by
    unfold kvsOf at h
    rw [List.map_cons] at h
    by_cases e : keyP (pts.getD a []) = k
    · rw [valV_pos (p := (keyP (pts.getD a []), natV a)) e] at h; cases h
    · rw [valV_neg (p := (keyP (pts.getD a []), natV a)) e] at h
      rcases List.mem_cons.mp hu with z | hu
      · rw [z]; exact e
      · exact valV_nil_of h u hu
theorem valV_some_of {pts : List (List Int)} {k : List Key} {r : V} : ∀ {fs : List Nat}, valV (kvsOf pts fs) k = some r → ∃ u ∈ fs, keyP (pts.getD u []) = k ∧ r = natV u
  | [], h => nomatch h
  | a :: fs, h => by
    unfold kvsOf at h
    rw [List.map_cons] at h
    by_cases e : keyP (pts.getD a []) = k
    · rw [valV_pos (p := (keyP (pts.getD a []), natV a)) e] at h; cases h; exact ⟨a, by simp, e, rfl⟩
    · rw [valV_neg (p := (keyP (pts.getD a []), natV a)) e] at h
      obtain ⟨u, hu, e1, e2⟩ := valV_some_of h
      exact ⟨u, List.mem_cons_of_mem _ hu, e1, e2⟩
def keyZ (z : Int × Int) : List Key := [Sum.inl z.1, Sum.inl z.2]
def plc (pts : List (List Int)) (fs : List Nat) (z : Int × Int) : Nat := (fs.find? fun u => decide (keyP (pts.getD u []) = keyZ z)).getD 0
theorem valV_find {pts : List (List Int)} {k : List Key} : ∀ {fs : List Nat}, valV (kvsOf pts fs) k = (fs.find? fun u => decide (keyP (pts.getD u []) = k)).map natV
  | [] => rfl
  | a :: fs => by
    have ih := valV_find (pts := pts) (k := k) (fs := fs)
    unfold kvsOf at ih ⊢
    rw [List.map_cons, List.find?_cons]
    by_cases e : keyP (pts.getD a []) = k
    · rw [valV_pos (p := (keyP (pts.getD a []), natV a)) e, decide_eq_true e]; rfl
    · rw [valV_neg (p := (keyP (pts.getD a []), natV a)) e, decide_eq_false e, ih]
theorem plc_ok {pts : List (List Int)} {fs : List Nat} {z : Int × Int} (h : ∃ u ∈ fs, keyP (pts.getD u []) = keyZ z) : plc pts fs z ∈ fs ∧ keyP (pts.getD (plc pts fs z) []) = keyZ z ∧ valV (kvsOf pts fs) (keyZ z) = some (natV (plc pts fs z)) := by
  rw [valV_find]
  unfold plc
  cases e : fs.find? fun u => decide (keyP (pts.getD u []) = keyZ z) with
  | none =>
    obtain ⟨u, hu, hk⟩ := h
    have := List.find?_eq_none.mp e u hu
    exact absurd (decide_eq_true hk) this
  | some u => exact ⟨List.mem_of_find?_eq_some e, of_decide_eq_true (List.find?_some (p := fun u => decide (keyP (pts.getD u []) = keyZ z)) e), rfl⟩
theorem key_in {pts : List (List Int)} {fs : List Nat} {ps : List (Int × Int)} (pm : (ps.map keyZ).Perm ((kvsOf pts fs).map (·.1))) {z : Int × Int} (hz : z ∈ ps) : ∃ u ∈ fs, keyP (pts.getD u []) = keyZ z := by
  have := pm.mem_iff.mp (List.mem_map.mpr ⟨z, hz, rfl⟩)
  unfold kvsOf at this
  rw [List.map_map] at this
  exact List.mem_map.mp this
theorem up_of {pts : List (List Int)} {fs : List Nat} {ps : List (Int × Int)} (hq : PTH pts) (f : FS pts pts.length fs) (pm : (ps.map keyZ).Perm ((kvsOf pts fs).map (·.1))) (st : ps.Pairwise lexLe) : HK.UP pts (ps.map (plc pts fs)) := by
  have ok : ∀ z ∈ ps, _ := fun z hz => plc_ok (key_in pm hz)
  have nd : (ps.map keyZ).Nodup := by
    refine pm.symm.nodup ?_
    unfold kvsOf
    rw [List.map_map]
    exact List.pairwise_map.mpr f.ne
  have nz : ps.Pairwise fun a b => keyZ a ≠ keyZ b := List.pairwise_map.mp nd
  constructor
  · intro u hu
    obtain ⟨z, hz, rfl⟩ := List.mem_map.mp hu
    exact f.lt _ (ok z hz).1
  · rw [List.pairwise_map]
    refine List.Pairwise.imp_of_mem (fun {a b} ha hb hab => ?_) (st.and nz)
    obtain ⟨le, ne⟩ := hab
    have ea := (ok a ha).2.1
    have eb := (ok b hb).2.1
    unfold keyP keyZ at ea eb
    simp only [List.cons.injEq, Sum.inl.injEq, and_true] at ea eb
    have ne' : ¬ (a.1 = b.1 ∧ a.2 = b.2) := fun y => ne (by unfold keyZ; rw [y.1, y.2])
    unfold HK.lo2
    unfold lexLe at le
    rw [ea.1, ea.2, eb.1, eb.2]
    omega
  · intro u hu
    obtain ⟨z, hz, rfl⟩ := List.mem_map.mp hu
    exact f.first _ (ok z hz).1
  · intro a ha
    obtain ⟨j, hj, rfl⟩ := List.getElem_of_mem ha
    obtain ⟨u, hu, e⟩ := f.all j hj
    have gd : pts.getD j [] = pts[j] := by rw [List.getD_eq_getElem?_getD, List.getElem?_eq_getElem hj]; rfl
    have : keyP (pts.getD u []) ∈ ps.map keyZ := pm.mem_iff.mpr (by unfold kvsOf; rw [List.map_map]; exact List.mem_map.mpr ⟨u, hu, rfl⟩)
    obtain ⟨z, hz, ez⟩ := List.mem_map.mp this
    refine ⟨_, List.mem_map.mpr ⟨z, hz, rfl⟩, ?_⟩
    rw [← gd, ← e]
    exact keyP_inj (hq.at (f.lt _ (ok z hz).1)).1 (hq.at (f.lt _ hu)).1 ((ok z hz).2.1.trans ez)
  · have := pm.length_eq
    unfold kvsOf at this
    rw [List.length_map, List.length_map, List.length_map] at this
    rw [List.length_map, this]
    exact f.len
def spUp (K : PySem.W.Frag) : Sp := fun vs H Q E => ∃ (v : V) (pts : List (List Int)), vs = [v] ∧ LLI K H v pts ∧ pts.length ≤ 512 ∧ PTH pts ∧
  ∀ r H' us, Same H H' → H r = none → H' r = some (.lst (us.map natV)) → HK.UP pts us → Q (.ref r) H'
theorem sc_upward_places : FnScope ["points", "found", "place", "point", "key"] ["points"] (defScope s_upward_places) := ⟨rfl, rfl, rfl, by decide +kernel, rfl, by decide +kernel, by decide +kernel⟩
theorem ok_upward_places {f : Addr} {fd : FuncData} {k : Nat} (F : Fun K "upward_places" "upward_places" s_upward_places f fd) (m_enumerate : mg "enumerate" = none) (m_sorted : mg "sorted" = none) : FnOk P w K mg base (CXE P w) (k + 1) f fd ["points"] (spUp K) := by
  refine F.okX sc_upward_places (fun vs H Q E h => ?_) (fun cdv A outer s H vs Q E hr h => ?_)
  · obtain ⟨v, pts, rfl, hv, hz, hq, h⟩ := h
    rfl
  obtain ⟨v, pts, rfl, hv, hz, hq, h⟩ := h
  obtain ⟨L, fr⟩ := @frIs_def (CXE P w) P w K mg base ["points", "found", "place", "point", "key"] "upward_places" (defScope s_upward_places) f cdv A outer s H E
  refine ⟨_, (pss_cons (ps_set (i := 1) sc_upward_places.nd rfl (Or.inr rfl) pe_dnewT) (pss_cons (ps_for passes_own_x rfl (pi_enum rfl m_enumerate (pa_cons (pv 0) pa_nil)) (pg_two K 2 3 rfl sc_upward_places.nd) (pss_one (ps_expr (pe_bm PySem.F.plainAttrs_dict PySem.F.slot_dict_setdefault PySem.F.type_dict_setdefault (mt_setdef (hu_of hr)) (pv 1) (pa_cons (pe_tup (pa_cons (pe_ix (ixL K) (pv 3) pe_int (fun _ _ => rfl)) (pa_cons (pe_ix (ixL K) (pv 3) pe_int (fun _ _ => rfl)) pa_nil))) (pa_cons (pv 2) pa_nil)))))) (pss_one (ps_ret (pe_lcE (own := [("key", 4)]) rfl rfl fr sc_upward_places.nd (pi_list (pe_callB (cr_sortedT rfl) rfl m_sorted (by decide +kernel) (pa_cons (pv 1) pa_nil))) (blkOk_by rfl) (fun _ _ _ _ _ => (pg_name (i := 4) sc_upward_places.nd rfl (Or.inl rfl))) (fun _ _ _ _ _ => (pe_dget (hu_of hr) (pv 1) (pv 4) (fun _ _ => rfl)))))))), ?_⟩
  walk_at "rd"
  intro D nD
  have g0 := Same.new nD (.dT [])
  have hv0 := hv
  obtain ⟨a0, xs, rfl, hs, hx⟩ := hv
  have lx : xs.length = pts.length := hx.length
  refine ⟨_, rfl, a0, xs, rfl, g0.seq hs, ?_⟩
  refine for_enum (xs := xs) (fun i σ H3 => ∃ o1 o2 fs, σ = [some (.ref a0), some (.ref D), o1, o2, none] ∧ Same H H3 ∧ H3 D = some (.dT (kvsOf pts fs)) ∧ FS pts i fs)
    ⟨none, none, [], rfl, g0, upd_same, ⟨(fun u hu => nomatch hu), (fun u hu => nomatch hu), (fun j hj => by omega), List.Pairwise.nil, Nat.le_refl _⟩⟩ (fun i σ H3 _ ⟨_, _, _, _, g, _⟩ => g.seq hs) (fun i x T σ H3 ex p hT => ?_) fun σ H3 p => ?_
  · obtain ⟨o1, o2, fs, rfl, g3, e3, f3⟩ := p
    have gT := Same.new hT (.tup [.int (i : Nat), x])
    obtain ⟨q, eq, hxq⟩ := Paired.get hx ex
    have hi : i < pts.length := (List.getElem?_eq_some_iff.mp eq).1
    refine ⟨T, _, rfl, SqT.of upd_same, rfl, _, _, rfl, _, _, rfl, rfl, ?_⟩
    walk_at "rd"
    have gd : pts.getD i [] = q := by rw [List.getD_eq_getElem?_getD, eq]; rfl
    obtain ⟨lq, bq⟩ := hq q (List.mem_of_getElem? eq)
    obtain ⟨b, rfl, hb⟩ := hxq
    have hb3 := (g3.trans gT).seq hb
    refine ⟨.inr (.inr (.inl ⟨rfl, .inr ⟨_, gT _ _ e3⟩⟩)), ix_at (i := 1) hb3 rfl (by omega) (ix_at (i := 0) hb3 rfl (by omega) ⟨by decide, fun T2 n2 => ?_⟩)⟩
    have g2 := Same.new n2 (.tup [.int (q.getD 1 0), .int (q.getD 0 0)])
    refine ⟨D, T2, _, kvsOf pts fs, keyP q, rfl, rfl, g2 _ _ (gT _ _ e3), upd_same, ?_, fun r => ⟨fun er => ?_, fun en => ?_⟩⟩
    · unfold kvsOf
      rw [List.length_map]
      exact Nat.lt_of_le_of_lt (Nat.le_trans f3.len (by omega : i ≤ 512)) (by decide)
    · obtain ⟨u, hu, e1, _⟩ := valV_some_of er
      refine ⟨_, _, fs, rfl, g3.trans (gT.trans g2), g2 _ _ (gT _ _ e3), ⟨(fun u hu => Nat.lt_succ_of_lt (f3.lt u hu)), f3.first, (fun j hj => ?_), f3.ne, Nat.le_succ_of_le f3.len⟩⟩
      by_cases z : j = i
      · refine ⟨u, hu, ?_⟩
        rw [z, gd]
        exact keyP_inj (hq.at (Nat.lt_trans (f3.lt u hu) hi)).1 lq e1
      · exact f3.all j (by omega)
    · have nk := valV_nil_of en
      have ek : kvsOf pts fs ++ [(keyP q, V.int (i : Nat))] = kvsOf pts (fs ++ [i]) := by
        unfold kvsOf
        rw [List.map_append, List.map_cons, List.map_nil, gd]; rfl
      refine ⟨_, _, fs ++ [i], rfl, (g3.trans (gT.trans g2)).upd_new nD, by rw [upd_same, ek], ⟨(fun u hu => ?_), (fun u hu j hj => ?_), (fun j hj => ?_), ?_, ?_⟩⟩
      · rcases List.mem_append.mp hu with m | m
        · exact Nat.lt_succ_of_lt (f3.lt u m)
        · rw [List.mem_singleton.mp m]; exact Nat.lt_succ_self _
      · rcases List.mem_append.mp hu with m | m
        · exact f3.first u m j hj
        · rw [List.mem_singleton.mp m] at hj ⊢
          intro y
          obtain ⟨w', hw, e⟩ := f3.all j hj
          exact nk w' hw (by rw [e, y, gd])
      · by_cases z : j = i
        · exact ⟨i, by simp, by rw [z]⟩
        · obtain ⟨w', hw, e⟩ := f3.all j (by omega)
          exact ⟨w', List.mem_append_left _ hw, e⟩
      · rw [List.pairwise_append]
        refine ⟨f3.ne, by simp, fun a ha b hb => ?_⟩
        rw [List.mem_singleton.mp hb, gd]
        exact nk a ha
      · rw [List.length_append]
        exact Nat.succ_le_succ f3.len
  · obtain ⟨o1, o2, fs, rfl, g3, e3, f3⟩ := p
    rw [lx] at f3
    walk_at "rd"
    refine ⟨_, rfl, D, kvsOf pts fs, rfl, e3, fun p hp => ?_, fun qs ps p pm st pr np => ⟨p, rfl, ⟨_, SqL.of upd_same⟩, fun D2 hD2 => ?_⟩⟩
    · unfold kvsOf at hp
      obtain ⟨u, _, rfl⟩ := List.mem_map.mp hp
      exact ⟨_, _, rfl⟩
    have pm' : (ps.map keyZ).Perm ((kvsOf pts fs).map (·.1)) := pm
    have gp := Same.new np (.lst (qs.map V.ref))
    have lq : qs.length = ps.length := pr.length
    have lps : ps.length ≤ 512 := by
      have := pm'.length_eq
      unfold kvsOf at this
      rw [List.length_map, List.length_map, List.length_map] at this
      have := f3.len
      omega
    have hp0 : (upd H3 p (.lst (qs.map V.ref))) p = some (.lst (qs.map V.ref)) := upd_same
    refine lc_any (n := ps.length) (fun i _ v => ∃ u, (ps.map (plc pts fs))[i]? = some u ∧ v = natV u) (fun i H H' v _ r => r) hD2 (Nat.le_trans lps (by decide)) (fun H4 g4 => ⟨_, g4.seq (SqL.of hp0), by rw [List.length_map]; exact Nat.le_of_eq lq⟩)
      (fun i H4 hi g4 => ⟨_, _, g4.seq (SqL.of hp0), List.getElem?_eq_getElem (by rw [List.length_map]; omega)⟩) (fun i x H4 H5 Q' hi g4 _ y hQ => ?_) fun H4 ys g4 hD4 ely hys => ?_
    · obtain ⟨rfl, y⟩ := y
      have ex := y _ (g4.seq (SqL.of hp0))
      rw [List.getElem?_map] at ex
      cases eq : qs[i]? with
      | none => rw [eq] at ex; cases ex
      | some q =>
      rw [eq] at ex
      cases ex
      obtain ⟨z, ez, hz'⟩ := paired_get pr eq
      have g34 := gp.trans g4
      obtain ⟨m1, m2, m3⟩ := plc_ok (key_in pm' (List.mem_of_getElem? ez))
      refine ⟨rfl, ?_⟩
      walk_at "rd"
      refine ⟨_, rfl, _, rfl, D, natV (plc pts fs z), rfl, ?_, hQ _ _ (Same.refl _) ⟨_, by rw [List.getElem?_map, ez]; rfl, rfl⟩⟩
      have := DGet.t (k := keyZ z) (g34 _ _ e3) (g34 _ _ hz')
      rw [m3] at this
      exact this
    · have ey : ys = (ps.map (plc pts fs)).map natV := map_of (by rw [List.length_map]; exact ely) hys
      rw [ey] at hD4
      have nD2 : H D2 = none := by
        cases e : H D2 with
        | none => rfl
        | some o => have := gp _ _ (g3 _ _ e); rw [this] at hD2; cases hD2
      exact h D2 H4 _ (g3.trans (gp.trans g4)) nD2 hD4 (up_of hq f3 pm' st)
/-! hull_places -/
theorem cutV_butLast {xs : List V} : cutV xs none (some (-1)) = xs.dropLast := by
  unfold cutV
  rw [HT.sIx_none, List.drop_zero, Nat.sub_zero, List.dropLast_eq_take]
  congr 1
  show (if (-1 : Int) < 0 then ((-1 : Int) + (xs.length : Int)).toNat else min (-1 : Int).toNat xs.length) = _
  rw [if_pos (by decide)]
  omega
theorem tight_len {pts : List (List Int)} {us : List Nat} : (HK.tight pts us).length ≤ us.length := by
  have := (HK.chain_sub (T := HK.tstI pts) us).length_le
  rw [List.length_reverse] at this
  unfold HK.tight
  rw [List.length_reverse]; exact this
def spHullP (K : PySem.W.Frag) : Sp := fun vs H Q E => ∃ (v : V) (pts : List (List Int)), vs = [v] ∧ LLI K H v pts ∧ 0 < pts.length ∧ pts.length ≤ 512 ∧ PTH pts ∧
  ∀ r H', Same H H' → H' r = some (.lst ((Sh25.hull pts).map natV)) → Q (.ref r) H'
theorem sc_hull_places : FnScope ["points", "upward", "downward"] ["points"] (defScope s_hull_places) := ⟨rfl, rfl, rfl, by decide +kernel, rfl, by decide +kernel, by decide +kernel⟩
theorem ok_hull_places {f : Addr} {fd : FuncData} {k : Nat} (F : Fun K "hull_places" "hull_places" s_hull_places f fd) (m_len : mg "len" = none) (m_list : mg "list" = none) (m_reversed : mg "reversed" = none) (h_upward_places : Has P w K mg base k "upward_places" ["points"] (spUp K)) (h_tight_side : Has P w K mg base k "tight_side" ["points", "places"] (spTight K)) : FnOk P w K mg base (CXE P w) (k + 1) f fd ["points"] (spHullP K) := by
  refine F.okX sc_hull_places (fun vs H Q E h => ?_) (fun cdv A outer s H vs Q E hr h => ?_)
  · obtain ⟨v, pts, rfl, hv, h0, hz, hq, h⟩ := h
    rfl
  obtain ⟨v, pts, rfl, hv, h0, hz, hq, h⟩ := h
  obtain ⟨L, fr⟩ := @frIs_def (CXE P w) P w K mg base ["points", "upward", "downward"] "hull_places" (defScope s_hull_places) f cdv A outer s H E
  refine ⟨_, (pss_cons (ps_set (i := 1) sc_hull_places.nd rfl (Or.inl rfl) (pe_callH h_upward_places hr (passX rfl ⟨L, fr⟩) (pa_cons (pv 0) pa_nil))) (pss_cons (ps_if (pt_cmpR op_eq (pe_callB (lenS K) rfl m_len PySem.boot_len (pa_cons (pv 1) pa_nil)) pe_int (nomark _)) (pss_one (ps_ret (pv 1))) pss_nil) (pss_cons (ps_set (i := 2) sc_hull_places.nd rfl (Or.inl rfl) (pe_listRev rfl rfl m_list rfl m_reversed (pa_cons (pv 1) pa_nil))) (pss_one (ps_ret (pe_op op_cat (pe_slice (slL K) (pe_callH h_tight_side hr (passX rfl ⟨L, fr⟩) (pa_cons (pv 0) (pa_cons (pv 1) pa_nil))) po_none (po_some (pe_un un_neg pe_int))) (pe_slice (slL K) (pe_callH h_tight_side hr (passX rfl ⟨L, fr⟩) (pa_cons (pv 0) (pa_cons (pv 2) pa_nil))) po_none (po_some (pe_un un_neg pe_int))))))))), ?_⟩
  walk_at "rd"
  refine ⟨v, pts, rfl, hv, hz, hq, fun r1 H1 us g1 n1 e1 up => ?_⟩
  obtain ⟨k1, k2⟩ := HK.hull_up (fun a ha => (hq a ha).1) h0 up
  have lu : us.length ≤ 512 := Nat.le_trans up.len hz
  walk_at "rd"
  refine ⟨r1, _, rfl, .inl (SqL.of e1), ?_⟩
  rw [List.length_map]
  by_cases c : us.length = 1
  · rw [if_pos (by omega)]
    exact h r1 H1 g1 (by rw [k1 c]; exact e1)
  rw [if_neg (by omega)]
  refine ⟨_, rfl, r1, _, rfl, SqL.of e1, fun D nD => ?_⟩
  rw [← List.map_reverse]
  have g2 := Same.new nD (.lst (us.reverse.map natV))
  have g12 := g1.trans g2
  refine ⟨v, r1, pts, us, rfl, hv.same g12, SqL.of (g2 _ _ e1), hz, hq, up.lt, lu, fun r3 H3 g3 n3 e3 => ?_⟩
  refine ⟨r3, _, rfl, SqL.of e3, fun p4 n4 => ?_⟩
  rw [cutV_butLast, ← List.map_dropLast]
  have g4 := Same.new n4 (.lst ((HK.tight pts us).dropLast.map natV))
  have g34 := g3.trans g4
  have eD : upd H1 D (.lst (us.reverse.map natV)) D = some (.lst (us.reverse.map natV)) := upd_same
  refine ⟨v, D, pts, us.reverse, rfl, hv.same (g12.trans g34), SqL.of (g34 _ _ eD), hz, hq, fun p hp => up.lt p (List.mem_reverse.mp hp), by rw [List.length_reverse]; exact lu, fun r5 H5 g5 n5 e5 => ?_⟩
  refine ⟨r5, _, rfl, SqL.of e5, fun p6 n6 => ?_⟩
  rw [cutV_butLast, ← List.map_dropLast]
  have g6 := Same.new n6 (.lst ((HK.tight pts us.reverse).dropLast.map natV))
  have e4 : upd H3 p4 (.lst ((HK.tight pts us).dropLast.map natV)) p4 = some (.lst ((HK.tight pts us).dropLast.map natV)) := upd_same
  refine ⟨p4, p6, _, _, rfl, rfl, (g5.trans g6) _ _ e4, upd_same, ?_, fun p7 n7 => ?_⟩
  · have t1 := tight_len (pts := pts) (us := us)
    have t2 := tight_len (pts := pts) (us := us.reverse)
    rw [List.length_reverse] at t2
    rw [List.length_map, List.length_map, List.length_dropLast, List.length_dropLast]
    exact Nat.le_trans (show _ ≤ 1024 by omega) (by decide)
  · refine h p7 _ (g12.trans (g34.trans (g5.trans (g6.trans (Same.new n7 _))))) ?_
    rw [upd_same, k2 c, List.map_append]
/-! hull_answer -/
theorem hull_len {pts : List (List Int)} (hq : PTH pts) (us : List Nat) (h0 : 0 < pts.length) : (Sh25.hull pts).length ≤ pts.length := by
  have : ∀ (k : Nat) (s p : Sh25.Vec), (Sh25.round pts s k p).length ≤ k := by
    intro k
    induction k with
    | zero => intro s p; exact Nat.le_refl _
    | succ k ih =>
      intro s p
      simp only [Sh25.round]
      split
      · simp
      · rw [List.length_cons]
        exact Nat.succ_le_succ (ih _ _)
  unfold Sh25.hull
  rw [List.length_map]
  exact this _ _ _
def spHullA (K : PySem.W.Frag) : Sp := fun vs H Q E => ∃ (v : V) (pts : List (List Int)), vs = [v] ∧ LLI K H v pts ∧ 0 < pts.length ∧ pts.length ≤ 512 ∧ PTH pts ∧
  ∀ r H', Same H H' → H' r = some (.lst ((((Sh25.hull pts).length : Int) :: Sh25.ints (Sh25.hull pts)).map V.int)) → Q (.ref r) H'
theorem sc_hull_answer : FnScope ["points", "places"] ["points"] (defScope s_hull_answer) := ⟨rfl, rfl, rfl, by decide +kernel, rfl, by decide +kernel, by decide +kernel⟩
theorem ok_hull_answer {f : Addr} {fd : FuncData} {k : Nat} (F : Fun K "hull_answer" "hull_answer" s_hull_answer f fd) (m_len : mg "len" = none) (h_hull_places : Has P w K mg base k "hull_places" ["points"] (spHullP K)) : FnOk P w K mg base (CXE P w) (k + 1) f fd ["points"] (spHullA K) := by
  refine F.okX sc_hull_answer (fun vs H Q E h => ?_) (fun cdv A outer s H vs Q E hr h => ?_)
  · obtain ⟨v, pts, rfl, hv, h0, hz, hq, h⟩ := h
    rfl
  obtain ⟨v, pts, rfl, hv, h0, hz, hq, h⟩ := h
  obtain ⟨L, fr⟩ := @frIs_def (CXE P w) P w K mg base ["points", "places"] "hull_answer" (defScope s_hull_answer) f cdv A outer s H E
  refine ⟨_, (pss_cons (ps_set (i := 1) sc_hull_answer.nd rfl (Or.inl rfl) (pe_callH h_hull_places hr (passX rfl ⟨L, fr⟩) (pa_cons (pv 0) pa_nil))) (pss_one (ps_ret (pe_op op_cat (pe_lst (pa_cons (pe_callB (lenS K) rfl m_len PySem.boot_len (pa_cons (pv 1) pa_nil)) pa_nil)) (pv 1))))), ?_⟩
  walk_at "rd"
  refine ⟨v, pts, rfl, hv, h0, hz, hq, fun r1 H1 g1 e1 => ?_⟩
  have hl := hull_len hq [] h0
  walk_at "rd"
  refine ⟨_, _, rfl, .inl (SqL.of e1), by decide, fun p0 n0 => ?_⟩
  rw [List.length_map]
  have g3 := Same.new n0 (.lst [.int ((Sh25.hull pts).length : Int)])
  refine ⟨p0, r1, _, _, rfl, rfl, upd_same, g3 _ _ e1, ?_, fun p1 n1 => h p1 _ (g1.trans (g3.trans (Same.new n1 _))) ?_⟩
  · rw [List.length_map]
    show 1 + _ ≤ _
    exact Nat.le_trans (show 1 + (Sh25.hull pts).length ≤ 1000 by omega) (by decide)
  · rw [upd_same]
    unfold Sh25.ints
    rw [List.map_cons, List.map_map]
    rfl
/-! read_number -/
def spNum (cW : Addr) : Sp := fun vs H Q E => ∃ b : Nat, vs = [.int (b : Int)] ∧ b < 2 ^ 64 ∧ (if Sh25.isNum b = true then Q (.int (Sh25.val b)) H else E (.ref cW) none H)
theorem exp_eq {b : Nat} : Builtin.bitAnd ((b : Int) / 2 ^ (52 : Int).toNat) 2047 = ((b / 2 ^ 52 % 2048 : Nat) : Int) := by
  have h : (0 : Int) ≤ (b : Int) / 2 ^ (52 : Int).toNat := Int.ediv_nonneg (Int.natCast_nonneg _) (by decide)
  have := Bits.bitAnd_mask 11 h
  rw [show (2 : Int) ^ 11 - 1 = 2047 by decide] at this
  rw [this]
  show (b : Int) / 2 ^ 52 % 2 ^ 11 = _
  omega
theorem frac_eq {b : Nat} : Builtin.bitAnd (b : Int) 4503599627370495 = ((b % 2 ^ 52 : Nat) : Int) := by
  have := Bits.bitAnd_mask 52 (Int.natCast_nonneg b)
  rw [show (2 : Int) ^ 52 - 1 = 4503599627370495 by decide] at this
  rw [this]
  omega
theorem sc_read_number : FnScope ["bits", "exponent", "size"] ["bits"] (defScope s_read_number) := ⟨rfl, rfl, rfl, by decide +kernel, rfl, by decide +kernel, by decide +kernel⟩
theorem ok_read_number {f : Addr} {fd : FuncData} {k : Nat} (F : Fun K "read_number" "read_number" s_read_number f fd) {C_WrongInput : Addr} {bm_WrongInput : List Value} {B_WrongInput nw_WrongInput in_WrongInput : String} (O_WrongInput : PyProof.Rows.OwnCls "WrongInput" C_WrongInput bm_WrongInput nw_WrongInput mg base) (FB_WrongInput : ExcBaseFacts B_WrongInput nw_WrongInput in_WrongInput bm_WrongInput) {t_EXPONENT_MASK : Tok} (v_EXPONENT_MASK : mg "EXPONENT_MASK" = some (.int 2047 t_EXPONENT_MASK)) {t_FRACTION_MASK : Tok} (v_FRACTION_MASK : mg "FRACTION_MASK" = some (.int 4503599627370495 t_FRACTION_MASK)) {t_HIDDEN_BIT : Tok} (v_HIDDEN_BIT : mg "HIDDEN_BIT" = some (.int 4503599627370496 t_HIDDEN_BIT)) : FnOk P w K mg base (CXE P w) (k + 1) f fd ["bits"] (spNum C_WrongInput) := by
  refine F.okX sc_read_number (fun vs H Q E h => ?_) (fun cdv A outer s H vs Q E hr h => ?_)
  · obtain ⟨b, rfl, hb, h⟩ := h
    rfl
  obtain ⟨b, rfl, hb, h⟩ := h
  obtain ⟨L, fr⟩ := @frIs_def (CXE P w) P w K mg base ["bits", "exponent", "size"] "read_number" (defScope s_read_number) f cdv A outer s H E
  refine ⟨_, (pss_cons (ps_set (i := 1) sc_read_number.nd rfl (Or.inl rfl) (pe_op op_and (pe_op op_shr (pv 0) pe_int) (pgI v_EXPONENT_MASK))) (pss_cons (ps_if (PW.pt (pw_or (pt_cmpR op_eq (pv 1) (pgI v_EXPONENT_MASK) (nomark _)) (pw_or1 (pt_cmpR op_ne (pe_op op_shr (pv 0) pe_int) pe_int (nomark _))))) (pss_one (ps_raise rfl ⟨L, fr⟩ rfl rfl O_WrongInput FB_WrongInput (pa_cons pe_str pa_nil))) pss_nil) (pss_cons (ps_set (i := 2) sc_read_number.nd rfl (Or.inl rfl) (pe_op op_and (pv 0) (pgI v_FRACTION_MASK))) (pss_cons (ps_if (pt_cmpR op_gt (pv 1) pe_int (nomark _)) (pss_one (ps_set (i := 2) sc_read_number.nd rfl (Or.inl rfl) (pe_op op_shlB (pe_op op_add (pv 2) (pgI v_HIDDEN_BIT)) (pe_op op_sub (pv 1) pe_int)))) pss_nil) (pss_cons (ps_if (pt_cmpR op_eq (pe_op op_shr (pv 0) pe_int) pe_int (nomark _)) (pss_one (ps_ret (pe_un un_neg (pv 2)))) pss_nil) (pss_one (ps_ret (pv 2)))))))), ?_⟩
  walk_at "rd"
  rw [exp_eq, frac_eq, show ((b : Int) / 2 ^ Int.toNat 63) = ((b / 2 ^ 63 : Nat) : Int) by show (b : Int) / 2 ^ 63 = _; omega, show ((b : Int) / 2 ^ Int.toNat 64) = 0 by show (b : Int) / 2 ^ 64 = _; omega]
  refine ⟨by decide, ?_⟩
  have he : b / 2 ^ 52 % 2048 < 2048 := Nat.mod_lt _ (by decide)
  have hm : b % 2 ^ 52 < 2 ^ 52 := Nat.mod_lt _ (by decide)
  by_cases hn : Sh25.isNum b = true
  · rw [if_pos hn, val_eq hb] at h
    unfold szI at h
    have c := (num_iff hb).mp hn
    rw [if_neg (by omega)]
    refine ⟨by decide, ?_⟩
    rw [if_neg (by decide)]
    generalize b / 2 ^ 52 % 2048 = e at he c h ⊢
    generalize b % 2 ^ 52 = m at hm h ⊢
    by_cases c1 : 0 < e
    · rw [if_pos (by omega)]
      rw [if_pos c1] at h
      have et : ((e : Int) - 1).toNat = e - 1 := by omega
      refine ⟨⟨by omega, by omega, b20_of (k := 60) (by omega) (by decide)⟩, by decide, ?_⟩
      rw [et]
      by_cases c2 : b / 2 ^ 63 = 1
      · rw [if_pos c2] at h
        rw [if_pos (by omega)]
        exact h
      · rw [if_neg c2] at h
        rw [if_neg (by omega)]
        exact h
    · rw [if_neg (by omega)]
      rw [if_neg c1] at h
      refine ⟨by decide, ?_⟩
      by_cases c2 : b / 2 ^ 63 = 1
      · rw [if_pos c2] at h
        rw [if_pos (by omega)]
        exact h
      · rw [if_neg c2] at h
        rw [if_neg (by omega)]
        exact h
  · rw [if_neg hn] at h
    have c : b / 2 ^ 52 % 2048 = 2047 := Decidable.byContradiction fun z => hn ((num_iff hb).mpr z)
    rw [if_pos (by omega)]
    exact ⟨by decide, h⟩
/-! read_choice -/
def spChoice (cW : Addr) : Sp := fun vs H Q E => ∃ v a b : Int, vs = [.int v, .int a, .int b] ∧ (if a ≤ v ∧ v ≤ b then Q (.int v) H else E (.ref cW) none H)
theorem sc_read_choice : FnScope ["value", "least", "most"] ["value", "least", "most"] (defScope s_read_choice) := ⟨rfl, rfl, rfl, by decide +kernel, rfl, by decide +kernel, by decide +kernel⟩
theorem ok_read_choice {f : Addr} {fd : FuncData} {k : Nat} (F : Fun K "read_choice" "read_choice" s_read_choice f fd) {C_WrongInput : Addr} {bm_WrongInput : List Value} {B_WrongInput nw_WrongInput in_WrongInput : String} (O_WrongInput : PyProof.Rows.OwnCls "WrongInput" C_WrongInput bm_WrongInput nw_WrongInput mg base) (FB_WrongInput : ExcBaseFacts B_WrongInput nw_WrongInput in_WrongInput bm_WrongInput) : FnOk P w K mg base (CXE P w) (k + 1) f fd ["value", "least", "most"] (spChoice C_WrongInput) := by
  refine F.okX sc_read_choice (fun vs H Q E h => ?_) (fun cdv A outer s H vs Q E hr h => ?_)
  · obtain ⟨v, a, b, rfl, h⟩ := h
    rfl
  obtain ⟨v, a, b, rfl, h⟩ := h
  obtain ⟨L, fr⟩ := @frIs_def (CXE P w) P w K mg base ["value", "least", "most"] "read_choice" (defScope s_read_choice) f cdv A outer s H E
  refine ⟨_, (pss_cons (ps_if (PW.pt (pw_or (pt_cmpR op_lt (pv 0) (pv 1) (nomark _)) (pw_or1 (pt_cmpR op_gt (pv 0) (pv 2) (nomark _))))) (pss_one (ps_raise rfl ⟨L, fr⟩ rfl rfl O_WrongInput FB_WrongInput (pa_cons pe_str pa_nil))) pss_nil) (pss_one (ps_ret (pv 0)))), ?_⟩
  walk_at "rd"
  by_cases c : a ≤ v ∧ v ≤ b
  · rw [if_pos c] at h
    rw [if_neg (by omega), if_neg (by omega)]
    exact h
  · rw [if_neg c] at h
    by_cases c2 : v < a
    · rw [if_pos c2]
      exact ⟨by decide, h⟩
    · rw [if_neg c2, if_pos (by omega)]
      exact ⟨by decide, h⟩
/-! read_numbers -/
def spNums (K : PySem.W.Frag) (cW : Addr) : Sp := fun vs H Q E => ∃ (v : V) (l : List Nat) (a b : Int), vs = [v, .int a, .int b] ∧ LI K H v (Sh25.ints l) ∧ (∀ b ∈ l, b < 2 ^ 64) ∧ l.length ≤ 100000 ∧
  (if okNums a b l = true then ∀ r H', Same H H' → H r = none → H' r = some (.lst ((Sh25.ex l).map V.int)) → Q (.ref r) H' else ∀ H', Same H H' → E (.ref cW) none H')
theorem sc_read_numbers : FnScope ["numbers", "least", "most", "bits"] ["numbers", "least", "most"] (defScope s_read_numbers) := ⟨rfl, rfl, rfl, by decide +kernel, rfl, by decide +kernel, by decide +kernel⟩
theorem ok_read_numbers {f : Addr} {fd : FuncData} {k : Nat} (F : Fun K "read_numbers" "read_numbers" s_read_numbers f fd) {C_WrongInput : Addr} (m_len : mg "len" = none) (h_read_choice : Has P w K mg base k "read_choice" ["value", "least", "most"] (spChoice C_WrongInput)) (h_read_number : Has P w K mg base k "read_number" ["bits"] (spNum C_WrongInput)) : FnOk P w K mg base (CXE P w) (k + 1) f fd ["numbers", "least", "most"] (spNums K C_WrongInput) := by
  refine F.okX sc_read_numbers (fun vs H Q E h => ?_) (fun cdv A outer s H vs Q E hr h => ?_)
  · obtain ⟨_, l, a, b, rfl, ⟨u, rfl, hl⟩, hb, hlen, h⟩ := h
    rfl
  obtain ⟨_, l, a, b, rfl, ⟨u, rfl, hl⟩, hb, hlen, h⟩ := h
  obtain ⟨L, fr⟩ := @frIs_def (CXE P w) P w K mg base ["numbers", "least", "most", "bits"] "read_numbers" (defScope s_read_numbers) f cdv A outer s H E
  refine ⟨_, (pss_cons (ps_expr (pe_callH h_read_choice hr (passX rfl ⟨L, fr⟩) (pa_cons (pe_callB (lenS K) rfl m_len PySem.boot_len (pa_cons (pv 0) pa_nil)) (pa_cons (pv 1) (pa_cons (pv 2) pa_nil))))) (pss_one (ps_ret (pe_lcE (own := [("bits", 3)]) rfl rfl fr sc_read_numbers.nd (pi_list (pv 0)) (blkOk_by rfl) (fun _ _ _ _ _ => (pg_name (i := 3) sc_read_numbers.nd rfl (Or.inl rfl))) (fun _ _ _ _ _ => (pe_callH h_read_number hr (passX rfl ⟨L, fr.blk⟩) (pa_cons (pv 3) pa_nil))))))), ?_⟩
  walk_at "rd"
  have hno : ∀ {H'}, Same H H' → ¬ okNums a b l = true → E (.ref C_WrongInput) none H' := fun {H'} g c => by
    rw [if_neg c] at h
    exact h H' g
  have el : ((Sh25.ints l).map V.int).length = l.length := by unfold Sh25.ints; rw [List.length_map, List.length_map]
  refine ⟨u, _, rfl, .inl hl, ?_⟩
  rw [el]
  refine ⟨(l.length : Int), a, b, rfl, ?_⟩
  by_cases c : a ≤ l.length ∧ (l.length : Int) ≤ b
  rotate_left
  · rw [if_neg c]
    refine hno (Same.refl _) fun z => c ?_
    unfold okNums at z
    simp only [Bool.and_eq_true, decide_eq_true_eq] at z
    exact z.1
  rw [if_pos c]
  walk_at "rd"
  refine ⟨_, rfl, u, rfl, ⟨_, hl⟩, fun D hD => ?_⟩
  have get : ∀ i : Nat, ((Sh25.ints l).map V.int)[i]? = (l[i]?).map fun (b : Nat) => V.int (b : Int) := fun i => by
    unfold Sh25.ints
    rw [List.map_map, List.getElem?_map]
    rfl
  refine lc_any (n := l.length) (fun i _ v => ∃ b : Nat, l[i]? = some b ∧ Sh25.isNum b = true ∧ v = .int (Sh25.val b)) (fun i H H' v _ r => r) hD (Nat.le_trans hlen (by decide)) (fun H2 g2 => ⟨_, g2.seq hl, by rw [el]; exact Nat.le_refl _⟩)
    (fun i H2 hi g2 => ⟨_, .int (l[i] : Nat), g2.seq hl, by rw [get, List.getElem?_eq_getElem hi]; rfl⟩) (fun i x H2 H3 Q' hi g2 _ y hQ => ?_) fun H2 ys g2 hD2 ely hys => ?_
  · obtain ⟨rfl, y⟩ := y
    have ex := y _ (g2.seq hl)
    rw [get, List.getElem?_eq_getElem hi] at ex
    cases ex
    refine ⟨rfl, ⟨_, rfl, ⟨l[i], rfl, hb _ (List.getElem_mem hi), ?_⟩⟩⟩
    by_cases cn : Sh25.isNum l[i] = true
    · rw [if_pos cn]
      exact hQ _ _ (Same.refl _) ⟨l[i], List.getElem?_eq_getElem hi, cn, rfl⟩
    · rw [if_neg cn]
      refine hno g2 fun z => cn ?_
      unfold okNums at z
      rw [Bool.and_eq_true, List.all_eq_true] at z
      exact z.2 _ (List.getElem_mem hi)
  · have hp : okNums a b l = true := by
      unfold okNums
      rw [Bool.and_eq_true, List.all_eq_true]
      refine ⟨by simp only [Bool.and_eq_true, decide_eq_true_eq]; exact c, fun b hbm => ?_⟩
      obtain ⟨i, hi, rfl⟩ := List.getElem_of_mem hbm
      obtain ⟨b', e1, e2, _⟩ := hys i ys[i] (List.getElem?_eq_getElem (by omega))
      rw [List.getElem?_eq_getElem hi] at e1
      cases e1
      exact e2
    rw [if_pos hp] at h
    refine h D H2 g2 hD ?_
    have ey : ys = (Sh25.ex l).map V.int := ints_of (by unfold Sh25.ex; rw [List.length_map]; exact ely) fun i v e => by
      obtain ⟨b', e1, e2, rfl⟩ := hys i v e
      exact ⟨Sh25.val b', by unfold Sh25.ex; rw [List.getElem?_map, e1]; rfl, rfl⟩
    rw [hD2, ey]
/-! read_dimension -/
def spDim (cW : Addr) : Sp := fun vs H Q E => ∃ k : Nat, vs = [.int (k : Int)] ∧ (if Sh25.dims k = true then ∀ H', Same H H' → Q (.int (k : Int)) H' else ∀ H', Same H H' → E (.ref cW) none H')
theorem in_dims {k : Nat} : inV (V.int (k : Int)) [V.int 2, V.int 3] = Sh25.dims k := by
  show ((2 == (k : Int)) || ((3 == (k : Int)) || false)) = (k == 2 || k == 3)
  rw [Bool.or_false, Bool.eq_iff_iff]
  simp only [Bool.or_eq_true, beq_iff_eq]
  omega
theorem sc_read_dimension : FnScope ["k"] ["k"] (defScope s_read_dimension) := ⟨rfl, rfl, rfl, by decide +kernel, rfl, by decide +kernel, by decide +kernel⟩
theorem ok_read_dimension {f : Addr} {fd : FuncData} {k : Nat} (F : Fun K "read_dimension" "read_dimension" s_read_dimension f fd) {C_WrongInput : Addr} {bm_WrongInput : List Value} {B_WrongInput nw_WrongInput in_WrongInput : String} (O_WrongInput : PyProof.Rows.OwnCls "WrongInput" C_WrongInput bm_WrongInput nw_WrongInput mg base) (FB_WrongInput : ExcBaseFacts B_WrongInput nw_WrongInput in_WrongInput bm_WrongInput) : FnOk P w K mg base (CXE P w) (k + 1) f fd ["k"] (spDim C_WrongInput) := by
  refine F.okX sc_read_dimension (fun vs H Q E h => ?_) (fun cdv A outer s H vs Q E hr h => ?_)
  · obtain ⟨n, rfl, h⟩ := h
    rfl
  obtain ⟨n, rfl, h⟩ := h
  obtain ⟨L, fr⟩ := @frIs_def (CXE P w) P w K mg base ["k"] "read_dimension" (defScope s_read_dimension) f cdv A outer s H E
  refine ⟨_, (pss_cons (ps_if (pt_cmpR (notInS K) (pv 0) (pe_tup (pa_cons pe_int (pa_cons pe_int pa_nil))) (by with_unfolding_all rfl)) (pss_one (ps_raise rfl ⟨L, fr⟩ rfl rfl O_WrongInput FB_WrongInput (pa_cons pe_str pa_nil))) pss_nil) (pss_one (ps_ret (pv 0)))), ?_⟩
  walk_at "rd"
  refine ⟨by decide, fun p hp => ⟨p, _, rfl, .inr (SqT.of upd_same), rfl, rfl, _, rfl, ?_⟩⟩
  have g1 : Same H (upd H p (HO.tup [V.int 2, V.int 3])) := Same.new hp _
  generalize upd H p (HO.tup [V.int 2, V.int 3]) = H1 at g1 ⊢
  simp only [if_true, in_dims]
  cases hd : Sh25.dims n with
  | false =>
    rw [hd, if_neg Bool.false_ne_true] at h
    exact ⟨by decide, h H1 g1⟩
  | true =>
    rw [hd, if_pos rfl] at h
    simp only [Bool.not_true, Bool.false_eq_true, if_false]
    exact h H1 g1
/-! in_groups -/
def spGroups (K : PySem.W.Frag) (cW : Addr) : Sp := fun vs H Q E => ∃ (v : V) (xs : List V) (s : Nat), vs = [v, .int (s : Int)] ∧ (∃ a, v = .ref a ∧ SqL K H a xs) ∧ 0 < s ∧ s ≤ 100000 ∧ xs.length ≤ 100000 ∧
  (if xs.length % s = 0 then ∀ r H' ys, Same H H' → H r = none → H' r = some (.lst ys) → Paired (fun y g => ∃ a, y = V.ref a ∧ H' a = some (.lst g)) ys (Sh25.pieces s (xs.length / s) xs) → Q (.ref r) H' else ∀ H', Same H H' → E (.ref cW) none H')
theorem sc_in_groups : FnScope ["flat", "size", "start"] ["flat", "size"] (defScope s_in_groups) := ⟨rfl, rfl, rfl, by decide +kernel, rfl, by decide +kernel, by decide +kernel⟩
theorem ok_in_groups {f : Addr} {fd : FuncData} {k : Nat} (F : Fun K "in_groups" "in_groups" s_in_groups f fd) {C_WrongInput : Addr} {bm_WrongInput : List Value} {B_WrongInput nw_WrongInput in_WrongInput : String} (O_WrongInput : PyProof.Rows.OwnCls "WrongInput" C_WrongInput bm_WrongInput nw_WrongInput mg base) (FB_WrongInput : ExcBaseFacts B_WrongInput nw_WrongInput in_WrongInput bm_WrongInput) (m_len : mg "len" = none) (m_range : mg "range" = none) : FnOk P w K mg base (CXE P w) (k + 1) f fd ["flat", "size"] (spGroups K C_WrongInput) := by
  refine F.okX sc_in_groups (fun vs H Q E h => ?_) (fun cdv A outer s H vs Q E hr h => ?_)
  · obtain ⟨_, xs, z, rfl, ⟨u, rfl, hu⟩, hz, hz2, hx, h⟩ := h
    rfl
  obtain ⟨_, xs, z, rfl, ⟨u, rfl, hu⟩, hz, hz2, hx, h⟩ := h
  obtain ⟨L, fr⟩ := @frIs_def (CXE P w) P w K mg base ["flat", "size", "start"] "in_groups" (defScope s_in_groups) f cdv A outer s H E
  refine ⟨_, (pss_cons (ps_if (pt_cmpR op_ne (pe_op op_mod (pe_callB (lenS K) rfl m_len PySem.boot_len (pa_cons (pv 0) pa_nil)) (pv 1)) pe_int (nomark _)) (pss_one (ps_raise rfl ⟨L, fr⟩ rfl rfl O_WrongInput FB_WrongInput (pa_cons pe_str pa_nil))) pss_nil) (pss_one (ps_ret (pe_lcE (own := [("start", 2)]) rfl rfl fr sc_in_groups.nd (pi_range3 rfl m_range (pa_cons pe_int (pa_cons (pe_callB (lenS K) rfl m_len PySem.boot_len (pa_cons (pv 0) pa_nil)) (pa_cons (pv 1) pa_nil)))) (blkOk_by rfl) (fun _ _ _ _ _ => (pg_name (i := 2) sc_in_groups.nd rfl (Or.inl rfl))) (fun _ _ _ _ _ => (pe_slice (slL K) (pv 0) (po_some (pv 2)) (po_some (pe_op op_add (pv 2) (pv 1))))))))), ?_⟩
  walk_at "rd"
  refine ⟨u, _, rfl, .inl hu, by omega, ?_⟩
  by_cases c : xs.length % z = 0
  rotate_left
  · rw [if_neg c] at h
    rw [if_pos (by omega)]
    exact ⟨by decide, h H (Same.refl _)⟩
  rw [if_pos c] at h
  rw [if_neg (by omega)]
  refine ⟨_, rfl, u, _, rfl, .inl hu, _, rfl, 0, _, _, xs.length / z, rfl, rgc_groups hz hz2 hx c, fun D hD => ?_⟩
  refine lc_any (n := xs.length / z) (fun i H v => ∃ a, v = .ref a ∧ a ≠ D ∧ H a = some (.lst ((xs.drop (i * z)).take z))) (fun i H H' v g ⟨a, e1, e2, e3⟩ => ⟨a, e1, e2, g _ _ e2 e3⟩) hD (Nat.le_trans (Nat.div_le_self _ _) (Nat.le_trans hx (by decide))) (fun H2 g2 => Nat.le_refl _)
    (fun i H2 hi g2 => hi) (fun i x H2 H3 Q' hi g2 nD y hQ => ?_) fun H2 ys g2 hD2 ely hys => ?_
  · obtain ⟨rfl, rfl⟩ := y
    refine ⟨rfl, ?_⟩
    walk_at "rd"
    refine ⟨u, _, rfl, g2.seq hu, fun p hp => ?_⟩
    refine hQ _ _ (Same.new hp _) ⟨p, rfl, fun e => nD (by rw [e] at hp; exact hp), ?_⟩
    rw [upd_same, show (0 : Int) + ((i : Nat) : Int) * (z : Int) = ((i * z : Nat) : Int) by rw [Int.zero_add, Int.natCast_mul], show ((i * z : Nat) : Int) + (z : Int) = ((i * z + z : Nat) : Int) by omega, cutV_mid, Nat.add_sub_cancel_left]
  · refine h D H2 ys g2 hD hD2 (paired_of (by rw [pieces_len]; exact ely) fun i v e => ?_)
    obtain ⟨a, e1, _, e3⟩ := hys i v e
    have hi : i < xs.length / z := by have := (List.getElem?_eq_some_iff.mp e).1; omega
    exact ⟨_, pieces_get hi, a, e1, e3⟩
/-! read_points -/
def spPoints (K : PySem.W.Frag) (cW : Addr) : Sp := fun vs H Q E => ∃ (k : Nat) (v : V) (l : List Nat) (a b : Nat), vs = [.int (k : Int), v, .int (a : Int), .int (b : Int)] ∧ LI K H v (Sh25.ints l) ∧ (∀ b ∈ l, b < 2 ^ 64) ∧ l.length ≤ 100000 ∧ a < 2 ^ 64 ∧ b < 2 ^ 64 ∧
  (if (Sh25.dims k && okPts k a b l) = true then ∀ r H', Same H H' → LLI K H' (.ref r) ((Sh25Neutral.points k l).map Sh25.ex) → Q (.ref r) H' else ∀ H', Same H H' → E (.ref cW) none H')
theorem okPts_each {k a b : Nat} {l : List Nat} (h : okPts k a b l = true) : a ≤ (Sh25Neutral.points k l).length ∧ (Sh25Neutral.points k l).length ≤ b ∧ ∀ q ∈ (Sh25Neutral.points k l).map Sh25.ex, q.length = k ∧ LB 2098 q := by
  unfold okPts Sh25.among Sh25.pts at h
  simp only [Bool.and_eq_true, decide_eq_true_eq, List.all_eq_true] at h
  refine ⟨h.1.1, h.1.2, fun q hq => ?_⟩
  obtain ⟨x, hx, rfl⟩ := List.mem_map.mp hq
  exact pt_lb (h.2 x hx)
theorem sc_read_points : FnScope ["k", "coordinates", "least", "most", "numbers"] ["k", "coordinates", "least", "most"] (defScope s_read_points) := ⟨rfl, rfl, rfl, by decide +kernel, rfl, by decide +kernel, by decide +kernel⟩
theorem ok_read_points {f : Addr} {fd : FuncData} {k : Nat} (F : Fun K "read_points" "read_points" s_read_points f fd) {C_WrongInput : Addr} (h_read_numbers : Has P w K mg base k "read_numbers" ["numbers", "least", "most"] (spNums K C_WrongInput)) (h_read_dimension : Has P w K mg base k "read_dimension" ["k"] (spDim C_WrongInput)) (h_in_groups : Has P w K mg base k "in_groups" ["flat", "size"] (spGroups K C_WrongInput)) : FnOk P w K mg base (CXE P w) (k + 1) f fd ["k", "coordinates", "least", "most"] (spPoints K C_WrongInput) := by
  refine F.okX sc_read_points (fun vs H Q E h => ?_) (fun cdv A outer s H vs Q E hr h => ?_)
  · obtain ⟨n, v, l, a, b, rfl, hl, hb, hlen, ha, hbb, h⟩ := h
    rfl
  obtain ⟨n, v, l, a, b, rfl, hl, hb, hlen, ha, hbb, h⟩ := h
  obtain ⟨L, fr⟩ := @frIs_def (CXE P w) P w K mg base ["k", "coordinates", "least", "most", "numbers"] "read_points" (defScope s_read_points) f cdv A outer s H E
  refine ⟨_, (pss_cons (ps_set (i := 4) sc_read_points.nd rfl (Or.inl rfl) (pe_callH h_read_numbers hr (passX rfl ⟨L, fr⟩) (pa_cons (pv 1) (pa_cons (pe_op op_mulB (pv 2) (pe_callH h_read_dimension hr (passX rfl ⟨L, fr⟩) (pa_cons (pv 0) pa_nil))) (pa_cons (pe_op op_mulB (pv 3) (pv 0)) pa_nil))))) (pss_one (ps_ret (pe_callH h_in_groups hr (passX rfl ⟨L, fr⟩) (pa_cons (pv 4) (pa_cons (pv 0) pa_nil)))))), ?_⟩
  walk_at "rd"
  refine ⟨n, rfl, ?_⟩
  cases hd : Sh25.dims n with
  | false =>
    rw [hd, if_neg (by simp)] at h
    exact fun H1 g1 => h H1 g1
  | true =>
    rw [if_pos rfl]
    rw [hd, Bool.true_and] at h
    have hn := dims_le hd
    have b3 : B20 (n : Int) := b20_of (k := 3) (by rw [Int.natAbs_natCast]; omega) (by decide)
    have ba : B20 (a : Int) := b20_of (k := 64) (by rw [Int.natAbs_natCast]; exact ha) (by decide)
    have bb : B20 (b : Int) := b20_of (k := 64) (by rw [Int.natAbs_natCast]; exact hbb) (by decide)
    intro H1 g1
    walk_at "rd"
    refine ⟨⟨ba, b3⟩, ⟨bb, b3⟩, v, l, _, _, rfl, hl.same g1, hb, hlen, ?_⟩
    have hok : okPts n a b l = (okNums ((a : Int) * n) ((b : Int) * n) l && decide (l.length % n = 0)) := okPts_eq (by omega)
    rw [hok] at h
    cases c1 : okNums ((a : Int) * n) ((b : Int) * n) l with
    | false =>
      rw [c1] at h
      exact fun H2 g2 => h H2 (g1.trans g2)
    | true =>
      rw [c1, Bool.true_and] at h
      refine fun r H2 g2 n2 e2 => ?_
      walk_at "rd"
      have el : ((Sh25.ex l).map V.int).length = l.length := by unfold Sh25.ex; rw [List.length_map, List.length_map]
      refine ⟨_, _, n, rfl, ⟨r, rfl, SqL.of e2⟩, by omega, by omega, by rw [el]; exact hlen, ?_⟩
      rw [el]
      by_cases c2 : l.length % n = 0
      · rw [if_pos c2]
        rw [if_pos (by simpa using c2)] at h
        refine fun r3 H3 ys g3 n3 e3 hp => h r3 H3 (g1.trans (g2.trans g3)) ⟨r3, ys, rfl, SqL.of e3, ?_⟩
        rw [pieces_ex (by omega) c2]
        rw [pieces_map] at hp
        exact paired_ints hp
      · rw [if_neg c2]
        rw [if_neg (by simpa using c2)] at h
        exact fun H3 g3 => h H3 (g1.trans (g2.trans g3))
end
/-! hull -/
theorem due_hull (l : List Nat) : ansOf ⟨(l.length : Nat), Sh25.ints l⟩ = (l.length : Int) :: Sh25.ints l := by
  unfold ansOf
  show (if ((l.length : Nat) : Int) < 0 then _ else _) = _
  rw [if_neg (by omega)]
def okL (ds : List AD) (res : List Int) : Prop := ∃ (x_points : List Int), ds = [.lst x_points] ∧ inW x_points ∧ res = PySh25.hull x_points
theorem due {x_points : List Int} : PySh25.hull x_points = res3 (Sh25.loop 1 256 (Sh25Neutral.points 2 (Sh25Neutral.nats x_points))) (true) (((Sh25.hull ((Sh25Neutral.points 2 (Sh25Neutral.nats x_points)).map Sh25.ex)).length : Int) :: Sh25.ints (Sh25.hull ((Sh25Neutral.points 2 (Sh25Neutral.nats x_points)).map Sh25.ex))) := by
  exact (due_gen _ _ _).trans (congrArg (res3 _ _) (due_hull _))
section
variable {P : Program} {w : World} {K : PySem.W.Frag} {mg : Str → Option Value} {base : Heap}
theorem scE : FnScope ["points"] ["points"] (defScope s_hull) := ⟨rfl, rfl, rfl, by decide +kernel, rfl, by decide +kernel, by decide +kernel⟩
theorem okEntry {fa g c Pt C_WrongInput C_NotThere C_CantBeTold : Addr} {gd : FuncData} {kV doc pm ct oc : Value} {an od : Option Addr} {osl : Array (Option Value)}
    (lk : K.lookup fa = some ⟨oc, od, .func (PySem.W.fnOf "hull" "hull" (defArgs s_hull) (defBody s_hull) (defScope s_hull) .none kV doc pm an (.ref c) ct), osl⟩) (hcd : PySem.W.codeIn K (.ref c) "hull" = true)
    (hC : PySem.W.CodeHd base c Pt) (hbm : ∃ bm ob, mg "__builtins__" = some (.ref bm) ∧ bm ≠ builtinsNs ∧ base.get? bm = some ob ∧ ob.cls = .type "module" ∧ ob.dict = some builtinsNs ∧ ob.data = .plain)
    (mA : mg "answered" = some (.ref g)) (kA : PySem.W.keepIn K (.ref g) = true) (bA : Binds K gd ["work"] [])
    (hA : ∀ base2 : Heap, (∀ b o, base.get? b = some o → base2.get? b = some o) → FnOk P w K mg base2 (CXE P w) 14 g gd ["work"] (spTakes P w K mg base2 13 (ansE [(C_WrongInput, -8), (C_NotThere, -5), (C_CantBeTold, -7)])))
    (h_hull_answer : ∀ base2 : Heap, (∀ b o, base.get? b = some o → base2.get? b = some o) → Has P w K mg base2 12 "hull_answer" ["points"] (spHullA K))
    (h_read_points : ∀ base2 : Heap, (∀ b o, base.get? b = some o → base2.get? b = some o) → Has P w K mg base2 12 "read_points" ["k", "coordinates", "least", "most"] (spPoints K C_WrongInput)) :
    FnOk P w K mg base (CXE P w) 15 fa (PySem.W.fnOf "hull" "hull" (defArgs s_hull) (defBody s_hull) (defScope s_hull) .none kV doc pm an (.ref c) ct) ["points"] (spEnt K Pt okL) := by
  refine fn_of0 lk hcd scE (fun vs H Q E h => ?_) (fun A outer s H vs Q E hr h => ?_)
  · obtain ⟨ds, res, ⟨_, rfl, _⟩, p, _⟩ := h
    exact p.length.symm
  obtain ⟨ds, res, ⟨x_points, rfl, w_points, rfl⟩, p, hP, h⟩ := h
  obtain ⟨L, fr⟩ := @frIs_def (CXE P w) P w K mg base ["points"] "hull" (defScope s_hull) fa (.ref c) A outer s H E
  refine ⟨_, PSs.zero (pss_one (ps_ret (pe_answ (passX rfl ⟨L, fr⟩) rfl mA kA hr bA (fun _ => rfl) rfl hC hbm (sc := defScope s_hull) rfl (by exact ⟨rfl, rfl, rfl, by decide +kernel, by decide +kernel⟩) (by decide +kernel) (fun _ _ _ _ => rfl) rfl (fun base2 sub M => hA base2 sub)
    (fun base2 A2 outer2 s2 H2 f2 cd2 cl2 E2 sub M hr2 => (pe_callH (h_hull_answer base2 sub) hr2 (passX rfl frIs_lam) (pa_cons (pe_callH (h_read_points base2 sub) hr2 (passX rfl frIs_lam) (pa_cons pe_int (pa_cons (pv 0) (pa_cons pe_int (pa_cons pe_int pa_nil))))) pa_nil)))))), ?_⟩
  cases p with
  | @cons _ u_points _ r0 p_points p =>
  cases p
  refine ⟨#[], hP, True.intro, rfl, fun H1 k1 => ?_⟩
  have p_points := keepLI hP k1 p_points
  rw [due] at h
  rw [← ints_nats w_points] at p_points
  have l_points := nats_lt w_points
  have z_points := nats_len w_points
  generalize Sh25Neutral.nats x_points = y_points at p_points l_points z_points h
  walk_at "rd"
  refine ⟨2, _, y_points, 1, 256, rfl, p_points, l_points, z_points, by decide, by decide, ?_⟩
  have hd : Sh25.dims 2 = true := rfl
  rw [hd, Bool.true_and]
  by_cases c : okPts 2 1 256 y_points = true
  rotate_left
  · rw [if_neg c]
    exact fun H' _ => bad8 h (Bool.eq_false_iff.mpr c) _
  rw [if_pos c]
  have hp := okPts_each c
  refine fun r3 H3 g3 hv => ⟨_, _, rfl, hv, ?_, ?_, hp.2.2, fun r4 H4 g4 e4 => good3 h c rfl r4 H4 e4⟩
  · rw [List.length_map]; omega
  · rw [List.length_map]; omega
end
end M
namespace M
open PySem L2 PySem.Spec PyProof.Rows
theorem all_mk {r : PySem.W.OpenSpec} {w : World} {K : PySem.W.Frag} {h : Heap} {q : Program} {loose : List Str} {mean : ExcName → Option Value} {mg mb : Str → Option Value} {fa : Addr} {d : DefRec} (X : K.In h) (T : Top q loose mean mg mb h) (hfa : mg "hull" = some (.ref fa))
    {f_sign_of : Addr} {od_sign_of an_sign_of : Option Addr} {sl_sign_of : Array (Option Value)} {oc_sign_of kV_sign_of dc_sign_of pm_sign_of cd_sign_of ct_sign_of : Value}
    (a_sign_of : PySem.W.nsIn K mainGlobals "sign_of" = some (some (.ref f_sign_of))) (l_sign_of : K.lookup f_sign_of = some ⟨oc_sign_of, od_sign_of, .func (PySem.W.fnOf "sign_of" "sign_of" (defArgs s_sign_of) (defBody s_sign_of) (defScope s_sign_of) .none kV_sign_of dc_sign_of pm_sign_of an_sign_of cd_sign_of ct_sign_of), sl_sign_of⟩) (c_sign_of : PySem.W.codeIn K cd_sign_of "sign_of" = true) (k_sign_of : PySem.W.keepIn K (.ref f_sign_of) = true)
    {f_way_between : Addr} {od_way_between an_way_between : Option Addr} {sl_way_between : Array (Option Value)} {oc_way_between kV_way_between dc_way_between pm_way_between cd_way_between ct_way_between : Value}
    (a_way_between : PySem.W.nsIn K mainGlobals "way_between" = some (some (.ref f_way_between))) (l_way_between : K.lookup f_way_between = some ⟨oc_way_between, od_way_between, .func (PySem.W.fnOf "way_between" "way_between" (defArgs s_way_between) (defBody s_way_between) (defScope s_way_between) .none kV_way_between dc_way_between pm_way_between an_way_between cd_way_between ct_way_between), sl_way_between⟩) (c_way_between : PySem.W.codeIn K cd_way_between "way_between" = true) (k_way_between : PySem.W.keepIn K (.ref f_way_between) = true)
    {f_without_column : Addr} {od_without_column an_without_column : Option Addr} {sl_without_column : Array (Option Value)} {oc_without_column kV_without_column dc_without_column pm_without_column cd_without_column ct_without_column : Value}
    (a_without_column : PySem.W.nsIn K mainGlobals "without_column" = some (some (.ref f_without_column))) (l_without_column : K.lookup f_without_column = some ⟨oc_without_column, od_without_column, .func (PySem.W.fnOf "without_column" "without_column" (defArgs s_without_column) (defBody s_without_column) (defScope s_without_column) .none kV_without_column dc_without_column pm_without_column an_without_column cd_without_column ct_without_column), sl_without_column⟩) (c_without_column : PySem.W.codeIn K cd_without_column "without_column" = true) (k_without_column : PySem.W.keepIn K (.ref f_without_column) = true)
    {f_determinant : Addr} {od_determinant an_determinant : Option Addr} {sl_determinant : Array (Option Value)} {oc_determinant kV_determinant dc_determinant pm_determinant cd_determinant ct_determinant : Value}
    (a_determinant : PySem.W.nsIn K mainGlobals "determinant" = some (some (.ref f_determinant))) (l_determinant : K.lookup f_determinant = some ⟨oc_determinant, od_determinant, .func (PySem.W.fnOf "determinant" "determinant" (defArgs s_determinant) (defBody s_determinant) (defScope s_determinant) .none kV_determinant dc_determinant pm_determinant an_determinant cd_determinant ct_determinant), sl_determinant⟩) (c_determinant : PySem.W.codeIn K cd_determinant "determinant" = true) (k_determinant : PySem.W.keepIn K (.ref f_determinant) = true)
    {f_answered : Addr} {od_answered an_answered : Option Addr} {sl_answered : Array (Option Value)} {oc_answered kV_answered dc_answered pm_answered cd_answered ct_answered : Value}
    (a_answered : PySem.W.nsIn K mainGlobals "answered" = some (some (.ref f_answered))) (l_answered : K.lookup f_answered = some ⟨oc_answered, od_answered, .func (PySem.W.fnOf "answered" "answered" (defArgs s_answered) (defBody s_answered) (defScope s_answered) .none kV_answered dc_answered pm_answered an_answered cd_answered ct_answered), sl_answered⟩) (c_answered : PySem.W.codeIn K cd_answered "answered" = true) (k_answered : PySem.W.keepIn K (.ref f_answered) = true)
    {f_side_value : Addr} {od_side_value an_side_value : Option Addr} {sl_side_value : Array (Option Value)} {oc_side_value kV_side_value dc_side_value pm_side_value cd_side_value ct_side_value : Value}
    (a_side_value : PySem.W.nsIn K mainGlobals "side_value" = some (some (.ref f_side_value))) (l_side_value : K.lookup f_side_value = some ⟨oc_side_value, od_side_value, .func (PySem.W.fnOf "side_value" "side_value" (defArgs s_side_value) (defBody s_side_value) (defScope s_side_value) .none kV_side_value dc_side_value pm_side_value an_side_value cd_side_value ct_side_value), sl_side_value⟩) (c_side_value : PySem.W.codeIn K cd_side_value "side_value" = true) (k_side_value : PySem.W.keepIn K (.ref f_side_value) = true)
    {f_side_sign : Addr} {od_side_sign an_side_sign : Option Addr} {sl_side_sign : Array (Option Value)} {oc_side_sign kV_side_sign dc_side_sign pm_side_sign cd_side_sign ct_side_sign : Value}
    (a_side_sign : PySem.W.nsIn K mainGlobals "side_sign" = some (some (.ref f_side_sign))) (l_side_sign : K.lookup f_side_sign = some ⟨oc_side_sign, od_side_sign, .func (PySem.W.fnOf "side_sign" "side_sign" (defArgs s_side_sign) (defBody s_side_sign) (defScope s_side_sign) .none kV_side_sign dc_side_sign pm_side_sign an_side_sign cd_side_sign ct_side_sign), sl_side_sign⟩) (c_side_sign : PySem.W.codeIn K cd_side_sign "side_sign" = true) (k_side_sign : PySem.W.keepIn K (.ref f_side_sign) = true)
    {f_tight_side : Addr} {od_tight_side an_tight_side : Option Addr} {sl_tight_side : Array (Option Value)} {oc_tight_side kV_tight_side dc_tight_side pm_tight_side cd_tight_side ct_tight_side : Value}
    (a_tight_side : PySem.W.nsIn K mainGlobals "tight_side" = some (some (.ref f_tight_side))) (l_tight_side : K.lookup f_tight_side = some ⟨oc_tight_side, od_tight_side, .func (PySem.W.fnOf "tight_side" "tight_side" (defArgs s_tight_side) (defBody s_tight_side) (defScope s_tight_side) .none kV_tight_side dc_tight_side pm_tight_side an_tight_side cd_tight_side ct_tight_side), sl_tight_side⟩) (c_tight_side : PySem.W.codeIn K cd_tight_side "tight_side" = true) (k_tight_side : PySem.W.keepIn K (.ref f_tight_side) = true)
    {f_upward_places : Addr} {od_upward_places an_upward_places : Option Addr} {sl_upward_places : Array (Option Value)} {oc_upward_places kV_upward_places dc_upward_places pm_upward_places cd_upward_places ct_upward_places : Value}
    (a_upward_places : PySem.W.nsIn K mainGlobals "upward_places" = some (some (.ref f_upward_places))) (l_upward_places : K.lookup f_upward_places = some ⟨oc_upward_places, od_upward_places, .func (PySem.W.fnOf "upward_places" "upward_places" (defArgs s_upward_places) (defBody s_upward_places) (defScope s_upward_places) .none kV_upward_places dc_upward_places pm_upward_places an_upward_places cd_upward_places ct_upward_places), sl_upward_places⟩) (c_upward_places : PySem.W.codeIn K cd_upward_places "upward_places" = true) (k_upward_places : PySem.W.keepIn K (.ref f_upward_places) = true)
    {f_hull_places : Addr} {od_hull_places an_hull_places : Option Addr} {sl_hull_places : Array (Option Value)} {oc_hull_places kV_hull_places dc_hull_places pm_hull_places cd_hull_places ct_hull_places : Value}
    (a_hull_places : PySem.W.nsIn K mainGlobals "hull_places" = some (some (.ref f_hull_places))) (l_hull_places : K.lookup f_hull_places = some ⟨oc_hull_places, od_hull_places, .func (PySem.W.fnOf "hull_places" "hull_places" (defArgs s_hull_places) (defBody s_hull_places) (defScope s_hull_places) .none kV_hull_places dc_hull_places pm_hull_places an_hull_places cd_hull_places ct_hull_places), sl_hull_places⟩) (c_hull_places : PySem.W.codeIn K cd_hull_places "hull_places" = true) (k_hull_places : PySem.W.keepIn K (.ref f_hull_places) = true)
    {f_hull_answer : Addr} {od_hull_answer an_hull_answer : Option Addr} {sl_hull_answer : Array (Option Value)} {oc_hull_answer kV_hull_answer dc_hull_answer pm_hull_answer cd_hull_answer ct_hull_answer : Value}
    (a_hull_answer : PySem.W.nsIn K mainGlobals "hull_answer" = some (some (.ref f_hull_answer))) (l_hull_answer : K.lookup f_hull_answer = some ⟨oc_hull_answer, od_hull_answer, .func (PySem.W.fnOf "hull_answer" "hull_answer" (defArgs s_hull_answer) (defBody s_hull_answer) (defScope s_hull_answer) .none kV_hull_answer dc_hull_answer pm_hull_answer an_hull_answer cd_hull_answer ct_hull_answer), sl_hull_answer⟩) (c_hull_answer : PySem.W.codeIn K cd_hull_answer "hull_answer" = true) (k_hull_answer : PySem.W.keepIn K (.ref f_hull_answer) = true)
    {f_read_number : Addr} {od_read_number an_read_number : Option Addr} {sl_read_number : Array (Option Value)} {oc_read_number kV_read_number dc_read_number pm_read_number cd_read_number ct_read_number : Value}
    (a_read_number : PySem.W.nsIn K mainGlobals "read_number" = some (some (.ref f_read_number))) (l_read_number : K.lookup f_read_number = some ⟨oc_read_number, od_read_number, .func (PySem.W.fnOf "read_number" "read_number" (defArgs s_read_number) (defBody s_read_number) (defScope s_read_number) .none kV_read_number dc_read_number pm_read_number an_read_number cd_read_number ct_read_number), sl_read_number⟩) (c_read_number : PySem.W.codeIn K cd_read_number "read_number" = true) (k_read_number : PySem.W.keepIn K (.ref f_read_number) = true)
    {f_read_choice : Addr} {od_read_choice an_read_choice : Option Addr} {sl_read_choice : Array (Option Value)} {oc_read_choice kV_read_choice dc_read_choice pm_read_choice cd_read_choice ct_read_choice : Value}
    (a_read_choice : PySem.W.nsIn K mainGlobals "read_choice" = some (some (.ref f_read_choice))) (l_read_choice : K.lookup f_read_choice = some ⟨oc_read_choice, od_read_choice, .func (PySem.W.fnOf "read_choice" "read_choice" (defArgs s_read_choice) (defBody s_read_choice) (defScope s_read_choice) .none kV_read_choice dc_read_choice pm_read_choice an_read_choice cd_read_choice ct_read_choice), sl_read_choice⟩) (c_read_choice : PySem.W.codeIn K cd_read_choice "read_choice" = true) (k_read_choice : PySem.W.keepIn K (.ref f_read_choice) = true)
    {f_read_numbers : Addr} {od_read_numbers an_read_numbers : Option Addr} {sl_read_numbers : Array (Option Value)} {oc_read_numbers kV_read_numbers dc_read_numbers pm_read_numbers cd_read_numbers ct_read_numbers : Value}
    (a_read_numbers : PySem.W.nsIn K mainGlobals "read_numbers" = some (some (.ref f_read_numbers))) (l_read_numbers : K.lookup f_read_numbers = some ⟨oc_read_numbers, od_read_numbers, .func (PySem.W.fnOf "read_numbers" "read_numbers" (defArgs s_read_numbers) (defBody s_read_numbers) (defScope s_read_numbers) .none kV_read_numbers dc_read_numbers pm_read_numbers an_read_numbers cd_read_numbers ct_read_numbers), sl_read_numbers⟩) (c_read_numbers : PySem.W.codeIn K cd_read_numbers "read_numbers" = true) (k_read_numbers : PySem.W.keepIn K (.ref f_read_numbers) = true)
    {f_read_dimension : Addr} {od_read_dimension an_read_dimension : Option Addr} {sl_read_dimension : Array (Option Value)} {oc_read_dimension kV_read_dimension dc_read_dimension pm_read_dimension cd_read_dimension ct_read_dimension : Value}
    (a_read_dimension : PySem.W.nsIn K mainGlobals "read_dimension" = some (some (.ref f_read_dimension))) (l_read_dimension : K.lookup f_read_dimension = some ⟨oc_read_dimension, od_read_dimension, .func (PySem.W.fnOf "read_dimension" "read_dimension" (defArgs s_read_dimension) (defBody s_read_dimension) (defScope s_read_dimension) .none kV_read_dimension dc_read_dimension pm_read_dimension an_read_dimension cd_read_dimension ct_read_dimension), sl_read_dimension⟩) (c_read_dimension : PySem.W.codeIn K cd_read_dimension "read_dimension" = true) (k_read_dimension : PySem.W.keepIn K (.ref f_read_dimension) = true)
    {f_in_groups : Addr} {od_in_groups an_in_groups : Option Addr} {sl_in_groups : Array (Option Value)} {oc_in_groups kV_in_groups dc_in_groups pm_in_groups cd_in_groups ct_in_groups : Value}
    (a_in_groups : PySem.W.nsIn K mainGlobals "in_groups" = some (some (.ref f_in_groups))) (l_in_groups : K.lookup f_in_groups = some ⟨oc_in_groups, od_in_groups, .func (PySem.W.fnOf "in_groups" "in_groups" (defArgs s_in_groups) (defBody s_in_groups) (defScope s_in_groups) .none kV_in_groups dc_in_groups pm_in_groups an_in_groups cd_in_groups ct_in_groups), sl_in_groups⟩) (c_in_groups : PySem.W.codeIn K cd_in_groups "in_groups" = true) (k_in_groups : PySem.W.keepIn K (.ref f_in_groups) = true)
    {f_read_points : Addr} {od_read_points an_read_points : Option Addr} {sl_read_points : Array (Option Value)} {oc_read_points kV_read_points dc_read_points pm_read_points cd_read_points ct_read_points : Value}
    (a_read_points : PySem.W.nsIn K mainGlobals "read_points" = some (some (.ref f_read_points))) (l_read_points : K.lookup f_read_points = some ⟨oc_read_points, od_read_points, .func (PySem.W.fnOf "read_points" "read_points" (defArgs s_read_points) (defBody s_read_points) (defScope s_read_points) .none kV_read_points dc_read_points pm_read_points an_read_points cd_read_points ct_read_points), sl_read_points⟩) (c_read_points : PySem.W.codeIn K cd_read_points "read_points" = true) (k_read_points : PySem.W.keepIn K (.ref f_read_points) = true)
    {f0 c : Addr} {od0 an0 : Option Addr} {sl0 : Array (Option Value)} {oc0 kV0 dc0 pm0 ct0 : Value}
    (a0 : PySem.W.nsIn K mainGlobals "hull" = some (some (.ref f0))) (l0 : K.lookup f0 = some ⟨oc0, od0, .func (PySem.W.fnOf "hull" "hull" (defArgs s_hull) (defBody s_hull) (defScope s_hull) .none kV0 dc0 pm0 an0 (.ref c) ct0), sl0⟩) (c0 : PySem.W.codeIn K (.ref c) "hull" = true)
    (tn : PySem.W.noTabs K = true) (hr : (recsOf q).find? (fun e => e.name == Str.ofString "hull") = some d)
    {C_WrongInput : Addr} {nm_WrongInput q_WrongInput : Str} {N_WrongInput : Addr} {bs_WrongInput bm_WrongInput : List Value} {hd_WrongInput : Bool} {sn_WrongInput : List Str} {sub_WrongInput : List Value} {ab_WrongInput : Bool} {col_WrongInput : Option Bool} {dd_WrongInput : Option Addr} {ka_WrongInput kb_WrongInput kc_WrongInput kd_WrongInput ke_WrongInput : Option Value} {nw_WrongInput : String}
    (e_WrongInput : PySem.W.nsIn K mainGlobals "WrongInput" = some (some (.ref C_WrongInput))) (g_WrongInput : K.lookup C_WrongInput = some (excClassObj nm_WrongInput q_WrongInput C_WrongInput N_WrongInput bs_WrongInput bm_WrongInput hd_WrongInput sn_WrongInput sub_WrongInput ab_WrongInput col_WrongInput dd_WrongInput ka_WrongInput kb_WrongInput kc_WrongInput kd_WrongInput ke_WrongInput nw_WrongInput)) (h_WrongInput : bm_WrongInput.contains (.type "BaseException") = true) (i_WrongInput : ∀ a : Addr, bm_WrongInput.contains (.ref a) = false)
    (sp_WrongInput : specOf q "WrongInput" = some ("Exception.__new__", [.type "Exception", .type "BaseException", .type "object"]))
    {C_NotThere : Addr} {nm_NotThere q_NotThere : Str} {N_NotThere : Addr} {bs_NotThere bm_NotThere : List Value} {hd_NotThere : Bool} {sn_NotThere : List Str} {sub_NotThere : List Value} {ab_NotThere : Bool} {col_NotThere : Option Bool} {dd_NotThere : Option Addr} {ka_NotThere kb_NotThere kc_NotThere kd_NotThere ke_NotThere : Option Value} {nw_NotThere : String}
    (e_NotThere : PySem.W.nsIn K mainGlobals "NotThere" = some (some (.ref C_NotThere))) (g_NotThere : K.lookup C_NotThere = some (excClassObj nm_NotThere q_NotThere C_NotThere N_NotThere bs_NotThere bm_NotThere hd_NotThere sn_NotThere sub_NotThere ab_NotThere col_NotThere dd_NotThere ka_NotThere kb_NotThere kc_NotThere kd_NotThere ke_NotThere nw_NotThere)) (h_NotThere : bm_NotThere.contains (.type "BaseException") = true) (i_NotThere : ∀ a : Addr, bm_NotThere.contains (.ref a) = false)
    (sp_NotThere : specOf q "NotThere" = some ("Exception.__new__", [.type "Exception", .type "BaseException", .type "object"]))
    {C_CantBeTold : Addr} {nm_CantBeTold q_CantBeTold : Str} {N_CantBeTold : Addr} {bs_CantBeTold bm_CantBeTold : List Value} {hd_CantBeTold : Bool} {sn_CantBeTold : List Str} {sub_CantBeTold : List Value} {ab_CantBeTold : Bool} {col_CantBeTold : Option Bool} {dd_CantBeTold : Option Addr} {ka_CantBeTold kb_CantBeTold kc_CantBeTold kd_CantBeTold ke_CantBeTold : Option Value} {nw_CantBeTold : String}
    (e_CantBeTold : PySem.W.nsIn K mainGlobals "CantBeTold" = some (some (.ref C_CantBeTold))) (g_CantBeTold : K.lookup C_CantBeTold = some (excClassObj nm_CantBeTold q_CantBeTold C_CantBeTold N_CantBeTold bs_CantBeTold bm_CantBeTold hd_CantBeTold sn_CantBeTold sub_CantBeTold ab_CantBeTold col_CantBeTold dd_CantBeTold ka_CantBeTold kb_CantBeTold kc_CantBeTold kd_CantBeTold ke_CantBeTold nw_CantBeTold)) (h_CantBeTold : bm_CantBeTold.contains (.type "BaseException") = true) (i_CantBeTold : ∀ a : Addr, bm_CantBeTold.contains (.ref a) = false)
    (sp_CantBeTold : specOf q "CantBeTold" = some ("Exception.__new__", [.type "Exception", .type "BaseException", .type "object"]))
    (ne_WrongInput_NotThere : C_WrongInput ≠ C_NotThere)
    (ne_WrongInput_CantBeTold : C_WrongInput ≠ C_CantBeTold)
    (ne_NotThere_CantBeTold : C_NotThere ≠ C_CantBeTold)
    {t_FRACTION_MASK : Tok} (w_FRACTION_MASK : PySem.W.nsIn K mainGlobals "FRACTION_MASK" = some (some (.int 4503599627370495 t_FRACTION_MASK)))
    {t_HIDDEN_BIT : Tok} (w_HIDDEN_BIT : PySem.W.nsIn K mainGlobals "HIDDEN_BIT" = some (some (.int 4503599627370496 t_HIDDEN_BIT)))
    {t_EXPONENT_MASK : Tok} (w_EXPONENT_MASK : PySem.W.nsIn K mainGlobals "EXPONENT_MASK" = some (some (.int 2047 t_EXPONENT_MASK)))
    (z_len : PySem.W.nsIn K mainGlobals "len" = some none)
    (z_zip : PySem.W.nsIn K mainGlobals "zip" = some none)
    (z_enumerate : PySem.W.nsIn K mainGlobals "enumerate" = some none)
    (z_range : PySem.W.nsIn K mainGlobals "range" = some none)
    (z_sorted : PySem.W.nsIn K mainGlobals "sorted" = some none)
    (z_reversed : PySem.W.nsIn K mainGlobals "reversed" = some none)
    (z_list : PySem.W.nsIn K mainGlobals "list" = some none)
    : ∃ fd c Pt, Binds K fd ["points"] [] ∧ K.lookup Pt = none ∧ PySem.W.CodeHd h c Pt ∧ h.get? Pt = some (PySem.W.tabObj #[]) ∧
        ∀ base : Heap, Plainly h base → (∀ o, h.get? c = some o → base.get? c = some o) → Mod K mg base → FnOk r.prog w K mg base (CXE r.prog w) 15 fa fd ["points"] (spEnt K Pt okL) := by
  have e := hfa.symm.trans (PySem.W.mg_of X T.g a0)
  cases e
  have hdn : d.name = Str.ofString "hull" := beq_iff_eq.mp (List.find?_some (p := fun e : DefRec => e.name == Str.ofString "hull") hr)
  obtain ⟨ta, to, tfd, tc, Pt, h1, h2, h3, h4, h5, h6⟩ := T.tab d (List.mem_of_find?_eq_some hr)
  rw [hdn, PySem.W.mg_of X T.g a0] at h1
  cases h1
  rw [X _ _ l0] at h2
  cases h2
  cases h3
  cases h4
  have hC : PySem.W.CodeHd h c Pt := PySem.W.CodeHd.of h5 h6
  have hPt : h.get? Pt = some (PySem.W.tabObj #[]) := h6.2
  have mgl : ∀ {x : Str} {v : Value}, PySem.W.nsIn K mainGlobals x = some (some v) → mg x = some v := fun e => PySem.W.mg_of X T.g e
  have mgn : ∀ {x : Str}, PySem.W.nsIn K mainGlobals x = some none → mg x = none := fun e => PySem.W.mg_none_of X T.g e
  obtain ⟨C'_WrongInput, Q_WrongInput, _⟩ := T.ownAt sp_WrongInput
  have E_WrongInput := mgl e_WrongInput
  have eC := Q_WrongInput.bound.symm.trans E_WrongInput
  cases eC
  obtain ⟨C'_NotThere, Q_NotThere, _⟩ := T.ownAt sp_NotThere
  have E_NotThere := mgl e_NotThere
  have eC := Q_NotThere.bound.symm.trans E_NotThere
  cases eC
  obtain ⟨C'_CantBeTold, Q_CantBeTold, _⟩ := T.ownAt sp_CantBeTold
  have E_CantBeTold := mgl e_CantBeTold
  have eC := Q_CantBeTold.bound.symm.trans E_CantBeTold
  cases eC
  have v_FRACTION_MASK := mgl w_FRACTION_MASK
  have v_HIDDEN_BIT := mgl w_HIDDEN_BIT
  have v_EXPONENT_MASK := mgl w_EXPONENT_MASK
  have m_len := mgn z_len
  have m_zip := mgn z_zip
  have m_enumerate := mgn z_enumerate
  have m_range := mgn z_range
  have m_sorted := mgn z_sorted
  have m_reversed := mgn z_reversed
  have m_list := mgn z_list
  have F_sign_of := fun_mk (st := s_sign_of) l_sign_of c_sign_of k_sign_of
  have b_sign_of := F_sign_of.binds (ps := ["value"]) fun _ _ _ _ _ _ us hl => match us, hl with | [_], _ => rfl
  have F_way_between := fun_mk (st := s_way_between) l_way_between c_way_between k_way_between
  have b_way_between := F_way_between.binds (ps := ["a", "b"]) fun _ _ _ _ _ _ us hl => match us, hl with | [_, _], _ => rfl
  have F_without_column := fun_mk (st := s_without_column) l_without_column c_without_column k_without_column
  have b_without_column := F_without_column.binds (ps := ["rows", "column"]) fun _ _ _ _ _ _ us hl => match us, hl with | [_, _], _ => rfl
  have F_determinant := fun_mk (st := s_determinant) l_determinant c_determinant k_determinant
  have b_determinant := F_determinant.binds (ps := ["rows"]) fun _ _ _ _ _ _ us hl => match us, hl with | [_], _ => rfl
  have F_answered := fun_mk (st := s_answered) l_answered c_answered k_answered
  have b_answered := F_answered.binds (ps := ["work"]) fun _ _ _ _ _ _ us hl => match us, hl with | [_], _ => rfl
  have F_side_value := fun_mk (st := s_side_value) l_side_value c_side_value k_side_value
  have b_side_value := F_side_value.binds (ps := ["a", "b", "c"]) fun _ _ _ _ _ _ us hl => match us, hl with | [_, _, _], _ => rfl
  have F_side_sign := fun_mk (st := s_side_sign) l_side_sign c_side_sign k_side_sign
  have b_side_sign := F_side_sign.binds (ps := ["a", "b", "c"]) fun _ _ _ _ _ _ us hl => match us, hl with | [_, _, _], _ => rfl
  have F_tight_side := fun_mk (st := s_tight_side) l_tight_side c_tight_side k_tight_side
  have b_tight_side := F_tight_side.binds (ps := ["points", "places"]) fun _ _ _ _ _ _ us hl => match us, hl with | [_, _], _ => rfl
  have F_upward_places := fun_mk (st := s_upward_places) l_upward_places c_upward_places k_upward_places
  have b_upward_places := F_upward_places.binds (ps := ["points"]) fun _ _ _ _ _ _ us hl => match us, hl with | [_], _ => rfl
  have F_hull_places := fun_mk (st := s_hull_places) l_hull_places c_hull_places k_hull_places
  have b_hull_places := F_hull_places.binds (ps := ["points"]) fun _ _ _ _ _ _ us hl => match us, hl with | [_], _ => rfl
  have F_hull_answer := fun_mk (st := s_hull_answer) l_hull_answer c_hull_answer k_hull_answer
  have b_hull_answer := F_hull_answer.binds (ps := ["points"]) fun _ _ _ _ _ _ us hl => match us, hl with | [_], _ => rfl
  have F_read_number := fun_mk (st := s_read_number) l_read_number c_read_number k_read_number
  have b_read_number := F_read_number.binds (ps := ["bits"]) fun _ _ _ _ _ _ us hl => match us, hl with | [_], _ => rfl
  have F_read_choice := fun_mk (st := s_read_choice) l_read_choice c_read_choice k_read_choice
  have b_read_choice := F_read_choice.binds (ps := ["value", "least", "most"]) fun _ _ _ _ _ _ us hl => match us, hl with | [_, _, _], _ => rfl
  have F_read_numbers := fun_mk (st := s_read_numbers) l_read_numbers c_read_numbers k_read_numbers
  have b_read_numbers := F_read_numbers.binds (ps := ["numbers", "least", "most"]) fun _ _ _ _ _ _ us hl => match us, hl with | [_, _, _], _ => rfl
  have F_read_dimension := fun_mk (st := s_read_dimension) l_read_dimension c_read_dimension k_read_dimension
  have b_read_dimension := F_read_dimension.binds (ps := ["k"]) fun _ _ _ _ _ _ us hl => match us, hl with | [_], _ => rfl
  have F_in_groups := fun_mk (st := s_in_groups) l_in_groups c_in_groups k_in_groups
  have b_in_groups := F_in_groups.binds (ps := ["flat", "size"]) fun _ _ _ _ _ _ us hl => match us, hl with | [_, _], _ => rfl
  have F_read_points := fun_mk (st := s_read_points) l_read_points c_read_points k_read_points
  have b_read_points := F_read_points.binds (ps := ["k", "coordinates", "least", "most"]) fun _ _ _ _ _ _ us hl => match us, hl with | [_, _, _, _], _ => rfl
  have hasB : ∀ base : Heap, K.In base → OwnCls "WrongInput" C_WrongInput [.type "Exception", .type "BaseException", .type "object"] "Exception.__new__" mg base → OwnCls "NotThere" C_NotThere [.type "Exception", .type "BaseException", .type "object"] "Exception.__new__" mg base → OwnCls "CantBeTold" C_CantBeTold [.type "Exception", .type "BaseException", .type "object"] "Exception.__new__" mg base → Has r.prog w K mg base 12 "hull_answer" ["points"] (spHullA K) ∧ Has r.prog w K mg base 12 "read_points" ["k", "coordinates", "least", "most"] (spPoints K C_WrongInput) := fun base KB O_WrongInput O_NotThere O_CantBeTold => by
    have h_sign_of : Has r.prog w K mg base 1 "sign_of" ["value"] spSgn := ⟨_, _, okSO F_sign_of, b_sign_of, k_sign_of, mgl a_sign_of⟩
    have h_way_between : Has r.prog w K mg base 1 "way_between" ["a", "b"] (spWay K) := ⟨_, _, okWB F_way_between m_zip, b_way_between, k_way_between, mgl a_way_between⟩
    have h_without_column : Has r.prog w K mg base 1 "without_column" ["rows", "column"] (spWC K) := ⟨_, _, okWC F_without_column, b_without_column, k_without_column, mgl a_without_column⟩
    have hDT : ∀ B n, B ≤ 20000 → n ≤ 6 → Has r.prog w K mg base (n + 1) "determinant" ["rows"] (spDet K B n) := fun B n hB hn => hasDT F_determinant b_determinant (mgl a_determinant) hB m_len m_enumerate h_without_column n hn
    have h_determinant : Has r.prog w K mg base 7 "determinant" ["rows"] (spDetU K) := hasDTU F_determinant b_determinant (mgl a_determinant) m_len m_enumerate h_without_column
    have h_side_value : Has r.prog w K mg base 8 "side_value" ["a", "b", "c"] (spSideV K) := ⟨_, _, ok_side_value (k := 7) F_side_value (h_determinant.mono (by omega)) (h_way_between.mono (by omega)), b_side_value, k_side_value, mgl a_side_value⟩
    have h_side_sign : Has r.prog w K mg base 9 "side_sign" ["a", "b", "c"] (spSide K) := ⟨_, _, ok_side_sign (k := 8) F_side_sign (h_sign_of.mono (by omega)) (h_side_value.mono (by omega)), b_side_sign, k_side_sign, mgl a_side_sign⟩
    have h_tight_side : Has r.prog w K mg base 10 "tight_side" ["points", "places"] (spTight K) := ⟨_, _, ok_tight_side (k := 9) F_tight_side m_len (h_side_sign.mono (by omega)), b_tight_side, k_tight_side, mgl a_tight_side⟩
    have h_upward_places : Has r.prog w K mg base 1 "upward_places" ["points"] (spUp K) := ⟨_, _, ok_upward_places (k := 0) F_upward_places m_enumerate m_sorted, b_upward_places, k_upward_places, mgl a_upward_places⟩
    have h_hull_places : Has r.prog w K mg base 11 "hull_places" ["points"] (spHullP K) := ⟨_, _, ok_hull_places (k := 10) F_hull_places m_len m_list m_reversed (h_upward_places.mono (by omega)) (h_tight_side.mono (by omega)), b_hull_places, k_hull_places, mgl a_hull_places⟩
    have h_hull_answer : Has r.prog w K mg base 12 "hull_answer" ["points"] (spHullA K) := ⟨_, _, ok_hull_answer (k := 11) F_hull_answer m_len (h_hull_places.mono (by omega)), b_hull_answer, k_hull_answer, mgl a_hull_answer⟩
    have h_read_number : Has r.prog w K mg base 1 "read_number" ["bits"] (spNum C_WrongInput) := ⟨_, _, ok_read_number (k := 0) F_read_number O_WrongInput PySem.F.excBase_Exception v_EXPONENT_MASK v_FRACTION_MASK v_HIDDEN_BIT, b_read_number, k_read_number, mgl a_read_number⟩
    have h_read_choice : Has r.prog w K mg base 1 "read_choice" ["value", "least", "most"] (spChoice C_WrongInput) := ⟨_, _, ok_read_choice (k := 0) F_read_choice O_WrongInput PySem.F.excBase_Exception, b_read_choice, k_read_choice, mgl a_read_choice⟩
    have h_read_numbers : Has r.prog w K mg base 2 "read_numbers" ["numbers", "least", "most"] (spNums K C_WrongInput) := ⟨_, _, ok_read_numbers (k := 1) F_read_numbers m_len (h_read_choice.mono (by omega)) (h_read_number.mono (by omega)), b_read_numbers, k_read_numbers, mgl a_read_numbers⟩
    have h_read_dimension : Has r.prog w K mg base 1 "read_dimension" ["k"] (spDim C_WrongInput) := ⟨_, _, ok_read_dimension (k := 0) F_read_dimension O_WrongInput PySem.F.excBase_Exception, b_read_dimension, k_read_dimension, mgl a_read_dimension⟩
    have h_in_groups : Has r.prog w K mg base 1 "in_groups" ["flat", "size"] (spGroups K C_WrongInput) := ⟨_, _, ok_in_groups (k := 0) F_in_groups O_WrongInput PySem.F.excBase_Exception m_len m_range, b_in_groups, k_in_groups, mgl a_in_groups⟩
    have h_read_points : Has r.prog w K mg base 3 "read_points" ["k", "coordinates", "least", "most"] (spPoints K C_WrongInput) := ⟨_, _, ok_read_points (k := 2) F_read_points (h_read_numbers.mono (by omega)) (h_read_dimension.mono (by omega)) (h_in_groups.mono (by omega)), b_read_points, k_read_points, mgl a_read_points⟩
    exact ⟨h_hull_answer.mono (by omega), h_read_points.mono (by omega)⟩
  refine ⟨_, c, Pt, (fun_mk (st := s_hull) l0 c0 (show PySem.W.keepIn K (.ref fa) = true by simp only [PySem.W.keepIn, l0])).binds (ps := ["points"]) (fun _ _ _ _ _ _ us hl => match us, hl with | [_], _ => rfl), ?_, hC, hPt, fun base pl hc M => ?_⟩
  · cases q : K.lookup Pt with
    | none => rfl
    | some o =>
      have g := X _ _ q
      rw [hPt] at g
      cases g
      have z := List.all_eq_true.mp tn _ (PySem.W.mem_of_lookupK q)
      exact absurd (show false = true from z) Bool.false_ne_true
  · have O_WrongInput : OwnCls "WrongInput" C_WrongInput [.type "Exception", .type "BaseException", .type "object"] "Exception.__new__" mg base := OwnCls.to pl Q_WrongInput.own
    have p_WrongInput := plainX_of M.kin g_WrongInput h_WrongInput i_WrongInput
    have O_NotThere : OwnCls "NotThere" C_NotThere [.type "Exception", .type "BaseException", .type "object"] "Exception.__new__" mg base := OwnCls.to pl Q_NotThere.own
    have p_NotThere := plainX_of M.kin g_NotThere h_NotThere i_NotThere
    have O_CantBeTold : OwnCls "CantBeTold" C_CantBeTold [.type "Exception", .type "BaseException", .type "object"] "Exception.__new__" mg base := OwnCls.to pl Q_CantBeTold.own
    have p_CantBeTold := plainX_of M.kin g_CantBeTold h_CantBeTold i_CantBeTold
    obtain ⟨bm, ob, b1', b2', b3', b4', b5', b6'⟩ := T.bmain
    obtain ⟨co, cvs, x1, x2, x3, x4, x5, x6, x7, y1, y2⟩ := hC
    exact okEntry l0 c0 ⟨co, cvs, x1, x2, x3, x4, x5, x6, x7, hc _ y1, y2⟩ ⟨bm, ob, b1', b2', pl _ _ b3' (fun vs q => by rw [b6'] at q; cases q) (fun its n q => by rw [b6'] at q; cases q), b4', b5', b6'⟩ (mgl a_answered) k_answered b_answered
      (fun base2 sub => okAN F_answered E_WrongInput E_NotThere E_CantBeTold (p_WrongInput.keeps sub) (p_NotThere.keeps sub) (p_CantBeTold.keeps sub) ne_WrongInput_NotThere ne_WrongInput_CantBeTold ne_NotThere_CantBeTold) (fun base2 sub => (hasB base2 (M.kin.keeps sub) (O_WrongInput.keeps sub) (O_NotThere.keeps sub) (O_CantBeTold.keeps sub)).1) (fun base2 sub => (hasB base2 (M.kin.keeps sub) (O_WrongInput.keeps sub) (O_NotThere.keeps sub) (O_CantBeTold.keeps sub)).2)
theorem said : PySem.Challenge.rw_exactplaces_s12_hull.wellSaid = true := by decide +kernel
theorem dec_ok {args : List PySem.W.WData} (said : PySem.Challenge.rw_exactplaces_s12_hull.wellSaid = true) (hp : PySem.Challenge.rw_exactplaces_s12_hull.pre args = true) : ∃ ds res, args = ds.map AD.w ∧ okL ds res ∧ (∀ l, AD.lst l ∈ ds → l.length ≤ sizeLine) ∧ ds.length = 1 ∧ PySem.Challenge.rw_exactplaces_s12_hull.claim.post args (.list (res.map .int)) args = true := by
  obtain ⟨⟨x_points, ⟨⟩⟩, hw, _, rfl⟩ := (PySem.W.OpenSpec.pre_iff said args).mp hp
  have w_points := PySem.W.Codec.and_of hw
  have i_points := inW_of w_points.1 (by decide)
  refine ⟨[.lst x_points], PySh25.hull x_points, rfl, ⟨x_points, rfl, i_points.1, rfl⟩, fun l hl => ?_, rfl, (PySem.W.OpenSpec.post_iff said hw _ _).mpr rfl⟩
  have hl : l = x_points := by simpa using hl
  rcases hl with rfl
  · exact i_points.2
end M
open PySem PySem.W PyProof.Rows
set_option maxRecDepth 100000 in
set_option maxHeartbeats 0 in
theorem PySem.Challenge.cw_exactplaces_s12_hull_holds : PySem.Challenge.rw_exactplaces_s12_hull.Holds := by
  w_on; k_headS; (case hw => exact ⟨[.list []], by decide +kernel, by decide +kernel⟩)
  k_fillS
  refine L2.walk_spec (r := PySem.Challenge.rw_exactplaces_s12_hull) (k := 15) (ps := ["points"]) (ok := M.okL) (fun w h Y => PySem.W.kIn_of Y) ⟨rfl, by decide, by decide⟩ (fun args hp => M.dec_ok M.said hp) ?F
  case F =>
    intro w s0 mg mb fa h KX T hmg
    refine' M.all_mk KX T hmg ?a_sign_of ?l_sign_of ?c_sign_of ?k_sign_of ?a_way_between ?l_way_between ?c_way_between ?k_way_between ?a_without_column ?l_without_column ?c_without_column ?k_without_column ?a_determinant ?l_determinant ?c_determinant ?k_determinant ?a_answered ?l_answered ?c_answered ?k_answered ?a_side_value ?l_side_value ?c_side_value ?k_side_value ?a_side_sign ?l_side_sign ?c_side_sign ?k_side_sign ?a_tight_side ?l_tight_side ?c_tight_side ?k_tight_side ?a_upward_places ?l_upward_places ?c_upward_places ?k_upward_places ?a_hull_places ?l_hull_places ?c_hull_places ?k_hull_places ?a_hull_answer ?l_hull_answer ?c_hull_answer ?k_hull_answer ?a_read_number ?l_read_number ?c_read_number ?k_read_number ?a_read_choice ?l_read_choice ?c_read_choice ?k_read_choice ?a_read_numbers ?l_read_numbers ?c_read_numbers ?k_read_numbers ?a_read_dimension ?l_read_dimension ?c_read_dimension ?k_read_dimension ?a_in_groups ?l_in_groups ?c_in_groups ?k_in_groups ?a_read_points ?l_read_points ?c_read_points ?k_read_points ?a0 ?l0 ?c0 ?tn ?hr ?e_WrongInput ?g_WrongInput ?h_WrongInput ?i_WrongInput ?sp_WrongInput ?e_NotThere ?g_NotThere ?h_NotThere ?i_NotThere ?sp_NotThere ?e_CantBeTold ?g_CantBeTold ?h_CantBeTold ?i_CantBeTold ?sp_CantBeTold ?ne_WrongInput_NotThere ?ne_WrongInput_CantBeTold ?ne_NotThere_CantBeTold ?w_FRACTION_MASK ?w_HIDDEN_BIT ?w_EXPONENT_MASK ?z_len ?z_zip ?z_enumerate ?z_range ?z_sorted ?z_reversed ?z_list
    (case a_sign_of => k_is)
    (case l_sign_of => k_is)
    (case c_sign_of => k_is)
    (case k_sign_of => k_is)
    (case a_way_between => k_is)
    (case l_way_between => k_is)
    (case c_way_between => k_is)
    (case k_way_between => k_is)
    (case a_without_column => k_is)
    (case l_without_column => k_is)
    (case c_without_column => k_is)
    (case k_without_column => k_is)
    (case a_determinant => k_is)
    (case l_determinant => k_is)
    (case c_determinant => k_is)
    (case k_determinant => k_is)
    (case a_answered => k_is)
    (case l_answered => k_is)
    (case c_answered => k_is)
    (case k_answered => k_is)
    (case a_side_value => k_is)
    (case l_side_value => k_is)
    (case c_side_value => k_is)
    (case k_side_value => k_is)
    (case a_side_sign => k_is)
    (case l_side_sign => k_is)
    (case c_side_sign => k_is)
    (case k_side_sign => k_is)
    (case a_tight_side => k_is)
    (case l_tight_side => k_is)
    (case c_tight_side => k_is)
    (case k_tight_side => k_is)
    (case a_upward_places => k_is)
    (case l_upward_places => k_is)
    (case c_upward_places => k_is)
    (case k_upward_places => k_is)
    (case a_hull_places => k_is)
    (case l_hull_places => k_is)
    (case c_hull_places => k_is)
    (case k_hull_places => k_is)
    (case a_hull_answer => k_is)
    (case l_hull_answer => k_is)
    (case c_hull_answer => k_is)
    (case k_hull_answer => k_is)
    (case a_read_number => k_is)
    (case l_read_number => k_is)
    (case c_read_number => k_is)
    (case k_read_number => k_is)
    (case a_read_choice => k_is)
    (case l_read_choice => k_is)
    (case c_read_choice => k_is)
    (case k_read_choice => k_is)
    (case a_read_numbers => k_is)
    (case l_read_numbers => k_is)
    (case c_read_numbers => k_is)
    (case k_read_numbers => k_is)
    (case a_read_dimension => k_is)
    (case l_read_dimension => k_is)
    (case c_read_dimension => k_is)
    (case k_read_dimension => k_is)
    (case a_in_groups => k_is)
    (case l_in_groups => k_is)
    (case c_in_groups => k_is)
    (case k_in_groups => k_is)
    (case a_read_points => k_is)
    (case l_read_points => k_is)
    (case c_read_points => k_is)
    (case k_read_points => k_is)
    (case a0 => k_is)
    (case l0 => k_is)
    (case c0 => k_is)
    (case tn => kernel_rfl)
    (case hr => rfl)
    (case e_WrongInput => k_is)
    (case g_WrongInput => k_is)
    (case h_WrongInput => decide)
    (case i_WrongInput => exact fun a => rfl)
    (case sp_WrongInput => rfl)
    (case e_NotThere => k_is)
    (case g_NotThere => k_is)
    (case h_NotThere => decide)
    (case i_NotThere => exact fun a => rfl)
    (case sp_NotThere => rfl)
    (case e_CantBeTold => k_is)
    (case g_CantBeTold => k_is)
    (case h_CantBeTold => decide)
    (case i_CantBeTold => exact fun a => rfl)
    (case sp_CantBeTold => rfl)
    (case ne_WrongInput_NotThere => decide)
    (case ne_WrongInput_CantBeTold => decide)
    (case ne_NotThere_CantBeTold => decide)
    (case w_FRACTION_MASK => k_is)
    (case w_HIDDEN_BIT => k_is)
    (case w_EXPONENT_MASK => k_is)
    (case z_len => k_is)
    (case z_zip => k_is)
    (case z_enumerate => k_is)
    (case z_range => k_is)
    (case z_sorted => k_is)
    (case z_reversed => k_is)
    (case z_list => k_is)
#print axioms PySem.Challenge.cw_exactplaces_s12_hull_holds
