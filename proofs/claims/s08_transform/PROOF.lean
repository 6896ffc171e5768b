import PyProof.Rows.All
import Wide.All
import OpenK.AllK
import Wide.FinOn
import PyProof.EqAt
import PyProof.EqKinds
import PyProof.TupleCall
import KE.BitLaws
import Open.SpecLaws
import KE.OsHead
import KE.OsGo
import KE.LcSums
import PySem.Challenge.RW_complexsingles_s08_transform
section
set_option Elab.async false
set_option linter.all false
set_option maxRecDepth 100000
namespace L2
open PySem PySem.Spec PyProof.Rows

abbrev Key := Sum Int Str
def keyIs : Key → Value → Bool
  | .inl k, v => Value.isInt k v
  | .inr x, v => Value.isStrOf x v
def keyH (w : World) : Key → Int
  | .inl k => hashInt k
  | .inr x => hashStr w x
theorem keyIs_shape : ∀ {k : Key} {v : Value}, keyIs k v = true → (∃ i t, k = Sum.inl i ∧ v = Value.int i t) ∨ (∃ x t, k = Sum.inr x ∧ v = Value.str x t)
  | .inl i, v, h => by
    obtain ⟨t, e⟩ := Value.isInt_shape (k := i) (v := v) h
    exact .inl ⟨i, t, rfl, e⟩
  | .inr x, v, h => by
    obtain ⟨t, e⟩ := Value.isStrOf_shape (x := x) (v := v) h
    exact .inr ⟨x, t, rfl, e⟩
theorem key_ll (a b : Int) : decide ((Sum.inl a : Key) = Sum.inl b) = (a == b) := by
  by_cases e : a = b
  · subst e; simp
  · have h : ¬ (Sum.inl a : Key) = Sum.inl b := fun q => e (Sum.inl.inj q)
    rw [decide_eq_false h]
    exact (beq_eq_false_iff_ne.mpr e).symm
theorem key_rr (a b : Str) : decide ((Sum.inr a : Key) = Sum.inr b) = decide (a = b) := by
  by_cases e : a = b
  · subst e; simp
  · have h : ¬ (Sum.inr a : Key) = Sum.inr b := fun q => e (Sum.inr.inj q)
    rw [decide_eq_false h, decide_eq_false e]
theorem key_lr (a : Int) (b : Str) : decide ((Sum.inl a : Key) = Sum.inr b) = false := decide_eq_false (fun q => nomatch q)
theorem key_rl (a : Str) (b : Int) : decide ((Sum.inr a : Key) = Sum.inl b) = false := decide_eq_false (fun q => nomatch q)

def mixKind (prog : Program) (w : World) : PySem.KeyKind prog w Key where
  is := keyIs
  hash := keyH w
  inj := fun v a b ha hb => by
    rcases keyIs_shape ha with ⟨i, t, rfl, rfl⟩ | ⟨x, t, rfl, rfl⟩
    · rcases keyIs_shape hb with ⟨j, u, rfl, e⟩ | ⟨y, u, rfl, e⟩
      · injection e with e1 _; rw [e1]
      · exact nomatch e
    · rcases keyIs_shape hb with ⟨j, u, rfl, e⟩ | ⟨y, u, rfl, e⟩
      · exact nomatch e
      · injection e with e1 _; rw [e1]
  byValue := fun k v h => by
    rcases keyIs_shape h with ⟨i, t, rfl, rfl⟩ | ⟨x, t, rfl, rfl⟩ <;> rfl
  pyHash := fun hv h => by
    rcases keyIs_shape hv with ⟨i, t, rfl, rfl⟩ | ⟨x, t, rfl, rfl⟩
    · exact wpAny_pyHash_int h
    · exact wpAny_pyHash_str h
  eqBool := fun hu hv h => by
    rcases keyIs_shape hu with ⟨i, t, rfl, rfl⟩ | ⟨x, t, rfl, rfl⟩
    · rcases keyIs_shape hv with ⟨j, u, rfl, rfl⟩ | ⟨y, u, rfl, rfl⟩
      · rw [key_ll] at h; exact wpAny_eqBool_int h
      · rw [key_lr] at h; exact SeqAt.EqAt.int_str i t y u _ _ _ _ h
    · rcases keyIs_shape hv with ⟨j, u, rfl, rfl⟩ | ⟨y, u, rfl, rfl⟩
      · rw [key_rl] at h; exact SeqAt.EqAt.str_int x t j u _ _ _ _ h
      · rw [key_rr] at h; exact wpAny_eqBool_str h
  «strs» := fun k x t v h => by
    rcases keyIs_shape h with ⟨i, u, rfl, e⟩ | ⟨y, u, rfl, e⟩
    · exact nomatch e
    · injection e with e1 _
      subst e1
      cases v <;> rfl

end L2

namespace L2
open PySem PySem.Spec PyProof.Rows

inductive V where
  | non | bl (b : Bool) | int (i : Int) | str (x : Str) | byt (b : Array UInt8) | flt (b : UInt64) | ref (a : Addr) | ty (n : String)
  deriving DecidableEq

def RelV : V → Value → Prop
  | .non, u => u = Value.none
  | .bl b, u => u = Value.bool b
  | .int i, u => ∃ t, u = Value.int i t
  | .str x, u => ∃ t, u = Value.str x t
  | .byt b, u => ∃ t, u = Value.bytes b t
  | .flt b, u => ∃ t, u = Value.float b t
  | .ref a, u => u = Value.ref a
  | .ty n, u => u = Value.type n

abbrev Vals : List V → List Value → Prop := Paired RelV
theorem Vals.length {xs : List V} {us : List Value} (r : Vals xs us) : xs.length = us.length := Paired.length r
theorem Vals.get : ∀ {xs : List V} {us : List Value} {i : Nat} {x : V}, Vals xs us → xs[i]? = some x → ∃ u, us[i]? = some u ∧ RelV x u
  | _, _, _, _, .nil, e => by simp at e
  | _, _, 0, _, .cons r _, e => by simp at e; subst e; exact ⟨_, rfl, r⟩
  | _, _, i + 1, x, .cons _ t, e => by
    obtain ⟨u, h1, h2⟩ := Vals.get (i := i) (x := x) t (by simpa using e)
    exact ⟨u, by simpa using h1, h2⟩
theorem Vals.set {x : V} {u : Value} (r : RelV x u) : ∀ {xs : List V} {us : List Value} (i : Nat), Vals xs us → Vals (xs.set i x) (us.set i u)
  | _, _, _, .nil => .nil
  | _, _, 0, .cons _ t => .cons r t
  | _, _, i + 1, .cons q t => .cons q (Vals.set r i t)
theorem Vals.append : ∀ {xs ys : List V} {us ws : List Value}, Vals xs us → Vals ys ws → Vals (xs ++ ys) (us ++ ws)
  | _, _, _, _, .nil, s => s
  | _, _, _, _, .cons r t, s => .cons r (Vals.append t s)
theorem Vals.take : ∀ {xs : List V} {us : List Value} (n : Nat), Vals xs us → Vals (xs.take n) (us.take n)
  | _, _, 0, _ => .nil
  | _, _, _ + 1, .nil => .nil
  | _, _, n + 1, .cons r t => .cons r (Vals.take n t)
theorem Vals.drop : ∀ {xs : List V} {us : List Value} (n : Nat), Vals xs us → Vals (xs.drop n) (us.drop n)
  | _, _, 0, r => r
  | _, _, _ + 1, .nil => .nil
  | _, _, n + 1, .cons _ t => Vals.drop n t
theorem Vals.none_of : ∀ {xs : List V} {us : List Value} {i : Nat}, Vals xs us → xs[i]? = none → us[i]? = none := fun {xs us i} r e => by
  have h1 := r.length
  have h2 : xs.length ≤ i := List.getElem?_eq_none_iff.mp e
  exact List.getElem?_eq_none_iff.mpr (by omega)

def RelO : Option V → Option Value → Prop
  | some v, some u => RelV v u
  | none, none => True
  | _, _ => False
def KV {κ : Type} : List (κ × V) → List (κ × Value) → Prop := Paired fun (p : κ × V) (q : κ × Value) => p.1 = q.1 ∧ RelV p.2 q.2

def kV : Key → V
  | .inl i => .int i
  | .inr x => .str x

inductive HO where
  /-- a list -/
  | lst (xs : List V)
  /-- a tuple (never changes) -/
  | tup (xs : List V)
  /-- a dict whose keys are ints and texts; one whose keys are tuples of ints and texts (the empty one is both) -/
  | dK (kvs : List (Key × V)) | dT (kvs : List (List Key × V))
  /-- a set of ints: its members, its size -/
  | set (S : Int → Bool) (n : Nat)
  /-- an instance of the class at C, its dict at dx, its attributes -/
  | ins (C dx : Addr) (fs : List (Str × V))
  /-- the dict of the instance at x -/
  | own (x : Addr)
  /-- the dict of an exception -/
  | xd (fs : List (Str × V))
  /-- a bound method, f of x -/
  | met (f x : Addr)
  /-- a range object lo, lo + 1, .. below hi -/
  | rng (lo hi : Int)
  /-- a thing that is known to the object (the script; a dict while a loop walks it): read, never written while it is so -/
  | frz (o : Obj) (u : HO)
  /-- a code object's table -/
  | tbl (ps : Array Value)
  /-- any other thing, by what is true of its one object (a def of one's own: SetO a S n := HO.ext fun h => ..) -/
  | ext (φ : Heap → Prop)

abbrev Hp := Addr → Option HO
def upd (H : Hp) (a : Addr) (o : HO) : Hp := fun b => if b = a then some o else H b
theorem upd_same {H : Hp} {a : Addr} {o : HO} : upd H a o a = some o := by unfold upd; rw [if_pos rfl]
theorem upd_ne {H : Hp} {a b : Addr} {o : HO} (h : b ≠ a) : upd H a o b = H b := by unfold upd; rw [if_neg h]
theorem ne_of_none {H : Hp} {a b : Addr} {o : HO} (h : H a = some o) (h' : H b = none) : a ≠ b := by
  intro e; subst e; rw [h] at h'; cases h'

section
variable (P : Program) (w : World)
def ObjOk (H : Hp) (h : Heap) (a : Addr) : HO → Prop
  | .lst xs => xs.length ≤ sizeLine ∧ ∃ (its : List Value) (n : Nat), Vals xs its ∧ h.get? a = some { cls := .type "list", data := .seq its.toArray n }
  | .tup xs => xs.length ≤ sizeLine ∧ ∃ its : List Value, Vals xs its ∧ IsTup h a its.toArray
  | .dK kvs => kvs.length ≤ sizeLine ∧ (a == sysModules) = false ∧ ∃ vs, KV kvs vs ∧ h.DictOf (mixKind P w) a vs
  | .dT kvs => kvs.length ≤ sizeLine ∧ (a == sysModules) = false ∧ ∃ xs : List (List Key × Addr × Value),
      Paired (fun (p : List Key × V) (q : List Key × Addr × Value) => p.1 = q.1 ∧ H q.2.1 = some (.tup (p.1.map kV)) ∧ RelV p.2 q.2.2) kvs xs ∧
      ∃ o es ep, h.get? a = some o ∧ o.ExactDict ∧ o.data = .dict es ep ∧ es.toList = xs.map (entryOfKey (tupleKind (mixKind P w))) ∧ (xs.map (·.1)).Nodup
  | .set S n => h.SetOf (intKind P w) a S n
  | .ins C dx fs => H dx = some (.own a) ∧ fs.length ≤ 1000 ∧ dx ≠ a ∧ h.get? a = some (PySem.W.instObj C dx) ∧
      ∃ mA, h.Ns1 dx mA ∧ (∀ f, RelO (fs.lookup f) (mA f)) ∧ PySem.Within mA (fs.map (·.1))
  | .own _ => ∃ o, h.get? a = some o
  | .xd fs => ∃ mA, h.Ns1 a mA ∧ ∀ f, RelO (fs.lookup f) (mA f)
  | .rng lo hi => ∃ t u v, h.get? a = some { cls := .type "range", data := .fields #[.int lo t, .int hi u, .int 1 v] }
  | .frz o u => h.get? a = some o ∧ ObjOk H h a u
  | .tbl ps => h.get? a = some { cls := .none, data := .fields ps }
  | .met f x => h.get? a = some (PySem.W.methodObj (.ref f) (.ref x))
  | .ext φ => φ h ∧ (∃ o, h.get? a = some o) ∧ ∀ h1 h2 : Heap, φ h1 → (∀ o, h1.get? a = some o → h2.get? a = some o) → φ h2
def HOk (H : Hp) (h : Heap) : Prop := ∀ a o, H a = some o → ObjOk P w H h a o
end

section
variable {P : Program} {w : World} {H H' : Hp} {h h' : Heap} {a : Addr} {o : HO}
theorem ObjOk.lt (x : ObjOk P w H h a o) : a < h.objs.size := by
  cases o with
  | lst xs => obtain ⟨_, _, _, _, e⟩ := x; exact Heap.lt_size e
  | tup xs => obtain ⟨_, _, _, p⟩ := x; exact p.lt
  | dK kvs => obtain ⟨_, _, _, _, o, _, _, e, _⟩ := x; exact Heap.lt_size e
  | dT kvs => obtain ⟨_, _, _, _, o, _, _, e, _⟩ := x; exact Heap.lt_size e
  | set S n => obtain ⟨o, _, _, _, e, _⟩ := x; exact Heap.lt_size e
  | ins C dx fs => obtain ⟨_, _, _, e, _⟩ := x; exact Heap.lt_size e
  | own y => obtain ⟨_, e⟩ := x; exact Heap.lt_size e
  | xd fs => obtain ⟨_, ⟨_, _, _, e, _⟩, _⟩ := x; exact Heap.lt_size e
  | rng lo hi => obtain ⟨_, _, _, e⟩ := x; exact Heap.lt_size e
  | frz ob u => obtain ⟨e, _⟩ := x; exact Heap.lt_size e
  | tbl ps => exact Heap.lt_size (show h.get? a = some _ from x)
  | met f y => exact Heap.lt_size (show h.get? a = some _ from x)
  | ext φ => obtain ⟨_, ⟨_, e⟩, _⟩ := x; exact Heap.lt_size e
theorem Paired.mapP {α β : Type} {F G : α → β → Prop} : ∀ {l₁ : List α} {l₂ : List β}, Paired F l₁ l₂ → (∀ a b, F a b → G a b) → Paired G l₁ l₂
  | _, _, .nil, _ => .nil
  | _, _, .cons r t, f => .cons (f _ _ r) (Paired.mapP t f)
theorem ObjOk.stay (x : ObjOk P w H h a o) (k : ∀ b u, (b = a ∨ H b = some (.own a)) → h.get? b = some u → h'.get? b = some u)
    (ho : ∀ b, H b = some (.own a) → H' b = some (.own a)) (ht : ∀ b xs, H b = some (.tup xs) → H' b = some (.tup xs)) : ObjOk P w H' h' a o := by
  induction o with
  | lst xs => obtain ⟨z, its, n, r, e⟩ := x; exact ⟨z, its, n, r, k _ _ (.inl rfl) e⟩
  | tup xs => obtain ⟨z, its, r, ob, e, c⟩ := x; exact ⟨z, its, r, ob, k _ _ (.inl rfl) e, c⟩
  | dK kvs => obtain ⟨z, y, vs, r, ob, es, ep, e, c⟩ := x; exact ⟨z, y, vs, r, ob, es, ep, k _ _ (.inl rfl) e, c⟩
  | dT kvs =>
    obtain ⟨z, y, xs, r, ob, es, ep, e, c⟩ := x
    exact ⟨z, y, xs, Paired.mapP r fun p q z => ⟨z.1, ht _ _ z.2.1, z.2.2⟩, ob, es, ep, k _ _ (.inl rfl) e, c⟩
  | set S n => obtain ⟨ob, es, ep, t, e, c⟩ := x; exact ⟨ob, es, ep, t, k _ _ (.inl rfl) e, c⟩
  | ins C dx fs =>
    obtain ⟨d, z, ne, e, mA, ⟨od, es, ep, e2, c⟩, r⟩ := x
    exact ⟨ho _ d, z, ne, k _ _ (.inl rfl) e, mA, ⟨od, es, ep, k _ _ (.inr d) e2, c⟩, r⟩
  | own y => obtain ⟨ob, e⟩ := x; exact ⟨ob, k _ _ (.inl rfl) e⟩
  | xd fs => obtain ⟨mA, ⟨od, es, ep, e, c⟩, r⟩ := x; exact ⟨mA, ⟨od, es, ep, k _ _ (.inl rfl) e, c⟩, r⟩
  | rng lo hi => obtain ⟨t, u, v, e⟩ := x; exact ⟨t, u, v, k _ _ (.inl rfl) e⟩
  | frz ob u ih => obtain ⟨e, q⟩ := x; exact ⟨k _ _ (.inl rfl) e, ih q⟩
  | tbl ps =>
    have e : h.get? a = some { cls := .none, data := .fields ps } := x
    show h'.get? a = some { cls := .none, data := .fields ps }
    exact k a _ (.inl rfl) e
  | met f y =>
    have e : h.get? a = some (PySem.W.methodObj (.ref f) (.ref y)) := x
    show h'.get? a = some (PySem.W.methodObj (.ref f) (.ref y))
    exact k a _ (.inl rfl) e
  | ext φ => obtain ⟨p, ⟨o, e⟩, st⟩ := x; exact ⟨st _ _ p fun o q => k _ _ (.inl rfl) q, ⟨o, k _ _ (.inl rfl) e⟩, st⟩
theorem HOk.lt (x : HOk P w H h) (e : H a = some o) : a < h.objs.size := (x a o e).lt
theorem HOk.fresh (x : HOk P w H h) (e : h.objs.size ≤ a) : H a = none := by
  cases q : H a with
  | none => rfl
  | some u => exact absurd (Nat.lt_of_lt_of_le (x.lt q) e) (Nat.lt_irrefl _)
theorem HOk.kept (x : HOk P w H h) (k : ∀ b u, h.get? b = some u → h'.get? b = some u) : HOk P w H h' := fun a o e =>
  (x a o e).stay (fun b u _ q => k b u q) (fun _ q => q) fun _ _ q => q
theorem HOk.laid (x : HOk P w H h) (k : ∀ b u, h.get? b = some u → h'.get? b = some u) (hp : h.objs.size ≤ a) (new : ObjOk P w (upd H a o) h' a o) : HOk P w (upd H a o) h' := fun b u e => by
  have hn := x.fresh hp
  by_cases hb : b = a
  · subst hb; rw [upd_same] at e; cases e; exact new
  · rw [upd_ne hb] at e
    exact (x b u e).stay (fun c v _ q => k c v q) (fun c q => by rw [upd_ne (ne_of_none q hn)]; exact q) fun c xs q => by rw [upd_ne (ne_of_none q hn)]; exact q
end

def Rd (H : Hp) (a : Addr) (u : HO) : Prop := H a = some u ∨ ∃ o, H a = some (.frz o u)
theorem Rd.of {H : Hp} {a : Addr} {u : HO} (h : H a = some u) : Rd H a u := .inl h
theorem Rd.ok {P : Program} {w : World} {H : Hp} {h : Heap} {a : Addr} {u : HO} (r : Rd H a u) (x : HOk P w H h) : ObjOk P w H h a u := by
  rcases r with r | ⟨o, r⟩
  · exact x a u r
  · obtain ⟨_, q⟩ := x a _ r
    exact q
def Mut : Option HO → Prop
  | some (.lst _) => True
  | some (.dK _) => True
  | some (.dT _) => True
  | some (.set _ _) => True
  | some (.ins _ _ _) => True
  | some (.ext _) => True
  | _ => False
section
variable {P : Program} {w : World} {H : Hp} {h h' : Heap} {x e : Addr} {o' : HO}
theorem HOk.write (ok : HOk P w H h) (mu : Mut (H x)) (he : e = x ∨ H e = some (.own x)) (k : ∀ b u, b ≠ e → h.get? b = some u → h'.get? b = some u) (heo : ∃ u, h'.get? e = some u)
    (new : ObjOk P w (upd H x o') h' x o') : HOk P w (upd H x o') h' := fun b u q => by
  have nown : ∀ c y, H c = some (.own y) → c ≠ x := fun c y r z => by subst z; rw [r] at mu; exact mu
  have ntup : ∀ c xs, H c = some (.tup xs) → c ≠ x := fun c xs r z => by subst z; rw [r] at mu; exact mu
  by_cases hb : b = x
  · subst hb; rw [upd_same] at q; cases q; exact new
  · rw [upd_ne hb] at q
    by_cases hbe : b = e
    · have q' : H b = some (.own x) := by
        rcases he with z | z
        · exact absurd (hbe.trans z) hb
        · rw [hbe]; exact z
      rw [q] at q'; cases q'
      obtain ⟨v, hv⟩ := heo
      exact ⟨v, by rw [hbe]; exact hv⟩
    · refine (ok b u q).stay (fun c v hc r => k c v ?_ r) (fun c r => by rw [upd_ne (nown c b r)]; exact r) fun c xs r => by rw [upd_ne (ntup c xs r)]; exact r
      rcases hc with rfl | hc
      · exact hbe
      · rintro rfl
        rcases he with z | z
        · exact nown c b hc z
        · rw [hc] at z; cases z; exact hb rfl
end

structure Un (fs ex : List Addr) (H H' : Hp) (h h' : Heap) : Prop where
  keep : ∀ b o, h.get? b = some o → H b = none → b ∉ fs → b ∉ ex → h'.get? b = some o
  slot : ∀ b o, h.get? b = some o → H b = none → b ∈ fs → b ∉ ex → ∃ sl, h'.get? b = some { o with slots := sl }
  free : ∀ b o, h.get? b = some o → H b = none → b ∉ ex → H' b = none
  there : ∀ b o, h.get? b = some o → b ∉ ex → ∃ o', h'.get? b = some o'
  tups : ∀ b xs, H b = some (.tup xs) → H' b = some (.tup xs)
  frzs : ∀ b o u, H b = some (.frz o u) → H' b = some (.frz o u)
  tbls : ∀ b ps, H b = some (.tbl ps) → ∃ more, H' b = some (.tbl (ps ++ more))
section
variable {fs fs' ex ex' : List Addr} {H H1 H2 : Hp} {h h1 h2 h' : Heap} {a x e : Addr} {o : HO}
theorem Un.any (u : Un fs ex H H1 h h1) {b : Addr} {ob : Obj} (q : h.get? b = some ob) (n : H b = none) (hx : b ∉ ex) : ∃ sl, h1.get? b = some { ob with slots := sl } := by
  by_cases hb : b ∈ fs
  · exact u.slot b ob q n hb hx
  · exact ⟨ob.slots, u.keep b ob q n hb hx⟩
theorem Un.trans (a : Un fs ex H H1 h h1) (b : Un fs ex H1 H2 h1 h2) : Un fs ex H H2 h h2 where
  keep := fun c ob q n hc hx => b.keep c ob (a.keep c ob q n hc hx) (a.free c ob q n hx) hc hx
  slot := fun c ob q n hc hx => by
    obtain ⟨sl, e1⟩ := a.slot c ob q n hc hx
    obtain ⟨sl', e2⟩ := b.slot c _ e1 (a.free c ob q n hx) hc hx
    exact ⟨sl', e2⟩
  free := fun c ob q n hx => by
    obtain ⟨o', e1⟩ := a.there c ob q hx
    exact b.free c o' e1 (a.free c ob q n hx) hx
  there := fun c ob q hx => by
    obtain ⟨o', e1⟩ := a.there c ob q hx
    exact b.there c o' e1 hx
  tups := fun c xs q => b.tups c xs (a.tups c xs q)
  frzs := fun c ob xs q => b.frzs c ob xs (a.frzs c ob xs q)
  tbls := fun c ps q => by
    obtain ⟨m1, e1⟩ := a.tbls c ps q
    obtain ⟨m2, e2⟩ := b.tbls c _ e1
    exact ⟨m1 ++ m2, by rw [e2, Array.append_assoc]⟩
theorem Un.kept (k : ∀ b u, h.get? b = some u → h'.get? b = some u) : Un fs ex H H h h' :=
  ⟨fun b ob q _ _ _ => k b ob q, fun b ob q _ _ _ => ⟨ob.slots, k b ob q⟩, fun _ _ _ n _ => n, fun b ob q _ => ⟨ob, k b ob q⟩, fun _ _ q => q, fun _ _ _ q => q, fun _ ps q => ⟨#[], by rw [q]; simp⟩⟩
theorem Un.refl : Un fs ex H H h h := Un.kept fun _ _ q => q
theorem Un.laid (k : ∀ b u, h.get? b = some u → h'.get? b = some u) (hp : h.objs.size ≤ a) (hn : H a = none) : Un fs ex H (upd H a o) h h' where
  keep := fun b u q _ _ _ => k b u q
  slot := fun b u q _ _ _ => ⟨u.slots, k b u q⟩
  free := fun b u q n _ => by rw [upd_ne (Nat.ne_of_lt (Nat.lt_of_lt_of_le (Heap.lt_size q) hp))]; exact n
  there := fun b u q _ => ⟨u, k b u q⟩
  tups := fun b xs q => by rw [upd_ne (ne_of_none q hn)]; exact q
  frzs := fun b u xs q => by rw [upd_ne (ne_of_none q hn)]; exact q
  tbls := fun b ps q => ⟨#[], by rw [upd_ne (ne_of_none q hn), q]; simp⟩
theorem Un.write (mu : Mut (H x)) (he : e = x ∨ H e = some (.own x)) (k : ∀ b u, b ≠ e → h.get? b = some u → h'.get? b = some u) (heo : ∃ u, h'.get? e = some u) : Un fs ex H (upd H x o) h h' := by
  have hx : ∀ b, H b = none → b ≠ x := fun b n z => by subst z; rw [n] at mu; exact mu
  have hb : ∀ b, H b = none → b ≠ e := fun b n z => by
    subst z
    rcases he with r | r
    · exact hx b n r
    · rw [n] at r; cases r
  have hm : ∀ b u, H b = some u → ¬ Mut (some u) → b ≠ x := fun b u q nm z => by subst z; rw [q] at mu; exact nm mu
  refine ⟨fun b u q n _ _ => k b u (hb b n) q, fun b u q n _ _ => ⟨u.slots, k b u (hb b n) q⟩, fun b u q n _ => by rw [upd_ne (hx b n)]; exact n, fun b u q _ => ?_,
    fun b xs q => by rw [upd_ne (hm b _ q fun z => z)]; exact q, fun b u xs q => by rw [upd_ne (hm b _ q fun z => z)]; exact q, fun b ps q => ⟨#[], by rw [upd_ne (hm b _ q fun z => z), q]; simp⟩⟩
  by_cases hbe : b = e
  · subst hbe; exact heo
  · exact ⟨u, k b u hbe q⟩
theorem Un.mono (u : Un fs ex H H1 h h1) (hs : ∀ b ∈ fs, b ∈ fs') (hx : ∀ b ∈ ex, b ∈ ex') : Un fs' ex' H H1 h h1 :=
  ⟨fun b ob q n hb he => u.keep b ob q n (fun z => hb (hs b z)) fun z => he (hx b z), fun _ _ q n _ he => u.any q n fun z => he (hx _ z), fun b ob q n he => u.free b ob q n fun z => he (hx b z), fun b ob q he => u.there b ob q fun z => he (hx b z), u.tups, u.frzs, u.tbls⟩
end

def trk (h : Heap) (H : Hp) : List Addr := (List.range h.objs.size).filter fun a => (H a).isSome
def hidT (h : Heap) (H : Hp) : Heap := PySem.W.hideAll h (trk h H)
theorem hidT_size (h : Heap) (H : Hp) : (hidT h H).objs.size = h.objs.size := PySem.W.hideAll_size _ _
theorem hidT_get {h : Heap} {H : Hp} {b : Addr} {o : Obj} (e : h.get? b = some o) (n : H b = none) : (hidT h H).get? b = some o :=
  PySem.W.hideAll_get _ e fun hm => by
    have q : (H b).isSome = true := (List.mem_filter.mp hm).2
    rw [n] at q; simp at q
theorem of_hidT {h : Heap} {H : Hp} {b : Addr} {o : Obj} (e : (hidT h H).get? b = some o) : h.get? b = some o ∧ H b = none := by
  have e' : h.get? b = some o := PySem.W.of_hideAll (trk h H) e
  refine ⟨e', ?_⟩
  cases q : H b with
  | none => rfl
  | some x =>
    have hm : b ∈ trk h H := List.mem_filter.mpr ⟨List.mem_range.mpr (Heap.lt_size e'), by simp [q]⟩
    have z : (hidT h H).get? b = none := PySem.W.hideAll_none (trk h H) hm
    rw [z] at e; cases e

def allNews (g h : Heap) (L : Addr) : List (Addr × Obj) := (List.range h.objs.size).filterMap fun a => if a = L ∨ (g.get? a).isSome = true then none else (h.get? a).map fun o => (a, o)
def rest (g h : Heap) (L d : Addr) : List (Addr × Obj) := (allNews g h L).filter fun p => decide (p.1 ≠ d)
end L2

namespace L2
open PySem PySem.Spec PyProof.Rows

structure Mod (K : PySem.W.Frag) (mg : Str → Option Value) (base : Heap) : Prop where
  kin : K.In base
  glob : base.Ns mainGlobals mg
  blt : ∃ mb, base.Ns builtinsNs mb ∧ ∀ x : Str, x ≠ "__name__" → mb x = bootBuiltins x
  nolimit : base.NoLimit

structure Cx where
  prog : Program
  w : World
  K : PySem.W.Frag
  mg : Str → Option Value
  base : Heap
  A : Around
  N : List Str
  s_0 : Shared
  H_0 : Hp
  env : Env
  outer : List Env
  stack : List Env
  ex : List Addr
  fn : Str → Bool
  calm : Bool
  pn : List (Addr × Obj)
  xe : Value → Shared → Prop
def frs (l : List Env) : List Addr := l.filterMap (·.frame)
abbrev Cx.fs (X : Cx) : List Addr := frs X.outer

def Vis (sc : Scope) (x : Str) : Prop := sc.names.lookup x = some .local ∨ sc.names.lookup x = some .cell ∨ sc.names.lookup x = some .free
def Loc (sc : Scope) (x : Str) : Prop := sc.names.lookup x = some .local ∨ sc.names.lookup x = some .cell
def Look (env : Env) (h : Heap) (m : Str → Option Value) (x : Str) (u : Value) : Prop :=
  (env.kindOf x = some .local ∧ m x = some u) ∨ ((env.kindOf x = some .cell ∨ env.kindOf x = some .free) ∧ ∃ c, env.cells.lookup x = some c ∧ h.IsCell c (some u))

structure Cx.Ok (X : Cx) : Prop where
  mod : Mod X.K X.mg X.base
  kind : X.env.scope.kind = .function
  glob : X.env.globals = mainGlobals
  blt : X.env.builtins = builtinsNs
  above : X.s_0.heap.objs.size ≤ X.env.locals
  inj : ∀ x y c, X.env.cells.lookup x = some c → X.env.cells.lookup y = some c → x = y
  has : ∀ x, (X.env.kindOf x = some .cell ∨ X.env.kindOf x = some .free) → ∃ c, X.env.cells.lookup x = some c
  cab : ∀ x c, X.fn x = true → X.env.cells.lookup x = some c → X.s_0.heap.objs.size ≤ c
  hd : X.calm = true → X.A.handled = none
  frames : X.A.frames = some X.stack
  stk : X.stack = X.outer ∨ (X.stack = X.env :: X.outer ∧ X.env.frame = some X.env.locals)
  exf : ∀ b ∈ X.ex, b ≠ X.env.locals ∧ ∀ x c, X.env.cells.lookup x = some c → c ≠ b
  bs : ∀ b o, X.base.get? b = some o → X.s_0.heap.get? b = some o ∧ X.H_0 b = none
  bsz : X.base.objs.size ≤ X.s_0.heap.objs.size
  noex : ∀ b o, X.base.get? b = some o → b ∉ X.ex
  exfs : ∀ b ∈ X.ex, b ∉ X.fs
  funs : X.s_0.heap.FunFrames X.base X.outer
  frf : ∀ b ∈ X.fs, X.H_0 b = none

structure Inv (X : Cx) (pins : List (Addr × Obj)) (σ : List (Option V)) (H : Hp) (s : Shared) : Prop where
  ok : X.Ok
  os : s.os = X.s_0.os
  bare : AllBare s.gens
  base : Un X.fs X.ex X.H_0 H X.s_0.heap s.heap
  loc : ∃ m, s.heap.Ns X.env.locals m ∧ ∀ (i : Nat) (x : Str) (v : V), X.N[i]? = some x → σ[i]? = some (some v) → Vis X.env.scope x → ∃ u, RelV v u ∧ Look X.env s.heap m x u
  cell : ∀ x c, X.env.cells.lookup x = some c → ∃ v, s.heap.IsCell c v
  free : H X.env.locals = none
  freeC : ∀ x c, X.env.cells.lookup x = some c → H c = none
  pin : ∀ p ∈ X.pn ++ pins, s.heap.get? p.1 = some p.2 ∧ H p.1 = none ∧ p.1 ≠ X.env.locals ∧ p.1 ∉ X.fs ∧ ∀ v, p.2.data ≠ .cell v
  hok : HOk X.prog X.w H s.heap
  len : σ.length = X.N.length

section
variable {X : Cx} {pins : List (Addr × Obj)} {σ : List (Option V)} {H H' : Hp} {s : Shared} {h' : Heap}

theorem Cx.Ok.nofr (ok : X.Ok) {b : Addr} {o : Obj} (e : X.base.get? b = some o) : b ∉ X.fs := fun hb => by
  have := (ok.funs.mem hb).1
  rw [e] at this; cases this
theorem Inv.bs (I : Inv X pins σ H s) : ∀ b o, X.base.get? b = some o → s.heap.get? b = some o ∧ H b = none := fun b o e =>
  ⟨I.base.keep b o (I.ok.bs b o e).1 (I.ok.bs b o e).2 (I.ok.nofr e) (I.ok.noex b o e), I.base.free b o (I.ok.bs b o e).1 (I.ok.bs b o e).2 (I.ok.noex b o e)⟩
theorem Inv.bk (I : Inv X pins σ H s) : ∀ b o, X.base.get? b = some o → s.heap.get? b = some o := fun b o e => (I.bs b o e).1
theorem Inv.mod (I : Inv X pins σ H s) : Mod X.K X.mg X.base := I.ok.mod
theorem Inv.kIn (I : Inv X pins σ H s) : X.K.In s.heap := I.ok.mod.kin.keeps I.bk
theorem Inv.nolimit (I : Inv X pins σ H s) : s.heap.NoLimit := I.ok.mod.nolimit.keeps I.bk
theorem Inv.fr (I : Inv X pins σ H s) : ∃ m, Fr X.base X.env.locals s.heap m :=
  let ⟨m, hn, _⟩ := I.loc
  ⟨m, hn, I.bk, Nat.le_trans I.ok.bsz I.ok.above⟩
theorem Inv.lt (I : Inv X pins σ H s) : X.env.locals < s.heap.objs.size := let ⟨_, hn, _⟩ := I.loc; hn.lt
theorem Inv.sz (I : Inv X pins σ H s) : X.s_0.heap.objs.size ≤ s.heap.objs.size := Nat.le_trans I.ok.above (Nat.le_of_lt I.lt)
theorem Inv.nofs (I : Inv X pins σ H s) {a : Addr} (h : s.heap.objs.size ≤ a) : a ∉ X.fs := fun hb => by
  obtain ⟨_, o, ho, _⟩ := I.ok.funs.mem hb
  exact absurd (Nat.lt_of_lt_of_le (Heap.lt_size ho) (Nat.le_trans I.sz h)) (Nat.lt_irrefl _)
theorem Inv.cne (I : Inv X pins σ H s) : ∀ x c, X.env.cells.lookup x = some c → c ≠ X.env.locals := fun x c e z => by
  obtain ⟨v, o, ho, hd⟩ := I.cell x c e
  obtain ⟨m, ⟨o', es, ep, ho', hd', _⟩, _⟩ := I.loc
  rw [z, ho'] at ho; cases ho; rw [hd'] at hd; cases hd
theorem Inv.funs (I : Inv X pins σ H s) : s.heap.FunFrames X.base X.outer := by
  have all : ∀ (l : List Env), (∀ b ∈ frs l, b ∈ X.fs) → X.s_0.heap.FunFrames X.base l → s.heap.FunFrames X.base l := by
    intro l
    induction l with
    | nil => intro _ _; trivial
    | cons env r ih =>
      intro hs hl
      obtain ⟨hk, ⟨L, o, hf, hn, ho, hd⟩, hr⟩ := hl
      have hL : L ∈ X.fs := hs L (by unfold frs; rw [List.filterMap_cons, hf]; exact List.mem_cons_self)
      obtain ⟨sl, e⟩ := I.base.slot L o ho (I.ok.frf L hL) hL fun z => I.ok.exfs L z hL
      exact ⟨hk, ⟨L, _, hf, hn, e, hd⟩, ih (fun b hb => hs b (by unfold frs; rw [List.filterMap_cons, hf]; exact List.mem_cons_of_mem _ hb)) hr⟩
  exact all X.outer (fun _ hb => hb) I.ok.funs

theorem Inv.stack (I : Inv X pins σ H s) : s.heap.FunFrames X.base X.stack := by
  rcases I.ok.stk with e | ⟨e, hf⟩
  · rw [e]; exact I.funs
  · rw [e]
    obtain ⟨m, hn, _⟩ := I.loc
    refine .cons (by rw [I.ok.kind]; decide) hf hn ?_ I.funs
    exact Heap.get?_none_of_le (Nat.le_trans I.ok.bsz I.ok.above)
theorem Inv.stkSub (I : Inv X pins σ H s) : ∀ b ∈ frs X.stack, b ∈ X.env.locals :: X.fs := fun b hb => by
  rcases I.ok.stk with e | ⟨e, hf⟩
  · rw [e] at hb; exact List.mem_cons_of_mem _ hb
  · rw [e] at hb
    unfold frs at hb
    rw [List.filterMap_cons, hf] at hb
    exact hb
theorem Inv.stkFree (I : Inv X pins σ H s) : ∀ b ∈ frs X.stack, H b = none := fun b hb => by
  rcases List.mem_cons.mp (I.stkSub b hb) with e | hb
  · rw [e]; exact I.free
  · obtain ⟨_, o, ho, _⟩ := I.ok.funs.mem hb
    exact I.base.free b o ho (I.ok.frf b hb) fun z => I.ok.exfs b z hb

theorem Inv.step {g' : Array GenState} {t' : Nat} {d' : Drawn} {ch : List Addr} (I : Inv X pins σ H s)
    (hch : ∀ b ∈ ch, (b ∈ X.ex ∨ X.s_0.heap.objs.size ≤ b) ∧ b ≠ X.env.locals ∧ (∀ x c, X.env.cells.lookup x = some c → c ≠ b) ∧ ∀ p ∈ X.pn ++ pins, p.1 ≠ b)
    (keep : ∀ b o, b ≠ X.env.locals → b ∉ X.fs → b ∉ ch → s.heap.get? b = some o → H b = none → h'.get? b = some o)
    (slot : ∀ b o, b ≠ X.env.locals → b ∈ X.fs → b ∉ ch → s.heap.get? b = some o → H b = none → ∃ sl, h'.get? b = some { o with slots := sl }) (free : ∀ b o, b ∉ ch → s.heap.get? b = some o → H b = none → H' b = none)
    (there : ∀ b o, b ∉ ch → s.heap.get? b = some o → ∃ o', h'.get? b = some o')
    (tups : ∀ b xs, H b = some (.tup xs) → H' b = some (.tup xs)) (frzs : ∀ b o u, H b = some (.frz o u) → H' b = some (.frz o u)) (tbls : ∀ b ps, H b = some (.tbl ps) → ∃ more, H' b = some (.tbl (ps ++ more)))
    (ns : ∀ m, s.heap.Ns X.env.locals m → h'.Ns X.env.locals m) (hok : HOk X.prog X.w H' h') (hg : AllBare g') :
    Inv X pins σ H' { s with heap := h', gens := g', drawn := d', toks := t' } := by
  have neL : ∀ b o, X.s_0.heap.get? b = some o → b ≠ X.env.locals := fun b o e => Nat.ne_of_lt (Nat.lt_of_lt_of_le (Heap.lt_size e) I.ok.above)
  have neC : ∀ b o, X.s_0.heap.get? b = some o → b ∉ X.ex → b ∉ ch := fun b o e hx hb => by
    rcases (hch b hb).1 with z | z
    · exact hx z
    · exact absurd (Nat.lt_of_lt_of_le (Heap.lt_size e) z) (Nat.lt_irrefl _)
  have cellK : ∀ x c, X.env.cells.lookup x = some c → ∀ v, s.heap.IsCell c v → h'.IsCell c v := fun x c e v ⟨o, ho, hd⟩ => by
    have nch : c ∉ ch := fun z => (hch c z).2.2.1 x c e rfl
    by_cases hc : c ∈ X.fs
    · obtain ⟨sl, q⟩ := slot c o (I.cne x c e) hc nch ho (I.freeC x c e)
      exact ⟨_, q, hd⟩
    · exact ⟨o, keep c o (I.cne x c e) hc nch ho (I.freeC x c e), hd⟩
  refine ⟨I.ok, I.os, hg, ⟨fun b o e n hb hx => ?_, fun b o e n hb hx => ?_, fun b o e n hx => ?_, fun b o e hx => ?_, fun b xs e => tups b xs (I.base.tups b xs e), fun b o xs e => frzs b o xs (I.base.frzs b o xs e), fun b ps e => ?_⟩, ?_, fun x c e => ?_, ?_, fun x c e => ?_, fun p hp => ?_, hok, I.len⟩
  · exact keep b o (neL b o e) hb (neC b o e hx) (I.base.keep b o e n hb hx) (I.base.free b o e n hx)
  · obtain ⟨sl, e1⟩ := I.base.slot b o e n hb hx
    obtain ⟨sl', e2⟩ := slot b _ (neL b o e) hb (neC b o e hx) e1 (I.base.free b o e n hx)
    exact ⟨sl', e2⟩
  · obtain ⟨o', e1⟩ := I.base.there b o e hx
    exact free b o' (neC b o e hx) e1 (I.base.free b o e n hx)
  · obtain ⟨o', e1⟩ := I.base.there b o e hx
    exact there b o' (neC b o e hx) e1
  · obtain ⟨m1, e1⟩ := I.base.tbls b ps e
    obtain ⟨m2, e2⟩ := tbls b _ e1
    exact ⟨m1 ++ m2, by rw [e2, Array.append_assoc]⟩
  · obtain ⟨m, hn, hl⟩ := I.loc
    refine ⟨m, ns m hn, fun i x v e1 e2 e3 => ?_⟩
    obtain ⟨u, r, l⟩ := hl i x v e1 e2 e3
    refine ⟨u, r, ?_⟩
    rcases l with l | ⟨k, c, e, z⟩
    · exact .inl l
    · exact .inr ⟨k, c, e, cellK x c e _ z⟩
  · obtain ⟨v, z⟩ := I.cell x c e
    exact ⟨v, cellK x c e v z⟩
  · obtain ⟨m, ⟨o, _, _, ho, _⟩, _⟩ := I.loc
    exact free _ o (fun z => (hch _ z).2.1 rfl) ho I.free
  · obtain ⟨v, o, ho, hd⟩ := I.cell x c e
    exact free c o (fun z => (hch c z).2.2.1 x c e rfl) ho (I.freeC x c e)
  · obtain ⟨e, n, ne, nf, d⟩ := I.pin p hp
    have nch : p.1 ∉ ch := fun z => (hch p.1 z).2.2.2 p hp rfl
    exact ⟨keep p.1 p.2 ne nf nch e n, free p.1 p.2 nch e n, ne, nf, d⟩
theorem Inv.un {t' : Nat} (I : Inv X pins σ H s) (u : Un X.fs [] H H' s.heap h') (hok : HOk X.prog X.w H' h') : Inv X pins σ H' { s with heap := h', toks := t' } := by
  obtain ⟨m, ⟨o, es, ep, ho, r⟩, _⟩ := id I.loc
  obtain ⟨sl, hL⟩ := u.any ho I.free (by simp)
  exact I.step (g' := s.gens) (d' := s.drawn) (ch := []) (fun _ z => nomatch z) (fun b o _ hb _ e n => u.keep b o e n hb (by simp)) (fun b o _ hb _ e n => u.slot b o e n hb (by simp)) (fun b o _ e n => u.free b o e n (by simp)) (fun b o _ e => u.there b o e (by simp)) u.tups u.frzs u.tbls (fun m' hm => by
    obtain ⟨o', es', ep', ho', r'⟩ := hm
    rw [ho] at ho'; cases ho'
    exact ⟨_, es', ep', hL, r'⟩) hok I.bare
theorem Inv.call {g' : Array GenState} {t' : Nat} {d' : Drawn} {ch : List Addr} (I : Inv X pins σ H s) (u : Un (frs X.stack) ch H H' s.heap h') (hok : HOk X.prog X.w H' h') (hg : AllBare g')
    (hch : ∀ b ∈ ch, (b ∈ X.ex ∨ X.s_0.heap.objs.size ≤ b) ∧ b ≠ X.env.locals ∧ (∀ x c, X.env.cells.lookup x = some c → c ≠ b) ∧ ∀ p ∈ X.pn ++ pins, p.1 ≠ b) :
    Inv X pins σ H' { s with heap := h', gens := g', drawn := d', toks := t' } := by
  obtain ⟨m, ⟨o, es, ep, ho, r⟩, _⟩ := id I.loc
  obtain ⟨sl, hL⟩ := u.any ho I.free fun z => (hch _ z).2.1 rfl
  exact I.step (ch := ch) hch (fun b o hL hb hc e n => u.keep b o e n (fun z => (List.mem_cons.mp (I.stkSub b z)).elim hL hb) hc) (fun b o _ _ hc e n => u.any e n hc) (fun b o hc e n => u.free b o e n hc) (fun b o hc e => u.there b o e hc) u.tups u.frzs u.tbls (fun m' hm => by
    obtain ⟨o', es', ep', ho', r'⟩ := hm
    rw [ho] at ho'; cases ho'
    exact ⟨_, es', ep', hL, r'⟩) hok hg
theorem Inv.turned {t' : Nat} {it : Addr} (I : Inv X pins σ H s) (k : ∀ b o, b ≠ it → s.heap.get? b = some o → h'.get? b = some o) (hn : H it = none) (hL : it ≠ X.env.locals)
    (h1 : it ∈ X.ex ∨ X.s_0.heap.objs.size ≤ it) (h2 : ∀ x c, X.env.cells.lookup x = some c → c ≠ it) (h3 : ∀ p ∈ X.pn ++ pins, p.1 ≠ it) : Inv X pins σ H { s with heap := h', toks := t' } := by
  have nit : ∀ b u, H b = some u → b ≠ it := fun b u e z => by rw [z, hn] at e; cases e
  refine I.step (g' := s.gens) (d' := s.drawn) (ch := [it]) (fun b hb => ?_) (fun b o _ _ hc e _ => k b o (fun z => hc (by simp [z])) e) (fun b o _ _ hc e _ => ⟨o.slots, k b o (fun z => hc (by simp [z])) e⟩) (fun _ _ _ _ n => n)
    (fun b o hc e => ⟨o, k b o (fun z => hc (by simp [z])) e⟩) (fun _ _ e => e) (fun _ _ _ e => e) (fun b ps e => ⟨#[], by rw [e]; simp⟩) (fun m hm => ?_) (fun b u e => ?_) I.bare
  · have e : b = it := by simpa using hb
    subst e
    exact ⟨h1, hL, h2, h3⟩
  · obtain ⟨o, es, ep, ho, r⟩ := hm
    exact ⟨o, es, ep, k _ o (Ne.symm hL) ho, r⟩
  · refine (I.hok b u e).stay (fun c v hc q => k c v ?_ q) (fun _ q => q) fun _ _ q => q
    rcases hc with z | z
    · rw [z]; exact nit b u e
    · exact nit c _ z
theorem Inv.tok (I : Inv X pins σ H s) (t : Nat) : Inv X pins σ H { s with toks := t } := I.un (h' := s.heap) (t' := t) Un.refl I.hok
theorem Inv.kept {t' : Nat} (I : Inv X pins σ H s) (k : ∀ b u, s.heap.get? b = some u → h'.get? b = some u) : Inv X pins σ H { s with heap := h', toks := t' } := I.un (Un.kept k) (I.hok.kept k)
theorem Inv.laid {a : Addr} {o : HO} {t' : Nat} (I : Inv X pins σ H s) (k : ∀ b u, s.heap.get? b = some u → h'.get? b = some u) (hp : s.heap.objs.size ≤ a) (new : ObjOk X.prog X.w (upd H a o) h' a o) :
    Inv X pins σ (upd H a o) { s with heap := h', toks := t' } := I.un (Un.laid k hp (I.hok.fresh hp)) (I.hok.laid k hp new)
theorem Inv.write {x e : Addr} {o : HO} {t' : Nat} (I : Inv X pins σ H s) (mu : Mut (H x)) (he : e = x ∨ H e = some (.own x)) (k : ∀ b u, b ≠ e → s.heap.get? b = some u → h'.get? b = some u) (heo : ∃ u, h'.get? e = some u)
    (new : ObjOk X.prog X.w (upd H x o) h' x o) : Inv X pins σ (upd H x o) { s with heap := h', toks := t' } := I.un (Un.write mu he k heo) (I.hok.write mu he k heo new)
theorem Inv.weak {σ' : List (Option V)} (I : Inv X pins σ H s) (hl : σ'.length = σ.length) (w : ∀ (i : Nat) v, σ'[i]? = some (some v) → σ[i]? = some (some v)) : Inv X pins σ' H s :=
  ⟨I.ok, I.os, I.bare, I.base, let ⟨m, hn, hl'⟩ := I.loc; ⟨m, hn, fun i x v e1 e2 e3 => hl' i x v e1 (w i v e2) e3⟩, I.cell, I.free, I.freeC, I.pin, I.hok, hl.trans I.len⟩
theorem Inv.pins_of {pins' : List (Addr × Obj)} (I : Inv X pins σ H s) (h : ∀ p ∈ pins', s.heap.get? p.1 = some p.2 ∧ H p.1 = none ∧ p.1 ≠ X.env.locals ∧ p.1 ∉ X.fs ∧ ∀ v, p.2.data ≠ .cell v) : Inv X pins' σ H s :=
  ⟨I.ok, I.os, I.bare, I.base, I.loc, I.cell, I.free, I.freeC, fun p hp => (List.mem_append.mp hp).elim (fun z => I.pin p (List.mem_append_left _ z)) (h p), I.hok, I.len⟩

theorem nodup_ix {N : List Str} (hN : N.Nodup) {i j : Nat} {x : Str} (a : N[i]? = some x) (b : N[j]? = some x) : i = j := by
  obtain ⟨h1, e1⟩ := List.getElem?_eq_some_iff.mp a
  obtain ⟨h2, e2⟩ := List.getElem?_eq_some_iff.mp b
  exact (List.getElem_inj hN).mp (e1.trans e2.symm)

theorem store_ok2 {M : Model} {A : Around} {E : Value → Shared → Prop} {i : Nat} {x : Str} {v : V} {u : Value} {Q : Unit → Shared → Prop} (I : Inv X pins σ H s) (hN : X.N.Nodup) (hi : X.N[i]? = some x) (hx : Loc X.env.scope x) (r : RelV v u)
    (h : ∀ s', Inv X pins (σ.set i (some v)) H s' → (∃ a, Heap.SameBut a s.heap s'.heap ∧ (a = X.env.locals ∨ X.env.cells.lookup x = some a)) → Q () s') (hf : X.fn x = true ∨ X.env.scope.names.lookup x = some .local := by first | exact .inl rfl | exact .inr rfl | assumption) : wpAny M A (storeName X.env x u) Q E s := by
  obtain ⟨m, hn, hl⟩ := id I.loc
  have hcls : (X.env.scope.kind == .class || (X.env.scope.kind == .module && X.env.locals != X.env.globals)) = false := by rw [I.ok.kind]; rfl
  have hiσ : i < σ.length := by rw [I.len]; exact (List.getElem?_eq_some_iff.mp hi).1
  have cne := I.cne
  have tracked : ∀ {a : Addr} {h' : Heap}, (∃ o, s.heap.get? a = some o ∧ H a = none) → Heap.SameBut a s.heap h' → HOk X.prog X.w H h' := fun {a h'} ha hs b ob e => by
    obtain ⟨_, _, hfree⟩ := ha
    refine (I.hok b ob e).stay (fun c w' hc q => (hs.2 c ?_).trans q) (fun _ q => q) fun _ _ q => q
    rintro rfl
    rcases hc with rfl | hc
    · rw [hfree] at e; cases e
    · rw [hfree] at hc; cases hc
  rcases hx with hk | hk
  · refine wpAny_storeName_local hk hn (fun h' hn' hs => ?_) hcls
    obtain ⟨oL, _, _, hoL, _⟩ := id hn
    refine h _ ⟨I.ok, I.os, I.bare, ⟨fun b o e n hb hx => ?_, fun b o e n hb hx => ?_, I.base.free, fun b o e hx => ?_, I.base.tups, I.base.frzs, I.base.tbls⟩, ⟨_, hn', fun j y v' e1 e2 e3 => ?_⟩, fun y c e => ?_, I.free, I.freeC, fun p hp => ?_, tracked ⟨oL, hoL, I.free⟩ hs, by simpa using I.len⟩ ⟨_, hs, .inl rfl⟩
    · exact (hs.2 b (Nat.ne_of_lt (Nat.lt_of_lt_of_le (Heap.lt_size e) I.ok.above))).trans (I.base.keep b o e n hb hx)
    · obtain ⟨sl, e1⟩ := I.base.slot b o e n hb hx
      exact ⟨sl, (hs.2 b (Nat.ne_of_lt (Nat.lt_of_lt_of_le (Heap.lt_size e) I.ok.above))).trans e1⟩
    · obtain ⟨o', e1⟩ := I.base.there b o e hx
      exact ⟨o', (hs.2 b (Nat.ne_of_lt (Nat.lt_of_lt_of_le (Heap.lt_size e) I.ok.above))).trans e1⟩
    · by_cases hj : j = i
      · subst hj
        rw [hi] at e1; cases e1
        rw [List.getElem?_set_self hiσ] at e2
        cases e2
        exact ⟨u, r, .inl ⟨hk, by simp⟩⟩
      · rw [List.getElem?_set_ne (Ne.symm hj)] at e2
        obtain ⟨u', r', q⟩ := hl j y v' e1 e2 e3
        refine ⟨u', r', ?_⟩
        rcases q with ⟨k, e⟩ | ⟨k, c, e, z⟩
        · refine .inl ⟨k, ?_⟩
          have : y ≠ x := fun e => hj (nodup_ix hN e1 (e ▸ hi))
          simp [this, e]
        · exact .inr ⟨k, c, e, z.sameBut hs (cne y c e)⟩
    · obtain ⟨w', z⟩ := I.cell y c e
      exact ⟨w', z.sameBut hs (cne y c e)⟩
    · obtain ⟨e, n, ne, nf, d⟩ := I.pin p hp
      exact ⟨(hs.2 p.1 ne).trans e, n, ne, nf, d⟩
  · have hfn : X.fn x = true := by
      rcases hf with z | z
      · exact z
      · rw [z] at hk; cases hk
    obtain ⟨c, hc⟩ := I.ok.has x (.inl hk)
    obtain ⟨w', z⟩ := I.cell x c hc
    refine wpAny_storeName_cell I.ok.kind hk hc z (fun h' hc' hs => ?_)
    obtain ⟨oc, hoc, hocd⟩ := id z
    refine h { s with heap := h' } ⟨I.ok, I.os, I.bare, ⟨fun b o e n hb hx => ?_, fun b o e n hb hx => ?_, I.base.free, fun b o e hx => ?_, I.base.tups, I.base.frzs, I.base.tbls⟩, ⟨m, hn.sameBut hs (Ne.symm (cne x c hc)), fun j y v' e1 e2 e3 => ?_⟩, fun y c' e => ?_, I.free, I.freeC, fun p hp => ?_, tracked ⟨oc, hoc, I.freeC x c hc⟩ hs, by simpa using I.len⟩ ⟨c, hs, .inr hc⟩
    · exact (hs.2 b (Nat.ne_of_lt (Nat.lt_of_lt_of_le (Heap.lt_size e) (I.ok.cab x c hfn hc)))).trans (I.base.keep b o e n hb hx)
    · obtain ⟨sl, e1⟩ := I.base.slot b o e n hb hx
      exact ⟨sl, (hs.2 b (Nat.ne_of_lt (Nat.lt_of_lt_of_le (Heap.lt_size e) (I.ok.cab x c hfn hc)))).trans e1⟩
    · obtain ⟨o', e1⟩ := I.base.there b o e hx
      exact ⟨o', (hs.2 b (Nat.ne_of_lt (Nat.lt_of_lt_of_le (Heap.lt_size e) (I.ok.cab x c hfn hc)))).trans e1⟩
    · by_cases hj : j = i
      · subst hj
        rw [hi] at e1; cases e1
        rw [List.getElem?_set_self hiσ] at e2
        cases e2
        exact ⟨u, r, .inr ⟨.inl hk, c, hc, hc'⟩⟩
      · rw [List.getElem?_set_ne (Ne.symm hj)] at e2
        obtain ⟨u', r', q⟩ := hl j y v' e1 e2 e3
        refine ⟨u', r', ?_⟩
        rcases q with q | ⟨k, c', e, z'⟩
        · exact .inl q
        · refine .inr ⟨k, c', e, z'.sameBut hs ?_⟩
          rintro rfl
          exact hj (nodup_ix hN e1 (I.ok.inj _ _ _ e hc ▸ hi))
    · by_cases hcc : c' = c
      · subst hcc; exact ⟨_, hc'⟩
      · obtain ⟨w2, z2⟩ := I.cell y c' e
        exact ⟨w2, z2.sameBut hs hcc⟩
    · obtain ⟨e, n, ne, nf, d⟩ := I.pin p hp
      refine ⟨(hs.2 p.1 ?_).trans e, n, ne, nf, d⟩
      intro q
      rw [q, hoc] at e
      have q' : oc = p.2 := Option.some.inj e
      exact d w' (by rw [← q']; exact hocd)
theorem store_ok {M : Model} {A : Around} {E : Value → Shared → Prop} {i : Nat} {x : Str} {v : V} {u : Value} {Q : Unit → Shared → Prop} (I : Inv X pins σ H s) (hN : X.N.Nodup) (hi : X.N[i]? = some x) (hx : Loc X.env.scope x) (r : RelV v u)
    (h : ∀ s', Inv X pins (σ.set i (some v)) H s' → Q () s') (hf : X.fn x = true ∨ X.env.scope.names.lookup x = some .local := by first | exact .inl rfl | exact .inr rfl | assumption) : wpAny M A (storeName X.env x u) Q E s :=
  store_ok2 I hN hi hx r (fun s' I' _ => h s' I') hf
theorem Inv.call' {s' : Shared} {ch : List Addr} (I : Inv X pins σ H s) (ho : s'.os = s.os) (u : Un (frs X.stack) ch H H' s.heap s'.heap) (hok : HOk X.prog X.w H' s'.heap) (hg : AllBare s'.gens)
    (hch : ∀ b ∈ ch, (b ∈ X.ex ∨ X.s_0.heap.objs.size ≤ b) ∧ b ≠ X.env.locals ∧ (∀ x c, X.env.cells.lookup x = some c → c ≠ b) ∧ ∀ p ∈ X.pn ++ pins, p.1 ≠ b) : Inv X pins σ H' s' := by
  obtain ⟨h', g', d', t', o'⟩ := s'
  have e : o' = s.os := ho
  subst e
  exact I.call (g' := g') (t' := t') (d' := d') u hok hg hch
end

abbrev XK := Value → Option Addr → Hp → Prop
abbrev St := List (Option V)
abbrev VK := V → Hp → Prop
abbrev TE := St → Hp → VK → Prop
abbrev TT := St → Hp → (Bool → Hp → Prop) → Prop
abbrev TA := St → Hp → (List V → Hp → Prop) → Prop
structure Ends where
  nx : St → Hp → Prop
  rt : VK
  bk : St → Hp → Prop := fun _ _ => False
  ct : St → Hp → Prop := fun _ _ => False
abbrev TS := Ends → St → Hp → Prop

def EP (X : Cx) (pins : List (Addr × Obj)) (σ : St) (Q : VK) (u : Value) (s' : Shared) : Prop := ∃ v H', Inv X pins σ H' s' ∧ RelV v u ∧ Q v H'
def TP (X : Cx) (pins : List (Addr × Obj)) (σ : St) (Q : Bool → Hp → Prop) (b : Bool) (s' : Shared) : Prop := ∃ H', Inv X pins σ H' s' ∧ Q b H'
def AP (X : Cx) (pins : List (Addr × Obj)) (σ : St) (Q : List V → Hp → Prop) (us : List Value) (s' : Shared) : Prop := ∃ vs H', Inv X pins σ H' s' ∧ Vals vs us ∧ Q vs H'
def SP (X : Cx) (pins : List (Addr × Obj)) (D : Ends) (f : Flow) (s' : Shared) : Prop :=
  match f with
  | .next => ∃ σ' H', Inv X pins σ' H' s' ∧ D.nx σ' H'
  | .brk => ∃ σ' H', Inv X pins σ' H' s' ∧ D.bk σ' H'
  | .cont => ∃ σ' H', Inv X pins σ' H' s' ∧ D.ct σ' H'
  | .ret u => ∃ v σ' H', Inv X pins σ' H' s' ∧ RelV v u ∧ D.rt v H'

def PE (X : Cx) (e : Expr) (t : TE) : Prop :=
  ∀ (pins : List (Addr × Obj)) (s : Shared) (σ : St) (H : Hp) (Q : VK), Inv X pins σ H s → t σ H Q → wpAny (model X.prog X.w) X.A (eval e X.env) (EP X pins σ Q) X.xe s
def PT (X : Cx) (e : Expr) (t : TT) : Prop :=
  ∀ (pins : List (Addr × Obj)) (s : Shared) (σ : St) (H : Hp) (Q : Bool → Hp → Prop), Inv X pins σ H s → t σ H Q → wpAny (model X.prog X.w) X.A (isTrue e X.env (eval e X.env)) (TP X pins σ Q) X.xe s
def PW (X : Cx) (e : Expr) (t : TT) : Prop :=
  ∀ (whole : Sem Value) (pins : List (Addr × Obj)) (s : Shared) (σ : St) (H : Hp) (Q : Bool → Hp → Prop), Inv X pins σ H s → t σ H Q → wpAny (model X.prog X.w) X.A (isTrue e X.env whole) (TP X pins σ Q) X.xe s
theorem PW.pt {X : Cx} {e : Expr} {t : TT} (h : PW X e t) : PT X e t := h _
def PA (X : Cx) (es : List Expr) (t : TA) : Prop :=
  ∀ (pos : Pos) (pins : List (Addr × Obj)) (s : Shared) (σ : St) (H : Hp) (Q : List V → Hp → Prop), Inv X pins σ H s → t σ H Q → wpAny (model X.prog X.w) X.A (spliced (backTo pos (starEach es X.env))) (AP X pins σ Q) X.xe s
def PS (X : Cx) (st : Stmt) (t : TS) : Prop :=
  ∀ (pins : List (Addr × Obj)) (s : Shared) (σ : St) (H : Hp) (D : Ends), Inv X pins σ H s → t D σ H → wpAny (model X.prog X.w) X.A (exec st X.env) (SP X pins D) X.xe s
def PSs (X : Cx) (st : List Stmt) (t : TS) : Prop :=
  ∀ (pins : List (Addr × Obj)) (s : Shared) (σ : St) (H : Hp) (D : Ends), Inv X pins σ H s → t D σ H → wpAny (model X.prog X.w) X.A (execs st X.env) (SP X pins D) X.xe s
theorem thn {α : Type} {t : Sem α} {Q Q' : α → Shared → Prop} {M : Model} {A : Around} {E : Value → Shared → Prop} {s : Shared} (h : wpAny M A t Q E s) (hQ : ∀ a s, Q a s → Q' a s) : wpAny M A t Q' E s := wpAny_mono h hQ fun _ _ x => x
end L2

namespace L2
open PySem PySem.Spec PyProof.Rows
section
variable {X : Cx}

theorem bin {a b : Expr} {ta tb : TE} (ha : PE X a ta) (hb : PE X b tb) {pins : List (Addr × Obj)} {s : Shared} {σ : St} {H : Hp} {R : V → V → Hp → Prop} (I : Inv X pins σ H s) (h : ta σ H fun x H1 => tb σ H1 fun y H2 => R x y H2)
    {α : Type} {Q : α → Shared → Prop} {f : Value → Value → Sem α}
    (hf : ∀ v u s2 x y H2, Inv X pins σ H2 s2 → RelV x v → RelV y u → R x y H2 → wpAny (model X.prog X.w) X.A (f v u) Q X.xe s2) :
    wpAny (model X.prog X.w) X.A (eval a X.env) (fun v s₁ => wpAny (model X.prog X.w) X.A (eval b X.env) (fun u s₂ => wpAny (model X.prog X.w) X.A (f v u) Q X.xe s₂) X.xe s₁) X.xe s := by
  refine thn (ha pins s σ H _ I h) fun v s1 ⟨x, H1, I1, r1, q1⟩ => ?_
  refine thn (hb pins s1 σ H1 _ I1 q1) fun u s2 ⟨y, H2, I2, r2, q2⟩ => ?_
  exact hf v u s2 x y H2 I2 r1 r2 q2

def tVar (i : Nat) : TE := fun σ H Q => ∃ v, σ[i]? = some (some v) ∧ Q v H
def tC (v : V) : TE := fun _ H Q => Q v H
theorem pe_var {i : Nat} {x : Str} {pos : Pos} (hN : X.N[i]? = some x) (hv : Vis X.env.scope x) (hd : (x == ("__debug__" : Str)) = false := by decide) (hcd : (x == ("__classdict__" : Str)) = false := by decide) : PE X (.Name x pos) (tVar i) := by
  intro pins s σ H Q I h
  obtain ⟨v, e, h⟩ := h
  obtain ⟨m, hn, hl⟩ := I.loc
  obtain ⟨u, r, l⟩ := hl i x v hN e hv
  have fin : EP X pins σ Q u s := ⟨v, H, I, r, h⟩
  rcases l with ⟨hk, hm⟩ | ⟨hk, c, hc, hcell⟩
  · exact wpAny_Name (wpAny_loadName_local I.ok.kind hk hn hm fin) hd
  · rcases hk with hk | hk
    · exact wpAny_Name (wpAny_loadName_cell I.ok.kind hk hc hcell fin) hd
    · exact wpAny_Name (wpAny_loadName_free I.ok.kind hk hc hcell fin hcd) hd
theorem pe_int {i j pos} : PE X (.Constant (.int i) j pos) (tC (.int i)) := fun _ _ _ H _ I h => wpAny_Constant_int ⟨.int i, H, I.tok _, ⟨_, rfl⟩, h⟩
def Gl (X : Cx) (x : Str) : Prop := X.env.kindOf x = some .globalImplicit
theorem ld_glob {E : Value → Shared → Prop} {pins : List (Addr × Obj)} {s : Shared} {σ : St} {H : Hp} {x : Str} {u : Value} {pos : Pos} {Q : Value → Shared → Prop} (I : Inv X pins σ H s) (hg : Gl X x) (hm : X.mg x = some u) (h : Q u s)
    (hd : (x == ("__debug__" : Str)) = false := by decide) : wpAny (model X.prog X.w) X.A (eval (.Name x pos) X.env) Q E s :=
  Calls.Name_function_global I.ok.kind hg (Calls.loadGlobal_global (by rw [I.ok.glob]; exact I.mod.glob.keeps I.bk) hm h) hd
theorem ld_blt {E : Value → Shared → Prop} {pins : List (Addr × Obj)} {s : Shared} {σ : St} {H : Hp} {x : Str} {u : Value} {pos : Pos} {Q : Value → Shared → Prop} (I : Inv X pins σ H s) (hg : Gl X x) (hm : X.mg x = none) (hv : bootBuiltins x = some u) (h : Q u s)
    (hn : x ≠ "__name__" := by decide) (hd : (x == ("__debug__" : Str)) = false := by decide) : wpAny (model X.prog X.w) X.A (eval (.Name x pos) X.env) Q E s := by
  obtain ⟨mb, h1, h2⟩ := I.mod.blt
  exact Calls.Name_function_global I.ok.kind hg (Calls.loadGlobal_builtin (by rw [I.ok.glob]; exact I.mod.glob.keeps I.bk) hm (by rw [I.ok.blt]; exact h1.keeps I.bk) ((h2 x hn).trans hv) h) hd
theorem pe_glob {x : Str} {v : V} {u : Value} {pos : Pos} (hg : Gl X x) (hm : X.mg x = some u) (r : RelV v u) (hd : (x == ("__debug__" : Str)) = false := by decide) : PE X (.Name x pos) (tC v) :=
  fun _ _ _ H _ I h => ld_glob I hg hm ⟨v, H, I, r, h⟩ hd
variable {a b : Expr} {ta tb : TE} {pos : Pos}
def PC (X : Cx) (op : CmpOp) (a b : Expr) (t : TE) : Prop :=
  ∀ (pins : List (Addr × Obj)) (s : Shared) (σ : St) (H : Hp) (Q : VK), Inv X pins σ H s → t σ H Q →
    wpAny (model X.prog X.w) X.A (eval a X.env) (fun v s₁ => wpAny (model X.prog X.w) X.A (eval b X.env) (fun u s₂ => wpAny (model X.prog X.w) X.A (compareOp op v u) (EP X pins σ Q) X.xe s₂) X.xe s₁) X.xe s
theorem nobehind (b : Expr) {op : CmpOp} (h : op ≠ .In) (h2 : op ≠ .NotIn) : behindInMarks op b = false := by
  have e1 : (op == CmpOp.In) = false := by cases op <;> first | rfl | exact absurd rfl h
  have e2 : (op == CmpOp.NotIn) = false := by cases op <;> first | rfl | exact absurd rfl h2
  cases b <;> simp [behindInMarks, e1, e2]
def tB (t : TE) : TT := fun σ H Q => t σ H fun x H1 => ∃ c, x = .bl c ∧ Q c H1
theorem pt_cmp {op : CmpOp} {t : TE} (h : PC X op a b t) (h1 : behindInMarks op b = false := by first | exact nobehind _ (by decide) (by decide) | rfl) : PT X (.Compare a [op] [b] pos) (tB t) := by
  intro pins s σ H Q I hw
  refine wpAny_isTrue_Compare1 (thn (h pins s σ H _ I hw) fun v s1 h1 => thn h1 fun u s2 h2 => thn h2 fun c s3 ⟨x, H1, I1, r1, q1⟩ => ?_) h1
  obtain ⟨d, rfl, q⟩ := q1
  cases r1
  exact wpAny_truthy_bool ⟨H1, I1, q⟩
theorem pt_val {e : Expr} {t : TE} (h : PE X e t) (he : ∀ whole, isTrue e X.env whole = (do let v ← whole; standAt e.pos; holding [v] (truthy v)) := by intro _; rfl) : PT X e (tB t) := by
  intro pins s σ H Q I hw
  refine isTrue_plain (thn (h pins s σ H _ I hw) fun v s1 ⟨x, H1, I1, r1, q1⟩ => ?_) (he _)
  obtain ⟨d, rfl, q⟩ := q1
  cases r1
  exact wpAny_truthy_bool ⟨H1, I1, q⟩

variable {tA tB' : TT} {rest : List Expr}
def tAnd (t u : TT) : TT := fun σ H Q => t σ H fun c H1 => if c = true then u σ H1 Q else Q false H1
def tOr (t u : TT) : TT := fun σ H Q => t σ H fun c H1 => if c = true then Q true H1 else u σ H1 Q
def tNot (t : TT) : TT := fun σ H Q => t σ H fun c H1 => Q (!c) H1
theorem pw_and1 (ha : PT X a tA) : PW X (.BoolOp .And [a] pos) tA := by
  intro wh pins s σ H Q I h
  refine isTrue_and (thn (ha pins s σ H Q I h) fun c s1 e => ?_)
  cases c with
  | true => exact isTrue_and_nil e
  | false => exact e
theorem pw_or1 (ha : PT X a tA) : PW X (.BoolOp .Or [a] pos) tA := by
  intro wh pins s σ H Q I h
  refine isTrue_or (thn (ha pins s σ H Q I h) fun c s1 e => ?_)
  cases c with
  | false => exact isTrue_or_nil e
  | true => exact e
theorem pw_and (ha : PT X a tA) (hb : PW X (.BoolOp .And (b :: rest) pos) tB') : PW X (.BoolOp .And (a :: b :: rest) pos) (tAnd tA tB') := by
  intro wh pins s σ H Q I h
  refine isTrue_and (thn (ha pins s σ H _ I h) fun c s1 ⟨H1, I1, q1⟩ => ?_)
  cases c with
  | true => exact hb wh pins s1 σ H1 Q I1 q1
  | false => exact ⟨H1, I1, q1⟩
theorem pw_or (ha : PT X a tA) (hb : PW X (.BoolOp .Or (b :: rest) pos) tB') : PW X (.BoolOp .Or (a :: b :: rest) pos) (tOr tA tB') := by
  intro wh pins s σ H Q I h
  refine isTrue_or (thn (ha pins s σ H _ I h) fun c s1 ⟨H1, I1, q1⟩ => ?_)
  cases c with
  | true => exact ⟨H1, I1, q1⟩
  | false => exact hb wh pins s1 σ H1 Q I1 q1
theorem pt_not (ha : PT X a tA) : PT X (.UnaryOp .Not a pos) (tNot tA) := by
  intro pins s σ H Q I h
  exact isTrue_not (ha pins s σ H (fun c H1 => Q (!c) H1) I h)
def tAndV (ta tb : TE) : TE := fun σ H Q => ta σ H fun x H1 => ∃ c, x = .bl c ∧ if c = true then tb σ H1 Q else Q (.bl false) H1
def tOrV (ta tb : TE) : TE := fun σ H Q => ta σ H fun x H1 => ∃ c, x = .bl c ∧ if c = true then Q (.bl true) H1 else tb σ H1 Q
theorem pe_one {op} {t : TE} (h : PE X a t) : PE X (.BoolOp op [a] pos) t := fun pins s σ H Q I hw => BoolOp_one (h pins s σ H Q I hw)
theorem pe_and (ha : PE X a ta) (hb : PE X (.BoolOp .And (b :: rest) pos) tb) : PE X (.BoolOp .And (a :: b :: rest) pos) (tAndV ta tb) := by
  intro pins s σ H Q I h
  refine BoolOp_and (thn (ha pins s σ H _ I h) fun v s1 ⟨x, H1, I1, r1, q1⟩ => ?_)
  obtain ⟨c, rfl, q1⟩ := q1
  cases r1
  refine wpAny_truthy_bool ?_
  cases c with
  | true => exact hb pins s1 σ H1 Q I1 q1
  | false => exact ⟨.bl false, H1, I1, rfl, q1⟩
theorem pe_or (ha : PE X a ta) (hb : PE X (.BoolOp .Or (b :: rest) pos) tb) : PE X (.BoolOp .Or (a :: b :: rest) pos) (tOrV ta tb) := by
  intro pins s σ H Q I h
  refine BoolOp_or (thn (ha pins s σ H _ I h) fun v s1 ⟨x, H1, I1, r1, q1⟩ => ?_)
  obtain ⟨c, rfl, q1⟩ := q1
  cases r1
  refine wpAny_truthy_bool ?_
  cases c with
  | false => exact hb pins s1 σ H1 Q I1 q1
  | true => exact ⟨.bl true, H1, I1, rfl, q1⟩
def tIf (t : TT) (ta tb : TE) : TE := fun σ H Q => t σ H fun c H1 => if c = true then ta σ H1 Q else tb σ H1 Q
theorem pe_ifExp {c : Expr} (hc : PT X c tA) (ha : PE X a ta) (hb : PE X b tb) : PE X (.IfExp c a b pos) (tIf tA ta tb) := by
  intro pins s σ H Q I h
  refine wpAny_IfExp (thn (hc pins s σ H _ I h) fun d s1 ⟨H1, I1, q1⟩ => ?_)
  cases d with
  | true => exact ha pins s1 σ H1 Q I1 q1
  | false => exact hb pins s1 σ H1 Q I1 q1
end
end L2

namespace L2
open PySem PySem.Spec PyProof.Rows

def SqL (K : PySem.W.Frag) (H : Hp) (a : Addr) (xs : List V) : Prop :=
  Rd H a (.lst xs) ∨
    ∃ (o : Obj) (its : Array Value) (n : Nat), K.lookup a = some o ∧ o.cls = .type "list" ∧ o.dict = none ∧ o.data = .seq its n ∧ its.size ≤ sizeLine ∧ Vals xs its.toList
def SqT (K : PySem.W.Frag) (H : Hp) (a : Addr) (xs : List V) : Prop :=
  Rd H a (.tup xs) ∨
    ∃ (o : Obj) (its : Array Value) (n : Nat), K.lookup a = some o ∧ o.cls = .type "tuple" ∧ o.data = .seq its n ∧ its.size ≤ sizeLine ∧ Vals xs its.toList
def absV : Value → Option V
  | .none => some .non
  | .bool b => some (.bl b)
  | .int i _ => some (.int i)
  | .str x _ => some (.str x)
  | .bytes b _ => some (.byt b)
  | .float b _ => some (.flt b)
  | .ref a => some (.ref a)
  | .type n => some (.ty n)
  | _ => none
theorem RelV.abs {x : V} {u : Value} (r : RelV x u) : absV u = some x := by
  cases x with
  | non => cases r; rfl
  | bl _ => cases r; rfl
  | int _ => obtain ⟨t, rfl⟩ := r; rfl
  | str _ => obtain ⟨t, rfl⟩ := r; rfl
  | byt _ => obtain ⟨t, rfl⟩ := r; rfl
  | flt _ => obtain ⟨t, rfl⟩ := r; rfl
  | ref _ => cases r; rfl
  | ty _ => cases r; rfl
theorem RelV.inj {x y : V} {u : Value} (r : RelV x u) (q : RelV y u) : x = y := Option.some.inj (r.abs.symm.trans q.abs)
theorem Vals.inj : ∀ {xs ys : List V} {us : List Value}, Vals xs us → Vals ys us → xs = ys
  | _, _, _, .nil, .nil => rfl
  | _, _, _, .cons r t, .cons r' t' => by rw [r.inj r', Vals.inj t t']
section
variable {X : Cx} {pins : List (Addr × Obj)} {σ : St} {H : Hp} {s : Shared} {a : Addr} {xs ys : List V}
theorem SqL.of {K : PySem.W.Frag} (h : H a = some (.lst xs)) : SqL K H a xs := .inl (.inl h)
theorem SqT.of {K : PySem.W.Frag} (h : H a = some (.tup xs)) : SqT K H a xs := .inl (.inl h)
theorem Inv.list (I : Inv X pins σ H s) (h : SqL X.K H a xs) : ∃ its : List Value, Vals xs its ∧ PlainL s.heap a its.toArray ∧ xs.length ≤ sizeLine := by
  rcases h with h | ⟨o, its, n, hk, hc, hd, hs, hz, r⟩
  · obtain ⟨z, its, n, r, e⟩ := h.ok I.hok
    exact ⟨its, r, ⟨_, n, e, rfl, rfl, rfl⟩, z⟩
  · refine ⟨its.toList, r, ⟨o, n, I.kIn a o hk, hc, hd, by simpa using hs⟩, ?_⟩
    have e := r.length
    simp only [Array.length_toList] at e
    omega
theorem Inv.tuple (I : Inv X pins σ H s) (h : SqT X.K H a xs) : ∃ its : List Value, Vals xs its ∧ IsTup s.heap a its.toArray ∧ xs.length ≤ sizeLine := by
  rcases h with h | ⟨o, its, n, hk, hc, hs, hz, r⟩
  · obtain ⟨z, its, r, p⟩ := h.ok I.hok
    exact ⟨its, r, p, z⟩
  · refine ⟨its.toList, r, ⟨o, I.kIn a o hk, hc, n, by simpa using hs⟩, ?_⟩
    have e := r.length
    simp only [Array.length_toList] at e
    omega
theorem Inv.list_inj (I : Inv X pins σ H s) (h : SqL X.K H a xs) (h' : SqL X.K H a ys) : xs = ys := by
  obtain ⟨its, r, ⟨o, n, e, _, _, d⟩, _⟩ := I.list h
  obtain ⟨its', r', ⟨o', n', e', _, _, d'⟩, _⟩ := I.list h'
  rw [e] at e'; cases e'
  rw [d] at d'
  injection d' with d1 _
  have : its = its' := by simpa using congrArg Array.toList d1
  subst this
  exact r.inj r'
end

abbrev Cx.wish (X : Cx) (E : Value → Shared → Prop) : Cx := { X with xe := E }
abbrev Cx.nox (X : Cx) : Cx := X.wish fun _ _ => False
theorem Cx.Ok.wish {X : Cx} (ok : X.Ok) (E : Value → Shared → Prop) : (X.wish E).Ok :=
  ⟨ok.mod, ok.kind, ok.glob, ok.blt, ok.above, ok.inj, ok.has, ok.cab, ok.hd, ok.frames, ok.stk, ok.exf, ok.bs, ok.bsz, ok.noex, ok.exfs, ok.funs, ok.frf⟩
theorem Cx.Ok.unwish {X : Cx} {E : Value → Shared → Prop} (ok : (X.wish E).Ok) : X.Ok :=
  ⟨ok.mod, ok.kind, ok.glob, ok.blt, ok.above, ok.inj, ok.has, ok.cab, ok.hd, ok.frames, ok.stk, ok.exf, ok.bs, ok.bsz, ok.noex, ok.exfs, ok.funs, ok.frf⟩
section
variable {X : Cx} {pins : List (Addr × Obj)} {σ : St} {H : Hp} {s : Shared} {E : Value → Shared → Prop}
theorem Inv.wish (I : Inv X pins σ H s) (E : Value → Shared → Prop) : Inv (X.wish E) pins σ H s := ⟨I.ok.wish E, I.os, I.bare, I.base, I.loc, I.cell, I.free, I.freeC, I.pin, I.hok, I.len⟩
theorem Inv.unwish (I : Inv (X.wish E) pins σ H s) : Inv X pins σ H s := ⟨I.ok.unwish, I.os, I.bare, I.base, I.loc, I.cell, I.free, I.freeC, I.pin, I.hok, I.len⟩
theorem SP.unwish {D : Ends} {f : Flow} {s' : Shared} (h : SP (X.wish E) pins D f s') : SP X pins D f s' := by
  cases f with
  | next => obtain ⟨σ', H', I, q⟩ := h; exact ⟨σ', H', I.unwish, q⟩
  | brk => obtain ⟨σ', H', I, q⟩ := h; exact ⟨σ', H', I.unwish, q⟩
  | cont => obtain ⟨σ', H', I, q⟩ := h; exact ⟨σ', H', I.unwish, q⟩
  | ret u => obtain ⟨v, σ', H', I, r, q⟩ := h; exact ⟨v, σ', H', I.unwish, r, q⟩
theorem PE.nox {e : Expr} {t : TE} (h : PE X.nox e t) : PE X e t := fun pins s σ H Q I hw =>
  wpAny_mono (h pins s σ H Q (I.wish _) hw) (fun _ _ ⟨v, H', I', r, q⟩ => ⟨v, H', I'.unwish, r, q⟩) fun _ _ z => False.elim z
theorem PT.nox {e : Expr} {t : TT} (h : PT X.nox e t) : PT X e t := fun pins s σ H Q I hw =>
  wpAny_mono (h pins s σ H Q (I.wish _) hw) (fun _ _ ⟨H', I', q⟩ => ⟨H', I'.unwish, q⟩) fun _ _ z => False.elim z
theorem PSs.nox {st : List Stmt} {t : TS} (h : PSs X.nox st t) : PSs X st t := fun pins s σ H D I hw =>
  wpAny_mono (h pins s σ H D (I.wish _) hw) (fun _ _ q => q.unwish) fun _ _ z => False.elim z
end

section
variable {X : Cx} {st : Stmt} {rest : List Stmt} {t u : TS} {e : Expr} {te : TE} {pos : Pos}
def tNext : TS := fun D σ H => D.nx σ H
def tSeq (t u : TS) : TS := fun D σ H => t { D with nx := u D } σ H
theorem pss_nil : PSs X [] tNext := fun _ _ σ H _ I h => wpAny_execs_nil ⟨σ, H, I, h⟩
theorem pss_cons (h1 : PS X st t) (h2 : PSs X rest u) : PSs X (st :: rest) (tSeq t u) := by
  intro pins s σ H D I h
  refine wpAny_execs_cons (thn (h1 pins s σ H { D with nx := u D } I h) fun f s1 q => ?_)
  cases f with
  | next =>
    obtain ⟨σ', H', I', q⟩ := q
    exact h2 pins s1 σ' H' D I' q
  | ret v => exact q
  | brk => exact q
  | cont => exact q
theorem pss_one (h1 : PS X st t) : PSs X [st] t := by
  intro pins s σ H D I h
  refine wpAny_execs_cons (thn (h1 pins s σ H D I h) fun f s1 q => ?_)
  cases f with
  | next => exact wpAny_execs_nil q
  | ret v => exact q
  | brk => exact q
  | cont => exact q
theorem Inv.quiet {pins : List (Addr × Obj)} {σ : St} {H : Hp} {s : Shared} (I : Inv X pins σ H s) : interactive X.env = false := by simp [interactive, I.ok.kind]
def tDrop (te : TE) : TS := fun D σ H => te σ H fun _ H1 => D.nx σ H1
theorem ps_expr (he : PE X e te) (hs : swapsWith e none pos.line X.env = pure false := by rfl) : PS X (.Expr e pos) (tDrop te) := by
  intro pins s σ H D I h
  exact wpAny_Expr_any (thn (he pins s σ H _ I h) fun v s1 ⟨x, H1, I1, r1, q1⟩ => ⟨σ, H1, I1, q1⟩) I.quiet hs
def tRet (te : TE) : TS := fun D σ H => te σ H D.rt
theorem ps_ret (he : PE X e te) : PS X (.Return (some e) pos) (tRet te) := by
  intro pins s σ H D I h
  exact wpAny_Return_some (thn (he pins s σ H _ I h) fun v s1 ⟨x, H1, I1, r1, q1⟩ => ⟨x, σ, H1, I1, r1, q1⟩)
def tIfS (c : TT) (t u : TS) : TS := fun D σ H => c σ H fun b H1 => if b = true then t D σ H1 else u D σ H1
theorem ps_if {c : Expr} {a b : List Stmt} {tc : TT} (hc : PT X c tc) (ha : PSs X a t) (hb : PSs X b u) : PS X (.If c a b pos) (tIfS tc t u) := by
  intro pins s σ H D I h
  refine wpAny_If (thn (hc pins s σ H _ I h) fun d s1 ⟨H1, I1, q1⟩ => ?_)
  cases d with
  | true => exact ha pins s1 σ H1 D I1 q1
  | false => exact hb pins s1 σ H1 D I1 q1
def tNever : TS := fun _ _ _ => False
theorem pss_never {sts : List Stmt} : PSs X sts tNever := fun _ _ _ _ _ _ h => h.elim
end

abbrev TG := V → St → Hp → (St → Hp → Prop) → Prop
def PG (X : Cx) (target : Expr) (t : TG) : Prop :=
  ∀ (pins : List (Addr × Obj)) (s : Shared) (σ : St) (H : Hp) (v : V) (u : Value) (Q : St → Hp → Prop), Inv X pins σ H s → RelV v u → t v σ H Q →
    wpAny (model X.prog X.w) X.A (assign target X.env u) (fun _ s' => ∃ σ' H', Inv X pins σ' H' s' ∧ Q σ' H') X.xe s
abbrev TIp := V → V → Hp → VK → Prop
def PIp (X : Cx) (op : Operator) (t : TIp) : Prop :=
  ∀ (pins : List (Addr × Obj)) (s : Shared) (σ : St) (H : Hp) (x y : V) (v u : Value) (Q : VK), Inv X pins σ H s → RelV x v → RelV y u → t x y H Q →
    wpAny (model X.prog X.w) X.A (inplaceOp op v u) (EP X pins σ Q) X.xe s
section
variable {X : Cx} {pos : Pos}
def gName (i : Nat) : TG := fun v σ H Q => Q (σ.set i (some v)) H
theorem pg_name {i : Nat} {x : Str} (hN : X.N.Nodup) (hi : X.N[i]? = some x) (hx : Loc X.env.scope x) (hf : X.fn x = true ∨ X.env.scope.names.lookup x = some .local := by first | exact .inl rfl | exact .inr rfl | assumption) : PG X (.Name x pos) (gName i) := by
  intro pins s σ H v u Q I r h
  exact wpAny_assign_Name (store_ok I hN hi hx r (fun s' I' => ⟨_, H, I', h⟩) hf)
def tAsg (te : TE) (g : TG) : TS := fun D σ H => te σ H fun x H1 => g x σ H1 D.nx
theorem ps_set {i : Nat} {x : Str} {e : Expr} {te : TE} {pos' : Pos} (hN : X.N.Nodup) (hi : X.N[i]? = some x) (hx : Loc X.env.scope x) (he : PE X e te) (hs : swapsWith e (some (.Name x pos')) pos.line X.env = pure false := by rfl) (hf : X.fn x = true ∨ X.env.scope.names.lookup x = some .local := by first | exact .inl rfl | exact .inr rfl | assumption) :
    PS X (.Assign [.Name x pos'] e pos) (tAsg te (gName i)) := by
  intro pins s σ H D I h
  refine wpAny_Assign_Name (thn (he pins s σ H _ I h) fun v s1 ⟨y, H1, I1, r1, q1⟩ => ?_) hs
  exact store_ok I1 hN hi hx r1 (fun s2 I2 => ⟨_, H1, I2, q1⟩) hf
def tAug (i : Nat) (te : TE) (ti : TIp) : TS := fun D σ H => ∃ x, σ[i]? = some (some x) ∧ te σ H fun y H1 => ti x y H1 fun z H2 => D.nx (σ.set i (some z)) H2
theorem ps_aug {i : Nat} {x : Str} {e : Expr} {te : TE} {op : Operator} {ti : TIp} {pos' : Pos} (hN : X.N.Nodup) (hi : X.N[i]? = some x) (hx : Loc X.env.scope x) (he : PE X e te) (ho : PIp X op ti) (hf : X.fn x = true ∨ X.env.scope.names.lookup x = some .local := by first | exact .inl rfl | exact .inr rfl | assumption) :
    PS X (.AugAssign (.Name x pos') op e pos) (tAug i te ti) := by
  intro pins s σ H D I h
  obtain ⟨v, e1, h⟩ := h
  obtain ⟨m, hn, hl⟩ := I.loc
  have vis : Vis X.env.scope x := by rcases hx with k | k; exact .inl k; exact .inr (.inl k)
  obtain ⟨u, r, l⟩ := hl i x v hi e1 vis
  refine wpAny_AugAssign_Name ?_
  have go : wpAny (model X.prog X.w) X.A (eval e X.env) (fun w s₂ => wpAny (model X.prog X.w) X.A (inplaceOp op u w) (fun r s₃ => wpAny (model X.prog X.w) X.A (storeName X.env x r) (fun _ => SP X pins D .next) X.xe s₃) X.xe s₂) X.xe s := by
    refine thn (he pins s σ H _ I h) fun w s1 ⟨y, H1, I1, r1, q1⟩ => ?_
    refine thn (ho pins s1 σ H1 v y u w _ I1 r r1 q1) fun z s2 ⟨zv, H2, I2, r2, q2⟩ => ?_
    exact store_ok I2 hN hi hx r2 (fun s3 I3 => ⟨_, H2, I3, q2⟩) hf
  rcases l with ⟨hk, hm⟩ | ⟨hk, c, hc, hcell⟩
  · exact wpAny_loadName_local I.ok.kind hk hn hm go
  · rcases hk with hk | hk
    · exact wpAny_loadName_cell I.ok.kind hk hc hcell go
    · rcases hx with k | k
      · have : X.env.scope.names.lookup x = some .free := hk
        rw [k] at this; cases this
      · have : X.env.scope.names.lookup x = some .free := hk
        rw [k] at this; cases this
end

section
variable {X : Cx} {pos : Pos}
end

structure It where
  go : Nat → Hp → Prop
  yld : Nat → Hp → V → Hp → Prop
  stop : Nat → Hp → Prop
def FpOk (X : Cx) (pins : List (Addr × Obj)) (H : Hp) (b : Addr) : Prop :=
  H b = none ∧ b ≠ X.env.locals ∧ b ∉ X.fs ∧ (b ∈ X.ex ∨ X.s_0.heap.objs.size ≤ b) ∧ (∀ x c, X.env.cells.lookup x = some c → c ≠ b) ∧ ∀ p ∈ X.pn ++ pins, p.1 ≠ b
theorem Inv.fpOk {X : Cx} {pins : List (Addr × Obj)} {σ : St} {H H' : Hp} {s : Shared} {b : Addr} (I : Inv X pins σ H s) (hb : s.heap.objs.size ≤ b) (hn : H' b = none) : FpOk X pins H' b := by
  refine ⟨hn, Nat.ne_of_gt (Nat.lt_of_lt_of_le I.lt hb), I.nofs hb, .inr (Nat.le_trans I.sz hb), fun x c e z => ?_, fun p hp z => ?_⟩
  · obtain ⟨v, q⟩ := I.cell x c e
    exact absurd (Nat.lt_of_lt_of_le q.lt (by rw [z]; exact hb)) (Nat.lt_irrefl _)
  · exact absurd (Nat.lt_of_lt_of_le (Heap.lt_size (I.pin p hp).1) (by rw [z]; exact hb)) (Nat.lt_irrefl _)
structure Turn (P : Program) (w : World) (K : PySem.W.Frag) (tg : Expr) (J : It) (fp : List Addr) (it : Addr) (tn : Nat → Heap → Prop) : Prop where
  mem : it ∈ fp
  obj : ∀ i h, tn i h → ∀ b ∈ fp, ∃ o, h.get? b = some o ∧ ∀ v, o.data ≠ .cell v
  keep : ∀ i h h', tn i h → (∀ b ∈ fp, ∀ o, h.get? b = some o → h'.get? b = some o) → tn i h'
  item : ∀ (X : Cx), X.prog = P → X.w = w → X.K = K → X.calm = true → ∀ (i : Nat) (pins : List (Addr × Obj)) (s : Shared) (σ : St) (H : Hp) (E : Value → Shared → Prop), Inv X pins σ H s → (∀ b ∈ fp, FpOk X pins H b) → tn i s.heap → J.go i H →
    wpAny (model P w) X.A (pyNext (.ref it)) (fun r s1 => ∃ u, r = some u ∧
      wpAny (model P w) X.A (letOwnedTupleGo tg (.ref it) u) (fun _ s2 => ∃ x H', Inv X pins σ H' s2 ∧ RelV x u ∧ J.yld i H x H' ∧ tn (i + 1) s2.heap ∧ ∀ b ∈ fp, H' b = none) E s1) E s
  done : ∀ (X : Cx), X.prog = P → X.w = w → X.K = K → X.calm = true → ∀ (i : Nat) (pins : List (Addr × Obj)) (s : Shared) (σ : St) (H : Hp) (E : Value → Shared → Prop), Inv X pins σ H s → (∀ b ∈ fp, FpOk X pins H b) → tn i s.heap → J.stop i H →
    wpAny (model P w) X.A (pyNext (.ref it)) (fun r s1 => r = none ∧ Inv X pins σ H s1) E s
  self : ∀ (A : Around) (i : Nat) (s : Shared) (Q : Value → Shared → Prop) (E : Value → Shared → Prop), tn i s.heap → Q (.ref it) s → wpAny (model P w) A (pyIter (.ref it)) Q E s
abbrev TI := St → Hp → (It → Hp → Prop) → Prop
def PIE (X : Cx) (pins : List (Addr × Obj)) (σ : St) (tg : Expr) (R : It → Hp → Prop) (itv : Value) (s2 : Shared) : Prop :=
  ∃ (it : Addr) (fp : List Addr) (tn : Nat → Heap → Prop) (J : It) (H' : Hp), itv = .ref it ∧ Inv X pins σ H' s2 ∧ Turn X.prog X.w X.K tg J fp it tn ∧ tn 0 s2.heap ∧ (∀ b ∈ fp, FpOk X pins H' b) ∧ R J H'
def PI (X : Cx) (tg iter : Expr) (wi : TI) : Prop :=
  ∀ (pins : List (Addr × Obj)) (s : Shared) (σ : St) (H : Hp) (R : It → Hp → Prop), Inv X pins σ H s → wi σ H R →
    wpAny (model X.prog X.w) X.A (eval iter X.env) (fun v s1 => wpAny (model X.prog X.w) X.A (pyIter v) (PIE X pins σ tg R) X.xe s1) X.xe s

theorem go_of {M : Model} {A : Around} {E : Value → Shared → Prop} {s : Shared} {tg : Expr} {it : Addr} {u : Value} {o : Obj} {n : String} {vs : Array Value} {Q : Unit → Shared → Prop} (ho : s.heap.get? it = some o) (hc : o.cls = .type n) (hd : o.data = .fields vs)
    (hn : ["enumerate", "zip", "dict_itemiterator", "dict_reverseitemiterator", "odict_iterator", "itertools.zip_longest", "itertools.pairwise"].contains n = false) (hQ : Q () s) : wpAny M A (letOwnedTupleGo tg (.ref it) u) Q E s := by
  unfold letOwnedTupleGo
  cases tg <;> first
    | exact wpAny_pure hQ
    | (cases u <;> first
        | exact wpAny_pure hQ
        | (refine wpAny_bind (wpAny_load ho ?_)
           rw [hc, hd]
           show wpAny M A (if (["enumerate", "zip", "dict_itemiterator", "dict_reverseitemiterator", "odict_iterator", "itertools.zip_longest", "itertools.pairwise"].contains n && vs[0]? == some (rawInt _)) = true then _ else _) Q E s
           rw [if_neg (by intro h; rw [hn, Bool.false_and] at h; cases h)]
           exact wpAny_pure hQ))

def Itl (K : PySem.W.Frag) (a : Addr) : It :=
  ⟨fun i H => ∃ xs x, SqL K H a xs ∧ xs[i]? = some x, fun i H x H' => H' = H ∧ ∀ xs, SqL K H a xs → xs[i]? = some x, fun i H => ∃ xs, SqL K H a xs ∧ xs.length ≤ i⟩
def Itr (lo : Int) (n : Nat) : It := ⟨fun i _ => i < n, fun i H x H' => H' = H ∧ x = .int (lo + i), fun i _ => n ≤ i⟩
theorem turn_list {P : Program} {w : World} {K : PySem.W.Frag} {tg : Expr} (a it : Addr) : Turn P w K tg (Itl K a) [it] it (fun i h => h.IsListIter it a i) where
  mem := by simp
  obj := fun i h st b hb => by
    have e : b = it := by simpa using hb
    subst e
    obtain ⟨o, e, c, d⟩ := st
    exact ⟨o, e, fun v z => by rw [d] at z; cases z⟩
  keep := fun i h h' st k => st.at fun o e => k it (by simp) o e
  item := by
    intro X hP hw hK hc i pins s σ H E I hf st hg
    subst hP hw hK
    obtain ⟨xs, x, hq, hx⟩ := hg
    obtain ⟨its, rv, p, hz⟩ := I.list hq
    obtain ⟨u, hu, ru⟩ := rv.get hx
    obtain ⟨f0, f1, f2, f3, f4, f5⟩ := hf it (by simp)
    refine wpAny_pyNext_list_item st p.isList (x := u) (by simpa using hu) fun h' st' sb => ?_
    have I1 : Inv X pins σ H { s with heap := h' } := I.turned (t' := s.toks) (fun b o hb e => (sb.2 b hb).trans e) f0 f1 f3 f4 f5
    obtain ⟨o, e, c, d⟩ := id st'
    exact ⟨u, rfl, go_of (s := { s with heap := h' }) e c d (by decide) ⟨x, H, I1, ru, ⟨rfl, fun ys hy => by rw [I.list_inj hy hq]; exact hx⟩, st', fun b hb => (hf b hb).1⟩⟩
  done := by
    intro X hP hw hK hc i pins s σ H E I hf st hg
    subst hP hw hK
    obtain ⟨xs, hq, hx⟩ := hg
    obtain ⟨its, rv, p, hz⟩ := I.list hq
    obtain ⟨f0, f1, f2, f3, f4, f5⟩ := hf it (by simp)
    have hl := rv.length
    exact wpAny_pyNext_list_end (I.ok.hd hc) st p.isList (by simp; omega) fun h' eb => ⟨rfl, I.turned (t' := s.toks) (fun b o hb e => eb b o hb e) f0 f1 f3 f4 f5⟩
  self := fun _ _ _ _ _ st h => wpAny_pyIter_listiter st h
theorem turn_range {P : Program} {w : World} {K : PySem.W.Frag} {tg : Expr} (it : Addr) (lo : Int) (n : Nat) : Turn P w K tg (Itr lo n) [it] it (fun i h => IsRangeIter h it (lo + (i : Nat) * 1) ((n : Int) - (i : Nat)) 1) where
  mem := by simp
  obj := fun i h st b hb => by
    have e : b = it := by simpa using hb
    subst e
    exact ⟨_, st, fun v z => by
      have z' : Data.fields _ = Data.cell v := z
      cases z'⟩
  keep := fun i h h' st k => k it (by simp) _ st
  item := by
    intro X hP hw hK hc i pins s σ H E I hf st hg
    subst hP hw hK
    obtain ⟨f0, f1, f2, f3, f4, f5⟩ := hf it (by simp)
    have W := Walks.range (prog := X.prog) (w := X.w) (I.ok.hd hc) it lo 1 n
    refine W.item i s _ _ hg st fun v h' tk hv st' kk => ?_
    obtain ⟨t, rfl⟩ := hv
    have I1 : Inv X pins σ H { s with heap := h', toks := tk } := I.turned (fun b o hb e => kk b o (by simpa using hb) e) f0 f1 f3 f4 f5
    refine ⟨_, rfl, go_of (s := { s with heap := h', toks := tk }) (n := "range_iterator") st' rfl rfl (by decide) ⟨.int (lo + i), H, I1, ⟨t, ?_⟩, ⟨rfl, rfl⟩, st', fun b hb => (hf b hb).1⟩⟩
    rw [Int.mul_one]
  done := by
    intro X hP hw hK hc i pins s σ H E I hf st hg
    subst hP hw hK
    obtain ⟨f0, f1, f2, f3, f4, f5⟩ := hf it (by simp)
    exact wpAny_pyNext_range_end (I.ok.hd hc) st (by have : n ≤ i := hg; omega) fun h' eb => ⟨rfl, I.turned (t' := s.toks) (fun b o hb e => eb b o hb e) f0 f1 f3 f4 f5⟩
  self := fun _ _ _ _ _ st h => wpAny_pyIter_rangeiter st h
end L2

namespace L2
open PySem PySem.Spec PyProof.Rows
section
variable {X : Cx} {tg : Expr}
def iList (K : PySem.W.Frag) (tl : TE) : TI := fun σ H R => tl σ H fun x H1 => ∃ a, x = .ref a ∧ (∃ xs, SqL K H1 a xs) ∧ R (Itl K a) H1
theorem pi_list {l : Expr} {tl : TE} (hl : PE X l tl) : PI X tg l (iList X.K tl) := by
  intro pins s σ H R I h
  refine thn (hl pins s σ H _ I h) fun v s1 ⟨x, H1, I1, r1, q1⟩ => ?_
  obtain ⟨a, e, ⟨xs, hq⟩, q⟩ := q1
  subst e
  cases r1
  obtain ⟨its, rv, p, hz⟩ := I1.list hq
  refine wpAny_pyIter_list p.isList ?_
  refine ⟨s1.heap.objs.size, [s1.heap.objs.size], _, _, H1, rfl, I1.kept (t' := s1.toks) fun b o e => Heap.get?_push_of_some _ e, turn_list a _, ⟨_, Heap.get?_push_size _ rfl, rfl, rfl⟩, fun b hb => ?_, q⟩
  have e : b = s1.heap.objs.size := by simpa using hb
  subst e
  exact I1.fpOk (Nat.le_refl _) (I1.hok.fresh (Nat.le_refl _))
theorem range_it {pins : List (Addr × Obj)} {σ : St} {H : Hp} {s : Shared} {R : It → Hp → Prop} {E : Value → Shared → Prop} {lo hi : Int} {t u v : Tok} {tk : Nat} (I : Inv X pins σ H s) (h1 : -(2 ^ 62) ≤ lo) (h2 : lo < 2 ^ 62) (h3 : -(2 ^ 62) ≤ hi) (h4 : hi < 2 ^ 62)
    (q : R (Itr lo (hi - lo).toNat) H) : wpAny (model X.prog X.w) X.A (pyIter (.ref s.heap.objs.size)) (PIE X pins σ tg R) E { s with heap := s.heap.push { cls := .type "range", data := .fields #[.int lo t, .int hi u, .int 1 v] }, toks := tk } := by
  refine wpAny_pyIter_range (IsRange.new ..) (small_one h1 h2 h3 h4) ?_
  have I1 : Inv X pins σ H { s with heap := s.heap.push { cls := .type "range", data := .fields #[.int lo t, .int hi u, .int 1 v] }, toks := tk } := I.kept fun b o e => Heap.get?_push_of_some _ e
  refine ⟨(s.heap.push { cls := .type "range", data := .fields #[.int lo t, .int hi u, .int 1 v] }).objs.size, [(s.heap.push { cls := .type "range", data := .fields #[.int lo t, .int hi u, .int 1 v] }).objs.size], _, _, H, rfl,
    I1.kept (t' := tk) fun b o e => Heap.get?_push_of_some _ e, turn_range _ lo (hi - lo).toNat, ?_, fun b hb => ?_, q⟩
  · have e1 : lo + ((0 : Nat) : Int) * 1 = lo := by simp
    have e2 : (((hi - lo).toNat : Nat) : Int) - ((0 : Nat) : Int) = Builtin.Range.rangeSize lo hi 1 := by rw [rangeSize_one]; split <;> omega
    show IsRangeIter _ _ (lo + ((0 : Nat) : Int) * 1) ((((hi - lo).toNat : Nat) : Int) - ((0 : Nat) : Int)) 1
    rw [e1, e2]
    exact Heap.get?_push_size _ rfl
  · have e : b = (s.heap.push { cls := .type "range", data := .fields #[.int lo t, .int hi u, .int 1 v] }).objs.size := by simpa using hb
    subst e
    exact I1.fpOk (Nat.le_refl _) (I1.hok.fresh (Nat.le_refl _))
def iRng1 (ta : TA) : TI := fun σ H R => ta σ H fun vs H1 => ∃ j : Int, vs = [.int j] ∧ -(2 ^ 62) ≤ j ∧ j < 2 ^ 62 ∧ R (Itr 0 j.toNat) H1
def iRng2 (ta : TA) : TI := fun σ H R => ta σ H fun vs H1 => ∃ i j : Int, vs = [.int i, .int j] ∧ (-(2 ^ 62) ≤ i ∧ i < 2 ^ 62 ∧ -(2 ^ 62) ≤ j ∧ j < 2 ^ 62) ∧ R (Itr i (j - i).toNat) H1
theorem pi_range1 {a : Expr} {ta : TA} {p pos : Pos} (hg : Gl X "range") (hm : X.mg "range" = none) (ha : PA X [a] ta) (hs : starEach [a] X.env = [(false, eval a X.env)] := by rfl) : PI X tg (.Call (.Name "range" p) [a] [] pos) (iRng1 ta) := by
  intro pins s σ H R I h
  refine Call_ (ld_blt I hg hm boot_range (PyProof.Rows.callWith_type1 (thn (ha pos pins s σ H _ I h) fun us s1 ⟨vs, H1, I1, r1, q1⟩ => ?_) hs rfl))
  obtain ⟨j, e, q1, q2, q⟩ := q1
  subst e
  cases r1 with
  | cons r rr =>
    cases rr
    obtain ⟨t, rfl⟩ := r
    exact call_range_1 (range_it I1 (by omega) (by omega) q1 q2 (by simpa using q))
theorem pi_range2 {a b : Expr} {ta : TA} {p pos : Pos} (hg : Gl X "range") (hm : X.mg "range" = none) (ha : PA X [a, b] ta) (hs : starEach [a, b] X.env = [(false, eval a X.env), (false, eval b X.env)] := by rfl) (hs2 : starEach [b] X.env = [(false, eval b X.env)] := by rfl) :
    PI X tg (.Call (.Name "range" p) [a, b] [] pos) (iRng2 ta) := by
  intro pins s σ H R I h
  refine Call_ (ld_blt I hg hm boot_range (PyProof.Rows.callWith_type1 (thn (ha pos pins s σ H _ I h) fun us s1 ⟨vs, H1, I1, r1, q1⟩ => ?_) (by rw [hs, hs2]) (by rw [hs2]; rfl)))
  obtain ⟨i, j, e, ⟨q1, q2, q3, q4⟩, q⟩ := q1
  subst e
  cases r1 with
  | cons r rr =>
    cases rr with
    | cons r' rr =>
      cases rr
      obtain ⟨t, rfl⟩ := r
      obtain ⟨t', rfl⟩ := r'
      exact call_range_2 (range_it I1 q1 q2 q3 q4 q)

def tFor (wi : TI) (g : TG) (tb : TS) : TS := fun D σ H => wi σ H fun J H1 => ∃ W : Nat → Nat → St → Hp → Prop, (∃ m, W 0 m σ H1) ∧ ∀ i m σ H, W i m σ H →
  (J.stop i H ∧ D.nx σ H) ∨ (J.go i H ∧ ∃ N : St → Hp → Prop, (∀ σ' H', N σ' H' → ∃ m', m' < m ∧ W (i + 1) m' σ' H') ∧ ∀ x H', J.yld i H x H' → g x σ H' fun σ2 H2 => tb { D with nx := N, ct := N, bk := D.nx } σ2 H2)
def pinsAt (fp : List Addr) (h : Heap) : List (Addr × Obj) := fp.filterMap fun b => (h.get? b).map fun o => (b, o)
theorem mem_pinsAt {fp : List Addr} {h : Heap} {b : Addr} {o : Obj} (hb : b ∈ fp) (e : h.get? b = some o) : (b, o) ∈ pinsAt fp h := List.mem_filterMap.mpr ⟨b, hb, by rw [e]; rfl⟩
theorem of_pinsAt {fp : List Addr} {h : Heap} {p : Addr × Obj} (hp : p ∈ pinsAt fp h) : p.1 ∈ fp ∧ h.get? p.1 = some p.2 := by
  obtain ⟨b, hb, e⟩ := List.mem_filterMap.mp hp
  cases q : h.get? b with
  | none => rw [q] at e; cases e
  | some o =>
    rw [q] at e
    have e' : (b, o) = p := Option.some.inj e
    subst e'
    exact ⟨hb, q⟩
theorem Inv.pinned {pins : List (Addr × Obj)} {σ : St} {H : Hp} {s : Shared} {fp : List Addr} (I : Inv X pins σ H s) (hf : ∀ b ∈ fp, FpOk X pins H b) (ho : ∀ b ∈ fp, ∃ o, s.heap.get? b = some o ∧ ∀ v, o.data ≠ .cell v) : Inv X (pins ++ pinsAt fp s.heap) σ H s :=
  I.pins_of fun p hp => (List.mem_append.mp hp).elim (fun z => I.pin p (List.mem_append_right _ z)) fun z => by
    obtain ⟨hb, e⟩ := of_pinsAt z
    obtain ⟨f0, f1, f2, _⟩ := hf p.1 hb
    obtain ⟨o, e', d⟩ := ho p.1 hb
    rw [e] at e'; cases e'
    exact ⟨e, f0, f1, f2, d⟩
theorem Inv.unpinned {pins pl : List (Addr × Obj)} {σ : St} {H : Hp} {s : Shared} (I : Inv X (pins ++ pl) σ H s) : Inv X pins σ H s := I.pins_of fun p hp => I.pin p (List.mem_append_right _ (List.mem_append_left _ hp))
theorem ps_for {iter : Expr} {body : List Stmt} {wi : TI} {g : TG} {tb : TS} {pos : Pos} (hp : PassesOwn (model X.prog X.w) X.A X.env X.xe) (hc : X.calm = true) (hi : PI X tg iter wi) (hg : PG X tg g) (hb : PSs X body tb)
    (hs : ∀ x, foldedSetIterable iter X.env x = pure x := by intro _; rfl) : PS X (.For tg iter body [] pos) (tFor wi g tb) := by
  intro pins s σ H D I h
  refine wpAny_For (thn (hi pins s σ H _ I h) fun v s1 h1 => thn h1 fun itv s2 h2 => ?_) hs
  obtain ⟨it, fp, tn, J, H2, e, I2, T, st2, f2, W, ⟨m0, w0⟩, turn⟩ := h2
  subst e
  -- what stays true of the iterator's objects through the loop
  have stat : ∀ {H' : Hp}, (∀ b ∈ fp, H' b = none) → ∀ b ∈ fp, FpOk X pins H' b := fun hn b hb => ⟨hn b hb, (f2 b hb).2⟩
  refine codeAny_forLoop_any (fun n s' => ∃ i σ' H', Inv X pins σ' H' s' ∧ tn i s'.heap ∧ (∀ b ∈ fp, H' b = none) ∧ W i n σ' H') ?_ m0 ⟨0, σ, H2, I2, st2, fun b hb => (f2 b hb).1, w0⟩
  rintro n s3 ⟨i, σ3, H3, I3, st3, fr3, w3⟩
  rcases turn i n σ3 H3 w3 with ⟨stop, qn⟩ | ⟨go, N, hN, step⟩
  · refine wpAny_passesOwn hp (thn (T.done X rfl rfl rfl hc i pins s3 σ3 H3 X.xe I3 (stat fr3) st3 stop) fun r s4 ⟨hr, I4⟩ => ?_)
    subst hr
    exact wpAny_execs_nil ⟨σ3, H3, I4, qn⟩
  · refine wpAny_passesOwn hp (thn (T.item X rfl rfl rfl hc i pins s3 σ3 H3 X.xe I3 (stat fr3) st3 go) fun r s4 ⟨u, hr, h4⟩ => ?_)
    subst hr
    refine wpAny_passesOwn hp (thn h4 fun _ s5 ⟨x, H5, I5, r5, y5, st5, fr5⟩ => ?_)
    have I5' := I5.pinned (stat fr5) (T.obj _ _ st5)
    refine wpAny_passesOwn hp (thn (hg _ s5 σ3 H5 x u _ I5' r5 (step x H5 y5)) fun _ s6 ⟨σ6, H6, I6, q6⟩ => ?_)
    refine wpAny_passesOwn hp (thn (hb _ s6 σ6 H6 _ I6 q6) fun f s7 q7 => ?_)
    have again : ∀ {σ7 : St} {H7 : Hp}, Inv X (pins ++ pinsAt fp s5.heap) σ7 H7 s7 → N σ7 H7 → ∃ m, m < n ∧ ∃ i σ' H', Inv X pins σ' H' s7 ∧ tn i s7.heap ∧ (∀ b ∈ fp, H' b = none) ∧ W i m σ' H' := fun {σ7 H7} I7 n7 => by
      obtain ⟨m', hm, w7⟩ := hN σ7 H7 n7
      refine ⟨m', hm, i + 1, σ7, H7, I7.unpinned, T.keep _ _ _ st5 fun b hb o e => (I7.pin (b, o) (List.mem_append_right _ (List.mem_append_right _ (mem_pinsAt hb e)))).1, fun b hb => ?_, w7⟩
      obtain ⟨o, e, d⟩ := T.obj _ _ st5 b hb
      exact (I7.pin (b, o) (List.mem_append_right _ (List.mem_append_right _ (mem_pinsAt hb e)))).2.1
    cases f with
    | next => obtain ⟨σ7, H7, I7, n7⟩ := q7; exact again I7 n7
    | cont => obtain ⟨σ7, H7, I7, n7⟩ := q7; exact again I7 n7
    | brk => obtain ⟨σ7, H7, I7, q7⟩ := q7; exact ⟨σ7, H7, I7.unpinned, q7⟩
    | ret v => obtain ⟨x7, σ7, H7, I7, r7, q7⟩ := q7; exact ⟨x7, σ7, H7, I7.unpinned, r7, q7⟩
end

theorem for_range {lo : Int} {n : Nat} {g : TG} {tb : TS} {D : Ends} {σ : St} {H : Hp} (Pv : Nat → St → Hp → Prop) (h0 : Pv 0 σ H)
    (hs : ∀ i σ H, i < n → Pv i σ H → g (.int (lo + i)) σ H fun σ2 H2 => tb { D with nx := Pv (i + 1), ct := Pv (i + 1), bk := D.nx } σ2 H2) (hd : ∀ σ H, Pv n σ H → D.nx σ H) :
    ∃ W : Nat → Nat → St → Hp → Prop, (∃ m, W 0 m σ H) ∧ ∀ i m σ H, W i m σ H →
      ((Itr lo n).stop i H ∧ D.nx σ H) ∨ ((Itr lo n).go i H ∧ ∃ N : St → Hp → Prop, (∀ σ' H', N σ' H' → ∃ m', m' < m ∧ W (i + 1) m' σ' H') ∧ ∀ x H', (Itr lo n).yld i H x H' → g x σ H' fun σ2 H2 => tb { D with nx := N, ct := N, bk := D.nx } σ2 H2) := by
  refine ⟨fun i m σ H => m = n - i ∧ i ≤ n ∧ Pv i σ H, ⟨n, by simp, Nat.zero_le _, h0⟩, ?_⟩
  rintro i m σ H ⟨rfl, hi, p⟩
  by_cases hlt : i < n
  · refine .inr ⟨hlt, Pv (i + 1), fun σ' H' p' => ⟨n - (i + 1), by omega, rfl, hlt, p'⟩, fun x H' y => ?_⟩
    obtain ⟨e, y⟩ := y
    subst e y
    exact hs i σ _ hlt p
  · have e : i = n := by omega
    subst e
    exact .inl ⟨Nat.le_refl _, hd σ H p⟩
end L2

namespace L2
open PySem PySem.Spec PyProof.Rows

abbrev R2 := V → V → Hp → VK → Prop
def OpR (X : Cx) (f : Value → Value → Sem Value) (r : R2) : Prop :=
  ∀ (pins : List (Addr × Obj)) (s : Shared) (σ : St) (H : Hp) (x y : V) (v u : Value) (Q : VK), Inv X pins σ H s → RelV x v → RelV y u → r x y H Q →
    wpAny (model X.prog X.w) X.A (f v u) (EP X pins σ Q) X.xe s
def UnR (X : Cx) (f : Value → Sem Value) (r : V → Hp → VK → Prop) : Prop :=
  ∀ (pins : List (Addr × Obj)) (s : Shared) (σ : St) (H : Hp) (x : V) (v : Value) (Q : VK), Inv X pins σ H s → RelV x v → r x H Q →
    wpAny (model X.prog X.w) X.A (f v) (EP X pins σ Q) X.xe s
def CallR (X : Cx) (f : Value) (r : List V → Hp → VK → Prop) : Prop :=
  ∀ (pins : List (Addr × Obj)) (s : Shared) (σ : St) (H : Hp) (xs : List V) (us : List Value) (Q : VK), Inv X pins σ H s → Vals xs us → r xs H Q →
    wpAny (model X.prog X.w) X.A (call f us) (EP X pins σ Q) X.xe s
def tOp (r : R2) (ta tb : TE) : TE := fun σ H Q => ta σ H fun x H1 => tb σ H1 fun y H2 => r x y H2 Q
def tUn (r : V → Hp → VK → Prop) (ta : TE) : TE := fun σ H Q => ta σ H fun x H1 => r x H1 Q
def rI (C : Int → Int → Prop) (g : Int → Int → V) : R2 := fun x y H Q => ∃ i j, x = .int i ∧ y = .int j ∧ C i j ∧ Q (g i j) H
def rI0 (g : Int → Int → V) : R2 := fun x y H Q => ∃ i j, x = .int i ∧ y = .int j ∧ Q (g i j) H
def rU (g : Int → V) : V → Hp → VK → Prop := fun x H Q => ∃ i, x = .int i ∧ Q (g i) H

section
variable {X : Cx} {a b c : Expr} {ta tb tc : TE} {pos : Pos}

theorem binT (ha : PE X a ta) (hb : PE X b tb) {pins : List (Addr × Obj)} {s : Shared} {σ : St} {H : Hp} {R : V → V → Hp → Prop} (I : Inv X pins σ H s)
    (h : ta σ H fun x H1 => tb σ H1 fun y H2 => R x y H2) {Q : Value → Shared → Prop} {f : Value → Value → Sem Value}
    (hf : ∀ v u s2 x y H2, Inv X pins σ H2 s2 → RelV x v → RelV y u → R x y H2 → wpAny (model X.prog X.w) X.A (f v u) Q X.xe s2) :
    wpAny (model X.prog X.w) X.A (eval a X.env) (fun v s₁ => wpAny (model X.prog X.w) X.A (eval b X.env) (fun u s₂ => wpAny (model X.prog X.w) X.A (f v u) Q X.xe s₂) X.xe s₁) X.xe s := by
  refine thn (ha pins s σ H _ I h) fun v s1 ⟨x, H1, I1, r1, q1⟩ => ?_
  refine thn (hb pins s1 σ H1 _ I1 q1) fun u s2 ⟨y, H2, I2, r2, q2⟩ => ?_
  exact hf v u s2 x y H2 I2 r1 r2 q2

theorem pe_op {op : Operator} {r : R2} (ho : OpR X (binaryOp op) r) (ha : PE X a ta) (hb : PE X b tb) : PE X (.BinOp a op b pos) (tOp r ta tb) := by
  intro pins s σ H Q I h
  exact wpAny_BinOp (binT ha hb I h fun v u s2 x y H2 I2 rx ry q => ho pins s2 σ H2 x y v u Q I2 rx ry q)
theorem pe_un {op : UnaryOp} {r : V → Hp → VK → Prop} (ho : UnR X (unaryOp op) r) (ha : PE X a ta) : PE X (.UnaryOp op a pos) (tUn r ta) := by
  intro pins s σ H Q I h
  exact UnaryOp_ (thn (ha pins s σ H _ I h) fun v s1 ⟨x, H1, I1, r1, q1⟩ => ho pins s1 σ H1 x v Q I1 r1 q1)
theorem opI {f : Value → Value → Sem Value} {C : Int → Int → Prop} {g : Int → Int → Int}
    (rule : ∀ (i j : Int) (t u : Tok) (s : Shared) (Q : Value → Shared → Prop) (E : Value → Shared → Prop), C i j → Q (.int (g i j) s.toks) { s with toks := s.toks + 1 } → wpAny (model X.prog X.w) X.A (f (.int i t) (.int j u)) Q E s) :
    OpR X f (rI C fun i j => .int (g i j)) := by
  intro pins s σ H x y v u Q I rx ry h
  obtain ⟨i, j, rfl, rfl, hc, q⟩ := h
  obtain ⟨t, rfl⟩ := rx
  obtain ⟨t', rfl⟩ := ry
  exact rule i j t t' s _ _ hc ⟨.int (g i j), H, I.tok _, ⟨_, rfl⟩, q⟩
theorem opI0 {f : Value → Value → Sem Value} {g : Int → Int → Int}
    (rule : ∀ (i j : Int) (t u : Tok) (s : Shared) (Q : Value → Shared → Prop) (E : Value → Shared → Prop), Q (.int (g i j) s.toks) { s with toks := s.toks + 1 } → wpAny (model X.prog X.w) X.A (f (.int i t) (.int j u)) Q E s) :
    OpR X f (rI0 fun i j => .int (g i j)) := by
  intro pins s σ H x y v u Q I rx ry h
  obtain ⟨i, j, rfl, rfl, q⟩ := h
  obtain ⟨t, rfl⟩ := rx
  obtain ⟨t', rfl⟩ := ry
  exact rule i j t t' s _ _ ⟨.int (g i j), H, I.tok _, ⟨_, rfl⟩, q⟩
theorem opB0 {f : Value → Value → Sem Value} {g : Int → Int → Bool}
    (rule : ∀ (i j : Int) (t u : Tok) (s : Shared) (Q : Value → Shared → Prop) (E : Value → Shared → Prop), Q (.bool (g i j)) s → wpAny (model X.prog X.w) X.A (f (.int i t) (.int j u)) Q E s) :
    OpR X f (rI0 fun i j => .bl (g i j)) := by
  intro pins s σ H x y v u Q I rx ry h
  obtain ⟨i, j, rfl, rfl, q⟩ := h
  obtain ⟨t, rfl⟩ := rx
  obtain ⟨t', rfl⟩ := ry
  exact rule i j t t' s _ _ ⟨.bl (g i j), H, I, rfl, q⟩

def CPow (i j : Int) : Prop := 0 ≤ j ∧ j ≤ 1000000 ∧ i.natAbs < 2 ^ 64
def CMul (i j : Int) : Prop := (-(2 ^ 64) < i ∧ i < 2 ^ 64) ∨ (-(2 ^ 64) < j ∧ j < 2 ^ 64)
theorem CMul.ok {i j : Int} (h : CMul i j) : IntMulOk i j := by
  rcases h with ⟨h1, h2⟩ | ⟨h1, h2⟩
  · exact .of_left (intBits_le_64 h1 h2)
  · exact .of_right (intBits_le_64 h1 h2)
theorem two_pow_nn (k : Nat) : (0 : Int) ≤ 2 ^ k := by
  rw [two_pow_cast]
  exact Int.natCast_nonneg _

theorem op_add : OpR X (binaryOp .Add) (rI0 fun i j => .int (i + j)) := opI0 fun _ _ _ _ _ _ _ q => add_int q
theorem op_sub : OpR X (binaryOp .Sub) (rI0 fun i j => .int (i - j)) := opI0 fun _ _ _ _ _ _ _ q => sub_int q
theorem op_mod : OpR X (binaryOp .Mod) (rI (fun _ j => 0 < j) fun i j => .int (i % j)) := opI fun i j _ _ _ _ _ hc q => by
  have h1 : (0 : Int) < j := hc
  exact mod_int' (by omega) (by rw [Int.fmod_eq_emod_of_nonneg i (by omega)]; exact q)
theorem op_shl : OpR X (binaryOp .LShift) (rI CPow fun i j => .int (i * 2 ^ j.toNat)) := opI fun _ _ _ _ _ _ _ hc q => lshift_int_small hc.1 hc.2.1 hc.2.2 q
theorem op_shr : OpR X (binaryOp .RShift) (rI (fun _ j => 0 ≤ j) fun i j => .int (i / 2 ^ j.toNat)) := opI fun i j _ _ _ _ _ hc q =>
  rshift_int hc (by rw [Int.fdiv_eq_ediv_of_nonneg i (two_pow_nn _)]; exact q)
theorem op_xor : OpR X (binaryOp .BitXor) (rI0 fun i j => .int (Builtin.bitXor i j)) := opI0 fun _ _ _ _ _ _ _ q => xor_int q

theorem iop_add : OpR X (inplaceOp .Add) (rI0 fun i j => .int (i + j)) := opI0 fun _ _ _ _ _ _ _ q => iadd_int q
theorem unI {f : Value → Sem Value} {g : Int → Int}
    (rule : ∀ (i : Int) (t : Tok) (s : Shared) (Q : Value → Shared → Prop) (E : Value → Shared → Prop), Q (.int (g i) s.toks) { s with toks := s.toks + 1 } → wpAny (model X.prog X.w) X.A (f (.int i t)) Q E s) :
    UnR X f (rU fun i => .int (g i)) := by
  intro pins s σ H x v Q I rx h
  obtain ⟨i, rfl, q⟩ := h
  obtain ⟨t, rfl⟩ := rx
  exact rule i t s _ _ ⟨.int (g i), H, I.tok _, ⟨_, rfl⟩, q⟩
theorem un_neg : UnR X (unaryOp .USub) (rU fun i => .int (-i)) := unI fun _ _ _ _ _ q => neg_int q
end

def scal : V → V → Bool
  | .non, .non => true | .non, .int _ => true | .int _, .non => true | .non, .bl _ => true | .bl _, .non => true | .non, .str _ => true | .str _, .non => true
  | .int _, .int _ => true | .bl _, .bl _ => true | .str _, .str _ => true | .byt _, .byt _ => true
  | .int _, .str _ => true | .str _, .int _ => true | .bl _, .str _ => true | .str _, .bl _ => true
  | _, _ => false
def rEq : R2 := fun x y H Q => scal x y = true ∧ Q (.bl (decide (x = y))) H
def rNe : R2 := fun x y H Q => scal x y = true ∧ Q (.bl (!decide (x = y))) H

theorem dec_int {i j : Int} : decide (V.int i = V.int j) = (i == j) := by
  rw [Bool.eq_iff_iff]
  simp
theorem dec_bl {i j : Bool} : decide (V.bl i = V.bl j) = (i == j) := by
  rw [Bool.eq_iff_iff]
  simp
theorem dec_str {i j : Str} : decide (V.str i = V.str j) = (i == j) := by
  rw [Bool.eq_iff_iff]
  simp
theorem dec_byt {i j : Array UInt8} : decide (V.byt i = V.byt j) = (i.toList == j.toList) := by
  rw [Bool.eq_iff_iff]
  cases i
  cases j
  simp

section
variable {X : Cx} {a b c : Expr} {ta tb tc : TE} {pos : Pos}
theorem fin_bl {pins : List (Addr × Obj)} {σ : St} {H : Hp} {s : Shared} {Q : VK} {k k' : Bool} (I : Inv X pins σ H s) (q : Q (.bl k) H) (e : k = k') : EP X pins σ Q (.bool k') s := by
  subst e
  exact ⟨.bl k, H, I, rfl, q⟩
theorem op_eq : OpR X (compareOp .Eq) rEq := by
  intro pins s σ H x y v u Q I rx ry h
  obtain ⟨hs, q⟩ := h
  cases x with
  | non =>
    cases rx
    cases y with
    | non => cases ry; exact PySem.EqNone.eq_none_none (fin_bl I q (by simp))
    | bl j => cases ry; exact PySem.EqNone.eq_none_bool (fin_bl I q (by simp))
    | int j => obtain ⟨t', rfl⟩ := ry; exact PySem.EqNone.eq_none_int (fin_bl I q (by simp))
    | str j => obtain ⟨t', rfl⟩ := ry; exact PySem.EqNone.eq_none_str (fin_bl I q (by simp))
    | _ => exact absurd (show false = true from hs) Bool.false_ne_true
  | bl i =>
    cases rx
    cases y with
    | non => cases ry; exact PySem.EqNone.eq_bool_none (fin_bl I q (by simp))
    | bl j => cases ry; exact eq_bool (fin_bl I q dec_bl)
    | str j => obtain ⟨t', rfl⟩ := ry; exact PySem.EqMixed.eq_bool_str (fin_bl I q (by simp))
    | _ => exact absurd (show false = true from hs) Bool.false_ne_true
  | int i =>
    obtain ⟨t, rfl⟩ := rx
    cases y with
    | non => cases ry; exact PySem.EqNone.eq_int_none (fin_bl I q (by simp))
    | int j => obtain ⟨t', rfl⟩ := ry; exact eq_int (fin_bl I q dec_int)
    | str j => obtain ⟨t', rfl⟩ := ry; exact PySem.EqMixed.eq_int_str (fin_bl I q (by simp))
    | _ => exact absurd (show false = true from hs) Bool.false_ne_true
  | str i =>
    obtain ⟨t, rfl⟩ := rx
    cases y with
    | non => cases ry; exact PySem.EqNone.eq_str_none (fin_bl I q (by simp))
    | bl j => cases ry; exact PySem.EqMixed.eq_str_bool (fin_bl I q (by simp))
    | int j => obtain ⟨t', rfl⟩ := ry; exact PySem.EqMixed.eq_str_int (fin_bl I q (by simp))
    | str j => obtain ⟨t', rfl⟩ := ry; exact eq_str (fin_bl I q dec_str)
    | _ => exact absurd (show false = true from hs) Bool.false_ne_true
  | byt i =>
    obtain ⟨t, rfl⟩ := rx
    cases y with
    | byt j => obtain ⟨t', rfl⟩ := ry; exact PySem.W.eq_bytes (fin_bl I q dec_byt)
    | _ => exact absurd (show false = true from hs) Bool.false_ne_true
  | _ => cases y <;> exact absurd (show false = true from hs) Bool.false_ne_true
theorem op_ne : OpR X (compareOp .NotEq) rNe := by
  intro pins s σ H x y v u Q I rx ry h
  obtain ⟨hs, q⟩ := h
  cases x with
  | non =>
    cases rx
    cases y with
    | non => cases ry; exact PySem.EqNone.ne_none_none (fin_bl I q (by simp))
    | bl j => cases ry; exact PySem.EqNone.ne_none_bool (fin_bl I q (by simp))
    | int j => obtain ⟨t', rfl⟩ := ry; exact PySem.EqNone.ne_none_int (fin_bl I q (by simp))
    | str j => obtain ⟨t', rfl⟩ := ry; exact PySem.EqNone.ne_none_str (fin_bl I q (by simp))
    | _ => exact absurd (show false = true from hs) Bool.false_ne_true
  | bl i =>
    cases rx
    cases y with
    | non => cases ry; exact PySem.EqNone.ne_bool_none (fin_bl I q (by simp))
    | bl j => cases ry; exact ne_bool (fin_bl I q (congrArg not dec_bl))
    | str j => obtain ⟨t', rfl⟩ := ry; exact PySem.EqMixed.ne_bool_str (fin_bl I q (by simp))
    | _ => exact absurd (show false = true from hs) Bool.false_ne_true
  | int i =>
    obtain ⟨t, rfl⟩ := rx
    cases y with
    | non => cases ry; exact PySem.EqNone.ne_int_none (fin_bl I q (by simp))
    | int j => obtain ⟨t', rfl⟩ := ry; exact ne_int (fin_bl I q (congrArg not dec_int))
    | str j => obtain ⟨t', rfl⟩ := ry; exact PySem.EqMixed.ne_int_str (fin_bl I q (by simp))
    | _ => exact absurd (show false = true from hs) Bool.false_ne_true
  | str i =>
    obtain ⟨t, rfl⟩ := rx
    cases y with
    | non => cases ry; exact PySem.EqNone.ne_str_none (fin_bl I q (by simp))
    | bl j => cases ry; exact PySem.EqMixed.ne_str_bool (fin_bl I q (by simp))
    | int j => obtain ⟨t', rfl⟩ := ry; exact PySem.EqMixed.ne_str_int (fin_bl I q (by simp))
    | str j => obtain ⟨t', rfl⟩ := ry; exact ne_str (fin_bl I q (congrArg not dec_str))
    | _ => exact absurd (show false = true from hs) Bool.false_ne_true
  | byt i =>
    obtain ⟨t, rfl⟩ := rx
    cases y with
    | byt j => obtain ⟨t', rfl⟩ := ry; exact PySem.W.ne_bytes (fin_bl I q (congrArg not dec_byt))
    | _ => exact absurd (show false = true from hs) Bool.false_ne_true
  | _ => cases y <;> exact absurd (show false = true from hs) Bool.false_ne_true

theorem op_lt : OpR X (compareOp .Lt) (rI0 fun i j => .bl (decide (i < j))) := opB0 fun _ _ _ _ _ _ _ q => lt_int q
theorem op_gt : OpR X (compareOp .Gt) (rI0 fun i j => .bl (decide (j < i))) := opB0 fun _ _ _ _ _ _ _ q => gt_int q
theorem op_ge : OpR X (compareOp .GtE) (rI0 fun i j => .bl (decide (j ≤ i))) := opB0 fun _ _ _ _ _ _ _ q => ge_int q
theorem nomark (b : Expr) {op : CmpOp} (h : op ≠ .In := by decide) (h2 : op ≠ .NotIn := by decide) : behindInMarks op b = false := by
  have e1 : (op == CmpOp.In) = false := by cases op <;> first | rfl | exact absurd rfl h
  have e2 : (op == CmpOp.NotIn) = false := by cases op <;> first | rfl | exact absurd rfl h2
  cases b <;> simp [behindInMarks, e1, e2]
theorem pe_cmpR {op : CmpOp} {r : R2} (ho : OpR X (compareOp op) r) (ha : PE X a ta) (hb : PE X b tb) (hm : behindInMarks op b = false) : PE X (.Compare a [op] [b] pos) (tOp r ta tb) := by
  intro pins s σ H Q I h
  exact wpAny_Compare1 (binT ha hb I h fun v u s2 x y H2 I2 rx ry q => ho pins s2 σ H2 x y v u Q I2 rx ry q) hm
def tTest (t : TE) : TT := fun σ H Q => t σ H fun x H' => ∃ k, x = .bl k ∧ Q k H'
theorem pt_cmpR {op : CmpOp} {r : R2} (ho : OpR X (compareOp op) r) (ha : PE X a ta) (hb : PE X b tb) (hm : behindInMarks op b = false) : PT X (.Compare a [op] [b] pos) (tTest (tOp r ta tb)) := by
  intro pins s σ H Q I h
  refine wpAny_isTrue_Compare1 (thn (ha pins s σ H _ I h) fun v s1 ⟨x, H1, I1, r1, q1⟩ => thn (hb pins s1 σ H1 _ I1 q1) fun u s2 ⟨y, H2, I2, r2, q2⟩ =>
    thn (ho pins s2 σ H2 x y v u _ I2 r1 r2 q2) fun c s3 ⟨z, H3, I3, r3, k, e, q3⟩ => ?_) hm
  subst e
  cases r3
  exact wpAny_truthy_bool ⟨H3, I3, q3⟩
theorem line63 : (sizeLine : Nat) < 2 ^ 63 := by rw [sizeLine_eq]; decide
theorem vals1 {x : V} {us : List Value} (r : Vals [x] us) : ∃ u, us = [u] ∧ RelV x u := by
  cases r with
  | cons r1 r2 => cases r2; exact ⟨_, rfl, r1⟩
theorem vals2 {x y : V} {us : List Value} (r : Vals [x, y] us) : ∃ u w', us = [u, w'] ∧ RelV x u ∧ RelV y w' := by
  cases r with
  | cons r1 r2 =>
    cases r2 with
    | cons r3 r4 => cases r4; exact ⟨_, _, rfl, r1, r3⟩
theorem call_abs : CallR X (.builtin "abs") (fun xs H Q => ∃ i, xs = [.int i] ∧ Q (.int (if i < 0 then -i else i)) H) := by
  intro pins s σ H xs us Q I r h
  obtain ⟨i, rfl, q⟩ := h
  obtain ⟨u, rfl, t, rfl⟩ := vals1 r
  exact call_abs_int fun u tk => ⟨.int (if i < 0 then -i else i), H, I.tok _, ⟨_, rfl⟩, q⟩
theorem call_max2 (hc : X.calm = true) : CallR X (.builtin "max") (fun xs H Q => ∃ i j, xs = [.int i, .int j] ∧ Q (.int (if j > i then j else i)) H) := by
  intro pins s σ H xs us Q I r h
  obtain ⟨i, j, rfl, q⟩ := h
  obtain ⟨u, w', rfl, ⟨t, rfl⟩, ⟨t', rfl⟩⟩ := vals2 r
  refine max_two_ints (I.ok.hd hc) fun h' tk k => ⟨_, H, I.kept k, ?_, q⟩
  by_cases hj : j > i
  · rw [if_pos hj, if_pos hj]; exact ⟨_, rfl⟩
  · rw [if_neg hj, if_neg hj]; exact ⟨_, rfl⟩
theorem call_min2 (hc : X.calm = true) : CallR X (.builtin "min") (fun xs H Q => ∃ i j, xs = [.int i, .int j] ∧ Q (.int (if j < i then j else i)) H) := by
  intro pins s σ H xs us Q I r h
  obtain ⟨i, j, rfl, q⟩ := h
  obtain ⟨u, w', rfl, ⟨t, rfl⟩, ⟨t', rfl⟩⟩ := vals2 r
  refine min_two_ints (I.ok.hd hc) fun h' tk k => ⟨_, H, I.kept k, ?_, q⟩
  by_cases hj : j < i
  · rw [if_pos hj, if_pos hj]; exact ⟨_, rfl⟩
  · rw [if_neg hj, if_neg hj]; exact ⟨_, rfl⟩
end
end L2

namespace L2
open PySem PySem.Spec PyProof.Rows

structure ObjM (h : Heap) (x dx C : Addr) (mA : Str → Option Value) : Prop where
  obj : h.get? x = some (PySem.W.instObj C dx)
  ns : h.Ns1 dx mA
  ne : dx ≠ x

theorem lookIn_ns {h : Heap} {dx : Addr} {mA : Str → Option Value} (n : h.Ns1 dx mA) : ∃ od, h.get? dx = some od ∧ ∀ name, PySem.W.lookIn name od = some (mA name) := by
  obtain ⟨o, es, ep, ho, hd, hk, _, hm⟩ := n
  refine ⟨o, ho, fun name => ?_⟩
  have e := hm name
  unfold nsFind findBy at e
  rw [← Array.find?_toList] at e
  unfold PySem.W.lookIn
  rw [hd]
  dsimp only
  split
  · rename_i y q
    rw [q] at e
    exact congrArg some e
  · rename_i q
    rw [q] at e
    have a : es.toList.any (·.refKey) = false := by
      rw [List.any_eq_false]
      intro y hy
      obtain ⟨z, t, hkey⟩ := hk y (Array.mem_toList_iff.mp hy)
      simp [DictEntry.refKey, hkey]
    have a' : ¬ es.toList.any (·.refKey) = true := by rw [a]; exact Bool.false_ne_true
    rw [if_neg a']
    exact congrArg some e

theorem ObjM.look {h : Heap} {x dx C : Addr} {mA : Str → Option Value} (I : ObjM h x dx C mA) : ∃ od, PySem.W.InstAt h x (PySem.W.instObj C dx) C (some od) ∧ ∀ name, PySem.W.lookIn name od = some (mA name) :=
  let ⟨od, ho, hl⟩ := lookIn_ns I.ns
  ⟨od, ⟨I.obj, rfl, rfl, ho⟩, hl⟩

section
variable {prog : Program} {w : World} {A : Around} {E : Value → Shared → Prop} {s : Shared} {K : PySem.W.Frag} {x dx C f : Addr} {mA : Str → Option Value} {name : Str} {v : Value}

theorem get_map {expr : Bool} {Q : Value → Shared → Prop} (X : K.In s.heap) (I : ObjM s.heap x dx C mA) (hg : PySem.W.plainGet K C name = true) (hh : PySem.W.hasDictIn K C = true)
    (ha : PySem.W.findIn K (.ref C) name = some none) (hv : mA name = some v) (hv' : PySem.W.handedIn v = true) (h : Q v { s with toks := s.toks + 1 }) :
    wpAny (model prog w) A (getAttr (.ref x) name expr) Q E s := by
  obtain ⟨od, J, hl⟩ := I.look
  exact PySem.W.get_value X J (PySem.W.plainGet_of hg).1 (PySem.W.findObj_own hh ha rfl (by rw [hl, hv])) hv' h

theorem get_meth {pl : Sem Bool} {Q : Value × List Value → Shared → Prop} (X : K.In s.heap) (I : ObjM s.heap x dx C mA) (hg : PySem.W.plainGet K C name = true)
    (hf : PySem.W.findIn K (.ref C) name = some (some (.ref f))) (ht : PySem.W.isFn K (.ref f) = true) (hv : mA name = none) (h : Q (.ref f, [.ref x]) s) :
    wpAny (model prog w) A (getMethod (.ref x) name pl) Q E s := by
  obtain ⟨od, J, hl⟩ := I.look
  exact PySem.W.method_fn X J (PySem.W.plainGet_of hg).1 (PySem.W.plainGet_of hg).2 hf (beq_iff_eq.mp ht) (by show (PySem.W.lookIn name od).map (·.isSome) = some false; rw [hl, hv]; rfl) h

theorem set_map {ns : List Str} {Q : Unit → Shared → Prop} (X : K.In s.heap) (I : ObjM s.heap x dx C mA)
    (hs : PySem.W.findIn K (.ref C) "__setattr__" = some (some (.builtin "object.__setattr__"))) (hp : PySem.W.plainOver K C = true) (ht : PySem.W.takerIn K C name = some none) (hh : PySem.W.hasDictIn K C = true)
    (hw : PySem.Within mA ns) (hsz : ns.length ≤ sizeLine)
    (h : ∀ h', ObjM h' x dx C (fun y => if y = name then some v else mA y) → Heap.SameBut dx s.heap h' → Q () { s with heap := h', toks := s.toks + 2 }) :
    wpAny (model prog w) A (setAttr (.ref x) name v) Q E s := by
  obtain ⟨od, J, hl⟩ := I.look
  refine PySem.W.set_plain X J hs (PySem.W.osa_open (s := { s with toks := s.toks + 1 }) (r := none) X J hp ht fun b => ?_)
  obtain ⟨cd, hc, hd'⟩ := PySem.W.any_some hh
  have hx : s.heap.get? x = some ⟨.ref C, some dx, .plain, #[]⟩ := I.obj
  refine wpAny_bind (wpAny_pure (wpAny_bind (wpAny_bind (wpAny_loadPart hx (wpAny_bind (PySem.W.Looks.here (s := { s with toks := s.toks + 1 }) (PySem.W.looks_clsIn X hc) ?_))))))
  rw [hd']
  refine wpAny_pure (a := some dx) (wpAny_bind (wpAny_pure (wpAny_bind ?_)))
  refine wpAny_nsSet1 (s := { s with toks := s.toks + 1 }) I.ns fun h' hn2 hs2 => ?_
  obtain ⟨oD, esD, epD, hoD, hdD, hcD⟩ := hn2.count (PySem.Within.cons name v hw)
  refine wpAny_bind (wpAny_lookBehind hoD (by rw [hdD]; exact pastItsLine_dict (Nat.le_trans hcD (by rw [List.length_cons]; omega))) ?_)
  exact wpAny_pure (h _ ⟨(hs2.2 _ (Ne.symm I.ne)).trans I.obj, hn2, I.ne⟩ hs2)

theorem make_map {R : Result → Shared → Prop} {vs : List Value} {kw : List (Str × Value)} (X : K.In s.heap) (hm : PySem.W.makesIn K C = true)
    (hi : PySem.W.findIn K (.ref C) "__init__" = some (some (.ref f))) (hf : PySem.W.typeIn K (.ref f) = some (.type "function"))
    (h : codeAny (model prog w) (A.under (.builtin "type.__call__" ⟨.ref C :: vs, kw⟩)) (.call (.ref f) ⟨.ref (s.heap.objs.size + 1) :: vs, kw⟩) (PySem.W.InitBack (s.heap.objs.size + 1) R)
      { s with heap := (s.heap.push PySem.W.emptyDict).push (PySem.W.instObj C s.heap.objs.size) }) :
    codeAny (model prog w) A (.call (.ref C) ⟨vs, kw⟩) R s := by
  obtain ⟨hh, g, d, t, os⟩ := s
  exact PySem.W.make_core (PySem.W.makes_of X hm) (PySem.W.looks_findIn X hi) (fun self => PySem.W.bind_fn X self hf) (.inl rfl) h
end

def putF (f : Str) (v : V) : List (Str × V) → List (Str × V)
  | [] => [(f, v)]
  | (g, x) :: r => if g = f then (g, v) :: r else (g, x) :: putF f v r
theorem lookup_putF (f g : Str) (v : V) : ∀ fs : List (Str × V), (putF f v fs).lookup g = if g = f then some v else fs.lookup g
  | [] => by
    show List.lookup g [(f, v)] = _
    by_cases h : g = f
    · have hb : (g == f) = true := beq_iff_eq.mpr h
      simp only [List.lookup, hb, if_pos h]
    · have hb : (g == f) = false := beq_eq_false_iff_ne.mpr h
      simp only [List.lookup, hb, if_neg h]
  | (k, x) :: r => by
    have ih := lookup_putF f g v r
    rw [show putF f v ((k, x) :: r) = (if k = f then (k, v) :: r else (k, x) :: putF f v r) from rfl]
    by_cases hk : k = f
    · rw [if_pos hk]
      by_cases h : g = k
      · have hb : (g == k) = true := beq_iff_eq.mpr h
        simp only [List.lookup, hb, if_pos (h.trans hk)]
      · have hb : (g == k) = false := beq_eq_false_iff_ne.mpr h
        simp only [List.lookup, hb, if_neg (fun e : g = f => h (e.trans hk.symm))]
    · rw [if_neg hk]
      by_cases h : g = k
      · have hb : (g == k) = true := beq_iff_eq.mpr h
        simp only [List.lookup, hb, if_neg (fun e : g = f => hk (h.symm.trans e))]
      · have hb : (g == k) = false := beq_eq_false_iff_ne.mpr h
        simp only [List.lookup, hb]
        exact ih
theorem keys_putF (f : Str) (v : V) : ∀ fs : List (Str × V), f ∈ (putF f v fs).map (·.1) ∧ ∀ g, g ∈ fs.map (·.1) → g ∈ (putF f v fs).map (·.1)
  | [] => ⟨by simp [putF], fun g h => by simp at h⟩
  | (k, x) :: r => by
    obtain ⟨i1, i2⟩ := keys_putF f v r
    rw [show putF f v ((k, x) :: r) = (if k = f then (k, v) :: r else (k, x) :: putF f v r) from rfl]
    by_cases hk : k = f
    · rw [if_pos hk]
      subst hk
      exact ⟨by simp, fun g h => by simpa using h⟩
    · rw [if_neg hk]
      refine ⟨?_, fun g h => ?_⟩
      · rw [List.map_cons]
        exact List.mem_cons_of_mem _ i1
      · rw [List.map_cons] at h ⊢
        rcases List.mem_cons.mp h with e | e
        · exact List.mem_cons.mpr (.inl e)
        · exact List.mem_cons_of_mem _ (i2 g e)
theorem length_putF (f : Str) (v : V) : ∀ fs : List (Str × V), (putF f v fs).length ≤ fs.length + 1
  | [] => by simp [putF]
  | (k, x) :: r => by
    have ih := length_putF f v r
    rw [show putF f v ((k, x) :: r) = (if k = f then (k, v) :: r else (k, x) :: putF f v r) from rfl]
    by_cases hk : k = f
    · rw [if_pos hk, List.length_cons, List.length_cons]; omega
    · rw [if_neg hk, List.length_cons, List.length_cons]; omega

theorem RelO.some_of {v : V} {o : Option Value} (r : RelO (some v) o) : ∃ u, o = some u ∧ RelV v u := by
  cases o with
  | none => exact (show False from r).elim
  | some u => exact ⟨u, rfl, r⟩
theorem RelO.none_of {o : Option Value} (r : RelO none o) : o = none := by
  cases o with
  | none => rfl
  | some u => exact (show False from r).elim
theorem handed_of {v : V} {u : Value} (r : RelV v u) : PySem.W.handedIn u = true := by
  cases v with
  | non => cases (show u = Value.none from r); rfl
  | bl b => cases (show u = Value.bool b from r); rfl
  | int i => obtain ⟨t, e⟩ := (show ∃ t, u = Value.int i t from r); cases e; rfl
  | str x => obtain ⟨t, e⟩ := (show ∃ t, u = Value.str x t from r); cases e; rfl
  | byt b => obtain ⟨t, e⟩ := (show ∃ t, u = Value.bytes b t from r); cases e; rfl
  | flt b => obtain ⟨t, e⟩ := (show ∃ t, u = Value.float b t from r); cases e; rfl
  | ref a => cases (show u = Value.ref a from r); rfl
  | ty n => cases (show u = Value.type n from r); rfl

section
variable {P : Program} {w : World} {H H' : Hp} {h h' : Heap} {a C dx : Addr} {fs fs' : List (Str × V)}
theorem ins_get (hok : HOk P w H h) (e : H a = some (.ins C dx fs)) : ∃ mA, ObjM h a dx C mA ∧ (∀ f, RelO (fs.lookup f) (mA f)) ∧ PySem.Within mA (fs.map (·.1)) ∧ fs.length ≤ 1000 ∧ H dx = some (.own a) := by
  obtain ⟨d, z, ne, ob, mA, n, r, q⟩ := (show ObjOk P w H h a (.ins C dx fs) from hok a _ e)
  exact ⟨mA, ⟨ob, n, ne⟩, r, q, z, d⟩
end

structure Cls (K : PySem.W.Frag) (C : Addr) : Prop where
  pg : PySem.W.plainGet K C Str.empty = true
  hd : PySem.W.hasDictIn K C = true
  po : PySem.W.plainOver K C = true
  sa : PySem.W.findIn K (.ref C) "__setattr__" = some (some (.builtin "object.__setattr__"))
theorem Cls.get {K : PySem.W.Frag} {C : Addr} (c : Cls K C) (f : Str) : PySem.W.plainGet K C f = true := c.pg
def NoAttr (K : PySem.W.Frag) (C : Addr) (f : Str) : Prop := PySem.W.findIn K (.ref C) f = some none
theorem NoAttr.taker {K : PySem.W.Frag} {C : Addr} {f : Str} (n : NoAttr K C f) : PySem.W.takerIn K C f = some none := by
  unfold PySem.W.takerIn
  rw [show PySem.W.findIn K (.ref C) f = some none from n]
  rfl
structure Meth (K : PySem.W.Frag) (C : Addr) (m : Str) (f : Addr) : Prop where
  at_ : PySem.W.findIn K (.ref C) m = some (some (.ref f))
  fn : PySem.W.isFn K (.ref f) = true
  kp : PySem.W.keepIn K (.ref f) = true

section
variable {X : Cx} {pins : List (Addr × Obj)} {σ : St} {H : Hp} {s : Shared} {a C dx : Addr} {fs : List (Str × V)} {f : Str} {v : V} {A : Around} {E : Value → Shared → Prop}

theorem getattr_ok {b : Bool} {Q : Value → Shared → Prop} (I : Inv X pins σ H s) (e : H a = some (.ins C dx fs)) (c : Cls X.K C) (n : NoAttr X.K C f) (l : fs.lookup f = some v)
    (h : ∀ u s', Inv X pins σ H s' → RelV v u → Q u s') : wpAny (model X.prog X.w) A (getAttr (.ref a) f b) Q E s := by
  obtain ⟨mA, O, r, _, _, _⟩ := ins_get I.hok e
  obtain ⟨u, hu, ru⟩ := RelO.some_of (v := v) (o := mA f) (by rw [← l]; exact r f)
  exact get_map I.kIn O (c.get f) c.hd n hu (handed_of ru) (h u _ (I.tok _) ru)

theorem getmeth_ok {m : Str} {g : Addr} {pl : Sem Bool} {Q : Value × List Value → Shared → Prop} (I : Inv X pins σ H s) (e : H a = some (.ins C dx fs)) (c : Cls X.K C) (k : Meth X.K C m g) (l : fs.lookup m = none)
    (h : Q (.ref g, [.ref a]) s) : wpAny (model X.prog X.w) A (getMethod (.ref a) m pl) Q E s := by
  obtain ⟨mA, O, r, _, _, _⟩ := ins_get I.hok e
  have hn : mA m = none := RelO.none_of (by rw [← l]; exact r m)
  exact get_meth I.kIn O (c.get m) k.at_ k.fn hn h

theorem setattr_ok {y : V} {u : Value} {Q : Unit → Shared → Prop} (I : Inv X pins σ H s) (e : H a = some (.ins C dx fs)) (c : Cls X.K C) (n : NoAttr X.K C f) (hl : fs.length < 1000) (ry : RelV y u)
    (h : ∀ s', Inv X pins σ (upd H a (.ins C dx (putF f y fs))) s' → Q () s') : wpAny (model X.prog X.w) A (setAttr (.ref a) f u) Q E s := by
  obtain ⟨mA, O, r, wi, _, ho⟩ := ins_get I.hok e
  have hz : (fs.map (·.1)).length ≤ sizeLine := by rw [List.length_map, sizeLine_eq]; omega
  refine set_map I.kIn O c.sa c.po n.taker c.hd wi hz fun h' O' sb => h _ ?_
  have hd : ∃ o, h'.get? dx = some o := let ⟨o, _, _, e', _⟩ := O'.ns; ⟨o, e'⟩
  refine I.write (x := a) (e := dx) (by rw [e]; exact True.intro) (.inr ho) (fun b q hb z => (sb.2 b hb).trans z) hd ?_
  refine ⟨by rw [upd_ne O.ne]; exact ho, ?_, O.ne, O'.obj, _, O'.ns, fun g => ?_, fun g hg => ?_⟩
  · have := length_putF f y fs; omega
  · show RelO ((putF f y fs).lookup g) (if g = f then some u else mA g)
    rw [lookup_putF]
    by_cases q : g = f
    · rw [if_pos q, if_pos q]; exact ry
    · rw [if_neg q, if_neg q]; exact r g
  · by_cases q : g = f
    · rw [q]; exact (keys_putF f y fs).1
    · refine (keys_putF f y fs).2 g (wi g fun z => hg ?_)
      show (if g = f then some u else mA g) = none
      rw [if_neg q]; exact z

theorem Inv.made (I : Inv X pins σ H s) : Inv X pins σ (upd (upd H s.heap.objs.size (.own (s.heap.objs.size + 1))) (s.heap.objs.size + 1) (.ins C s.heap.objs.size []))
    { s with heap := (s.heap.push PySem.W.emptyDict).push (PySem.W.instObj C s.heap.objs.size) } := by
  have e1 : (s.heap.push PySem.W.emptyDict).get? s.heap.objs.size = some PySem.W.emptyDict := Heap.get?_push_size s.heap rfl
  have e2 : ((s.heap.push PySem.W.emptyDict).push (PySem.W.instObj C s.heap.objs.size)).get? (s.heap.objs.size + 1) = some (PySem.W.instObj C s.heap.objs.size) := by
    have := Heap.get?_push_size (s.heap.push PySem.W.emptyDict) (o := PySem.W.instObj C s.heap.objs.size) rfl
    rwa [Heap.size_push] at this
  have e3 : (s.heap.push PySem.W.emptyDict).Ns s.heap.objs.size (fun _ => none) := ⟨PySem.W.emptyDict, #[], _, e1, rfl, (fun e he => absurd he (by simp)), fun _ => rfl⟩
  have I1 := I.laid (a := s.heap.objs.size) (o := .own (s.heap.objs.size + 1)) (h' := s.heap.push PySem.W.emptyDict) (t' := s.toks) (fun b u q => Heap.get?_push_of_some _ q) (Nat.le_refl _) ⟨_, e1⟩
  refine I1.laid (a := s.heap.objs.size + 1) (o := .ins C s.heap.objs.size []) (t' := s.toks) (fun b u q => Heap.get?_push_of_some _ q) (Nat.le_of_eq (Heap.size_push _ _)) ?_
  have ne : s.heap.objs.size ≠ s.heap.objs.size + 1 := Nat.ne_of_lt (Nat.lt_succ_self _)
  refine ⟨by rw [upd_ne ne, upd_same], Nat.zero_le _, ne, e2, fun _ => none, (Heap.Ns1.of_empty e3).at fun o q => Heap.get?_push_of_some _ q, fun _ => True.intro, fun y hy => absurd rfl hy⟩

theorem attr_of {prog : Program} {w : World} {env : Env} {e : Expr} {f : Str} {pos : Pos} {s : Shared} {Q : Value → Shared → Prop} (hb : attributeBase e f env (eval e env) = eval e env)
    (h : wpAny (model prog w) A (eval e env) (fun o s₁ => wpAny (model prog w) A (getAttr o f true) Q E s₁) E s) : wpAny (model prog w) A (eval (.Attribute e f pos) env) Q E s :=
  Attribute_any_ h (by rw [arm_eval_Attribute, hb])
end

def tFld (K : PySem.W.Frag) (ta : TE) (f : Str) : TE := fun σ H Q => ta σ H fun x H1 => ∃ a C dx fs v, x = .ref a ∧ H1 a = some (.ins C dx fs) ∧ Cls K C ∧ NoAttr K C f ∧ fs.lookup f = some v ∧ Q v H1
def sFld (K : PySem.W.Frag) (ta tv : TE) (f : Str) : TS := fun D σ H => tv σ H fun y H1 => ta σ H1 fun x H2 => ∃ a C dx fs, x = .ref a ∧ H2 a = some (.ins C dx fs) ∧ Cls K C ∧ NoAttr K C f ∧ fs.length < 1000 ∧
  D.nx σ (upd H2 a (.ins C dx (putF f y fs)))
section
variable {X : Cx} {o e value : Expr} {f : Str} {pos pos' tpos : Pos} {ta tv : TE}
theorem pe_fld (he : PE X e ta) (hb : attributeBase e f X.env (eval e X.env) = eval e X.env) : PE X (.Attribute e f pos) (tFld X.K ta f) := by
  intro pins s σ H Q I h
  refine attr_of hb (thn (he pins s σ H _ I h) fun u s1 ⟨x, H1, I1, rx, a, C, dx, fs, v, ex, ea, c, n, l, q⟩ => ?_)
  subst ex
  obtain rfl : u = Value.ref a := rx
  exact getattr_ok I1 ea c n l fun u' s2 I2 ru => ⟨v, H1, I2, ru, q⟩
theorem ps_fld (ha : PE X o ta) (hv : PE X value tv) (hs : swapsWith value (some (.Attribute o f pos')) pos.line X.env = pure false) : PS X (.Assign [.Attribute o f pos'] value pos) (sFld X.K ta tv f) := by
  intro pins s σ H D I h
  refine plainObj_wpAny_Assign_Attribute (thn (hv pins s σ H _ I h) fun u s1 ⟨y, H1, I1, ry, q⟩ => thn (ha pins s1 σ H1 _ I1 q) fun ov s2 ⟨x, H2, I2, rx, a, C, dx, fs, ex, ea, c, n, l, q2⟩ => ?_) hs
  subst ex
  obtain rfl : ov = Value.ref a := rx
  exact setattr_ok I2 ea c n l ry fun s3 I3 => ⟨σ, _, I3, q2⟩
theorem methcall_of {pl : Sem Bool} {m : Str} {apos : Pos} {args : List Expr} {pins : List (Addr × Obj)} {s : Shared} {σ : St} {H : Hp} {Q : Value → Shared → Prop} {te : TE} (he : PE X e te) (I : Inv X pins σ H s)
    (h : te σ H fun x H1 => ∃ a C dx fs g, x = .ref a ∧ H1 a = some (.ins C dx fs) ∧ Cls X.K C ∧ Meth X.K C m g ∧ fs.lookup m = none ∧
      ∀ s1, Inv X pins σ H1 s1 → wpAny (model X.prog X.w) X.A (callWith pos (.ref g) [.ref a] (backTo pos (starEach args X.env)) (backToKw pos (keywordEach [] X.env))) Q X.xe s1)
    (ht : eval (.Call (.Attribute e m apos) args [] pos) X.env = (do
      let ov ← eval e X.env
      standAt apos.atName
      let (f, first) ← holding [ov] (getMethod ov m pl)
      callWith pos f first (backTo pos (starEach args X.env)) (backToKw pos (keywordEach [] X.env)))) :
    wpAny (model X.prog X.w) X.A (eval (.Call (.Attribute e m apos) args [] pos) X.env) Q X.xe s := by
  refine PySem.W.methodCall_KW (pl := pl) (thn (he pins s σ H _ I h) fun u s1 ⟨x, H1, I1, rx, a, C, dx, fs, g, ex, ea, c, k, l, q⟩ => ?_) ht
  subst ex
  obtain rfl : u = Value.ref a := rx
  exact getmeth_ok I1 ea c k l (q s1 I1)
end

section
variable {X : Cx} {pins : List (Addr × Obj)} {σ : St} {H : Hp} {s : Shared} {A : Around} {E : Value → Shared → Prop} {Q : Value → Shared → Prop} {c : Value} {b : Bool}
end
end L2

namespace L2
open PySem PySem.Spec PyProof.Rows

structure Room (k : Nat) (A : Around) : Prop where
  hd : A.handled = none
  dp : A.depth + 3 * k + 5 < recursionLimit
  un : A.units + 16 * k + 200 < cLine
theorem Room.mono {j k : Nat} {A : Around} (r : Room k A) (h : j ≤ k) : Room j A := ⟨r.hd, by have := r.dp; omega, by have := r.un; omega⟩
theorem Room.deeper {k : Nat} {A : Around} (r : Room (k + 1) A) (env : Env) : Room k (A.deeper env) :=
  ⟨r.hd, by have := r.dp; show A.depth + 1 + 3 * k + 5 < _; omega, by have := r.un; show A.units + 3 + 16 * k + 200 < _; omega⟩
theorem make_depth {A : Around} {C : Addr} {us : List Value} {kw : List (Str × Value)} : (A.under (.builtin "type.__call__" ⟨.ref C :: us, kw⟩)).depth = A.depth + 1 := by
  first | rfl | simp [Around.under, Code.weight, Code.isCreation, Code.isGuard, Code.isCaller, Code.frames, Code.isFrame, guardIds]
theorem make_units {A : Around} {C : Addr} {us : List Value} {kw : List (Str × Value)} : (A.under (.builtin "type.__call__" ⟨.ref C :: us, kw⟩)).units = A.units + 1 := by
  first | rfl | simp [Around.under, Code.cUnits, Code.frames, Code.isFrame]
theorem Room.make {k : Nat} {A : Around} (r : Room (k + 1) A) (C : Addr) (us : List Value) (kw : List (Str × Value)) : Room k (A.under (.builtin "type.__call__" ⟨.ref C :: us, kw⟩)) :=
  ⟨r.hd, by have := r.dp; rw [make_depth]; omega, by have := r.un; rw [make_units]; omega⟩
theorem Room.depth {k : Nat} {A : Around} (r : Room k A) : A.depth < recursionLimit := by have := r.dp; omega
theorem Room.units {k : Nat} {A : Around} (r : Room k A) : A.units + 64 < cLine := by have := r.un; omega
def tNil : TA := fun _ H Q => Q [] H
def tCons (ta : TE) (tr : TA) : TA := fun σ H Q => ta σ H fun x H1 => tr σ H1 fun xs H2 => Q (x :: xs) H2
section
variable {X : Cx} {e : Expr} {es : List Expr} {te : TE} {t : TA} {pos : Pos}
theorem pa_nil : PA X [] tNil := fun _ _ _ _ H Q I h => Calls.spliced_nil ⟨[], H, I, .nil, h⟩
theorem pa_cons (ha : PE X e te) (hr : PA X es t) (hs : starEach (e :: es) X.env = (false, eval e X.env) :: starEach es X.env := by rfl) : PA X (e :: es) (tCons te t) := by
  intro pos pins s σ H Q I h
  rw [hs]
  show wpAny _ _ (spliced ((false, eval e X.env) :: backTo pos (starEach es X.env))) _ _ s
  refine Calls.spliced_cons (thn (ha pins s σ H _ I h) fun u s1 ⟨x, H1, I1, r1, q1⟩ => ?_)
  exact thn (hr pos pins s1 σ H1 _ I1 q1) fun us s2 ⟨xs, H2, I2, r2, q2⟩ => ⟨x :: xs, H2, I2, .cons r1 r2, q2⟩

def tLst (t : TA) : TE := fun σ H Q => t σ H fun xs H1 => xs.length ≤ sizeLine ∧ ∀ p, H1 p = none → Q (.ref p) (upd H1 p (.lst xs))
theorem pe_lst (h : PA X es t) : PE X (.List es pos) (tLst t) := by
  intro pins s σ H Q I hq
  refine wpAny_List_spliced (thn (h pos pins s σ H _ I hq) fun us s1 ⟨xs, H1, I1, r, z, q⟩ => ⟨by rw [← r.length]; exact z, ?_⟩)
  have hf : H1 s1.heap.objs.size = none := I1.hok.fresh (Nat.le_refl _)
  refine ⟨.ref s1.heap.objs.size, upd H1 s1.heap.objs.size (.lst xs), I1.laid (t' := s1.toks) (fun b u e => Heap.get?_push_of_some _ e) (Nat.le_refl _) ?_, rfl, q _ hf⟩
  exact ⟨z, us, 0, r, Heap.get?_push_size _ rfl⟩
end

abbrev Sp := List V → Hp → VK → XK → Prop
abbrev CXT := List Env → Hp → Shared → XK → Value → Shared → Prop

structure Env0 (P : Program) (w : World) (K : PySem.W.Frag) (mg : Str → Option Value) (base : Heap) (A : Around) (outer : List Env) (s : Shared) (H : Hp) : Prop where
  frames : A.frames = some outer
  mod : Mod K mg base
  bs : ∀ b o, base.get? b = some o → s.heap.get? b = some o ∧ H b = none
  bsz : base.objs.size ≤ s.heap.objs.size
  funs : s.heap.FunFrames base outer
  frf : ∀ b ∈ frs outer, H b = none
  hok : HOk P w H s.heap
  bare : AllBare s.gens
def CE (outer : List Env) (P : Program) (w : World) (H : Hp) (s : Shared) (Q : VK) (u : Value) (s' : Shared) : Prop :=
  ∃ v H', s'.os = s.os ∧ AllBare s'.gens ∧ Un (frs outer) [] H H' s.heap s'.heap ∧ HOk P w H' s'.heap ∧ RelV v u ∧ Q v H'
def CR (CX : CXT) (outer : List Env) (P : Program) (w : World) (H : Hp) (s : Shared) (Q : VK) (E : XK) (r : Result) (s' : Shared) : Prop :=
  match r with
  | .ok (.ret u) => CE outer P w H s Q u s'
  | .ok _ => False
  | .error e => CX outer H s E e s'
structure FnOk (P : Program) (w : World) (K : PySem.W.Frag) (mg : Str → Option Value) (base : Heap) (CX : CXT) (k : Nat) (f : Addr) (fd : FuncData) (ps : List Str) (sp : Sp) : Prop where
  len : ∀ vs H Q E, sp vs H Q E → vs.length = ps.length
  run : ∀ (A : Around) (outer : List Env) (s : Shared) (H : Hp) (args : Args) (us : List Value) (vs : List V) (Q : VK) (E : XK), Room k A → Env0 P w K mg base A outer s H → BindsTo s fd args (ps.zip us) → Vals vs us → sp vs H Q E →
    codeAny (model P w) A (.call (.ref f) args) (CR CX outer P w H s Q E) s
theorem FnOk.mono {P : Program} {w : World} {K : PySem.W.Frag} {mg : Str → Option Value} {base : Heap} {CX : CXT} {j k : Nat} {f : Addr} {fd : FuncData} {ps : List Str} {sp : Sp} (F : FnOk P w K mg base CX j f fd ps sp) (h : j ≤ k) :
    FnOk P w K mg base CX k f fd ps sp := ⟨F.len, fun A outer s H args us vs Q E hr => F.run A outer s H args us vs Q E (hr.mono h)⟩
theorem FnOk.imp {P : Program} {w : World} {K : PySem.W.Frag} {mg : Str → Option Value} {base : Heap} {CX : CXT} {k : Nat} {f : Addr} {fd : FuncData} {ps : List Str} {sp sp' : Sp} (F : FnOk P w K mg base CX k f fd ps sp)
    (h : ∀ vs H Q E, sp' vs H Q E → sp vs H Q E) : FnOk P w K mg base CX k f fd ps sp' :=
  ⟨fun vs H Q E q => F.len vs H Q E (h _ _ _ _ q), fun A outer s H args us vs Q E hr he hb hv hs => F.run A outer s H args us vs Q E hr he hb hv (h _ _ _ _ hs)⟩

theorem Env0.make {P : Program} {w : World} {K : PySem.W.Frag} {mg : Str → Option Value} {base : Heap} {A : Around} {outer : List Env} {s : Shared} {H : Hp} (e : Env0 P w K mg base A outer s H) (C : Addr) (us : List Value) (kw : List (Str × Value)) :
    Env0 P w K mg base (A.under (.builtin "type.__call__" ⟨.ref C :: us, kw⟩)) outer s H := ⟨by first | exact e.frames | (simpa [Around.under, Code.envs, Code.isFrame, pushEnvs] using e.frames), e.mod, e.bs, e.bsz, e.funs, e.frf, e.hok, e.bare⟩
section
variable {X : Cx} {pins : List (Addr × Obj)} {σ : St} {H : Hp} {s s' : Shared}
theorem Inv.env0 (I : Inv X pins σ H s) : Env0 X.prog X.w X.K X.mg X.base X.A X.stack s H :=
  ⟨I.ok.frames, I.ok.mod, I.bs, Nat.le_trans I.ok.bsz I.sz, I.stack, I.stkFree, I.hok, I.bare⟩
theorem Inv.after {Q : VK} {u : Value} (I : Inv X pins σ H s) (h : CE X.stack X.prog X.w H s Q u s') : EP X pins σ Q u s' := by
  obtain ⟨v, H', os, bare, un, hok, r, q⟩ := h
  obtain ⟨hh, g, d, t, os'⟩ := s'
  obtain rfl : os' = s.os := os
  exact ⟨v, H', I.call (h' := hh) (g' := g) (d' := d) (t' := t) (ch := []) un hok bare (fun b z => absurd z (by simp)), r, q⟩
end

def tCall (sp : Sp) (dvs : List V) (E : XK) (t : TA) : TE := fun σ H Q => t σ H fun vs H1 => sp (vs ++ dvs) H1 Q E
def tMeth (C : Addr) (m : Str) (sp : Sp) (dvs : List V) (E : XK) (ta : TE) (t : TA) : TE := fun σ H Q => ta σ H fun x H1 => ∃ a dx fs, x = .ref a ∧ H1 a = some (.ins C dx fs) ∧ fs.lookup m = none ∧
  t σ H1 fun vs H2 => sp (x :: (vs ++ dvs)) H2 Q E
def tMake (C : Addr) (sp : Sp) (dvs : List V) (E : XK) (t : TA) : TE := fun σ H Q => t σ H fun vs H1 => ∀ x dx, H1 x = none → H1 dx = none → dx ≠ x →
  sp (.ref x :: (vs ++ dvs)) (upd (upd H1 dx (.own x)) x (.ins C dx [])) (fun v H2 => v = .non ∧ Q (.ref x) H2) E

def Binds (K : PySem.W.Frag) (fd : FuncData) (ps : List Str) (ds : List Value) : Prop :=
  ∀ (s : Shared) (us : List Value), K.In s.heap → (us ++ ds).length = ps.length → BindsTo s fd ⟨us, []⟩ (ps.zip (us ++ ds))
theorem Binds.all {K : PySem.W.Frag} {fd : FuncData} {ps : List Str} (h : ∀ us : List Value, us.length = ps.length → bindArgs fd ⟨us, []⟩ = pure (ps.zip us)) : Binds K fd ps [] := fun s us _ hl => by
  rw [List.append_nil] at hl ⊢
  exact .of_eq (h us hl)

def Passes (CX : CXT) (X : Cx) (E : XK) : Prop := ∀ (pins : List (Addr × Obj)) (σ : St) (H : Hp) (s : Shared) (e : Value) (s' : Shared), Inv X pins σ H s → CX X.stack H s E e s' → X.xe e s'

section
variable {X : Cx} {CX : CXT} {k : Nat} {f C : Addr} {fd : FuncData} {ps : List Str} {sp : Sp} {dvs : List V} {ds : List Value} {E : XK} {x m : Str} {p pos apos : Pos} {e o : Expr} {es : List Expr} {ta : TE} {t : TA}

theorem run_fn {pins : List (Addr × Obj)} {σ : St} {H : Hp} {s : Shared} {Q : VK} {us : List Value} {vs : List V} (F : FnOk X.prog X.w X.K X.mg X.base CX k f fd ps sp) (hr : Room k X.A) (hb : Binds X.K fd ps ds) (hd : Vals dvs ds) (hx : Passes CX X E)
    (I : Inv X pins σ H s) (r : Vals vs us) (h : sp (vs ++ dvs) H Q E) : wpAny (model X.prog X.w) X.A (call (.ref f) us) (EP X pins σ Q) X.xe s := by
  have r2 : Vals (vs ++ dvs) (us ++ ds) := r.append hd
  have hl : (us ++ ds).length = ps.length := by rw [← r2.length]; exact F.len _ _ _ _ h
  refine wpAny_call (codeAny_mono (F.run X.A X.stack s H ⟨us, []⟩ (us ++ ds) (vs ++ dvs) Q E hr I.env0 (hb s us I.kIn hl) r2 h) fun r s' hq => ?_)
  cases r with
  | error e => exact hx pins σ H s e s' I hq
  | ok fl =>
    cases fl with
    | ret u => exact I.after hq
    | next => exact False.elim hq
    | brk => exact False.elim hq
    | cont => exact False.elim hq

theorem pe_call (F : FnOk X.prog X.w X.K X.mg X.base CX k f fd ps sp) (hr : Room k X.A) (hg : Gl X x) (hm : X.mg x = some (.ref f)) (hk : PySem.W.keepIn X.K (.ref f) = true) (hb : Binds X.K fd ps ds) (hd : Vals dvs ds) (hx : Passes CX X E)
    (ha : PA X (e :: es) t) (hdb : (x == ("__debug__" : Str)) = false := by decide) (he : starEach (e :: es) X.env = (false, eval e X.env) :: starEach es X.env := by rfl) (hpl : (backTo pos (starEach es X.env)).any (·.1) = false := by rfl) :
    PE X (.Call (.Name x p) (e :: es) [] pos) (tCall sp dvs E t) := by
  intro pins s σ H Q I h
  refine wpAny_Call_Name_kw (ld_glob I hg hm ?_ hdb)
  refine PySem.W.callWith_K (h₀ := X.base) I.ok.mod.kin hk (thn (ha pos pins s σ H _ I h) fun us s1 ⟨vs, H1, I1, r, q⟩ => ⟨I1.kIn, ?_⟩) he hpl
  exact run_fn F hr hb hd hx I1 r q
theorem pe_call0 (F : FnOk X.prog X.w X.K X.mg X.base CX k f fd ps sp) (hr : Room k X.A) (hg : Gl X x) (hm : X.mg x = some (.ref f)) (hk : PySem.W.keepIn X.K (.ref f) = true) (hb : Binds X.K fd ps ds) (hd : Vals dvs ds) (hx : Passes CX X E)
    (hdb : (x == ("__debug__" : Str)) = false := by decide) : PE X (.Call (.Name x p) [] [] pos) (tCall sp dvs E tNil) := by
  intro pins s σ H Q I h
  refine wpAny_Call_Name_kw (ld_glob I hg hm ?_ hdb)
  exact PySem.W.callWith_K0 I.kIn hk (run_fn (us := []) F hr hb hd hx I .nil h)

theorem pe_meth {pl : Sem Bool} (he : PE X o ta) (c : Cls X.K C) (hm : Meth X.K C m f) (F : FnOk X.prog X.w X.K X.mg X.base CX k f fd ps sp) (hr : Room k X.A) (hb : Binds X.K fd ps ds) (hd : Vals dvs ds) (hx : Passes CX X E) (ha : PA X (e :: es) t)
    (hst : starEach (e :: es) X.env = (false, eval e X.env) :: starEach es X.env := by rfl) (hpl : (backTo pos (starEach es X.env)).any (·.1) = false := by rfl)
    (ht : eval (.Call (.Attribute o m apos) (e :: es) [] pos) X.env = (do
      let ov ← eval o X.env
      standAt apos.atName
      let (f, first) ← holding [ov] (getMethod ov m pl)
      callWith pos f first (backTo pos (starEach (e :: es) X.env)) (backToKw pos (keywordEach [] X.env))) := by rfl) :
    PE X (.Call (.Attribute o m apos) (e :: es) [] pos) (tMeth C m sp dvs E ta t) := by
  intro pins s σ H Q I h
  refine PySem.W.methodCall_KW (pl := pl) (thn (he pins s σ H _ I h) fun u s1 ⟨x, H1, I1, rx, a, dx, fs, ex, ea, l, q⟩ => ?_) ht
  subst ex
  obtain rfl : u = Value.ref a := rx
  refine getmeth_ok I1 ea c hm l ?_
  refine PySem.W.callWith_K (first := [.ref a]) (h₀ := X.base) I.ok.mod.kin hm.kp (thn (ha pos pins s1 σ H1 _ I1 q) fun us s2 ⟨vs, H2, I2, r, q2⟩ => ⟨I2.kIn, ?_⟩) hst hpl
  exact run_fn (us := .ref a :: us) (vs := .ref a :: vs) F hr hb hd hx I2 (.cons rfl r) q2
structure Mk (K : PySem.W.Frag) (C f : Addr) : Prop where
  makes : PySem.W.makesIn K C = true
  init : PySem.W.findIn K (.ref C) "__init__" = some (some (.ref f))
  fn : PySem.W.isFn K (.ref f) = true
  kp : PySem.W.keepIn K (.ref C) = true

theorem run_make {pins : List (Addr × Obj)} {σ : St} {H : Hp} {s : Shared} {Q : VK} {us : List Value} {vs : List V} (M : Mk X.K C f) (F : FnOk X.prog X.w X.K X.mg X.base CX k f fd ps sp) (hr : Room (k + 1) X.A) (hb : Binds X.K fd ps ds) (hd : Vals dvs ds)
    (hx : Passes CX X E) (I : Inv X pins σ H s) (r : Vals vs us)
    (h : ∀ x dx, H x = none → H dx = none → dx ≠ x → sp (.ref x :: (vs ++ dvs)) (upd (upd H dx (.own x)) x (.ins C dx [])) (fun v H2 => v = .non ∧ Q (.ref x) H2) E) :
    wpAny (model X.prog X.w) X.A (call (.ref C) us) (EP X pins σ Q) X.xe s := by
  have hq := h (s.heap.objs.size + 1) s.heap.objs.size (I.hok.fresh (Nat.le_succ _)) (I.hok.fresh (Nat.le_refl _)) (Nat.ne_of_lt (Nat.lt_succ_self _))
  have I2 := Inv.made (C := C) I
  have r2 : Vals (V.ref (s.heap.objs.size + 1) :: (vs ++ dvs)) (Value.ref (s.heap.objs.size + 1) :: (us ++ ds)) := .cons rfl (r.append hd)
  have hl : (Value.ref (s.heap.objs.size + 1) :: us ++ ds).length = ps.length := by
    have e := r2.length
    rw [F.len _ _ _ _ hq] at e
    exact e.symm
  refine wpAny_call (make_map (f := f) I.kIn M.makes M.init (beq_iff_eq.mp M.fn) (codeAny_mono (F.run _ X.stack _ _ ⟨Value.ref (s.heap.objs.size + 1) :: us, []⟩ (Value.ref (s.heap.objs.size + 1) :: (us ++ ds)) _ _ E (hr.make C us [])
    (I2.env0.make C us []) (hb _ (Value.ref (s.heap.objs.size + 1) :: us) I2.kIn hl) r2 hq) fun r s' hq' => ?_))
  cases r with
  | error e => exact hx pins σ _ _ e s' I2 hq'
  | ok fl =>
    cases fl with
    | ret u =>
      obtain ⟨v, H', I3, rv, ev, q3⟩ := I2.after hq'
      subst ev
      exact ⟨rv, ⟨V.ref (s.heap.objs.size + 1), H', I3, rfl, q3⟩⟩
    | next => exact False.elim hq'
    | brk => exact False.elim hq'
    | cont => exact False.elim hq'
theorem pe_make (M : Mk X.K C f) (F : FnOk X.prog X.w X.K X.mg X.base CX k f fd ps sp) (hr : Room (k + 1) X.A) (hg : Gl X x) (hm : X.mg x = some (.ref C)) (hb : Binds X.K fd ps ds) (hd : Vals dvs ds) (hx : Passes CX X E)
    (ha : PA X (e :: es) t) (hdb : (x == ("__debug__" : Str)) = false := by decide) (he : starEach (e :: es) X.env = (false, eval e X.env) :: starEach es X.env := by rfl) (hpl : (backTo pos (starEach es X.env)).any (·.1) = false := by rfl) :
    PE X (.Call (.Name x p) (e :: es) [] pos) (tMake C sp dvs E t) := by
  intro pins s σ H Q I h
  refine wpAny_Call_Name_kw (ld_glob I hg hm ?_ hdb)
  refine PySem.W.callWith_K (h₀ := X.base) I.ok.mod.kin M.kp (thn (ha pos pins s σ H _ I h) fun us s1 ⟨vs, H1, I1, r, q⟩ => ⟨I1.kIn, ?_⟩) he hpl
  exact run_make M F hr hb hd hx I1 r q
end

section
variable {X : Cx} {CX : CXT} {k : Nat} {f C : Addr} {fd : FuncData} {ps ks : List Str} {sp : Sp} {E : XK} {x m : Str} {p pos apos kpos : Pos} {e o : Expr} {es : List Expr} {kws : List Keyword} {te ta : TE} {t tk : TA} {nm : Option Str}
variable {g : List Value → List Value → List Value} {gV : List V → List V → List V}
end

structure FnScope (N P : List Str) (sc : Scope) : Prop where
  kind : sc.kind = .function
  co : sc.isCoroutine = false
  gen : sc.isGenerator = false
  nd : N.Nodup
  pre : N.take P.length = P
  par : ∀ x ∈ P, sc.names.lookup x = some .local ∨ sc.names.lookup x = some .cell
  nofree : ∀ y ∈ sc.names, y.2 ≠ .free

theorem bindL_out {kindOf : Str → Option NameKind} {x : Str} : ∀ {binds : List (Str × Value)} {m : Str → Option Value}, (∀ v, (x, v) ∉ binds) → bindL kindOf binds m x = m x
  | [], _, _ => rfl
  | (n, v) :: r, m, h => by
    unfold bindL
    rw [bindL_out fun w hw => h w (List.mem_cons_of_mem _ hw)]
    split
    · have : x ≠ n := by rintro rfl; exact h v List.mem_cons_self
      simp [this]
    · rfl
theorem bindC_out {kindOf : Str → Option NameKind} {x : Str} : ∀ {binds : List (Str × Value)} {m : Str → Option Value}, (∀ v, (x, v) ∉ binds) → bindC kindOf binds m x = m x
  | [], _, _ => rfl
  | (n, v) :: r, m, h => by
    unfold bindC
    rw [bindC_out fun w hw => h w (List.mem_cons_of_mem _ hw)]
    split
    · rfl
    · have : x ≠ n := by rintro rfl; exact h v List.mem_cons_self
      simp [this]
theorem bindL_get {kindOf : Str → Option NameKind} {x : Str} {v : Value} : ∀ {P : List Str} {vs : List Value} {i : Nat} {m : Str → Option Value}, P.Nodup → P[i]? = some x → vs[i]? = some v → kindOf x = some .local →
    bindL kindOf (P.zip vs) m x = some v
  | [], _, _, _, _, h, _, _ => by simp at h
  | _ :: _, [], _, _, _, _, h, _ => by simp at h
  | p :: P, w :: vs, 0, m, nd, h1, h2, hk => by
    simp at h1 h2; subst h1; subst h2
    show bindL kindOf ((p, w) :: P.zip vs) m p = _
    unfold bindL
    rw [bindL_out fun v hv => (List.nodup_cons.mp nd).1 (List.of_mem_zip hv).1, if_pos hk]
    simp
  | p :: P, w :: vs, i + 1, m, nd, h1, h2, hk => by
    show bindL kindOf ((p, w) :: P.zip vs) m x = _
    unfold bindL
    exact bindL_get (i := i) (List.nodup_cons.mp nd).2 (by simpa using h1) (by simpa using h2) hk
theorem bindC_get {kindOf : Str → Option NameKind} {x : Str} {v : Value} : ∀ {P : List Str} {vs : List Value} {i : Nat} {m : Str → Option Value}, P.Nodup → P[i]? = some x → vs[i]? = some v → kindOf x ≠ some .local →
    bindC kindOf (P.zip vs) m x = some v
  | [], _, _, _, _, h, _, _ => by simp at h
  | _ :: _, [], _, _, _, _, h, _ => by simp at h
  | p :: P, w :: vs, 0, m, nd, h1, h2, hk => by
    simp at h1 h2; subst h1; subst h2
    show bindC kindOf ((p, w) :: P.zip vs) m p = _
    unfold bindC
    rw [bindC_out fun v hv => (List.nodup_cons.mp nd).1 (List.of_mem_zip hv).1, if_neg hk]
    simp
  | p :: P, w :: vs, i + 1, m, nd, h1, h2, hk => by
    show bindC kindOf ((p, w) :: P.zip vs) m x = _
    unfold bindC
    exact bindC_get (i := i) (List.nodup_cons.mp nd).2 (by simpa using h1) (by simpa using h2) hk

def start (N : List Str) (vs : List V) : St := vs.map some ++ List.replicate (N.length - vs.length) none

def cxOf (CX : CXT) (P : Program) (w : World) (K : PySem.W.Frag) (mg : Str → Option Value) (base : Heap) (N : List Str) (qual : Str) (scope : Scope) (f : Addr) (cd : Value) (A : Around) (outer : List Env) (s : Shared) (H : Hp) (E : XK) : Cx where
  prog := P
  w := w
  K := K
  mg := mg
  base := base
  A := A.deeper (envOfC qual scope s.heap.objs.size f cd)
  N := N
  s_0 := s
  H_0 := H
  env := envOfC qual scope s.heap.objs.size f cd
  outer := outer
  stack := envOfC qual scope s.heap.objs.size f cd :: outer
  ex := []
  calm := true
  fn := fun _ => true
  pn := []
  xe := fun e s' => wpAny (model P w) (A.deeper (envOfC qual scope s.heap.objs.size f cd)) (leaving (envOfC qual scope s.heap.objs.size f cd) e) (fun _ s'' => CX outer H s E e s'') (fun e' s'' => CX outer H s E e' s'') s'

theorem cell_has {sc : Scope} {n : Nat} {x : Str} (h : sc.names.lookup x = some .cell) : ∃ c, (cellsFrom n sc.names []).lookup x = some c := by
  have q := PySem.W.cellsFrom_some sc.names n [] (.inl h)
  exact Option.isSome_iff_exists.mp q

theorem inv_start {CX : CXT} {P : Program} {w : World} {K : PySem.W.Frag} {mg : Str → Option Value} {base : Heap} {N ps : List Str} {qual : Str} {scope : Scope} {f : Addr} {cd : Value} {A : Around} {outer : List Env} {s s1 : Shared} {H : Hp} {E : XK} {us : List Value} {vs : List V}
    (S : FnScope N ps scope) (hd : A.handled = none) (e0 : Env0 P w K mg base A outer s H) (hl : vs.length = ps.length) (r : Vals vs us)
    (x : InCallC s s.heap.objs.size (bindL (envOfC qual scope s.heap.objs.size f cd).kindOf (ps.zip us) fun _ => none) (cellsFrom (s.heap.objs.size + 1) scope.names []) (bindC (envOfC qual scope s.heap.objs.size f cd).kindOf (ps.zip us) fun _ => none) s1) :
    Inv (cxOf CX P w K mg base N qual scope f cd A outer s H E) [] (start N vs) H s1 := by
  have hpl : ps.length ≤ N.length := by have := congrArg List.length S.pre; rw [List.length_take] at this; omega
  obtain ⟨h1, tk, rfl, hk⟩ := x.done
  have noA : ∀ b : Addr, b ∉ (cxOf CX P w K mg base N qual scope f cd A outer s H E).ex := fun b z => absurd (show b ∈ ([] : List Addr) from z) (by simp)
  refine ⟨⟨e0.mod, S.kind, rfl, rfl, Nat.le_refl _, fun y z c h1 h2 => ?_, fun y hy => ?_, fun y c _ h => ?_, fun _ => hd, Around.frames_deeper e0.frames, .inr ⟨rfl, rfl⟩, fun b z => absurd z (noA b), e0.bs, e0.bsz, fun b _ _ => noA b, fun b z => absurd z (noA b), e0.funs, e0.frf⟩,
    rfl, e0.bare, Un.kept hk, ⟨_, x.toInCall.ns, fun i y v h1 h2 h3 => ?_⟩, fun y c h => ⟨_, x.cell y c h⟩, e0.hok.fresh (Nat.le_refl _), fun y c h => ?_, fun p hp => absurd (show p ∈ ([] : List (Addr × Obj)) from hp) (by simp), e0.hok.kept hk, ?_⟩
  · exact name_of_addr x.apart (PySem.mem_of_lookup h1) (PySem.mem_of_lookup h2)
  · have hy : scope.names.lookup y = some .cell ∨ scope.names.lookup y = some .free := hy
    rcases hy with hy | hy
    · exact cell_has hy
    · exact absurd rfl (S.nofree _ (PySem.mem_of_lookup hy))
  · exact Nat.le_of_lt (x.above y c (PySem.mem_of_lookup h))
  · have hi : i < vs.length := by
      unfold start at h2
      by_cases hi : i < vs.length
      · exact hi
      · rw [List.getElem?_append_right (by simpa using hi)] at h2
        rw [List.getElem?_replicate] at h2
        split at h2 <;> cases h2
    have ha : vs[i]? = some v := by
      unfold start at h2
      rw [List.getElem?_append_left (by simpa using hi), List.getElem?_map] at h2
      cases e : vs[i]? with
      | none => rw [e] at h2; cases h2
      | some a => rw [e] at h2; cases h2; rfl
    obtain ⟨u, hu, rv⟩ := r.get ha
    have hp : ps[i]? = some y := by
      rw [← S.pre, List.getElem?_take_of_lt (by omega)]; exact h1
    have ndP : ps.Nodup := by rw [← S.pre]; exact S.nd.sublist (List.take_sublist _ _)
    refine ⟨u, rv, ?_⟩
    rcases S.par y (List.mem_of_getElem? hp) with k | k
    · exact .inl ⟨k, bindL_get ndP hp hu k⟩
    · obtain ⟨c, e⟩ := cell_has (n := s.heap.objs.size + 1) k
      refine .inr ⟨.inl k, c, e, ?_⟩
      have q := x.cell y c e
      rw [bindC_get ndP hp hu (by show scope.names.lookup y ≠ _; rw [k]; decide)] at q
      exact q
  · exact e0.hok.fresh (Nat.le_of_lt (x.above y c (PySem.mem_of_lookup h)))
  · unfold start
    show _ = N.length
    rw [List.length_append, List.length_map, List.length_replicate]
    omega

theorem fn_of {CX : CXT} {P : Program} {w : World} {K : PySem.W.Frag} {mg : Str → Option Value} {base : Heap} {k : Nat} {f : Addr} {name qual : Str} {params : Arguments} {body : List Stmt} {scope : Scope} {dV kV doc pm cdv ct oc : Value} {an od : Option Addr}
    {osl : Array (Option Value)} {N ps : List Str} {sp : Sp} (lk : K.lookup f = some ⟨oc, od, .func (PySem.W.fnOf name qual params body scope dV kV doc pm an cdv ct), osl⟩) (hcd : PySem.W.codeIn K cdv qual = true) (S : FnScope N ps scope)
    (len : ∀ vs H Q E, sp vs H Q E → vs.length = ps.length)
    (hbody : ∀ (A : Around) (outer : List Env) (s : Shared) (H : Hp) (vs : List V) (Q : VK) (E : XK), Room k (A.deeper (envOfC qual scope s.heap.objs.size f cdv)) → sp vs H Q E →
      ∃ t, PSs (cxOf CX P w K mg base N qual scope f cdv A outer s H E) body t ∧ t { nx := fun _ H' => Q .non H', rt := Q } (start N vs) H) :
    FnOk P w K mg base CX (k + 1) f (PySem.W.fnOf name qual params body scope dV kV doc pm an cdv ct) ps sp := by
  refine ⟨len, fun A outer s H args us vs Q E hr e0 hb r hsp => ?_⟩
  have hl := len _ _ _ _ hsp
  have KX : K.In s.heap := e0.mod.kin.keeps fun b o e => (e0.bs b o e).1
  have lim : s.heap.NoLimit := e0.mod.nolimit.keeps fun b o e => (e0.bs b o e).1
  have hkind : ∀ y ∈ ps.zip us, scope.names.lookup y.1 = some .local ∨ (scope.names.lookup y.1 = some .cell ∧ ((cellsFrom (s.heap.objs.size + 1) scope.names []).lookup y.1).isSome = true) := fun ⟨n, v⟩ hy => by
    rcases S.par n (List.of_mem_zip hy).1 with q | q
    · exact .inl q
    · exact .inr ⟨q, PySem.W.cellsFrom_some _ _ _ (.inl q)⟩
  refine codeAny_call_function hr.depth (KX _ _ lk) rfl S.co S.gen rfl (PySem.W.codeRec_of KX hcd) (hb _ _ _ _ ?_)
  refine wpAny_newFunctionEnv_cells S.kind hkind fun env he s1 x => ?_
  subst he
  refine ⟨lim.keeps x.toInCall.keep, codeAny_func ?_⟩
  obtain ⟨t, ht, hq⟩ := hbody A outer s H vs Q E (hr.deeper _) hsp
  have I : Inv (cxOf CX P w K mg base N qual scope f cdv A outer s H E) [] (start N vs) H s1 := inv_start S hr.hd e0 hl r x
  refine wpAny_mono (ht [] s1 (start N vs) H _ I hq) (fun fl s' hs => ?_) fun e s' hs => hs
  have fin : ∀ {σ' : St} {H' : Hp} {v : V} {u : Value}, Inv (cxOf CX P w K mg base N qual scope f cdv A outer s H E) [] σ' H' s' → RelV v u → Q v H' → CE outer P w H s Q u s' :=
    fun {σ' H' v u} J rv q => ⟨v, H', J.os, J.bare, J.base, J.hok, rv, q⟩
  cases fl with
  | ret u =>
    obtain ⟨v, σ', H', J, rv, q⟩ := hs
    exact fin J rv q
  | next =>
    obtain ⟨σ', H', J, q⟩ := hs
    exact fin (v := V.non) (u := Value.none) J rfl q
  | brk =>
    obtain ⟨_, _, _, q⟩ := hs
    exact False.elim q
  | cont =>
    obtain ⟨_, _, _, q⟩ := hs
    exact False.elim q
end L2

namespace L2
open PySem PySem.Spec PyProof.Rows
section
variable {X : Cx} {x : Str} {p pos : Pos} {e : Expr} {es : List Expr} {t : TA} {id T : String} {r : List V → Hp → VK → Prop}

def tCB (r : List V → Hp → VK → Prop) (t : TA) : TE := fun σ H Q => t σ H fun vs H1 => r vs H1 Q
theorem pe_callB (hc : CallR X (.builtin id) r) (hg : Gl X x) (hm : X.mg x = none) (hv : bootBuiltins x = some (.builtin id)) (ha : PA X (e :: es) t) (hn : x ≠ "__name__" := by decide) (hdb : (x == ("__debug__" : Str)) = false := by decide)
    (he : starEach (e :: es) X.env = (false, eval e X.env) :: starEach es X.env := by rfl) (hpl : (backTo pos (starEach es X.env)).any (·.1) = false := by rfl) : PE X (.Call (.Name x p) (e :: es) [] pos) (tCB r t) := by
  intro pins s σ H Q I h
  refine wpAny_Call_Name_kw (ld_blt I hg hm hv ?_ hn hdb)
  exact PyProof.Rows.callWith_builtin1 (thn (ha pos pins s σ H _ I h) fun us s1 ⟨vs, H1, I1, r1, q1⟩ => hc pins s1 σ H1 vs us Q I1 r1 q1) he hpl
end
end L2

namespace HT
open PySem PyProof.Rows

section
open PySem.SeqAt
open PySem.AutoSeq1 (wpAny_loadPart')
open PySem.MeetsSeq PySem.MeetsSeq2 PySem.MeetsSeq3

end

section
variable {prog : Program} {w : World} {A : Around} {E : Value → Shared → Prop} {s : Shared}

end
end HT

namespace L2
open PySem PySem.Spec PyProof.Rows

section
variable {X : Cx} {e : Expr} {te : TE} {lo hi : Option Expr} {tl th : TO} {pos p2 : Pos}

end
end L2

namespace L2
open PySem PySem.Spec PyProof.Rows

def ixN (n : Nat) (i : Int) : Option Nat := if 0 ≤ i then (if i < n then some i.toNat else none) else if -(n : Int) ≤ i then some (i + n).toNat else none
def atI {α : Type} (xs : List α) (i : Int) : Option α := (ixN xs.length i).bind fun j => xs[j]?
theorem ixN_seq {n : Nat} {i : Int} {j : Nat} (h : ixN n i = some j) : seqIndex? i n = some j ∧ j < n ∧ -(n : Int) ≤ i ∧ i < n := by
  unfold ixN at h
  by_cases h0 : 0 ≤ i
  · rw [if_pos h0] at h
    by_cases h1 : i < n
    · rw [if_pos h1] at h
      have e : i.toNat = j := Option.some.inj h
      exact ⟨by rw [seqIndex_of h0 h1, e], by omega, by omega, h1⟩
    · rw [if_neg h1] at h; cases h
  · rw [if_neg h0] at h
    by_cases h1 : -(n : Int) ≤ i
    · rw [if_pos h1] at h
      have e : (i + n).toNat = j := Option.some.inj h
      exact ⟨by rw [seqIndex_neg (by omega) h1, e], by omega, h1, by omega⟩
    · rw [if_neg h1] at h; cases h
theorem atI_get {α : Type} {xs : List α} {i : Int} {v : α} (h : atI xs i = some v) : ∃ j, seqIndex? i xs.length = some j ∧ xs[j]? = some v ∧ j < xs.length ∧ -(xs.length : Int) ≤ i ∧ i < xs.length := by
  unfold atI at h
  cases e : ixN xs.length i with
  | none => rw [e] at h; cases h
  | some j =>
    rw [e] at h
    obtain ⟨h1, h2, h3, h4⟩ := ixN_seq e
    exact ⟨j, h1, h, h2, h3, h4⟩
theorem atI_nat {α : Type} {xs : List α} {j : Nat} {v : α} (h : xs[j]? = some v) : atI xs (j : Int) = some v := by
  have hj : j < xs.length := (List.getElem?_eq_some_iff.mp h).1
  have e : ixN xs.length (j : Int) = some j := by
    unfold ixN
    rw [if_pos (by omega), if_pos (by omega)]; simp
  unfold atI; rw [e]; exact h
def PlainIx (b : Expr) : Prop := ∀ o i, subscripted b false o i = operate [o, i] (getItem o i)
def IxR (X : Cx) (r : R2) : Prop :=
  ∀ (value slice : Expr) (pins : List (Addr × Obj)) (s : Shared) (σ : St) (H : Hp) (x y : V) (v u : Value) (Q : VK), Inv X pins σ H s → RelV x v → RelV y u → r x y H Q →
    subscripted slice false v u = operate [v, u] (getItem v u) → wpAny (model X.prog X.w) X.A (subscriptTail value slice v u) (EP X pins σ Q) X.xe s
def MtR (X : Cx) (id : String) (r : V → List V → Hp → VK → Prop) : Prop :=
  ∀ (pins : List (Addr × Obj)) (s : Shared) (σ : St) (H : Hp) (x : V) (xs : List V) (v : Value) (us : List Value) (Q : VK), Inv X pins σ H s → RelV x v → Vals xs us → r x xs H Q →
    wpAny (model X.prog X.w) X.A (call (.builtin id) (v :: us)) (EP X pins σ Q) X.xe s
section
variable {X : Cx} {a b : Expr} {ta tb : TE} {pos : Pos}
theorem pe_ix {r : R2} (hr : IxR X r) (ha : PE X a ta) (hb : PE X b tb) (hs : PlainIx b) : PE X (.Subscript a b pos) (tOp r ta tb) := by
  intro pins s σ H Q I h
  exact Subscript_ (binT ha hb I h fun v u s2 x y H2 I2 rx ry q => hr a b pins s2 σ H2 x y v u Q I2 rx ry q (hs _ _))

def rIxL (K : PySem.W.Frag) : R2 := fun x y H Q => ∃ p xs i v, x = .ref p ∧ y = .int i ∧ SqL K H p xs ∧ atI xs i = some v ∧ Q v H
theorem ix_list : IxR X (rIxL X.K) := by
  intro value slice pins s σ H x y v u Q I rx ry h hs
  obtain ⟨p, xs, i, z, rfl, rfl, hq, he, q⟩ := h
  cases rx
  obtain ⟨t, rfl⟩ := ry
  obtain ⟨its, r, pl, hz⟩ := I.list hq
  obtain ⟨j, h1, h2, h3, h4, h5⟩ := atI_get he
  obtain ⟨w, ew, rw'⟩ := r.get h2
  have hl := r.length
  have hn := line63
  have fin : EP X pins σ Q w s := ⟨z, H, I, rw', q⟩
  by_cases h0 : 0 ≤ i
  · have hj : i.toNat = j := by
      rw [seqIndex_of h0 h5] at h1
      exact Option.some.inj h1
    exact item_listR pl.isList h0 (by omega) (by rw [hj]; simpa using ew) fin hs
  · have hj : (i + (its.toArray.size : Int)).toNat = j := by
      rw [seqIndex_neg (by omega) h4] at h1
      rw [List.size_toArray, ← hl]
      exact Option.some.inj h1
    exact subscriptTail_builtinR (x := w) pl.isList.typeIs slot_list_getitem.lookup
      (wpAny_getItem_list_neg (Q := fun r s' => r = w ∧ EP X pins σ Q r s') pl.isList (by omega) (by rw [List.size_toArray] <;> omega) (by omega) (by rw [hj]; simpa using ew) ⟨rfl, fin⟩) hs
theorem Inv.lst {pins : List (Addr × Obj)} {σ : St} {H : Hp} {s : Shared} {p : Addr} {xs : List V} (I : Inv X pins σ H s) (h : H p = some (.lst xs)) :
    ∃ (its : List Value) (n : Nat), Vals xs its ∧ s.heap.get? p = some { cls := .type "list", data := .seq its.toArray n } ∧ xs.length ≤ sizeLine := by
  obtain ⟨z, its, n, r, e⟩ := I.hok p _ h
  exact ⟨its, n, r, e, z⟩
def tyV (K : PySem.W.Frag) (T : String) (x : V) (H : Hp) : Prop := match x with
  | .str _ => T = "str"
  | .int _ => T = "int"
  | .ref p => (T = "list" ∧ ∃ xs, SqL K H p xs) ∨ (T = "tuple" ∧ ∃ o, K.lookup p = some o ∧ o.cls = .type "tuple" ∧ o.dict = none) ∨
      (T = "dict" ∧ ((∃ kvs, H p = some (.dK kvs)) ∨ ∃ kvs, H p = some (.dT kvs))) ∨ (T = "set" ∧ ∃ S n, H p = some (.set S n))
  | _ => False
theorem tyV_is {pins : List (Addr × Obj)} {σ : St} {H : Hp} {s : Shared} {T : String} {x : V} {v : Value} (I : Inv X pins σ H s) (r : RelV x v) (ty : tyV X.K T x H) :
    s.TypeIs v T ∧ ∀ a, v = .ref a → ∃ ob, s.heap.get? a = some ob ∧ ob.dict = none := by
  cases x with
  | str z =>
    obtain ⟨t, rfl⟩ := r
    cases (show T = "str" from ty)
    exact ⟨typeIs_str s z t, fun _ e => nomatch e⟩
  | int i =>
    obtain ⟨t, rfl⟩ := r
    cases (show T = "int" from ty)
    exact ⟨typeIs_int s i t, fun _ e => nomatch e⟩
  | ref p =>
    cases r
    rcases ty with ⟨rfl, xs, hq⟩ | ⟨rfl, o, hk, hc, hd⟩ | ⟨rfl, hk⟩ | ⟨rfl, S, n, hk⟩
    · obtain ⟨its, _, pl, _⟩ := I.list hq
      refine ⟨pl.isList.typeIs, fun a e => ?_⟩
      cases e
      obtain ⟨o, n, e, c, hd, _⟩ := pl
      exact ⟨o, e, hd⟩
    · refine ⟨⟨o, I.kIn p o hk, hc⟩, fun a e => ?_⟩
      cases e
      exact ⟨o, I.kIn _ o hk, hd⟩
    · have z : ∃ o, s.heap.get? p = some o ∧ o.ExactDict := by
        rcases hk with ⟨kvs, hk⟩ | ⟨kvs, hk⟩
        · obtain ⟨_, _, _, _, o, _, _, e, ex, _⟩ := I.hok p _ hk
          exact ⟨o, e, ex⟩
        · obtain ⟨_, _, _, _, o, _, _, e, ex, _⟩ := I.hok p _ hk
          exact ⟨o, e, ex⟩
      obtain ⟨o, e, ex⟩ := z
      refine ⟨⟨o, e, ex.1⟩, fun a e2 => ?_⟩
      cases e2
      exact ⟨o, e, ex.2.1⟩
    · obtain ⟨o, _, _, _, e, ex, _⟩ := I.hok p _ hk
      refine ⟨⟨o, e, ex.1⟩, fun a e2 => ?_⟩
      cases e2
      exact ⟨o, e, ex.2.1⟩
  | _ => exact False.elim ty
def tBM0 (K : PySem.W.Frag) (T : String) (r : V → List V → Hp → VK → Prop) (to : TE) : TE := fun σ H Q => to σ H fun x H1 => tyV K T x H1 ∧ r x [] H1 Q
def tBM (K : PySem.W.Frag) (T : String) (r : V → List V → Hp → VK → Prop) (to : TE) (t : TA) : TE := fun σ H Q => to σ H fun x H1 => tyV K T x H1 ∧ t σ H1 fun xs H2 => r x xs H2 Q
variable {o e : Expr} {es : List Expr} {to : TE} {t : TA} {name : Str} {apos cpos : Pos} {T id : String} {r : V → List V → Hp → VK → Prop}
theorem pe_bm0 (pa : PlainAttrs T) (slot : Slot T name id) (hty : typeOf (.builtin id) = pure (.type "method_descriptor")) (hm : MtR X id r) (ho : PE X o to)
    (hbase : attributeBase o name X.env (eval o X.env) = eval o X.env := by rfl) (hline : (apos.endLine == cpos.line) = true := by rfl) : PE X (.Call (.Attribute o name apos) [] [] cpos) (tBM0 X.K T r to) := by
  intro pins s σ H Q I h
  refine wpAny_Call_method0_late hbase hline (thn (ho pins s σ H _ I h) fun v s1 ⟨x, H1, I1, r1, ty, q1⟩ => ?_)
  obtain ⟨h1, h2⟩ := tyV_is I1 r1 ty
  exact ⟨T, id, pa, slot, hty, h1, h2, Calls.callWith_builtin rfl (PySem.evalArgs_none (hm pins s1 σ H1 x [] v [] Q I1 r1 .nil q1))⟩
theorem pe_bm (pa : PlainAttrs T) (slot : Slot T name id) (hty : typeOf (.builtin id) = pure (.type "method_descriptor")) (hm : MtR X id r) (ho : PE X o to) (ha : PA X (e :: es) t)
    (hbase : attributeBase o name X.env (eval o X.env) = eval o X.env := by rfl)
    (hfew : ((backTo cpos (starEach (e :: es) X.env)).all (fun x => !x.1) && (backToKw cpos (keywordEach [] X.env)).all (fun x => x.1.isSome)
      && decide ((e :: es).length + ([] : List Keyword).length + (if ([] : List Keyword).isEmpty then 0 else 1) < 30)) = true := by rfl)
    (hline : (apos.endLine == cpos.line) = true := by rfl) (hs : starEach (e :: es) X.env = (false, eval e X.env) :: starEach es X.env := by rfl) (hplain : (backTo cpos (starEach es X.env)).any (·.1) = false := by rfl) :
    PE X (.Call (.Attribute o name apos) (e :: es) [] cpos) (tBM X.K T r to t) := by
  intro pins s σ H Q I h
  refine wpAny_Call_method_late hbase hfew hline rfl (thn (ho pins s σ H _ I h) fun v s1 ⟨x, H1, I1, r1, ty, q1⟩ => ?_)
  obtain ⟨h1, h2⟩ := tyV_is I1 r1 ty
  refine ⟨T, id, pa, slot, hty, h1, h2, ?_⟩
  have hA := ha cpos pins s1 σ H1 _ I1 q1
  rw [hs] at hA ⊢
  refine Calls.callWith_builtin (by show (false || (backTo cpos (starEach es X.env)).any (·.1)) = false; rw [hplain] <;> rfl) (Calls.evalArgs_plain ?_)
  exact thn hA fun us s2 ⟨vs, H2, I2, r2, q2⟩ => hm pins s2 σ H2 x vs v us Q I2 r1 r2 q2
end
end L2

namespace L2
open PySem PySem.Spec PyProof.Rows

def MtM (X : Cx) (id : String) (r : V → List V → Hp → VK → Prop) : Prop :=
  ∀ (pins : List (Addr × Obj)) (s : Shared) (σ : St) (H : Hp) (x : V) (xs : List V) (v : Value) (us : List Value) (Q : VK), Inv X pins σ H s → RelV x v → Vals xs us → r x xs H Q →
    wpAny (model X.prog X.w) X.A (call (.builtin id) (v :: us)) (EP X pins σ Q) X.xe s

theorem Vals.one : ∀ {x : V} {us : List Value}, Vals [x] us → ∃ u, us = [u] ∧ RelV x u
  | _, _, .cons r .nil => ⟨_, rfl, r⟩
section
variable {X : Cx} {pins : List (Addr × Obj)} {σ : St} {H : Hp} {s : Shared} {l b : Addr} {xs ys zs : List V}

theorem Inv.lset {its its' : List Value} {n : Nat} {f : Array Value → Array Value} {t' : Nat} (I : Inv X pins σ H s) (hH : H l = some (.lst xs))
    (e : s.heap.get? l = some { cls := .type "list", data := .seq its.toArray n }) (hf : f its.toArray = its'.toArray) (hv : Vals ys its') (hz : ys.length ≤ sizeLine) :
    Inv X pins σ (upd H l (.lst ys)) { s with heap := s.heap.update l (Obj.mapSeq f), toks := t' } := by
  have q := PySem.IsL.update e f
  rw [hf] at q
  refine I.write (x := l) (e := l) (by rw [hH]; exact trivial) (.inl rfl) (fun b' u hb hu => (Heap.get?_update_other s.heap (Obj.mapSeq f) (Ne.symm hb)).trans hu) ⟨_, q⟩ ?_
  exact ⟨hz, its', _, hv, q⟩
theorem Inv.fresh (I : Inv X pins σ H s) : H s.heap.objs.size = none := I.hok.fresh (Nat.le_refl _)
theorem Inv.lstM (I : Inv X pins σ H s) (hH : H l = some (.lst xs)) : xs.length ≤ sizeLine ∧ ∃ (its : List Value) (n : Nat), Vals xs its ∧ xs.length = its.length ∧ s.heap.get? l = some { cls := .type "list", data := .seq its.toArray n } := by
  obtain ⟨z, its, n, r, e⟩ := I.hok l _ hH
  exact ⟨z, its, n, r, r.length, e⟩

theorem notLongL {n : Nat} (h : n ≤ sizeLine) : Builtin.List.listTooLong n = false := by
  unfold Builtin.List.listTooLong
  exact decide_eq_false (by omega)
end

section
variable {X : Cx}

def rAppend : V → List V → Hp → VK → Prop := fun x vs H Q => ∃ l xs y, x = .ref l ∧ vs = [y] ∧ H l = some (.lst xs) ∧ xs.length < sizeLine ∧ Q .non (upd H l (.lst (xs ++ [y])))
theorem mt_append : MtM X "list.append" rAppend := by
  intro pins s σ H x vs v us Q I rx rv h
  obtain ⟨l, xs, y, rfl, rfl, hH, hz, q⟩ := h
  cases rx
  obtain ⟨u, rfl, ru⟩ := rv.one
  obtain ⟨z, its, n, r, hl, e⟩ := I.lstM hH
  refine call_meets F.slot_list_append ⟨_, e, rfl⟩ F.entry_list_append (F.args_list_append_2 _ _) (PySem.list_append l its.toArray n u (by rw [List.size_toArray]; omega)) ⟨e, ?_⟩
  refine ⟨.non, _, I.lset (its' := its ++ [u]) hH e (by simp) (r.append (.cons ru .nil)) ?_, rfl, q⟩
  rw [List.length_append, List.length_singleton]
  omega

def rExtend : V → List V → Hp → VK → Prop := fun x vs H Q => ∃ l b xs zs, x = .ref l ∧ vs = [.ref b] ∧ H l = some (.lst xs) ∧ H b = some (.lst zs) ∧ xs.length + zs.length ≤ sizeLine ∧ Q .non (upd H l (.lst (xs ++ zs)))
theorem mt_extend : MtM X "list.extend" rExtend := by
  intro pins s σ H x vs v us Q I rx rv h
  obtain ⟨l, b, xs, zs, rfl, rfl, hH, hB, hz, q⟩ := h
  cases rx
  obtain ⟨u, rfl, ru⟩ := rv.one
  cases ru
  obtain ⟨z, its, n, r, hl, e⟩ := I.lstM hH
  obtain ⟨z2, its2, n2, r2, hl2, e2⟩ := I.lstM hB
  have hsz : its.toArray.size + its2.toArray.size ≤ sizeLine := by rw [List.size_toArray, List.size_toArray]; omega
  have hlong : ¬ (!its.toArray.isEmpty && Builtin.List.listTooLong (its.toArray.size + its2.toArray.size)) = true := by
    rw [notLongL hsz, Bool.and_false]
    exact Bool.false_ne_true
  refine call_meets F.slot_list_extend ⟨_, e, rfl⟩ F.entry_list_extend (F.args_list_extend_2 _ _)
    (AutoSeq1.list_extend_list_list_0 l its.toArray n b its2.toArray n2 hlong (by rw [List.size_toArray]; omega) (by omega)) ⟨e, e2, ?_⟩
  refine ⟨.non, _, I.lset (its' := its ++ its2) hH e (by simp) (r.append r2) ?_, rfl, q⟩
  rw [List.length_append]
  omega

end

section
variable {prog : Program} {w : World} {A : Around} {E : Value → Shared → Prop} {s : Shared}
set_option maxRecDepth 100000 in
end

section
variable {X : Cx}
end
end L2

namespace L2
open PySem PySem.Spec PyProof.Rows

theorem Vals.ints : ∀ {ns : List Int} {us : List Value}, Vals (ns.map V.int) us → IntsAre us ns
  | [], us, h => by
    rw [List.map_nil] at h
    cases h
    exact IntsAre.nil
  | n :: ns, us, h => by
    rw [List.map_cons] at h
    cases h with
    | cons r t =>
      obtain ⟨k, rfl⟩ := r
      exact IntsAre.cons n k (Vals.ints t)
theorem Vals.strs : ∀ {xs : List Str} {us : List Value}, Vals (xs.map V.str) us → StrsAre us xs
  | [], us, h => by
    rw [List.map_nil] at h
    cases h
    exact StrsAre.nil
  | x :: xs, us, h => by
    rw [List.map_cons] at h
    cases h with
    | cons r t =>
      obtain ⟨k, rfl⟩ := r
      exact StrsAre.cons x k (Vals.strs t)
section
variable {prog : Program} {w : World} {A : Around} {E : Value → Shared → Prop} {s : Shared} {l : Addr} {its : List Value} {ns : List Int} {Q : Value → Shared → Prop}
end

section
variable {X : Cx}
end

section
variable {X : Cx}
end

section
variable {X : Cx}
end

section
variable {X : Cx}
end

section
variable {X : Cx} {pins : List (Addr × Obj)} {σ : St} {H : Hp} {s : Shared}
end
section
variable {X : Cx}
end
end L2

namespace L2
open PySem PySem.Spec PyProof.Rows
abbrev CellAt (h : Heap) (c : Addr) (v : Option Value) : Prop := h.IsCell c v
def relS (scope sc : Scope) : Scope :=
  { scope with names := scope.names.map fun (n, k) => if (k == .free && sc.kind == .function && sc.names.lookup n == some .cell) then (n, .cell) else (n, k) }

def cloFrom (cells : List (Str × Addr)) : List (Str × NameKind) → List (Str × Addr) → List (Str × Addr)
  | [], acc => acc
  | (n, k) :: r, acc => if k == .free then cloFrom cells r ((n, (cells.lookup n).getD 0) :: acc) else cloFrom cells r acc

theorem closure_loop (env : Env) (f : Str × NameKind → List (Str × Addr) → Sem (ForInStep (List (Str × Addr))))
    (hf : ∀ n k c, f (n, k) c = if k == .free then (do let a ← cellOf env n; pure (.yield ((n, a) :: c))) else pure (.yield c)) :
    ∀ (names : List (Str × NameKind)) (acc : List (Str × Addr)), (∀ y ∈ names, y.2 = .free → ∃ c, env.cells.lookup y.1 = some c) → forIn names acc f = pure (cloFrom env.cells names acc)
  | [], acc, _ => by rw [List.forIn_nil]; rfl
  | (n, k) :: r, acc, h => by
    rw [List.forIn_cons, hf]
    have ih := fun acc => closure_loop env f hf r acc fun y hy => h y (List.mem_cons_of_mem _ hy)
    unfold cloFrom
    by_cases hk : (k == NameKind.free) = true
    · rw [if_pos hk, if_pos hk]
      obtain ⟨c, hc⟩ := h (n, k) List.mem_cons_self (by simpa using hk)
      have e : cellOf env n = pure c := by unfold cellOf; rw [hc]
      rw [e]
      have e2 : (env.cells.lookup n).getD 0 = c := by rw [hc]; rfl
      rw [e2]
      exact ih _
    · rw [if_neg hk, if_neg hk]
      exact ih _
theorem closure_ok {scope : Scope} {env : Env} (h : ∀ y ∈ scope.names, y.2 = .free → ∃ c, env.cells.lookup y.1 = some c) : closureFor scope env = pure (cloFrom env.cells scope.names []) := by
  simp only [closureFor]
  rw [closure_loop env _ (fun n k c => rfl) scope.names [] h]
  rfl

theorem mem_lookup {α : Type} : ∀ {l : List (Str × α)} {n : Str} {c : α}, (n, c) ∈ l → ∃ c', l.lookup n = some c'
  | (k, v) :: r, n, c, h => by
    rw [List.lookup_cons]
    cases hb : n == k with
    | true => exact ⟨_, rfl⟩
    | false =>
      rcases List.mem_cons.mp h with e | h
      · cases e; simp at hb
      · exact mem_lookup h

theorem cloFrom_mem {cells : List (Str × Addr)} : ∀ {names : List (Str × NameKind)} {acc : List (Str × Addr)} {n : Str} {c : Addr}, (n, c) ∈ cloFrom cells names acc → (n, c) ∈ acc ∨ ((n, .free) ∈ names ∧ c = (cells.lookup n).getD 0)
  | [], _, _, _, h => .inl h
  | (m, k) :: r, acc, n, c, h => by
    unfold cloFrom at h
    split at h
    · rename_i hk
      have hk : k = .free := by simpa using hk
      rcases cloFrom_mem h with h | ⟨h1, h2⟩
      · rcases List.mem_cons.mp h with e | h
        · cases e; exact .inr ⟨hk ▸ List.mem_cons_self, rfl⟩
        · exact .inl h
      · exact .inr ⟨List.mem_cons_of_mem _ h1, h2⟩
    · rcases cloFrom_mem h with h | ⟨h1, h2⟩
      · exact .inl h
      · exact .inr ⟨List.mem_cons_of_mem _ h1, h2⟩
theorem cloFrom_acc {cells : List (Str × Addr)} : ∀ {names : List (Str × NameKind)} {acc : List (Str × Addr)} {p : Str × Addr}, p ∈ acc → p ∈ cloFrom cells names acc
  | [], _, _, h => h
  | (m, k) :: r, acc, p, h => by
    unfold cloFrom
    split
    · exact cloFrom_acc (List.mem_cons_of_mem _ h)
    · exact cloFrom_acc h
theorem cloFrom_has {cells : List (Str × Addr)} : ∀ {names : List (Str × NameKind)} {acc : List (Str × Addr)} {n : Str}, (n, .free) ∈ names → (n, (cells.lookup n).getD 0) ∈ cloFrom cells names acc
  | (m, k) :: r, acc, n, h => by
    unfold cloFrom
    rcases List.mem_cons.mp h with e | h
    · cases e
      exact cloFrom_acc List.mem_cons_self
    · split
      · exact cloFrom_has h
      · exact cloFrom_has h

theorem cells_mem : ∀ {names : List (Str × NameKind)} {h : Heap} {acc : List (Str × Addr)} {x : Str} {c : Addr}, (x, c) ∈ cellsFrom h.objs.size names acc →
    (x, c) ∈ acc ∨ ((x, .cell) ∈ names ∧ h.objs.size ≤ c ∧ CellAt (pushCells h names) c none)
  | [], _, _, _, _, h => .inl h
  | (n, k) :: r, h, acc, x, c, hm => by
    unfold cellsFrom at hm
    unfold pushCells
    split at hm
    · rename_i hk
      rw [if_pos hk]
      have hk : k = .cell := by simpa using hk
      rw [← Heap.size_push h { cls := .type "cell", data := .cell none }] at hm
      rcases cells_mem hm with hm | ⟨h1, h2, h3⟩
      · rcases List.mem_cons.mp hm with e | hm
        · cases e
          exact .inr ⟨hk ▸ List.mem_cons_self, Nat.le_refl _, _, pushCells_keeps r _ _ _ (Heap.get?_push_size _ rfl), rfl⟩
        · exact .inl hm
      · rw [Heap.size_push] at h2
        exact .inr ⟨List.mem_cons_of_mem _ h1, Nat.le_of_succ_le h2, h3⟩
    · rename_i hk
      rw [if_neg hk]
      rcases cells_mem hm with hm | ⟨h1, h2, h3⟩
      · exact .inl hm
      · exact .inr ⟨List.mem_cons_of_mem _ h1, h2, h3⟩
theorem cells_acc : ∀ {names : List (Str × NameKind)} {n : Nat} {acc : List (Str × Addr)} {p : Str × Addr}, p ∈ acc → p ∈ cellsFrom n names acc
  | [], _, _, _, h => h
  | (m, k) :: r, n, acc, p, h => by
    unfold cellsFrom
    split
    · exact cells_acc (List.mem_cons_of_mem _ h)
    · exact cells_acc h
theorem cells_has : ∀ {names : List (Str × NameKind)} {n : Nat} {acc : List (Str × Addr)} {x : Str}, (x, .cell) ∈ names → ∃ c, (x, c) ∈ cellsFrom n names acc
  | (m, k) :: r, n, acc, x, h => by
    unfold cellsFrom
    rcases List.mem_cons.mp h with e | h
    · cases e
      exact ⟨n, cells_acc List.mem_cons_self⟩
    · split
      · exact cells_has h
      · exact cells_has h
theorem cells_inj : ∀ {names : List (Str × NameKind)} {h : Heap} {acc : List (Str × Addr)} {x y : Str} {c : Addr}, (∀ p ∈ acc, p.2 < h.objs.size) → (∀ x y c, (x, c) ∈ acc → (y, c) ∈ acc → x = y) →
    (x, c) ∈ cellsFrom h.objs.size names acc → (y, c) ∈ cellsFrom h.objs.size names acc → x = y
  | [], _, _, _, _, _, _, hi, h1, h2 => hi _ _ _ h1 h2
  | (n, k) :: r, h, acc, x, y, c, hl, hi, h1, h2 => by
    unfold cellsFrom at h1 h2
    split at h1
    · rename_i hk
      rw [if_pos hk] at h2
      rw [← Heap.size_push h { cls := .type "cell", data := .cell none }] at h1 h2
      refine cells_inj (h := h.push _) (fun p hp => ?_) (fun x y c a b => ?_) h1 h2
      · rw [Heap.size_push]
        rcases List.mem_cons.mp hp with rfl | hp
        · exact Nat.lt_succ_self _
        · exact Nat.lt_succ_of_lt (hl p hp)
      · rcases List.mem_cons.mp a with e | a <;> rcases List.mem_cons.mp b with e' | b
        · cases e; cases e'; rfl
        · cases e; exact absurd (hl _ b) (Nat.lt_irrefl _)
        · cases e'; exact absurd (hl _ a) (Nat.lt_irrefl _)
        · exact hi _ _ _ a b
    · rename_i hk
      rw [if_neg hk] at h2
      exact cells_inj hl hi h1 h2

theorem newEnv_comp {M : Model} {A : Around} {E : Value → Shared → Prop} {s : Shared} {scope : Scope} {globals : Addr} {closure : List (Str × Addr)} {qual : Str} {func : Option Addr} {code : Value} {around : Env} {builtins : Addr} {Q : Env → Shared → Prop}
    (h : Q (newEnv scope s.heap.objs.size globals (cellsFrom (s.heap.objs.size + 1) scope.names closure) qual func code (some around) builtins)
      { s with heap := pushCells (s.heap.push { cls := .type "dict", data := .dict #[] }) scope.names }) :
    wpAny M A (newFunctionEnv scope globals closure [] qual func code (some around) builtins) Q E s := by
  simp only [newFunctionEnv, Option.isSome_some, if_true]
  refine wpAny_bind (wpAny_alloc ?_)
  refine wpAny_bind (wpAny_layCells _ (fun n k c => rfl) scope.names closure _ _ ?_)
  rw [show ({ s with heap := s.heap.push { cls := .type "dict", data := .dict #[] } } : Shared).heap.objs.size = s.heap.objs.size + 1 from Heap.size_push ..]
  rw [List.forIn_nil]
  exact wpAny_bind (wpAny_pure (wpAny_pure h))

theorem lookup_relS {sc : Scope} : ∀ {names : List (Str × NameKind)} {x : Str} {k : NameKind},
    (names.map fun (n, k) => if (k == NameKind.free && sc.kind == .function && sc.names.lookup n == some .cell) then (n, NameKind.cell) else (n, k)).lookup x = some k →
    ∃ k', names.lookup x = some k' ∧ (k = k' ∨ (k' = .free ∧ k = .cell))
  | [], _, _, h => by simp at h
  | (n, k₀) :: r, x, k, h => by
    have ih := @lookup_relS sc r x k
    have h' : List.lookup x ((if (k₀ == NameKind.free && sc.kind == .function && sc.names.lookup n == some .cell) = true then (n, NameKind.cell) else (n, k₀)) :: (r.map _)) = some k := h
    cases hx : x == n with
    | true =>
      simp only [List.lookup_cons, hx]
      by_cases hc : (k₀ == NameKind.free && sc.kind == .function && sc.names.lookup n == some .cell) = true
      · rw [if_pos hc] at h'
        simp only [List.lookup_cons, hx] at h'
        cases h'
        simp only [Bool.and_eq_true, beq_iff_eq] at hc
        exact ⟨k₀, rfl, .inr ⟨hc.1.1, rfl⟩⟩
      · rw [if_neg hc] at h'
        simp only [List.lookup_cons, hx] at h'
        cases h'
        exact ⟨_, rfl, .inl rfl⟩
    | false =>
      simp only [List.lookup_cons, hx]
      by_cases hc : (k₀ == NameKind.free && sc.kind == .function && sc.names.lookup n == some .cell) = true
      · rw [if_pos hc] at h'
        simp only [List.lookup_cons, hx] at h'
        exact ih h'
      · rw [if_neg hc] at h'
        simp only [List.lookup_cons, hx] at h'
        exact ih h'
structure BlkOk (N : List Str) (sc scope : Scope) (own : List (Str × Nat)) : Prop where
  kind : scope.kind = .function
  uniq : ∀ y ∈ scope.names, scope.names.lookup y.1 = some y.2
  ix : ∀ p ∈ own, N[p.2]? = some p.1
  free : ∀ y ∈ scope.names, y.2 = .free → sc.names.lookup y.1 = some .cell ∨ sc.names.lookup y.1 = some .free
  own : ∀ y ∈ scope.names, y.2 = .local ∨ y.2 = .cell → y.1 ∈ own.map (·.1) ∨ y.1 ∉ N
def wipe (σ : St) : List Nat → St
  | [] => σ
  | v :: vs => (wipe σ vs).set v none
theorem wipe_length (σ : St) : ∀ vs : List Nat, (wipe σ vs).length = σ.length
  | [] => rfl
  | v :: vs => by unfold wipe; rw [List.length_set, wipe_length σ vs]
theorem wipe_some {σ : St} {i : Nat} {x : V} : ∀ {vs : List Nat}, (wipe σ vs)[i]? = some (some x) → σ[i]? = some (some x) ∧ i ∉ vs
  | [], h => ⟨h, by simp⟩
  | v :: vs, h => by
    unfold wipe at h
    by_cases hi : v = i
    · subst hi
      by_cases hv : v < (wipe σ vs).length
      · rw [List.getElem?_set_self hv] at h; cases h
      · rw [List.getElem?_eq_none (by simpa using hv)] at h; cases h
    · rw [List.getElem?_set_ne hi] at h
      obtain ⟨h1, h2⟩ := wipe_some h
      exact ⟨h1, by simp only [List.mem_cons, not_or]; exact ⟨fun e => hi e.symm, h2⟩⟩

abbrev Cx.blk (X : Cx) (s : Shared) (H : Hp) (scope : Scope) (cenv : Env) (fp : List Addr) : Cx := { X with s_0 := s, H_0 := H, env := cenv, outer := X.stack, ex := fp, fn := fun x => scope.names.lookup x == some .cell, pn := [], xe := fun _ _ => False }
section
variable {X : Cx} {pins : List (Addr × Obj)} {σ : St} {H : Hp} {s : Shared}
theorem block_start {scope : Scope} {own : List (Str × Nat)} {fp : List Addr} (I : Inv X pins σ H s) (ok : BlkOk X.N X.env.scope scope own) (hN : X.N.Nodup) (hfp : ∀ b ∈ fp, FpOk X pins H b ∧ b < s.heap.objs.size) :
    Inv (X.blk s H scope (compEnvC scope (cellsFrom (s.heap.objs.size + 1) scope.names (cloFrom X.env.cells scope.names [])) s.heap.objs.size X.env) fp) [] (wipe σ (own.map (·.2))) H { s with heap := pushCells (s.heap.push { cls := .type "dict", data := .dict #[] }) scope.names } := by
  have hfree : ∀ y ∈ scope.names, y.2 = .free → ∃ c, X.env.cells.lookup y.1 = some c := fun y hy e => by
    rcases ok.free y hy e with k | k
    · exact I.ok.has _ (.inl k)
    · exact I.ok.has _ (.inr k)
  generalize hcenv : compEnvC scope (cellsFrom (s.heap.objs.size + 1) scope.names (cloFrom X.env.cells scope.names [])) s.heap.objs.size X.env = cenv
  have kp : ∀ b o, s.heap.get? b = some o → (pushCells (s.heap.push { cls := .type "dict", data := .dict #[] }) scope.names).get? b = some o := fun b o e => pushCells_keeps _ _ _ _ (Heap.get?_push_of_some _ e)
  have hL : cenv.locals = s.heap.objs.size := by rw [← hcenv]; rfl
  have hcl : cenv.cells = cellsFrom (s.heap.objs.size + 1) scope.names (cloFrom X.env.cells scope.names []) := by rw [← hcenv]; rfl
  have hsc : cenv.scope = relS scope X.env.scope := by rw [← hcenv]; rfl
  rw [← Heap.size_push s.heap { cls := .type "dict", data := .dict #[] }] at hcl
  have cm : ∀ {y c}, (y, c) ∈ cloFrom X.env.cells scope.names [] → X.env.cells.lookup y = some c ∧ c < s.heap.objs.size := fun {y c} hm => by
    rcases cloFrom_mem hm with hm | ⟨h1, rfl⟩
    · cases hm
    · obtain ⟨c, hc⟩ := hfree _ h1 rfl
      rw [hc]
      obtain ⟨w, z⟩ := I.cell _ _ hc
      exact ⟨rfl, z.lt⟩
  have mem : ∀ {y c}, cenv.cells.lookup y = some c → (X.env.cells.lookup y = some c ∧ c < s.heap.objs.size) ∨ (s.heap.objs.size + 1 ≤ c ∧ CellAt (pushCells (s.heap.push { cls := .type "dict", data := .dict #[] }) scope.names) c none) := fun {y c} e => by
    rw [hcl] at e
    rcases cells_mem (PySem.mem_of_lookup e) with hm | ⟨_, h2, h3⟩
    · exact .inl (cm hm)
    · rw [Heap.size_push] at h2; exact .inr ⟨h2, h3⟩
  have look : ∀ {y}, scope.names.lookup y = some .free → ∃ c, cenv.cells.lookup y = some c ∧ X.env.cells.lookup y = some c := fun {y} hl => by
    have hy : (y, NameKind.free) ∈ scope.names := PySem.mem_of_lookup hl
    obtain ⟨c', e'⟩ := mem_lookup (cells_acc (names := scope.names) (n := (s.heap.push { cls := .type "dict", data := .dict #[] }).objs.size) (cloFrom_has (cells := X.env.cells) (acc := []) hy))
    rw [← hcl] at e'
    refine ⟨c', e', ?_⟩
    rw [hcl] at e'
    rcases cells_mem (PySem.mem_of_lookup e') with hm | ⟨h1, _, _⟩
    · exact (cm hm).1
    · have := ok.uniq _ h1
      rw [hl] at this; cases this
  have okB : (X.blk s H scope cenv fp).Ok := by
    refine ⟨I.ok.mod, by show cenv.scope.kind = _; rw [hsc]; exact ok.kind, by show cenv.globals = _; rw [← hcenv]; exact I.ok.glob, by show cenv.builtins = _; rw [← hcenv]; exact I.ok.blt, by show s.heap.objs.size ≤ cenv.locals; rw [hL]; exact Nat.le_refl _,
      fun y z c e1 e2 => ?_, fun y hy => ?_, fun y c z e => ?_, I.ok.hd, I.ok.frames, .inl rfl, fun b hb => ⟨?_, fun y c e z => ?_⟩, I.bs, Nat.le_trans I.ok.bsz I.sz, fun b o e hb => ?_, fun b hb z => ?_, I.stack, I.stkFree⟩
    · have e1 : cenv.cells.lookup y = some c := e1
      have e2 : cenv.cells.lookup z = some c := e2
      rw [hcl] at e1 e2
      refine cells_inj (fun p hp => ?_) (fun y z c a b => I.ok.inj y z c (cm a).1 (cm b).1) (PySem.mem_of_lookup e1) (PySem.mem_of_lookup e2)
      rw [Heap.size_push]
      exact Nat.lt_succ_of_lt (cm (y := p.1) (c := p.2) hp).2
    · show ∃ c, cenv.cells.lookup y = some c
      have key : ∀ k, cenv.kindOf y = some k → (k = .cell ∨ k = .free) → ∃ c, cenv.cells.lookup y = some c := fun k hk hk' => by
        unfold Env.kindOf at hk
        rw [hsc] at hk
        obtain ⟨k', e, r⟩ := lookup_relS hk
        have : k' = .cell ∨ k' = .free := by
          rcases r with rfl | ⟨rfl, _⟩
          · exact hk'
          · exact .inr rfl
        rcases this with rfl | rfl
        · obtain ⟨c, hm⟩ := cells_has (n := (s.heap.push { cls := .type "dict", data := .dict #[] }).objs.size) (acc := cloFrom X.env.cells scope.names []) (PySem.mem_of_lookup e)
          obtain ⟨c', e'⟩ := mem_lookup hm
          exact ⟨c', by rw [hcl]; exact e'⟩
        · obtain ⟨c, h1, _⟩ := look e
          exact ⟨c, h1⟩
      rcases hy with hy | hy
      · exact key _ hy (.inl rfl)
      · exact key _ hy (.inr rfl)
    · have z : (scope.names.lookup y == some NameKind.cell) = true := z
      have z : scope.names.lookup y = some .cell := by simpa using z
      have e : cenv.cells.lookup y = some c := e
      rw [hcl] at e
      rcases cells_mem (PySem.mem_of_lookup e) with hm | ⟨_, h2, _⟩
      · rcases cloFrom_mem hm with hm | ⟨h1, _⟩
        · cases hm
        · have q := ok.uniq _ h1
          rw [z] at q; cases q
      · rw [Heap.size_push] at h2
        exact Nat.le_of_succ_le h2
    · show b ≠ cenv.locals
      rw [hL]; exact Nat.ne_of_lt (hfp b hb).2
    · have e : cenv.cells.lookup y = some c := e
      rcases mem e with ⟨h1, _⟩ | ⟨h1, _⟩
      · exact (hfp b hb).1.2.2.2.2.1 y c h1 z
      · have h2 : s.heap.objs.size + 1 ≤ b := by rw [← z]; exact h1
        exact absurd (Nat.lt_of_lt_of_le (hfp b hb).2 (Nat.le_of_succ_le h2)) (Nat.lt_irrefl _)
    · rcases (hfp b hb).1.2.2.2.1 with z | z
      · exact I.ok.noex b o e z
      · exact absurd (Nat.lt_of_lt_of_le (Heap.lt_size e) (Nat.le_trans I.ok.bsz z)) (Nat.lt_irrefl _)
    · rcases List.mem_cons.mp (I.stkSub b z) with z | z
      · exact (hfp b hb).1.2.1 z
      · exact (hfp b hb).1.2.2.1 z
  refine ⟨okB, rfl, I.bare, Un.kept kp, ⟨fun _ => none, ?_, fun i y av e1 e2 e3 => ?_⟩, fun y c e => ?_, ?_, fun y c e => ?_, fun p hp => ?_, I.hok.kept kp, by rw [wipe_length]; exact I.len⟩
  · show Heap.Ns _ cenv.locals _
    rw [hL]
    exact Heap.Ns.keeps (Heap.Ns.new ..) fun b o e => pushCells_keeps _ _ _ _ e
  · obtain ⟨e2, hne⟩ := wipe_some e2
    have hfr : scope.names.lookup y = some .free ∧ (cenv.kindOf y = some .cell ∨ cenv.kindOf y = some .free) := by
      have key : ∀ k, cenv.scope.names.lookup y = some k → k = .local ∨ k = .cell ∨ k = .free → scope.names.lookup y = some .free ∧ (cenv.kindOf y = some .cell ∨ cenv.kindOf y = some .free) := fun k hk hk' => by
        have hk0 := hk
        rw [hsc] at hk
        obtain ⟨k', e, r⟩ := lookup_relS hk
        have no : ¬ (k' = .local ∨ k' = .cell) := fun hh => by
          rcases ok.own _ (PySem.mem_of_lookup e) hh with e' | e'
          · obtain ⟨p, hp, hpy⟩ := List.mem_map.mp e'
            have e3 := ok.ix p hp
            have : p.1 = y := hpy
            rw [this] at e3
            exact hne (List.mem_map.mpr ⟨p, hp, nodup_ix hN e3 e1⟩)
          · exact e' (List.mem_of_getElem? e1)
        rcases r with rfl | ⟨rfl, rfl⟩
        · rcases hk' with rfl | rfl | rfl
          · exact absurd (.inl rfl) no
          · exact absurd (.inr rfl) no
          · exact ⟨e, .inr hk0⟩
        · exact ⟨e, .inl hk0⟩
      have e3 : Vis cenv.scope y := e3
      rcases e3 with e3 | e3 | e3
      · exact key _ e3 (.inl rfl)
      · exact key _ e3 (.inr (.inl rfl))
      · exact key _ e3 (.inr (.inr rfl))
    obtain ⟨m, hn, hl⟩ := I.loc
    have hvis : Vis X.env.scope y := (ok.free _ (PySem.mem_of_lookup hfr.1) rfl).elim (fun k => .inr (.inl k)) (fun k => .inr (.inr k))
    obtain ⟨w, r, q⟩ := hl i y av e1 e2 hvis
    refine ⟨w, r, .inr ⟨hfr.2, ?_⟩⟩
    obtain ⟨c, h1, h2⟩ := look hfr.1
    rcases q with ⟨k, _⟩ | ⟨_, c', e', z⟩
    · have k : X.env.scope.names.lookup y = some .local := k
      rcases ok.free _ (PySem.mem_of_lookup hfr.1) rfl with k' | k' <;> rw [show X.env.scope.names.lookup y = _ from k'] at k <;> cases k
    · rw [h2] at e'; cases e'
      exact ⟨c, h1, z.keeps kp⟩
  · have e : cenv.cells.lookup y = some c := e
    rcases mem e with ⟨h1, _⟩ | ⟨_, z⟩
    · obtain ⟨w, z⟩ := I.cell y c h1
      exact ⟨w, z.keeps kp⟩
    · exact ⟨_, z⟩
  · show H cenv.locals = none
    rw [hL]; exact I.hok.fresh (Nat.le_refl _)
  · have e : cenv.cells.lookup y = some c := e
    rcases mem e with ⟨h1, _⟩ | ⟨h1, _⟩
    · exact I.freeC y c h1
    · exact I.hok.fresh (Nat.le_of_succ_le h1)
  · exact absurd (show p ∈ ([] : List (Addr × Obj)) ++ [] from hp) (by simp)

theorem app_ok {E : Value → Shared → Prop} {D : Addr} {xs : List V} {y : V} {v : Value} {Q : Value → Shared → Prop} (I : Inv X pins σ H s) (hD : H D = some (.lst xs)) (hz : xs.length < sizeLine) (r : RelV y v)
    (h : ∀ s', Inv X pins σ (upd H D (.lst (xs ++ [y]))) s' → Q .none s') : wpAny (model X.prog X.w) X.A (call (.builtin "list.append") [.ref D, v]) Q E s := by
  obtain ⟨hz', its, n, ri, e⟩ := I.hok D _ hD
  have hl := ri.length
  refine append_at (hsz := by rw [List.size_toArray]; omega) e fun h' sb ho' => ?_
  refine h { s with heap := h' } (I.write (t' := s.toks) (by rw [hD]; trivial) (.inl rfl) (fun b u hb q => (sb.2 b hb).trans q) ⟨_, ho'⟩ ⟨by rw [List.length_append]; exact hz, its ++ [v], n + 1, ri.append (.cons r .nil), ?_⟩)
  rw [ho']
  simp

def PTs (X : Cx) (ifs : List Expr) (t : TT) : Prop :=
  ∀ (pins : List (Addr × Obj)) (s : Shared) (σ : St) (H : Hp) (Q : Bool → Hp → Prop), Inv X pins σ H s → t σ H Q →
    wpAny (model X.prog X.w) X.A (forIn ifs true fun c r => if r = true then do let ok ← isTrue c X.env (eval c X.env); pure (ForInStep.yield ok) else pure (ForInStep.yield r)) (TP X pins σ Q) X.xe s
def tYes : TT := fun _ H Q => Q true H
theorem pts_nil : PTs X [] tYes := fun _ _ _ H _ I h => wpAny_tests_nil ⟨H, I, h⟩
end

theorem thnF {α : Type} {t : Sem α} {Q Q' : α → Shared → Prop} {M : Model} {A : Around} {E : Value → Shared → Prop} {s : Shared} (h : wpAny M A t Q (fun _ _ => False) s) (hQ : ∀ a s, Q a s → Q' a s) : wpAny M A t Q' E s := wpAny_mono h hQ fun _ _ z => False.elim z

theorem compLoop_any {prog : Program} {w : World} {A : Around} {R : Result → Shared → Prop} {s : Shared} {elt target iter : Expr} {ifs : List Expr} {scope : Scope} {pos : Pos} {it acc : Value} {env : Env} (I : Nat → Shared → Prop)
    (turn : ∀ n s, I n s → wpAny (model prog w) A (pyNext it) (fun r s₁ => match r with
      | none => R (.ok .next) s₁
      | some v => wpAny (model prog w) A (letOwnedTupleGo target it v) (fun _ s₁' => wpAny (model prog w) A (assign target env v) (fun _ s₂ =>
          wpAny (model prog w) A (forIn ifs true fun c r => if r = true then do let ok ← isTrue c env (eval c env); pure (ForInStep.yield ok) else pure (ForInStep.yield r)) (fun ok s₃ =>
            if ok = true then wpAny (model prog w) A (eval elt env) (fun x s₄ =>
              wpAny (model prog w) A (call (.builtin "list.append") [acc, x]) (fun _ s₅ => ∃ m, m < n ∧ I m s₅) (notedBy (model prog w) A env fun e s' => R (.error e) s') s₄) (notedBy (model prog w) A env fun e s' => R (.error e) s') s₃
            else ∃ m, m < n ∧ I m s₃) (notedBy (model prog w) A env fun e s' => R (.error e) s') s₂) (notedBy (model prog w) A env fun e s' => R (.error e) s') s₁') (notedBy (model prog w) A env fun e s' => R (.error e) s') s₁) (notedBy (model prog w) A env fun e s' => R (.error e) s') s)
    (n : Nat) (h : I n s) :
    codeAny (model prog w) A (.compLoop (.ListComp elt [⟨target, iter, ifs, 0⟩] scope pos) 0 it acc env) R s := by
  refine codeAny_loop rfl I (fun n s hI => ?_) n h
  show wpAny _ A ((compTurn (.ListComp elt [⟨target, iter, ifs, 0⟩] scope pos) 0 it acc env).onRaise (fun x => do noteFrame x env; theTreesLotGoes x)) _ _ s
  refine wpAny_noted ?_
  rw [compTurn_list]
  refine wpAny_bind (wpAny_standAt (wpAny_bind (wpAny_mono (turn n s hI) (fun r s₁ h₁ => ?_) fun _ _ h' => h')))
  cases r with
  | none => exact wpAny_pure h₁
  | some v =>
    refine wpAny_bind (wpAny_mono h₁ (fun _ s₁' h₁' => ?_) fun _ _ h' => h')
    refine wpAny_bind (wpAny_mono h₁' (fun _ s₂ h₂ => wpAny_bind (wpAny_mono h₂ (fun ok s₃ h₃ => ?_) fun _ _ h' => h')) fun _ _ h' => h')
    cases ok with
    | false => exact wpAny_pure ⟨rfl, h₃⟩
    | true =>
      exact wpAny_bind (wpAny_bind (wpAny_mono h₃ (fun x s₄ h₄ => wpAny_bind (wpAny_mono h₄ (fun _ s₅ h₅ => wpAny_pure (wpAny_pure ⟨rfl, h₅⟩)) fun _ _ h' => h')) fun _ _ h' => h'))

section
variable {X : Cx}
def tLc (wi : TI) (g : TG) (tt : TT) (te : TE) (vs : List Nat) : TE := fun σ H Q => wi σ H fun J H1 => ∀ D, H1 D = none → ∃ W : Nat → Nat → Hp → Prop, (∃ m, W 0 m (upd H1 D (.lst []))) ∧ ∀ i m H, W i m H →
  (J.stop i H ∧ Q (.ref D) H) ∨ (J.go i H ∧ ∃ Nx : Hp → Prop, (∀ H', Nx H' → ∃ m', m' < m ∧ W (i + 1) m' H') ∧ ∀ x H', J.yld i H x H' → g x (wipe σ vs) H' fun σ2 H2 => wipe σ2 vs = wipe σ vs ∧ tt σ2 H2 fun b H3 =>
    if b = true then te σ2 H3 fun y H4 => ∃ acc, H4 D = some (.lst acc) ∧ acc.length < sizeLine ∧ Nx (upd H4 D (.lst (acc ++ [y]))) else Nx H3)
theorem lc_core {pins : List (Addr × Obj)} {s : Shared} {σ : St} {H : Hp} {Q : VK} {elt tg iter : Expr} {ifs : List Expr} {scope : Scope} {own : List (Str × Nat)} {pos pos' : Pos} {wi : TI} {g : TG} {tt : TT} {te : TE} {use : Option (Value → Sem Unit)} {Qf : Value → Shared → Prop}
    (hc : X.calm = true) (hN : X.N.Nodup) (I : Inv X pins σ H s) (hi : PI X tg iter wi) (ok : BlkOk X.N X.env.scope scope own)
    (hg : ∀ (s : Shared) (H : Hp) (C : Addr) (cl : List (Str × Addr)) (fp : List Addr), PG (X.blk s H scope (compEnvC scope cl C X.env) fp) tg g) (ht : ∀ (s : Shared) (H : Hp) (C : Addr) (cl : List (Str × Addr)) (fp : List Addr), PTs (X.blk s H scope (compEnvC scope cl C X.env) fp) ifs tt)
    (he : ∀ (s : Shared) (H : Hp) (C : Addr) (cl : List (Str × Addr)) (fp : List Addr), PE (X.blk s H scope (compEnvC scope cl C X.env) fp) elt te) (hs : ∀ x, foldedSetIterable iter X.env x = pure x)
    (h : tLc wi g tt te (own.map (·.2)) σ H Q)
    (hRR : ∀ D C s' m H', Inv X pins σ H' s' → Q (.ref D) H' → s'.heap.Ns C m → FpOk X pins H' C → compPost (model X.prog X.w) X.A X.xe use Qf (.ref D) C (.ok .next) s') :
    wpAny (model X.prog X.w) X.A (comprehension (.ListComp elt [⟨tg, iter, ifs, 0⟩] scope pos) scope X.env pos' (newList []) false (eval iter X.env) use) Qf X.xe s := by
  have hfree : ∀ y ∈ scope.names, y.2 = .free → ∃ c, X.env.cells.lookup y.1 = some c := fun y hy e => by
    rcases ok.free y hy e with k | k
    · exact I.ok.has _ (.inl k)
    · exact I.ok.has _ (.inr k)
  refine wpAny_comprehension_free (use := use) rfl hs (closure_ok hfree) ok.kind (fun y hy e => by rw [ok.uniq y hy, e])
    (thn (hi pins s σ H _ I h) fun xv s1 hx => thn hx fun itv s2 h2 => ?_)
  obtain ⟨it, fp, tn, J, H2, e, I2, T, st2, f2, q⟩ := h2
  subst e
  refine wpAny_newObj_type (newEnv_comp ?_) (by show 0 ≤ sizeLine; decide)
  generalize hD : s2.heap.objs.size = D
  have hDn : H2 D = none := I2.hok.fresh (Nat.le_of_eq hD)
  obtain ⟨W, ⟨m0, w0⟩, turn⟩ := q D hDn
  -- the new list
  generalize hs3 : ({ s2 with heap := s2.heap.push { cls := .type "list", data := .seq ([] : List Value).toArray } } : Shared) = s3
  have I3 : Inv X pins σ (upd H2 D (.lst [])) s3 := by
    rw [← hs3]
    refine I2.laid (t' := s2.toks) (fun b o e => Heap.get?_push_of_some _ e) (Nat.le_of_eq hD) ⟨Nat.zero_le _, [], 0, .nil, ?_⟩
    rw [← hD]
    exact Heap.get?_push_size _ rfl
  have h3 : s3.heap = s2.heap.push { cls := .type "list", data := .seq ([] : List Value).toArray } := by rw [← hs3]
  have sz : ∀ b ∈ fp, b < s2.heap.objs.size := fun b hb => by
    obtain ⟨o, e, _⟩ := T.obj _ _ st2 b hb
    exact Heap.lt_size e
  have f3 : ∀ b ∈ fp, FpOk X pins (upd H2 D (.lst [])) b ∧ b < s3.heap.objs.size := fun b hb => by
    have hlt := sz b hb
    refine ⟨⟨?_, (f2 b hb).2⟩, by rw [h3, Heap.size_push]; exact Nat.lt_succ_of_lt hlt⟩
    rw [upd_ne (by rw [← hD]; exact Nat.ne_of_lt hlt)]
    exact (f2 b hb).1
  have st3 : tn 0 s3.heap := T.keep _ _ _ st2 fun b _ o e => by rw [h3]; exact Heap.get?_push_of_some _ e
  have I4 := block_start I3 ok hN f3
  have pg := hg s3 (upd H2 D (.lst [])) s3.heap.objs.size (cellsFrom (s3.heap.objs.size + 1) scope.names (cloFrom X.env.cells scope.names [])) fp
  have pt := ht s3 (upd H2 D (.lst [])) s3.heap.objs.size (cellsFrom (s3.heap.objs.size + 1) scope.names (cloFrom X.env.cells scope.names [])) fp
  have pe := he s3 (upd H2 D (.lst [])) s3.heap.objs.size (cellsFrom (s3.heap.objs.size + 1) scope.names (cloFrom X.env.cells scope.names [])) fp
  show codeAny _ _ (.compStart (.ListComp elt [⟨tg, iter, ifs, 0⟩] scope pos) 0 (.ref it) (.ref D) (compEnvC scope (cellsFrom (s3.heap.objs.size + 1) scope.names (cloFrom X.env.cells scope.names [])) s3.heap.objs.size X.env)) (compPost (model X.prog X.w) X.A X.xe use Qf (.ref D) s3.heap.objs.size) { s3 with heap := pushCells (s3.heap.push { cls := .type "dict", data := .dict #[] }) scope.names }
  have nfp : ∀ b ∈ fp, (upd H2 D (.lst [])) b = none := fun b hb => (f3 b hb).1.1
  generalize hce : compEnvC scope (cellsFrom (s3.heap.objs.size + 1) scope.names (cloFrom X.env.cells scope.names [])) s3.heap.objs.size X.env = ce at I4 pg pt pe ⊢
  have cL : ce.locals = s3.heap.objs.size := by subst hce; rfl
  generalize hH3 : upd H2 D (.lst []) = H3 at I3 I4 pg pt pe w0 nfp f3
  generalize hs4 : ({ s3 with heap := pushCells (s3.heap.push { cls := .type "dict", data := .dict #[] }) scope.names } : Shared) = s4 at I4 ⊢
  have st4 : tn 0 s4.heap := T.keep _ _ _ st3 fun b _ o e => by rw [← hs4]; exact pushCells_keeps _ _ _ _ (Heap.get?_push_of_some _ e)
  have stat : ∀ {σ' : St} {H' : Hp} {s' : Shared}, Inv (X.blk s3 H3 scope ce fp) [] σ' H' s' → (∀ b ∈ fp, H' b = none) → ∀ b ∈ fp, FpOk (X.blk s3 H3 scope ce fp) [] H' b := fun {σ' H' s'} I' hn b hb =>
    ⟨hn b hb, (I'.ok.exf b hb).1, I'.ok.exfs b hb, .inl hb, fun x c e => (I'.ok.exf b hb).2 x c e, fun p hp => absurd (show p ∈ ([] : List (Addr × Obj)) ++ [] from hp) (by simp)⟩
  have loop : codeAny (model X.prog X.w) X.A (.compLoop (.ListComp elt [⟨tg, iter, ifs, 0⟩] scope pos) 0 (.ref it) (.ref D) ce) (compPost (model X.prog X.w) X.A X.xe use Qf (.ref D) s3.heap.objs.size) s4 := by
    refine compLoop_any (fun n s' => ∃ i H', Inv (X.blk s3 H3 scope ce fp) [] (wipe σ (own.map (·.2))) H' s' ∧ tn i s'.heap ∧ (∀ b ∈ fp, H' b = none) ∧ W i n H') ?_ m0 ⟨0, H3, I4, st4, nfp, w0⟩
    rintro n s5 ⟨i, H5, I5, st5, n5, w5⟩
    rcases turn i n H5 w5 with ⟨stop, qq⟩ | ⟨go, Nx, hNx, step⟩
    · have td := T.done (X.blk s3 H3 scope ce fp) rfl rfl rfl hc i [] s5 _ H5 (fun _ _ => False) I5 (stat I5 n5) st5 stop
      refine thnF td fun r s6 ⟨hr, I6⟩ => ?_
      subst hr
      -- back in the def's context
      have I7 : Inv X pins σ H5 s6 := I3.call' (ch := fp) I6.os I6.base I6.hok I6.bare fun b hb => ⟨(f3 b hb).1.2.2.2.1, (f3 b hb).1.2.1, (f3 b hb).1.2.2.2.2.1, (f3 b hb).1.2.2.2.2.2⟩
      have nC : H5 s3.heap.objs.size = none := by
        have z : H5 ce.locals = none := I6.free
        rw [cL] at z
        exact z
      obtain ⟨m, hn, _⟩ := I6.loc
      have hn : s6.heap.Ns ce.locals m := hn
      rw [cL] at hn
      exact hRR D s3.heap.objs.size s6 m H5 I7 qq hn (I3.fpOk (Nat.le_refl _) nC)
    · have ti := T.item (X.blk s3 H3 scope ce fp) rfl rfl rfl hc i [] s5 _ H5 (fun _ _ => False) I5 (stat I5 n5) st5 go
      refine thnF ti fun r s6 ⟨u, hr, h6⟩ => ?_
      subst hr
      refine thnF h6 fun _ s7 ⟨x, H7, I7, r7, y7, st7, n7⟩ => ?_
      have I7' := I7.pinned (stat I7 n7) (T.obj _ _ st7)
      refine thnF (pg _ s7 _ H7 x u _ I7' r7 (step x H7 y7)) fun _ s8 ⟨σ8, H8, I8, hw8, q8⟩ => ?_
      refine thnF (pt _ s8 σ8 H8 _ I8 q8) fun b s9 ⟨H9, I9, q9⟩ => ?_
      -- the turn's end
      have fin : ∀ {s' : Shared} {H' : Hp}, Inv (X.blk s3 H3 scope ce fp) ([] ++ pinsAt fp s7.heap) σ8 H' s' → Nx H' → ∃ m, m < n ∧ ∃ i H', Inv (X.blk s3 H3 scope ce fp) [] (wipe σ (own.map (·.2))) H' s' ∧ tn i s'.heap ∧ (∀ b ∈ fp, H' b = none) ∧ W i m H' := fun {s' H'} I' nx => by
        obtain ⟨m', hm, w'⟩ := hNx H' nx
        have pin' : ∀ b ∈ fp, ∀ o, s7.heap.get? b = some o → s'.heap.get? b = some o ∧ H' b = none := fun b hb o e =>
          let z := I'.pin (b, o) (List.mem_append_right _ (List.mem_append_right _ (mem_pinsAt hb e)))
          ⟨z.1, z.2.1⟩
        have hl : (wipe σ (own.map (·.2))).length = σ8.length := by rw [← hw8, wipe_length]
        refine ⟨m', hm, i + 1, H', (I'.unpinned (pins := [])).weak hl (fun j v e => ?_), T.keep _ _ _ st7 fun b hb o e => (pin' b hb o e).1, fun b hb => ?_, w'⟩
        · rw [← hw8] at e
          exact (wipe_some e).1
        · obtain ⟨o, e, _⟩ := T.obj _ _ st7 b hb
          exact (pin' b hb o e).2
      cases b with
      | false =>
        simp only [Bool.false_eq_true, if_false] at q9 ⊢
        exact fin I9 q9
      | true =>
        simp only [if_true] at q9 ⊢
        refine thnF (pe _ s9 σ8 H9 _ I9 q9) fun z s10 ⟨yv, H10, I10, r10, acc, hD10, hz10, nx⟩ => ?_
        exact app_ok (X := X.blk s3 H3 scope ce fp) I10 hD10 hz10 r10 fun s11 I11 => fin I11 nx
  exact codeAny_compStart_list loop (T.self X.A 0 _ _ _ st4 loop)
theorem pe_lc {elt tg iter : Expr} {ifs : List Expr} {scope : Scope} {own : List (Str × Nat)} {pos : Pos} {wi : TI} {g : TG} {tt : TT} {te : TE} (hc : X.calm = true) (hN : X.N.Nodup) (hi : PI X tg iter wi) (ok : BlkOk X.N X.env.scope scope own)
    (hg : ∀ (s : Shared) (H : Hp) (C : Addr) (cl : List (Str × Addr)) (fp : List Addr), PG (X.blk s H scope (compEnvC scope cl C X.env) fp) tg g) (ht : ∀ (s : Shared) (H : Hp) (C : Addr) (cl : List (Str × Addr)) (fp : List Addr), PTs (X.blk s H scope (compEnvC scope cl C X.env) fp) ifs tt)
    (he : ∀ (s : Shared) (H : Hp) (C : Addr) (cl : List (Str × Addr)) (fp : List Addr), PE (X.blk s H scope (compEnvC scope cl C X.env) fp) elt te) (hs : ∀ x, foldedSetIterable iter X.env x = pure x := by intro _; rfl) :
    PE X (.ListComp elt [⟨tg, iter, ifs, 0⟩] scope pos) (tLc wi g tt te (own.map (·.2))) := by
  intro pins s σ H Q I h
  rw [eval_ListComp]
  refine lc_core hc hN I hi ok hg ht he hs h fun D C s' m H' I' q hn f => ⟨m, hn, fun h'' sb => ?_⟩
  obtain ⟨f0, f1, f2, f3, f4, f5⟩ := f
  exact ⟨.ref D, H', I'.turned (t' := s'.toks) (fun b o hb e => (sb.2 b hb).trans e) f0 f1 f3 f4 f5, rfl, q⟩
end

def blkC (N : List Str) (sc scope : Scope) (own : List (Str × Nat)) : Bool :=
  (match scope.kind with | .function => true | _ => false) && (scope.names.all fun y => decide (scope.names.lookup y.1 = some y.2)) && (own.all fun p => decide (N[p.2]? = some p.1)) &&
    (scope.names.all fun y => match y.2 with
      | .free => (match sc.names.lookup y.1 with | some .cell => true | some .free => true | _ => false)
      | .local => decide (y.1 ∈ own.map (·.1)) || decide (y.1 ∉ N)
      | .cell => decide (y.1 ∈ own.map (·.1)) || decide (y.1 ∉ N)
      | _ => true)
theorem blkOk_by {N : List Str} {sc scope : Scope} {own : List (Str × Nat)} (h : blkC N sc scope own = true) : BlkOk N sc scope own := by
  unfold blkC at h
  simp only [Bool.and_eq_true, List.all_eq_true, decide_eq_true_eq] at h
  obtain ⟨⟨⟨h1, h2⟩, h3⟩, h4⟩ := h
  refine ⟨?_, h2, h3, fun y hy e => ?_, fun y hy e => ?_⟩
  · split at h1
    · assumption
    · cases h1
  · have q := h4 y hy
    simp only [e] at q
    split at q <;> first | exact .inl (by assumption) | exact .inr (by assumption) | cases q
  · have q := h4 y hy
    rcases e with e | e <;> (simp only [e, Bool.or_eq_true, decide_eq_true_eq] at q; exact q)
end L2

namespace L2
open PySem PySem.Spec PyProof.Rows

section
variable {prog : Program} {w : World} {A : Around} {R : Result → Shared → Prop} {s : Shared} {elt t0 i0 t1 i1 : Expr} {ifs0 ifs1 : List Expr} {scope : Scope} {pos : Pos} {it acc : Value} {env : Env}
end

section
variable {X : Cx}
end
end L2

namespace L2
open PySem PySem.Spec PyProof.Rows

section
variable {κ : Type} [DecidableEq κ]
def valV (kvs : List (κ × V)) (k : κ) : Option V := (kvs.find? fun kv => decide (kv.1 = k)).map (·.2)
def putK (kvs : List (κ × V)) (k : κ) (v : V) : List (κ × V) :=
  if (kvs.any fun kv => decide (kv.1 = k)) = true then kvs.map (fun kv => if kv.1 = k then (kv.1, v) else kv) else kvs ++ [(k, v)]
def dropK (kvs : List (κ × V)) (k : κ) : List (κ × V) := kvs.filter fun kv => decide (kv.1 ≠ k)

theorem RelO.getD {o : Option V} {u : Option Value} {d : V} {d' : Value} (r : RelO o u) (rd : RelV d d') : RelV (o.getD d) (u.getD d') := by
  cases o with
  | none => cases u with
    | none => exact rd
    | some _ => exact (show False from r).elim
  | some _ => cases u with
    | none => exact (show False from r).elim
    | some _ => exact r

theorem KV.any {kvs : List (κ × V)} {vs : List (κ × Value)} (r : KV kvs vs) (k : κ) : (kvs.any fun kv => decide (kv.1 = k)) = vs.any fun kv => decide (kv.1 = k) := by
  unfold KV at r
  induction r with
  | nil => rfl
  | cons h t ih => rw [List.any_cons, List.any_cons, ih, h.1]
theorem KV.drop {kvs : List (κ × V)} {vs : List (κ × Value)} (r : KV kvs vs) (k : κ) : KV (dropK kvs k) (without vs k) := by
  unfold KV at r ⊢
  unfold dropK without
  induction r with
  | nil => exact .nil
  | @cons p q ps qs h t ih =>
    obtain ⟨h1, h2⟩ := h
    rw [List.filter_cons, List.filter_cons]
    by_cases e : p.1 = k
    · have a : ¬ decide (p.1 ≠ k) = true := by simp [e]
      have b : ¬ decide (q.1 ≠ k) = true := by simp [h1.symm.trans e]
      rw [if_neg a, if_neg b]; exact ih
    · have e' : ¬ q.1 = k := fun z => e (h1.trans z)
      have a : decide (p.1 ≠ k) = true := by simp [e]
      have b : decide (q.1 ≠ k) = true := by simp [e']
      rw [if_pos a, if_pos b]; exact .cons ⟨h1, h2⟩ ih
theorem KV.keys {kvs : List (κ × V)} {vs : List (κ × Value)} (r : KV kvs vs) : kvs.map (·.1) = vs.map (·.1) := by
  unfold KV at r
  induction r with
  | nil => rfl
  | cons h t ih => rw [List.map_cons, List.map_cons, ih, h.1]
theorem KV.length {kvs : List (κ × V)} {vs : List (κ × Value)} (r : KV kvs vs) : kvs.length = vs.length := Paired.length r
end


abbrev KT (H : Hp) : List (List Key × V) → List (List Key × Addr × Value) → Prop := Paired fun p q => p.1 = q.1 ∧ H q.2.1 = some (.tup (p.1.map kV)) ∧ RelV p.2 q.2.2
theorem KT.keeps {H H' : Hp} {kvs : List (List Key × V)} {xs : List (List Key × Addr × Value)} (r : KT H kvs xs) (ht : ∀ b ys, H b = some (.tup ys) → H' b = some (.tup ys)) : KT H' kvs xs :=
  Paired.mapP r fun _ _ z => ⟨z.1, ht _ _ z.2.1, z.2.2⟩

section
variable {P : Program} {w : World} {H : Hp} {h : Heap} {a : Addr}
end

def DGet (H : Hp) (a : Addr) (y : V) (r : Option V) : Prop :=
  (∃ kvs k, Rd H a (.dK kvs) ∧ y = kV k ∧ r = valV kvs k) ∨ ∃ kvs k b, Rd H a (.dT kvs) ∧ y = .ref b ∧ H b = some (.tup (k.map kV)) ∧ r = valV kvs k
def DPut (H : Hp) (a : Addr) (y v : V) (H' : Hp) : Prop :=
  (∃ kvs k, H a = some (.dK kvs) ∧ y = kV k ∧ kvs.length < sizeLine ∧ H' = upd H a (.dK (putK kvs k v))) ∨
  ∃ kvs k b, H a = some (.dT kvs) ∧ y = .ref b ∧ H b = some (.tup (k.map kV)) ∧ kvs.length < sizeLine ∧ H' = upd H a (.dT (putK kvs k v))
theorem DGet.k {H : Hp} {a : Addr} {kvs : List (Key × V)} {k : Key} (e : H a = some (.dK kvs)) : DGet H a (kV k) (valV kvs k) := .inl ⟨kvs, k, .inl e, rfl, rfl⟩
theorem DGet.t {H : Hp} {a b : Addr} {kvs : List (List Key × V)} {k : List Key} (e : H a = some (.dT kvs)) (eb : H b = some (.tup (k.map kV))) : DGet H a (.ref b) (valV kvs k) := .inr ⟨kvs, k, b, .inl e, rfl, eb, rfl⟩
theorem DPut.k {H : Hp} {a : Addr} {kvs : List (Key × V)} {k : Key} {v : V} (e : H a = some (.dK kvs)) (hl : kvs.length < sizeLine) : DPut H a (kV k) v (upd H a (.dK (putK kvs k v))) := .inl ⟨kvs, k, e, rfl, hl, rfl⟩
theorem DPut.t {H : Hp} {a b : Addr} {kvs : List (List Key × V)} {k : List Key} {v : V} (e : H a = some (.dT kvs)) (eb : H b = some (.tup (k.map kV))) (hl : kvs.length < sizeLine) :
    DPut H a (.ref b) v (upd H a (.dT (putK kvs k v))) := .inr ⟨kvs, k, b, e, rfl, eb, hl, rfl⟩


section
variable {X : Cx} {pins : List (Addr × Obj)} {σ : St} {H : Hp} {s : Shared} {a : Addr} {y v : V} {u r : Value} {o : Option V} {A : Around} {E : Value → Shared → Prop}

end

section
variable {X : Cx} {pins : List (Addr × Obj)} {σ : St} {H : Hp} {s : Shared} {a : Addr} {kvs : List (Key × V)} {k : Key} {u : Value} {A : Around} {E : Value → Shared → Prop}
end


section
variable {X : Cx} {o i e value : Expr} {pos pos' tpos : Pos} {td ty tv : TE}
end


section
variable {X : Cx} {pos : Pos}
end

section
variable {X : Cx} {pins : List (Addr × Obj)} {σ : St} {H : Hp} {s : Shared} {a : Addr} {y d : V} {u r : Value} {o : Option V} {A : Around} {E : Value → Shared → Prop}
end

section
variable {X : Cx} {o e f : Expr} {apos cpos : Pos} {td ty tx : TE}
end

section
variable {X : Cx} {pins : List (Addr × Obj)} {σ : St} {H : Hp} {s : Shared} {a : Addr} {kvs : List (Key × V)} {A : Around} {E : Value → Shared → Prop}
end


section
variable {X : Cx} {pins : List (Addr × Obj)} {σ : St} {H : Hp} {s : Shared} {a : Addr} {y : V} {u : Value} {A : Around} {E : Value → Shared → Prop}
end
end L2

namespace L2
open PySem PySem.Spec PyProof.Rows

section
variable {prog : Program} {w : World} {A : Around} {E : Value → Shared → Prop}
end

section
variable {X : Cx}
end
end L2

namespace L2
open PySem PySem.Spec PyProof.Rows

section
variable {X : Cx} {pins : List (Addr × Obj)} {σ : St} {H : Hp} {s : Shared} {h' : Heap}
end
section
variable {X : Cx}
end

section
variable {X : Cx} {tg : Expr}
end
section
variable {X : Cx} {tg : Expr}
end

section
variable {prog : Program} {w : World} {A : Around} {E : Value → Shared → Prop} {s : Shared}
end

section
variable {X : Cx} {pins : List (Addr × Obj)} {σ : St} {H : Hp} {s : Shared} {d : Addr} {o : Obj}
end

section
variable {P : Program} {w : World} {K : PySem.W.Frag} {tg : Expr} {d : Addr} {o : Obj} {es : Array DictEntry} {ep : Nat}
end

section
variable {X : Cx} {tg e : Expr} {td : TE} {apos cpos : Pos}
end

end L2

section 
namespace Bits
open PySem PyProof.Rows

end Bits
end 

section 
namespace TL
open PySem PySem.Builtin PySem.Builtin.Str PySem.StrLaws

abbrev tl (x : Str) : List Nat := x.cps.toList
def pre (S l : List Nat) : Bool := l.take S.length == S
def par (S : List Nat) : List Nat → List Nat → Option (List Nat × List Nat)
  | _, [] => none
  | acc, c :: r => if pre S (c :: r) = true then some (acc, (c :: r).drop S.length) else par S (acc ++ [c]) r

end TL
end 

namespace L2
open PySem PySem.Spec PyProof.Rows

section
variable {X : Cx} {pins : List (Addr × Obj)} {σ : St} {H : Hp} {s : Shared} {Q : VK}
end

section
variable {X : Cx}

end

section
variable {X : Cx} {o e : Expr} {to te : TE}
end
end L2

namespace L2
open PySem PySem.Spec PyProof.Rows

section
variable {X : Cx}
end

end L2

namespace Att
open PySem PySem.W PySem.Calls PyProof.Rows

section
variable {prog : Program} {w : World} {A : Around} {E : Value → Shared → Prop} {s : Shared} {K : Frag}

end
end Att

namespace L2
open PySem PySem.Spec PyProof.Rows

end L2

namespace L2
open PySem PySem.Spec PyProof.Rows

end L2


namespace L2
open PySem PySem.Spec PyProof.Rows

def inClass (s : Stmt) (j : Nat) : Stmt := match s with
  | .ClassDef _ _ _ body _ _ _ _ _ _ _ => body.getD j (.Pass ⟨0, 0, 0, 0⟩)
  | _ => .Pass ⟨0, 0, 0, 0⟩
def defArgs (s : Stmt) : Arguments := match s with
  | .FunctionDef _ a _ _ _ _ _ _ _ _ => a
  | _ => { posonlyargs := [], args := [], vararg := none, kwonlyargs := [], kw_defaults := [], kwarg := none, defaults := [] }
def defBody (s : Stmt) : List Stmt := match s with
  | .FunctionDef _ _ b _ _ _ _ _ _ _ => b
  | _ => []
def defScope (s : Stmt) : Scope := match s with
  | .FunctionDef _ _ _ _ _ _ sc _ _ _ => sc
  | _ => { kind := .function, names := [], isGenerator := false, isCoroutine := false }

abbrev CX0 : CXT := fun _ _ _ _ _ _ => False
abbrev E0 : XK := fun _ _ _ => False
theorem pass0 {X : Cx} : Passes CX0 X E0 := fun _ _ _ _ _ _ _ h => h.elim

structure Fun (K : PySem.W.Frag) (x qual : Str) (st : Stmt) (f : Addr) (fd : FuncData) : Prop where
  ex : ∃ (oc : Value) (od : Option Addr) (kV doc pm : Value) (an : Option Addr) (cdv ct : Value) (osl : Array (Option Value)),
    fd = PySem.W.fnOf x qual (defArgs st) (defBody st) (defScope st) .none kV doc pm an cdv ct ∧ K.lookup f = some ⟨oc, od, .func fd, osl⟩ ∧ PySem.W.codeIn K cdv qual = true
  kp : PySem.W.keepIn K (.ref f) = true
section
variable {P : Program} {w : World} {K : PySem.W.Frag} {mg : Str → Option Value} {base : Heap}
theorem Fun.ok {x qual : Str} {st : Stmt} {f : Addr} {fd : FuncData} {N ps : List Str} {k : Nat} {sp : Sp} (F : Fun K x qual st f fd) (S : FnScope N ps (defScope st)) (len : ∀ vs H Q E, sp vs H Q E → vs.length = ps.length)
    (hbody : ∀ (cdv : Value) (A : Around) (outer : List Env) (s : Shared) (H : Hp) (vs : List V) (Q : VK) (E : XK), Room k (A.deeper (envOfC qual (defScope st) s.heap.objs.size f cdv)) → sp vs H Q E →
      ∃ t, PSs (cxOf CX0 P w K mg base N qual (defScope st) f cdv A outer s H E).nox (defBody st) t ∧ t { nx := fun _ H' => Q .non H', rt := Q } (start N vs) H) : FnOk P w K mg base CX0 (k + 1) f fd ps sp := by
  obtain ⟨oc, od, kV, doc, pm, an, cdv, ct, osl, rfl, lk, hcd⟩ := F.ex
  refine fn_of lk hcd S len fun A outer s H vs Q E hr hsp => ?_
  obtain ⟨t, h, q⟩ := hbody cdv A outer s H vs Q E hr hsp
  exact ⟨t, h.nox, q⟩
theorem Fun.binds {x qual : Str} {st : Stmt} {f : Addr} {fd : FuncData} {ps : List Str} (F : Fun K x qual st f fd)
    (h : ∀ (kV doc pm : Value) (an : Option Addr) (cdv ct : Value) (us : List Value), us.length = ps.length → bindArgs (PySem.W.fnOf x qual (defArgs st) (defBody st) (defScope st) .none kV doc pm an cdv ct) ⟨us, []⟩ = pure (ps.zip us)) : Binds K fd ps [] := by
  obtain ⟨oc, od, kV, doc, pm, an, cdv, ct, osl, rfl, lk, hcd⟩ := F.ex
  exact .all (h kV doc pm an cdv ct)
theorem fun_mk {x qual : Str} {st : Stmt} {f : Addr} {oc : Value} {od an : Option Addr} {osl : Array (Option Value)} {kV doc pm cdv ct : Value} (l : K.lookup f = some ⟨oc, od, .func (PySem.W.fnOf x qual (defArgs st) (defBody st) (defScope st) .none kV doc pm an cdv ct), osl⟩)
    (c : PySem.W.codeIn K cdv qual = true) (k : PySem.W.keepIn K (.ref f) = true) : Fun K x qual st f (PySem.W.fnOf x qual (defArgs st) (defBody st) (defScope st) .none kV doc pm an cdv ct) := ⟨⟨oc, od, kV, doc, pm, an, cdv, ct, osl, rfl, l, c⟩, k⟩
end
section
variable {X : Cx}
theorem pv (i : Nat) {x : Str} {pos : Pos} (hN : X.N[i]? = some x := by rfl) (hv : Vis X.env.scope x := by first | exact Or.inl rfl | exact Or.inr (Or.inl rfl) | exact Or.inr (Or.inr rfl)) (hd : (x == ("__debug__" : Str)) = false := by decide)
    (hcd : (x == ("__classdict__" : Str)) = false := by decide) : PE X (.Name x pos) (tVar i) := pe_var hN hv hd hcd
end

def Same (H H' : Hp) : Prop := ∀ b o, H b = some o → H' b = some o
theorem Same.refl (H : Hp) : Same H H := fun _ _ h => h
theorem Same.trans {H H1 H2 : Hp} (a : Same H H1) (b : Same H1 H2) : Same H H2 := fun c o h => b c o (a c o h)
theorem Same.free {H H' : Hp} (e : Same H H') {l : Addr} (h : H' l = Option.none) : H l = Option.none := by
  cases q : H l with
  | none => rfl
  | some o =>
    rw [e l o q] at h
    cases h
theorem Same.seq {K : PySem.W.Frag} {H H' : Hp} {a : Addr} {xs : List V} (e : Same H H') (h : SqL K H a xs) : SqL K H' a xs := by
  rcases h with (h | ⟨o, h⟩) | h
  · exact .inl (.inl (e _ _ h))
  · exact .inl (.inr ⟨o, e _ _ h⟩)
  · exact .inr h

section
variable {κ : Type} [DecidableEq κ]
end
theorem Same.made {H H1 : Hp} {x dx C : Addr} (nx : H x = Option.none) (nd : H dx = Option.none) (k : ∀ b o, (upd (upd H dx (.own x)) x (.ins C dx [])) b = some o → b ≠ x → H1 b = some o) : Same H H1 := fun b o e =>
  k b o (by rw [upd_ne (ne_of_none e nx), upd_ne (ne_of_none e nd)]; exact e) (ne_of_none e nx)
end L2
end
section
section
set_option Elab.async false
set_option linter.all false
set_option maxRecDepth 100000
set_option maxHeartbeats 2000000
namespace L2
open PySem PySem.Spec PyProof.Rows
open PySem.W (WData Codec OpenSpec Well WellAll ReadsW ReadsAllW)
mutual
/-- x stands for the datum d, lists and tuples all the way -/
inductive Dw (K : PySem.W.Frag) (H : Hp) : V → WData → Prop
  | non : Dw K H .non .none
  | bl (b : Bool) : Dw K H (.bl b) (.bool b)
  | int (i : Int) : Dw K H (.int i) (.int i)
  | str (x : Str) : Dw K H (.str x) (.str x)
  | byt (b : Array UInt8) : Dw K H (.byt b) (.bytes b.toList)
  | lst {a : Addr} {xs : List V} {ds : List WData} : SqL K H a xs → DwAll K H xs ds → Dw K H (.ref a) (.list ds)
  | tup {a : Addr} {xs : List V} {ds : List WData} : SqT K H a xs → DwAll K H xs ds → Dw K H (.ref a) (.tuple ds)
inductive DwAll (K : PySem.W.Frag) (H : Hp) : List V → List WData → Prop
  | nil : DwAll K H [] []
  | cons {v : V} {vs : List V} {d : WData} {ds : List WData} : Dw K H v d → DwAll K H vs ds → DwAll K H (v :: vs) (d :: ds)
end
theorem dw_ints {K : PySem.W.Frag} {H : Hp} : ∀ ns : List Int, DwAll K H (ns.map V.int) (ns.map WData.int)
  | [] => .nil
  | n :: r => .cons (.int n) (dw_ints r)
theorem ints_dw {K : PySem.W.Frag} {H : Hp} : ∀ (ns : List Int) (xs : List V), DwAll K H xs (ns.map WData.int) → xs = ns.map V.int
  | [], xs, h => by
    cases h
    rfl
  | n :: r, xs, h => by
    cases h with
    | cons h1 h2 =>
      cases h1
      rw [ints_dw r _ h2] <;> rfl
section
variable {P : Program} {w : World} {K : PySem.W.Frag} {H : Hp} {h : Heap} {R : PySem.W.WRecords} {cl : Str → Option Addr}
theorem sqL_at {a : Addr} {xs : List V} (hok : HOk P w H h) (KX : K.In h) (q : SqL K H a xs) : ∃ (its : List Value) (o : Obj) (n : Nat), Vals xs its ∧ h.get? a = some o ∧ o.cls = .type "list" ∧ o.data = .seq its.toArray n := by
  rcases q with q | ⟨o, its, n, e, hc, _, hd, _, hv⟩
  · obtain ⟨_, its, n, hv, e⟩ := (show ObjOk P w H h a (.lst xs) from q.ok hok)
    exact ⟨its, _, n, hv, e, rfl, rfl⟩
  · exact ⟨its.toList, o, n, hv, KX _ _ e, hc, by simp [hd]⟩
theorem sqT_at {a : Addr} {xs : List V} (hok : HOk P w H h) (KX : K.In h) (q : SqT K H a xs) : ∃ (its : List Value) (o : Obj) (n : Nat), Vals xs its ∧ h.get? a = some o ∧ o.cls = .type "tuple" ∧ o.data = .seq its.toArray n := by
  rcases q with q | ⟨o, its, n, e, hc, hd, _, hv⟩
  · obtain ⟨_, its, hv, o, e, hc, n, hd⟩ := (show ObjOk P w H h a (.tup xs) from q.ok hok)
    exact ⟨its, o, n, hv, e, hc, hd⟩
  · exact ⟨its.toList, o, n, hv, KX _ _ e, hc, by simp [hd]⟩
mutual
theorem Dw.reads (hok : HOk P w H h) (KX : K.In h) : ∀ (d : WData) (v : V) (u : Value), Dw K H v d → RelV v u → ∃ as, ReadsW R cl h u d as
  | .none, _, _, x, r => by
    cases x
    cases r
    exact ⟨_, ReadsW.none⟩
  | .bool b, _, _, x, r => by
    cases x
    cases r
    exact ⟨_, ReadsW.bool b⟩
  | .int i, _, _, x, r => by
    cases x
    obtain ⟨t, rfl⟩ := r
    exact ⟨_, ReadsW.int i t⟩
  | .str s, _, _, x, r => by
    cases x
    obtain ⟨t, rfl⟩ := r
    exact ⟨_, ReadsW.str s t⟩
  | .bytes b, _, _, x, r => by
    cases x
    obtain ⟨t, rfl⟩ := r
    exact ⟨_, ReadsW.bytes _ t⟩
  | .list ds, _, _, x, r => by
    cases x with
    | lst hs ha =>
      cases r
      obtain ⟨its, o, n, rv, ho, hc, hd⟩ := sqL_at hok KX hs
      obtain ⟨as, hr⟩ := Dw.readsAll hok KX ds _ its ha rv
      exact ⟨_, ReadsW.list ho hc hd hr⟩
  | .tuple ds, _, _, x, r => by
    cases x with
    | tup hs ha =>
      cases r
      obtain ⟨its, o, n, rv, ho, hc, hd⟩ := sqT_at hok KX hs
      obtain ⟨as, hr⟩ := Dw.readsAll hok KX ds _ its ha rv
      exact ⟨_, ReadsW.tuple ho hc hd hr⟩
  | .float _, _, _, x, _ => by cases x
  | .dict _, _, _, x, _ => by cases x
  | .bytearray _, _, _, x, _ => by cases x
  | .set _, _, _, x, _ => by cases x
  | .frozenset _, _, _, x, _ => by cases x
  | .obj _ _, _, _, x, _ => by cases x
theorem Dw.readsAll (hok : HOk P w H h) (KX : K.In h) : ∀ (ds : List WData) (vs : List V) (us : List Value), DwAll K H vs ds → Vals vs us → ∃ as, ReadsAllW R cl h us ds as
  | [], _, _, x, r => by
    cases x
    cases r
    exact ⟨_, ReadsAllW.nil⟩
  | d :: ds, _, _, x, r => by
    cases x with
    | cons h1 h2 =>
      cases r with
      | cons r1 r2 =>
        obtain ⟨as, q1⟩ := Dw.reads hok KX d _ _ h1 r1
        obtain ⟨bs, q2⟩ := Dw.readsAll hok KX ds _ _ h2 r2
        exact ⟨_, ReadsAllW.cons q1 q2⟩
end
end
mutual
/-- data that a codec tells -/
def plW : WData → Bool
  | .none => true
  | .bool _ => true
  | .int _ => true
  | .str _ => true
  | .bytes _ => true
  | .list xs => plWs xs
  | .tuple xs => plWs xs
  | _ => false
def plWs : List WData → Bool
  | [] => true
  | x :: r => plW x && plWs r
end
theorem plWs_map {α : Type} {f : α → WData} (h : ∀ a, plW (f a) = true) : ∀ l : List α, plWs (l.map f) = true
  | [] => rfl
  | x :: r => by
    show (plW (f x) && plWs (r.map f)) = true
    rw [h x, plWs_map h r] <;> rfl
theorem pl_enc : ∀ (c : Codec) (a : c.denote), plW (c.enc a) = true
  | .unit, _ => rfl
  | .bool, _ => rfl
  | .int _ _, _ => rfl
  | .nat _ _, _ => rfl
  | .u8, _ => rfl
  | .bytes _ _, _ => rfl
  | .text _ _ _ _, _ => rfl
  | .list _ _ c, a => plWs_map (fun x => pl_enc c x) a
  | .pair c d, a => by
    show (plW (c.enc a.1) && (plW (d.enc a.2) && true)) = true
    rw [pl_enc c a.1, pl_enc d a.2] <;> rfl
  | .triple c d e, a => by
    show (plW (c.enc a.1) && (plW (d.enc a.2.1) && (plW (e.enc a.2.2) && true))) = true
    rw [pl_enc c a.1, pl_enc d a.2.1, pl_enc e a.2.2] <;> rfl
  | .option c, none => rfl
  | .option c, some x => pl_enc c x
theorem pl_encAll : ∀ (cs : List Codec) (a : Codec.denoteAll cs), plWs (Codec.encAll cs a) = true
  | [], _ => rfl
  | c :: cs, a => by
    show (plW (c.enc a.1) && plWs (Codec.encAll cs a.2)) = true
    rw [pl_enc c a.1, pl_encAll cs a.2] <;> rfl
theorem weight_mem : ∀ {xs : List WData} {d : WData}, d ∈ xs → d.weight ≤ WData.weightAll xs
  | [], d, h => absurd h (by simp)
  | x :: r, d, h => by
    show d.weight ≤ x.weight + 1 + WData.weightAll r
    rcases List.mem_cons.mp h with e | m
    · rw [e]
      omega
    · have z := weight_mem m
      omega
def toV : Value → V
  | .none => .non
  | .bool b => .bl b
  | .int i _ => .int i
  | .str x _ => .str x
  | .bytes b _ => .byt b
  | .ref a => .ref a
  | _ => .non
def OkU (A : List Addr) : Value → Prop
  | .none => True
  | .bool _ => True
  | .int _ _ => True
  | .str _ _ => True
  | .bytes _ _ => True
  | .ref a => a ∈ A
  | _ => False
theorem OkU.mono {A B : List Addr} (h : ∀ a ∈ A, a ∈ B) : ∀ {u : Value}, OkU A u → OkU B u := fun {u} x => by
  cases u with
  | ref a => exact h a x
  | none => trivial
  | bool b => trivial
  | int i t => trivial
  | str s t => trivial
  | bytes b t => trivial
  | _ => exact False.elim x
theorem relV_toV {A : List Addr} {u : Value} (x : OkU A u) : RelV (toV u) u := by
  cases u with
  | ref a => rfl
  | none => rfl
  | bool b => rfl
  | int i t => exact ⟨t, rfl⟩
  | str s t => exact ⟨t, rfl⟩
  | bytes b t => exact ⟨t, rfl⟩
  | _ => exact False.elim x
theorem vals_toV {A : List Addr} : ∀ {vs : List Value}, (∀ u ∈ vs, OkU A u) → Vals (vs.map toV) vs
  | [], _ => .nil
  | u :: r, h => .cons (relV_toV (h u (List.mem_cons_self ..))) (vals_toV fun x hx => h x (List.mem_cons_of_mem _ hx))
def ArgOb (h : Heap) (A : List Addr) (a : Addr) : Prop := ∃ vs : List Value, vs.length ≤ sizeLine ∧ (∀ u ∈ vs, OkU A u) ∧
  (h.get? a = some { cls := .type "list", data := .seq vs.toArray } ∨ h.get? a = some { cls := .type "tuple", data := .seq vs.toArray })
theorem ArgOb.mono {h : Heap} {A B : List Addr} {a : Addr} (k : ∀ a ∈ A, a ∈ B) (x : ArgOb h A a) : ArgOb h B a := by
  obtain ⟨vs, h1, h2, h3⟩ := x
  exact ⟨vs, h1, fun u hu => (h2 u hu).mono k, h3⟩
theorem wellAll_len {P : Params} {h : Heap} : ∀ {vs : List Value} {ds : List WData}, WellAll P h vs ds → vs.length = ds.length
  | _, _, .nil => rfl
  | _, _, .cons _ b => by
    show _ + 1 = _ + 1
    rw [wellAll_len b]
theorem well_list {P : Params} {h : Heap} {v : Value} {ds : List WData} (x : Well P h v (.list ds)) : ∃ (a : Addr) (vs : List Value), v = .ref a ∧ h.get? a = some { cls := .type "list", data := .seq vs.toArray } ∧ WellAll P h vs ds := by
  cases x with
  | list ho hall => exact ⟨_, _, rfl, ho, hall⟩
theorem well_tuple {P : Params} {h : Heap} {v : Value} {ds : List WData} (x : Well P h v (.tuple ds)) : ∃ (a : Addr) (vs : List Value), v = .ref a ∧ h.get? a = some { cls := .type "tuple", data := .seq vs.toArray } ∧ WellAll P h vs ds := by
  cases x with
  | tuple ho hall => exact ⟨_, _, rfl, ho, hall⟩
theorem well_cons {P : Params} {h : Heap} {us : List Value} {d : WData} {ds : List WData} (x : WellAll P h us (d :: ds)) : ∃ (v : Value) (vs : List Value), us = v :: vs ∧ Well P h v d ∧ WellAll P h vs ds := by
  cases x with
  | cons a b => exact ⟨_, _, rfl, a, b⟩
theorem line_of {n : Nat} (h : n ≤ 1048576) : n ≤ sizeLine := Nat.le_trans h (by decide)
section
variable {P : Params} {h : Heap}
mutual
theorem area_one : ∀ (d : WData) (v : Value), Well P h v d → plW d = true → d.weight ≤ 1048576 → ∃ A : List Addr, OkU A v ∧ ∀ a ∈ A, ArgOb h A a
  | .none, _, x, _, _ => by
    cases x
    exact ⟨[], trivial, fun a m => absurd m (by simp)⟩
  | .bool b, _, x, _, _ => by
    cases x
    exact ⟨[], trivial, fun a m => absurd m (by simp)⟩
  | .int i, _, x, _, _ => by
    cases x
    exact ⟨[], trivial, fun a m => absurd m (by simp)⟩
  | .str s, _, x, _, _ => by
    cases x
    exact ⟨[], trivial, fun a m => absurd m (by simp)⟩
  | .bytes b, _, x, _, _ => by
    cases x
    exact ⟨[], trivial, fun a m => absurd m (by simp)⟩
  | .list ds, _, x, p, z => by
    obtain ⟨a, vs, rfl, ho, hall⟩ := well_list x
    have z2 : WData.weightAll ds ≤ 1048576 := z
    obtain ⟨A, h1, h2⟩ := area_all ds _ hall p fun d hd => Nat.le_trans (weight_mem hd) z2
    have k : ∀ b ∈ A, b ∈ a :: A := fun b hb => List.mem_cons_of_mem _ hb
    refine ⟨a :: A, List.mem_cons_self .., fun b hb => ?_⟩
    rcases List.mem_cons.mp hb with e | m
    · rw [e]
      exact ⟨vs, line_of (by rw [wellAll_len hall]; exact Nat.le_trans (PySem.W.length_le_weightAllW ds) z2), fun u hu => (h1 u hu).mono k, .inl ho⟩
    · exact (h2 b m).mono k
  | .tuple ds, _, x, p, z => by
    obtain ⟨a, vs, rfl, ho, hall⟩ := well_tuple x
    have z2 : WData.weightAll ds ≤ 1048576 := z
    obtain ⟨A, h1, h2⟩ := area_all ds _ hall p fun d hd => Nat.le_trans (weight_mem hd) z2
    have k : ∀ b ∈ A, b ∈ a :: A := fun b hb => List.mem_cons_of_mem _ hb
    refine ⟨a :: A, List.mem_cons_self .., fun b hb => ?_⟩
    rcases List.mem_cons.mp hb with e | m
    · rw [e]
      exact ⟨vs, line_of (by rw [wellAll_len hall]; exact Nat.le_trans (PySem.W.length_le_weightAllW ds) z2), fun u hu => (h1 u hu).mono k, .inr ho⟩
    · exact (h2 b m).mono k
  | .float _, _, _, p, _ => Bool.noConfusion (show false = true from p)
  | .dict _, _, _, p, _ => Bool.noConfusion (show false = true from p)
  | .bytearray _, _, _, p, _ => Bool.noConfusion (show false = true from p)
  | .set _, _, _, p, _ => Bool.noConfusion (show false = true from p)
  | .frozenset _, _, _, p, _ => Bool.noConfusion (show false = true from p)
  | .obj _ _, _, _, p, _ => Bool.noConfusion (show false = true from p)
theorem area_all : ∀ (ds : List WData) (vs : List Value), WellAll P h vs ds → plWs ds = true → (∀ d ∈ ds, d.weight ≤ 1048576) → ∃ A : List Addr, (∀ u ∈ vs, OkU A u) ∧ ∀ a ∈ A, ArgOb h A a
  | [], _, x, _, _ => by
    cases x
    exact ⟨[], fun u m => absurd m (by simp), fun a m => absurd m (by simp)⟩
  | d :: ds, _, x, p, z => by
    obtain ⟨v, vs, rfl, x1, x2⟩ := well_cons x
    have q : plW d = true ∧ plWs ds = true := Bool.and_eq_true_iff.mp p
    obtain ⟨A, a1, a2⟩ := area_one d v x1 q.1 (z d (List.mem_cons_self ..))
    obtain ⟨B, b1, b2⟩ := area_all ds vs x2 q.2 fun e he => z e (List.mem_cons_of_mem _ he)
    have kA : ∀ b ∈ A, b ∈ A ++ B := fun b hb => List.mem_append.mpr (.inl hb)
    have kB : ∀ b ∈ B, b ∈ A ++ B := fun b hb => List.mem_append.mpr (.inr hb)
    refine ⟨A ++ B, fun u hu => ?_, fun b hb => ?_⟩
    · rcases List.mem_cons.mp hu with e | m
      · rw [e]
        exact a1.mono kA
      · exact (b1 u m).mono kB
    · rcases List.mem_append.mp hb with m | m
      · exact (a2 b m).mono kA
      · exact (b2 b m).mono kB
end
end
def hoOf (o : Obj) : Option HO := match o.data with
  | .seq vs _ => if (o.cls == Value.type "list") = true then some (.frz o (.lst (vs.toList.map toV))) else some (.frz o (.tup (vs.toList.map toV)))
  | _ => none
def argH (K : PySem.W.Frag) (h : Heap) (A : List Addr) : Hp := fun b => if b ∈ A then (if (K.lookup b).isNone = true then (h.get? b).bind hoOf else none) else none
def OnlyF (H : Hp) : Prop := ∀ b, H b = none ∨ ∃ o u, H b = some (.frz o u)
theorem hoOf_lst (vs : List Value) : hoOf { cls := .type "list", data := .seq vs.toArray } = some (.frz { cls := .type "list", data := .seq vs.toArray } (.lst (vs.map toV))) := by
  show (if (Value.type "list" == Value.type "list") = true then some (HO.frz { cls := .type "list", data := .seq vs.toArray } (.lst (vs.toArray.toList.map toV))) else some (HO.frz { cls := .type "list", data := .seq vs.toArray } (.tup (vs.toArray.toList.map toV)))) = _
  rw [if_pos (beq_self_eq_true _)]
theorem hoOf_tup (vs : List Value) : hoOf { cls := .type "tuple", data := .seq vs.toArray } = some (.frz { cls := .type "tuple", data := .seq vs.toArray } (.tup (vs.map toV))) := by
  show (if (Value.type "tuple" == Value.type "list") = true then some (HO.frz { cls := .type "tuple", data := .seq vs.toArray } (.lst (vs.toArray.toList.map toV))) else some (HO.frz { cls := .type "tuple", data := .seq vs.toArray } (.tup (vs.toArray.toList.map toV)))) = _
  rw [if_neg (by decide)]
section
variable {P : Program} {w : World} {K : PySem.W.Frag} {h : Heap} {A : List Addr}
theorem argH_at {b : Addr} {o : Obj} (hb : b ∈ A) (hk : K.lookup b = none) (e : h.get? b = some o) : argH K h A b = hoOf o := by
  unfold argH
  rw [if_pos hb, hk, if_pos (show (none : Option Obj).isNone = true from rfl), e] <;> rfl
theorem of_argH {b : Addr} {u : HO} (q : argH K h A b = some u) : b ∈ A ∧ K.lookup b = none := by
  unfold argH at q
  by_cases hb : b ∈ A
  · rw [if_pos hb] at q
    cases hk : K.lookup b with
    | none => exact ⟨hb, rfl⟩
    | some o =>
      rw [hk, if_neg (by simp)] at q
      cases q
  · rw [if_neg hb] at q
    cases q
theorem argH_is (ar : ∀ a ∈ A, ArgOb h A a) {b : Addr} {u : HO} (q : argH K h A b = some u) : K.lookup b = none ∧ ∃ vs : List Value, vs.length ≤ sizeLine ∧ (∀ u ∈ vs, OkU A u) ∧
    ((h.get? b = some { cls := .type "list", data := .seq vs.toArray } ∧ u = .frz { cls := .type "list", data := .seq vs.toArray } (.lst (vs.map toV))) ∨
     (h.get? b = some { cls := .type "tuple", data := .seq vs.toArray } ∧ u = .frz { cls := .type "tuple", data := .seq vs.toArray } (.tup (vs.map toV)))) := by
  obtain ⟨hb, hk⟩ := of_argH q
  obtain ⟨vs, h1, h2, h3⟩ := ar b hb
  refine ⟨hk, vs, h1, h2, ?_⟩
  rcases h3 with e | e
  · rw [argH_at hb hk e, hoOf_lst] at q
    exact .inl ⟨e, (Option.some.inj q).symm⟩
  · rw [argH_at hb hk e, hoOf_tup] at q
    exact .inr ⟨e, (Option.some.inj q).symm⟩
theorem argH_only (ar : ∀ a ∈ A, ArgOb h A a) : OnlyF (argH K h A) := fun b => by
  cases q : argH K h A b with
  | none => exact .inl rfl
  | some u =>
    obtain ⟨_, vs, _, _, ⟨_, e⟩ | ⟨_, e⟩⟩ := argH_is ar q
    · exact .inr ⟨_, _, by rw [e]⟩
    · exact .inr ⟨_, _, by rw [e]⟩
theorem argH_ok (ar : ∀ a ∈ A, ArgOb h A a) : HOk P w (argH K h A) h := fun b u q => by
  obtain ⟨_, vs, h1, h2, ⟨e, rfl⟩ | ⟨e, rfl⟩⟩ := argH_is ar q
  · exact ⟨e, by rw [List.length_map]; exact h1, vs, _, vals_toV h2, e⟩
  · exact ⟨e, by rw [List.length_map]; exact h1, vs, vals_toV h2, _, e, rfl, _, rfl⟩
theorem seq_inj {c c' : Value} {vs us : List Value} (e : (some { cls := c, data := .seq vs.toArray } : Option Obj) = some { cls := c', data := .seq us.toArray }) : c = c' ∧ vs = us := by
  have e1 := Option.some.inj e
  have e2 : c = c' := congrArg Obj.cls e1
  have e3 : Data.seq vs.toArray = Data.seq us.toArray := congrArg Obj.data e1
  injection e3 with e4
  refine ⟨e2, ?_⟩
  have e5 := congrArg Array.toList e4
  simpa using e5
theorem argL (KX : K.In h) (ar : ∀ a ∈ A, ArgOb h A a) {a : Addr} {vs : List Value} (ha : a ∈ A) (e : h.get? a = some { cls := .type "list", data := .seq vs.toArray }) : (∀ u ∈ vs, OkU A u) ∧ SqL K (argH K h A) a (vs.map toV) := by
  obtain ⟨us, h1, h2, h3⟩ := ar a ha
  have hu : us = vs := by
    rcases h3 with q | q
    · rw [e] at q
      exact (seq_inj q).2.symm
    · rw [e] at q
      exact absurd (Value.type.inj (seq_inj q).1) (by decide)
  subst hu
  refine ⟨h2, ?_⟩
  cases hk : K.lookup a with
  | none => exact .inl (.inr ⟨_, by rw [argH_at ha hk e, hoOf_lst]⟩)
  | some o =>
    have e2 := KX a o hk
    rw [e] at e2
    obtain rfl := Option.some.inj e2
    exact .inr ⟨_, us.toArray, _, hk, rfl, rfl, rfl, by rw [List.size_toArray]; exact h1, by simpa using vals_toV h2⟩
theorem argT (KX : K.In h) (ar : ∀ a ∈ A, ArgOb h A a) {a : Addr} {vs : List Value} (ha : a ∈ A) (e : h.get? a = some { cls := .type "tuple", data := .seq vs.toArray }) : (∀ u ∈ vs, OkU A u) ∧ SqT K (argH K h A) a (vs.map toV) := by
  obtain ⟨us, h1, h2, h3⟩ := ar a ha
  have hu : us = vs := by
    rcases h3 with q | q
    · rw [e] at q
      exact absurd (Value.type.inj (seq_inj q).1) (by decide)
    · rw [e] at q
      exact (seq_inj q).2.symm
  subst hu
  refine ⟨h2, ?_⟩
  cases hk : K.lookup a with
  | none => exact .inl (.inr ⟨_, by rw [argH_at ha hk e, hoOf_tup]⟩)
  | some o =>
    have e2 := KX a o hk
    rw [e] at e2
    obtain rfl := Option.some.inj e2
    exact .inr ⟨_, us.toArray, _, hk, rfl, rfl, by rw [List.size_toArray]; exact h1, by simpa using vals_toV h2⟩
mutual
theorem dw_one {Pm : Params} (KX : K.In h) (ar : ∀ a ∈ A, ArgOb h A a) : ∀ (d : WData) (v : Value), Well Pm h v d → plW d = true → OkU A v → Dw K (argH K h A) (toV v) d
  | .none, _, x, _, _ => by
    cases x
    exact .non
  | .bool b, _, x, _, _ => by
    cases x
    exact .bl b
  | .int i, _, x, _, _ => by
    cases x
    exact .int i
  | .str s, _, x, _, _ => by
    cases x
    exact .str s
  | .bytes b, _, x, _, _ => by
    cases x
    have z := Dw.byt (K := K) (H := argH K h A) b.toArray
    exact z
  | .list ds, _, x, p, hu => by
    obtain ⟨a, vs, rfl, ho, hall⟩ := well_list x
    obtain ⟨h2, hs⟩ := argL KX ar hu ho
    exact .lst hs (dw_all KX ar ds _ hall p h2)
  | .tuple ds, _, x, p, hu => by
    obtain ⟨a, vs, rfl, ho, hall⟩ := well_tuple x
    obtain ⟨h2, hs⟩ := argT KX ar hu ho
    exact .tup hs (dw_all KX ar ds _ hall p h2)
  | .float _, _, _, p, _ => Bool.noConfusion (show false = true from p)
  | .dict _, _, _, p, _ => Bool.noConfusion (show false = true from p)
  | .bytearray _, _, _, p, _ => Bool.noConfusion (show false = true from p)
  | .set _, _, _, p, _ => Bool.noConfusion (show false = true from p)
  | .frozenset _, _, _, p, _ => Bool.noConfusion (show false = true from p)
  | .obj _ _, _, _, p, _ => Bool.noConfusion (show false = true from p)
theorem dw_all {Pm : Params} (KX : K.In h) (ar : ∀ a ∈ A, ArgOb h A a) : ∀ (ds : List WData) (vs : List Value), WellAll Pm h vs ds → plWs ds = true → (∀ u ∈ vs, OkU A u) → DwAll K (argH K h A) (vs.map toV) ds
  | [], _, x, _, _ => by
    cases x
    exact .nil
  | d :: ds, _, x, p, hu => by
    obtain ⟨v, vs, rfl, x1, x2⟩ := well_cons x
    have q : plW d = true ∧ plWs ds = true := Bool.and_eq_true_iff.mp p
    exact .cons (dw_one KX ar d v x1 q.1 (hu _ (List.mem_cons_self ..))) (dw_all KX ar ds vs x2 q.2 fun u m => hu u (List.mem_cons_of_mem _ m))
end
end
theorem spec_call {P : Program} {w : World} {K : PySem.W.Frag} {mg mb : Str → Option Value} {CX : CXT} {k : Nat} {fa : Addr} {fd : FuncData} {ps : List Str} {sp : Sp} {s₁ : Shared} {vals : List Value} {ds : List WData} {R : PySem.W.WRecords} {cl : Str → Option Addr} {d0 : WData}
    (KX : K.In s₁.heap) (hns : s₁.heap.Ns mainGlobals mg) (hb : s₁.heap.Ns builtinsNs mb) (hbb : ∀ x : Str, x ≠ "__name__" → mb x = bootBuiltins x) (hlim : s₁.heap.NoLimit) (hg : s₁.gens = #[])
    (hwl : WellAll w.params s₁.heap vals ds) (hpl : plWs ds = true) (hwt : ∀ d ∈ ds, d.weight ≤ 1048576) (hr : Room k callerA)
    (F : ∀ base : Heap, K.In base → base.Ns mainGlobals mg → FnOk P w K mg base CX k fa fd ps sp) (hbind : ∀ (s : Shared) (us : List Value), us.length = ps.length → BindsTo s fd ⟨us, []⟩ (ps.zip us)) (hlen : ds.length = ps.length)
    (hsp : ∀ (H : Hp) (xs : List V), OnlyF H → DwAll K H xs ds → sp xs H (fun v H' => Dw K H' v d0) fun _ _ _ => False)
    (hCX : ∀ H e s', CX [] H s₁ (fun _ _ _ => False) e s' → False) :
    codeAny (model P w) callerA (.call (.ref fa) ⟨vals, []⟩) (fun r s' => ∃ u as, r = .ok (.ret u) ∧ ReadsW R cl s'.heap u d0 as ∧ OldK s₁.heap s'.heap ∧ s'.os = s₁.os ∧ AllBare s'.gens) s₁ := by
  obtain ⟨A, ho, ar⟩ := area_all ds vals hwl hpl hwt
  have hO : OnlyF (argH K s₁.heap A) := argH_only ar
  have hok : HOk P w (argH K s₁.heap A) s₁.heap := argH_ok ar
  have hS := dw_all KX ar ds vals hwl hpl ho
  have hV := vals_toV ho
  have hK : ∀ b u, argH K s₁.heap A b = some u → K.lookup b = none := fun b u q => (argH_is ar q).1
  have noA : ∀ {b : Addr} {o : Obj} {es : Array DictEntry} {ep : Nat}, s₁.heap.get? b = some o → o.data = .dict es ep → argH K s₁.heap A b = none := fun {b o es ep} e d => by
    cases q : argH K s₁.heap A b with
    | none => rfl
    | some u =>
      obtain ⟨_, vs, _, _, ⟨e2, _⟩ | ⟨e2, _⟩⟩ := argH_is ar q
      · rw [e2] at e
        cases e
        have d' : Data.seq vs.toArray _ = Data.dict es ep := d
        cases d'
      · rw [e2] at e
        cases e
        have d' : Data.seq vs.toArray _ = Data.dict es ep := d
        cases d'
  generalize argH K s₁.heap A = H at hO hok hS hK noA
  have base_of : ∀ {b : Addr} {o : Obj}, s₁.heap.get? b = some o → H b = none → (hidT s₁.heap H).get? b = some o := fun e n => hidT_get e n
  have nsK : ∀ {b : Addr} {m : Str → Option Value}, s₁.heap.Ns b m → (hidT s₁.heap H).Ns b m := fun {b m} ⟨o, es, ep, e, d, r⟩ => ⟨o, es, ep, base_of e (noA e d), d, r⟩
  have nK : ∀ b o, K.lookup b = some o → H b = none := fun b o e => by
    cases q : H b with
    | none => rfl
    | some u =>
      rw [hK b u q] at e
      cases e
  have hKb : K.In (hidT s₁.heap H) := fun b o e => base_of (KX b o e) (nK b o e)
  have hM : Mod K mg (hidT s₁.heap H) := ⟨hKb, nsK hns, ⟨mb, nsK hb, hbb⟩, let ⟨mc, h1, h2⟩ := hlim; ⟨mc, nsK h1, h2⟩⟩
  have e0 : Env0 P w K mg (hidT s₁.heap H) callerA [] s₁ H := ⟨rfl, hM, fun b o e => of_hidT e, Nat.le_of_eq (hidT_size _ _), trivial, fun b hb => absurd (show b ∈ ([] : List Addr) from hb) (by simp), hok, .of_eq hg⟩
  have hl : vals.length = ps.length := by rw [wellAll_len hwl]; exact hlen
  refine codeAny_mono ((F _ hKb (nsK hns)).run callerA [] s₁ H ⟨vals, []⟩ vals (vals.map toV) _ _ hr e0 (hbind s₁ vals hl) hV (hsp H _ hO hS)) fun r s' x => ?_
  cases r with
  | error e => exact (hCX H e s' x).elim
  | ok fl =>
    cases fl with
    | next => exact False.elim x
    | brk => exact False.elim x
    | cont => exact False.elim x
    | ret u =>
      obtain ⟨v, H', os, bare, un, hok', r', q⟩ := x
      have kept : ∀ b o, s₁.heap.get? b = some o → s'.heap.get? b = some o := fun b o e => by
        cases q2 : H b with
        | none => exact un.keep b o e q2 (by intro z; exact absurd (show b ∈ ([] : List Addr) from z) (by simp)) (by simp)
        | some u2 =>
          rcases hO b with z | ⟨ob, u3, z⟩
          · rw [q2] at z
            cases z
          · have z2 := un.frzs b ob _ z
            obtain ⟨e1, _⟩ := hok b _ z
            obtain ⟨e2, _⟩ := hok' b _ z2
            rw [e] at e1
            cases e1
            exact e2
      have KX' : K.In s'.heap := fun b o e => kept b o (KX b o e)
      obtain ⟨as, hrd⟩ := Dw.reads (R := R) (cl := cl) hok' KX' d0 v u q r'
      exact ⟨u, as, rfl, hrd, OldK.of_keep kept, os, bare⟩
theorem layable_weight {ds : List WData} (h : WData.layableAll ds = true) : ∀ d ∈ ds, d.weight ≤ 1048576 := fun d hd =>
  (PySem.W.layableW_iff.mp (List.all_eq_true.mp h d hd)).2.2
theorem encAll_len : ∀ (cs : List Codec) (a : Codec.denoteAll cs), (Codec.encAll cs a).length = cs.length
  | [], _ => rfl
  | c :: cs, a => by
    show (Codec.encAll cs a.2).length + 1 = cs.length + 1
    rw [encAll_len cs a.2]
theorem walk_spec {r : OpenSpec} {k : Nat} {q : Program} {loose : List Str} {XP : (Str → Option Value) → Heap → Prop} {YP : World → Heap → Prop} {d : DefRec} {K : Params → PySem.W.Frag} {CX : World → CXT} {ps : List Str} {sp : World → Sp}
    (hwell : r.wellSaid = true) (hdf : d.params.defaults = []) (hlen : r.args.length = ps.length) (hr : Room k callerA)
    (hY : ∀ (w : World) (h : Heap), YP w h → (K w.params).In h)
    (F : ∀ (w : World) (mg : Str → Option Value) (fa : Addr) (h : Heap), YP w h → (K w.params).In h → h.Ns mainGlobals mg → mg d.name = some (.ref fa) →
      ∃ fd : FuncData, (∀ (s : Shared) (us : List Value), us.length = ps.length → BindsTo s fd ⟨us, []⟩ (ps.zip us)) ∧
        ∀ base : Heap, (K w.params).In base → base.Ns mainGlobals mg → FnOk r.prog w (K w.params) mg base (CX w) k fa fd ps (sp w))
    (hsp : ∀ (w : World) (H : Hp) (xs : List V) (a : Codec.denoteAll r.args), OnlyF H → Codec.withinAll r.args a = true → Codec.app r.args r.asked a = true → DwAll (K w.params) H xs (Codec.encAll r.args a) →
      sp w xs H (fun v H' => Dw (K w.params) H' v (r.ret.enc (Codec.app r.args r.f a))) fun _ _ _ => False)
    (hCX : ∀ (w : World) (H : Hp) (s : Shared) (e : Value) (s' : Shared), CX w [] H s (fun _ _ _ => False) e s' → False) :
    PySem.W.WalkOS q loose XP YP r d [] (fun f vs => PySem.call f vs) := by
  intro w s_0 s₁ mg mb G Y fa o pm cd doc dV kV ho hd hcd hD hmg hg args vals as hpre hlay hrd hwl hlo
  obtain ⟨a, e1, e2⟩ := PySem.W.os_pre_some hpre
  obtain ⟨e3, hwi⟩ := Codec.encAll_of_decAll r.args args a e1
  subst e3
  have KX := hY w _ Y
  obtain ⟨fd, hb, hF⟩ := F w mg fa _ Y KX G.T.g hmg
  refine PySem.W.enter_call (codeAny_mono (spec_call (R := []) (cl := classAt s_0.heap) (d0 := r.ret.enc (Codec.app r.args r.f a)) KX G.T.g G.T.b G.T.builtins G.T.nolimit hg hwl (pl_encAll _ _) (layable_weight hlay) hr hF hb (by rw [encAll_len]; exact hlen)
    (fun H xs hO hS => hsp w H xs a hO hwi e2 hS) fun H e s' => hCX w H s₁ e s') fun r' s' hq => ?_)
  obtain ⟨u, as', rfl, h1, h2, h3, h4⟩ := hq
  exact ⟨.inl ⟨u, _, as', rfl, fun _ => rfl, h1, (OpenSpec.post_iff hwell hwi _ _).mpr rfl, fun z => Bool.noConfusion (show false = true from z)⟩, h2, h3, h4⟩
theorem walk_specK {r : OpenSpec} {k : Nat} {q : Program} {loose : List Str} {XP : (Str → Option Value) → Heap → Prop} {YP : World → Heap → Prop} {d : DefRec} {K : Params → PySem.W.Frag} {CX : CXT} {ps : List Str} {sp : PySem.W.Frag → Sp}
    (hwell : r.wellSaid = true) (hdf : d.params.defaults = []) (hlen : r.args.length = ps.length) (hr : Room k callerA)
    (hY : ∀ (w : World) (h : Heap), YP w h → (K w.params).In h)
    (F : ∀ (w : World) (mg : Str → Option Value) (fa : Addr) (h : Heap), YP w h → (K w.params).In h → h.Ns mainGlobals mg → mg d.name = some (.ref fa) →
      ∃ fd : FuncData, (∀ (s : Shared) (us : List Value), us.length = ps.length → BindsTo s fd ⟨us, []⟩ (ps.zip us)) ∧
        ∀ base : Heap, (K w.params).In base → base.Ns mainGlobals mg → FnOk r.prog w (K w.params) mg base CX k fa fd ps (sp (K w.params)))
    (hsp : ∀ (K : PySem.W.Frag) (H : Hp) (xs : List V) (a : Codec.denoteAll r.args), OnlyF H → Codec.withinAll r.args a = true → Codec.app r.args r.asked a = true → DwAll K H xs (Codec.encAll r.args a) →
      sp K xs H (fun v H' => Dw K H' v (r.ret.enc (Codec.app r.args r.f a))) fun _ _ _ => False)
    (hCX : ∀ (H : Hp) (s : Shared) (e : Value) (s' : Shared), CX [] H s (fun _ _ _ => False) e s' → False) :
    PySem.W.WalkOS q loose XP YP r d [] (fun f vs => PySem.call f vs) :=
  walk_spec (K := K) (CX := fun _ => CX) (sp := fun w => sp (K w.params)) hwell hdf hlen hr hY F (fun w H xs a h1 h2 h3 h4 => hsp (K w.params) H xs a h1 h2 h3 h4) fun _ H s e s' => hCX H s e s'
end L2
end
end
section
set_option Elab.async false
set_option linter.all false
set_option maxRecDepth 100000
namespace Cs
open PySem PySem.Spec PyProof.Rows L2
open Builtin.Int (intBits)

structure Fm where
  fb : Int
  lead : Int
  sb : Int
  inf : Int
  nan : Int
  one : Int
  uo : Int

inductive D where
  | sc (v : V)
  | lst (xs : List V)
  | own (xs : List V)
  | form (f : Fm)
abbrev D.int (i : Int) : D := .sc (.int i)
abbrev D.bl (b : Bool) : D := .sc (.bl b)
def fields (f : Fm) : List (Str × V) :=
  [("fraction_bits", .int f.fb), ("leading_bit", .int f.lead), ("sign_bit", .int f.sb), ("infinity", .int f.inf), ("some_no_number", .int f.nan), ("one", .int f.one), ("units_of_one", .int f.uo)]

def Den (K : PySem.W.Frag) (C : Addr) (H : Hp) (v : V) : D → Prop
  | .sc u => v = u
  | .lst xs => ∃ a, v = .ref a ∧ SqL K H a xs
  | .own xs => ∃ a, v = .ref a ∧ H a = some (.lst xs)
  | .form f => ∃ a dx, v = .ref a ∧ H a = some (.ins C dx (fields f))

theorem Den.same {K : PySem.W.Frag} {C : Addr} {H H' : Hp} {v : V} {d : D} (e : Same H H') (h : Den K C H v d) : Den K C H' v d := by
  cases d with
  | sc u => exact h
  | lst xs =>
    obtain ⟨a, h1, h2⟩ := h
    exact ⟨a, h1, e.seq h2⟩
  | own xs =>
    obtain ⟨a, h1, h2⟩ := h
    exact ⟨a, h1, e _ _ h2⟩
  | form f =>
    obtain ⟨a, dx, h1, h2⟩ := h
    exact ⟨a, dx, h1, e _ _ h2⟩

abbrev Gm := List (Option D)
structure Is (K : PySem.W.Frag) (C : Addr) (H : Hp) (σ : L2.St) (g : Gm) : Prop where
  len : σ.length = g.length
  at_ : ∀ (i : Nat) (d : D), g[i]? = some (some d) → ∃ v, σ[i]? = some (some v) ∧ Den K C H v d

theorem Is.same {K : PySem.W.Frag} {C : Addr} {H H' : Hp} {σ : L2.St} {g : Gm} (e : Same H H') (h : Is K C H σ g) : Is K C H' σ g :=
  ⟨h.len, fun i d q => let ⟨v, h1, h2⟩ := h.at_ i d q; ⟨v, h1, h2.same e⟩⟩
theorem Is.set {K : PySem.W.Frag} {C : Addr} {H : Hp} {σ : L2.St} {g : Gm} {v : V} {d : D} (h : Is K C H σ g) (i : Nat) (hd : Den K C H v d) : Is K C H (σ.set i (some v)) (g.set i (some d)) := by
  refine ⟨by rw [List.length_set, List.length_set]; exact h.len, fun j e q => ?_⟩
  by_cases hj : i = j
  · subst hj
    by_cases hi : i < g.length
    · rw [List.getElem?_set_self hi] at q
      cases q
      exact ⟨v, List.getElem?_set_self (by rw [h.len]; exact hi), hd⟩
    · rw [List.getElem?_eq_none (by rw [List.length_set]; omega)] at q
      cases q
  · rw [List.getElem?_set_ne hj] at q
    obtain ⟨u, h1, h2⟩ := h.at_ j e q
    exact ⟨u, by rw [List.getElem?_set_ne hj]; exact h1, h2⟩
theorem Is.unset {K : PySem.W.Frag} {C : Addr} {H : Hp} {σ : L2.St} {g : Gm} {v : V} {d : D} (h : Is K C H σ g) (i : Nat) (hd : Den K C H v d) : Is K C H ((σ.set i none).set i (some v)) (g.set i (some d)) := by
  rw [List.set_set]
  exact h.set i hd

def Ev (X : Cx) (C : Addr) (g : Gm) (e : Expr) (d : D) : Prop :=
  ∃ t, PE X e t ∧ ∀ σ H Q, Is X.K C H σ g → (∀ v H', Same H H' → Den X.K C H' v d → Q v H') → t σ H Q
def EvT (X : Cx) (C : Addr) (g : Gm) (e : Expr) (b : Bool) : Prop :=
  ∃ t, PT X e t ∧ ∀ σ H Q, Is X.K C H σ g → (∀ H', Same H H' → Q b H') → t σ H Q
def EvW (X : Cx) (C : Addr) (g : Gm) (e : Expr) (b : Bool) : Prop :=
  ∃ t, PW X e t ∧ ∀ σ H Q, Is X.K C H σ g → (∀ H', Same H H' → Q b H') → t σ H Q
def DenAll (K : PySem.W.Frag) (C : Addr) (H : Hp) : List V → List D → Prop
  | [], [] => True
  | v :: vs, d :: ds => Den K C H v d ∧ DenAll K C H vs ds
  | _, _ => False
theorem DenAll.same {K : PySem.W.Frag} {C : Addr} {H H' : Hp} (e : Same H H') : ∀ {vs : List V} {ds : List D}, DenAll K C H vs ds → DenAll K C H' vs ds
  | [], [], _ => trivial
  | _ :: _, _ :: _, h => ⟨h.1.same e, DenAll.same e h.2⟩
  | [], _ :: _, h => h.elim
  | _ :: _, [], h => h.elim
theorem DenAll.length {K : PySem.W.Frag} {C : Addr} {H : Hp} : ∀ {vs : List V} {ds : List D}, DenAll K C H vs ds → vs.length = ds.length
  | [], [], _ => rfl
  | _ :: _, _ :: _, h => congrArg (· + 1) (DenAll.length h.2)
  | [], _ :: _, h => h.elim
  | _ :: _, [], h => h.elim
theorem DenAll.get {K : PySem.W.Frag} {C : Addr} {H : Hp} : ∀ {vs : List V} {ds : List D} {i : Nat} {d : D}, DenAll K C H vs ds → ds[i]? = some d → ∃ v, vs[i]? = some v ∧ Den K C H v d
  | [], [], _, _, _, q => by simp at q
  | _ :: _, _ :: _, 0, d, h, q => by
    have e := Option.some.inj q
    subst e
    exact ⟨_, rfl, h.1⟩
  | _ :: _, _ :: _, i + 1, d, h, q => by
    obtain ⟨v, h1, h2⟩ := DenAll.get (i := i) (d := d) h.2 q
    exact ⟨v, h1, h2⟩
  | [], _ :: _, _, _, h, _ => h.elim
  | _ :: _, [], _, _, h, _ => h.elim
theorem DenAll.scs {K : PySem.W.Frag} {C : Addr} {H : Hp} : ∀ {vs : List V} {us : List V}, DenAll K C H vs (us.map D.sc) → vs = us
  | [], [], _ => rfl
  | _ :: _, _ :: _, h => by rw [show _ = _ from h.1, DenAll.scs h.2]
  | [], _ :: _, h => h.elim
  | _ :: _, [], h => h.elim
def EvA (X : Cx) (C : Addr) (g : Gm) (es : List Expr) (ds : List D) : Prop :=
  ∃ t, PA X es t ∧ ∀ σ H Q, Is X.K C H σ g → (∀ vs H', Same H H' → DenAll X.K C H' vs ds → Q vs H') → t σ H Q

theorem pe_no {X : Cx} {e : Expr} : PE X e (fun _ _ _ => False) := fun _ _ _ _ _ _ h => h.elim
theorem pw_no {X : Cx} {e : Expr} : PW X e (fun _ _ _ => False) := fun _ _ _ _ _ _ _ h => h.elim

section
variable {X : Cx} {C : Addr} {g : Gm} {a b c e : Expr} {es : List Expr} {pos p apos : Pos} {d : D}

theorem ev_var (i : Nat) {x : Str} (hN : X.N[i]? = some x := by rfl) (hg : g[i]? = some (some d) := by rfl)
    (hv : Vis X.env.scope x := by first | exact Or.inl rfl | exact Or.inr (Or.inl rfl) | exact Or.inr (Or.inr rfl)) (hd : (x == ("__debug__" : Str)) = false := by decide)
    (hcd : (x == ("__classdict__" : Str)) = false := by decide) : Ev X C g (.Name x pos) d :=
  ⟨tVar i, pe_var hN hv hd hcd, fun σ H Q I q => let ⟨v, h1, h2⟩ := I.at_ i d hg; ⟨v, h1, q v H (Same.refl H) h2⟩⟩
theorem ev_int {i : Int} {j} : Ev X C g (.Constant (.int i) j pos) (.int i) := ⟨_, pe_int, fun _ H _ _ q => q _ H (Same.refl H) rfl⟩
theorem ev_glob {x : Str} {i : Int} {t : Tok} (hm : X.mg x = some (.int i t)) (hg : Gl X x := by rfl) (hd : (x == ("__debug__" : Str)) = false := by decide) : Ev X C g (.Name x pos) (.int i) :=
  ⟨_, pe_glob (v := .int i) hg hm ⟨t, rfl⟩ hd, fun _ H _ _ q => q _ H (Same.refl H) rfl⟩

theorem tOp_of {r : R2} {ta tb : TE} {da db : D} (ha : ∀ σ H Q, Is X.K C H σ g → (∀ v H', Same H H' → Den X.K C H' v da → Q v H') → ta σ H Q)
    (hb : ∀ σ H Q, Is X.K C H σ g → (∀ v H', Same H H' → Den X.K C H' v db → Q v H') → tb σ H Q)
    (hr : ∀ x y H Q, Den X.K C H x da → Den X.K C H y db → (∀ v H', Same H H' → Den X.K C H' v d → Q v H') → r x y H Q) :
    ∀ σ H Q, Is X.K C H σ g → (∀ v H', Same H H' → Den X.K C H' v d → Q v H') → tOp r ta tb σ H Q := fun σ H Q I q =>
  ha σ H _ I fun x H1 s1 d1 => hb σ H1 _ (I.same s1) fun y H2 s2 d2 => hr x y H2 Q (d1.same s2) d2 fun v H' s3 d3 => q v H' ((s1.trans s2).trans s3) d3

theorem ev_bin {op : Operator} {Cc : Int → Int → Prop} {f : Int → Int → V} {i j : Int} (ho : OpR X (binaryOp op) (rI Cc f)) (ha : Ev X C g a (.int i)) (hb : Ev X C g b (.int j)) (hc : Cc i j) : Ev X C g (.BinOp a op b pos) (.sc (f i j)) := by
  obtain ⟨ta, pa, qa⟩ := ha
  obtain ⟨tb, pb, qb⟩ := hb
  exact ⟨_, pe_op ho pa pb, tOp_of qa qb fun x y H Q h1 h2 q => ⟨i, j, h1, h2, hc, q _ H (Same.refl H) rfl⟩⟩
theorem ev_bin0 {op : Operator} {f : Int → Int → V} {i j : Int} (ho : OpR X (binaryOp op) (rI0 f)) (ha : Ev X C g a (.int i)) (hb : Ev X C g b (.int j)) : Ev X C g (.BinOp a op b pos) (.sc (f i j)) := by
  obtain ⟨ta, pa, qa⟩ := ha
  obtain ⟨tb, pb, qb⟩ := hb
  exact ⟨_, pe_op ho pa pb, tOp_of qa qb fun x y H Q h1 h2 q => ⟨i, j, h1, h2, q _ H (Same.refl H) rfl⟩⟩
theorem op_mulB : OpR X (binaryOp .Mult) (rI IntMulOk fun i j => .int (i * j)) := opI fun _ _ _ _ _ _ _ hc q => mul_int q hc
def CFd (_ j : Int) : Prop := 0 < j ∧ j.natAbs.log2 < 9000
theorem op_fdivB : OpR X (binaryOp .FloorDiv) (rI CFd fun i j => .int (i / j)) := opI fun i j _ _ _ _ _ hc q => by
  have h1 : (0 : Int) < j := hc.1
  exact floordiv_int (by omega) (by rw [Int.fdiv_eq_ediv_of_nonneg i (by omega)]; exact q) (.inl (PyProof.noPylong_of_log2 hc.2))
def CSh (i j : Int) : Prop := 0 ≤ j ∧ (intBits i : Int) + j ≤ 2 ^ 27
theorem op_shlB : OpR X (binaryOp .LShift) (rI CSh fun i j => .int (i * 2 ^ j.toNat)) := opI fun _ _ _ _ _ _ _ hc q => lshift_int hc.1 hc.2 q

theorem ev_add {i j : Int} (ha : Ev X C g a (.int i)) (hb : Ev X C g b (.int j)) : Ev X C g (.BinOp a .Add b pos) (.int (i + j)) := ev_bin0 op_add ha hb
theorem ev_sub {i j : Int} (ha : Ev X C g a (.int i)) (hb : Ev X C g b (.int j)) : Ev X C g (.BinOp a .Sub b pos) (.int (i - j)) := ev_bin0 op_sub ha hb
theorem ev_mul {i j : Int} (ha : Ev X C g a (.int i)) (hb : Ev X C g b (.int j)) (hc : IntMulOk i j) : Ev X C g (.BinOp a .Mult b pos) (.int (i * j)) := ev_bin op_mulB ha hb hc
theorem ev_fdiv {i j : Int} (ha : Ev X C g a (.int i)) (hb : Ev X C g b (.int j)) (hc : CFd i j) : Ev X C g (.BinOp a .FloorDiv b pos) (.int (i / j)) := ev_bin op_fdivB ha hb hc
theorem ev_mod {i j : Int} (ha : Ev X C g a (.int i)) (hb : Ev X C g b (.int j)) (hc : 0 < j) : Ev X C g (.BinOp a .Mod b pos) (.int (i % j)) := ev_bin op_mod ha hb hc
theorem ev_shl {i j : Int} (ha : Ev X C g a (.int i)) (hb : Ev X C g b (.int j)) (hc : CSh i j) : Ev X C g (.BinOp a .LShift b pos) (.int (i * 2 ^ j.toNat)) := ev_bin op_shlB ha hb hc
theorem ev_shr {i j : Int} (ha : Ev X C g a (.int i)) (hb : Ev X C g b (.int j)) (hc : 0 ≤ j) : Ev X C g (.BinOp a .RShift b pos) (.int (i / 2 ^ j.toNat)) := ev_bin op_shr ha hb hc
theorem ev_xor {i j : Int} (ha : Ev X C g a (.int i)) (hb : Ev X C g b (.int j)) : Ev X C g (.BinOp a .BitXor b pos) (.int (Builtin.bitXor i j)) := ev_bin0 op_xor ha hb
theorem ev_neg {i : Int} (ha : Ev X C g a (.int i)) : Ev X C g (.UnaryOp .USub a pos) (.int (-i)) := by
  obtain ⟨ta, pa, qa⟩ := ha
  exact ⟨_, pe_un un_neg pa, fun σ H Q I q => qa σ H _ I fun x H1 s1 d1 => ⟨i, d1, q _ H1 s1 rfl⟩⟩

theorem ev_cmp {op : CmpOp} {f : Int → Int → V} {i j : Int} (ho : OpR X (compareOp op) (rI0 f)) (ha : Ev X C g a (.int i)) (hb : Ev X C g b (.int j)) (hm : behindInMarks op b = false) : Ev X C g (.Compare a [op] [b] pos) (.sc (f i j)) := by
  obtain ⟨ta, pa, qa⟩ := ha
  obtain ⟨tb, pb, qb⟩ := hb
  exact ⟨_, pe_cmpR ho pa pb hm, tOp_of qa qb fun x y H Q h1 h2 q => ⟨i, j, h1, h2, q _ H (Same.refl H) rfl⟩⟩
theorem et_of {t : TE} {k : Bool} (q : ∀ σ H Q, Is X.K C H σ g → (∀ v H', Same H H' → Den X.K C H' v (.bl k) → Q v H') → t σ H Q) :
    ∀ σ H Q, Is X.K C H σ g → (∀ H', Same H H' → Q k H') → tTest t σ H Q := fun σ H Q I h => q σ H _ I fun v H' s d => ⟨k, d, h H' s⟩
theorem et_cmp {op : CmpOp} {f : Int → Int → Bool} {i j : Int} (ho : OpR X (compareOp op) (rI0 fun i j => .bl (f i j))) (ha : Ev X C g a (.int i)) (hb : Ev X C g b (.int j)) (hm : behindInMarks op b = false) : EvT X C g (.Compare a [op] [b] pos) (f i j) := by
  obtain ⟨ta, pa, qa⟩ := ha
  obtain ⟨tb, pb, qb⟩ := hb
  exact ⟨_, pt_cmpR ho pa pb hm, et_of (tOp_of qa qb fun x y H Q h1 h2 q => ⟨i, j, h1, h2, q _ H (Same.refl H) rfl⟩)⟩
theorem ev_lt {i j : Int} (ha : Ev X C g a (.int i)) (hb : Ev X C g b (.int j)) : Ev X C g (.Compare a [.Lt] [b] pos) (.bl (decide (i < j))) := ev_cmp op_lt ha hb (nomark _)
theorem ev_gt {i j : Int} (ha : Ev X C g a (.int i)) (hb : Ev X C g b (.int j)) : Ev X C g (.Compare a [.Gt] [b] pos) (.bl (decide (j < i))) := ev_cmp op_gt ha hb (nomark _)
theorem ev_ge {i j : Int} (ha : Ev X C g a (.int i)) (hb : Ev X C g b (.int j)) : Ev X C g (.Compare a [.GtE] [b] pos) (.bl (decide (j ≤ i))) := ev_cmp op_ge ha hb (nomark _)
theorem et_gt {i j : Int} (ha : Ev X C g a (.int i)) (hb : Ev X C g b (.int j)) : EvT X C g (.Compare a [.Gt] [b] pos) (decide (j < i)) := et_cmp op_gt ha hb (nomark _)
theorem ev_eq {i j : Int} (ha : Ev X C g a (.int i)) (hb : Ev X C g b (.int j)) : Ev X C g (.Compare a [.Eq] [b] pos) (.bl (decide (i = j))) := by
  obtain ⟨ta, pa, qa⟩ := ha
  obtain ⟨tb, pb, qb⟩ := hb
  refine ⟨_, pe_cmpR op_eq pa pb (nomark _), tOp_of qa qb fun x y H Q h1 h2 q => ?_⟩
  have e1 : x = .int i := h1
  have e2 : y = .int j := h2
  subst e1 e2
  exact ⟨rfl, q _ H (Same.refl H) (by show V.bl _ = V.bl _; rw [dec_int, Bool.beq_eq_decide_eq])⟩
theorem et_eq {i j : Int} (ha : Ev X C g a (.int i)) (hb : Ev X C g b (.int j)) : EvT X C g (.Compare a [.Eq] [b] pos) (decide (i = j)) := by
  obtain ⟨ta, pa, qa⟩ := ha
  obtain ⟨tb, pb, qb⟩ := hb
  refine ⟨_, pt_cmpR op_eq pa pb (nomark _), et_of (tOp_of qa qb fun x y H Q h1 h2 q => ?_)⟩
  have e1 : x = .int i := h1
  have e2 : y = .int j := h2
  subst e1 e2
  exact ⟨rfl, q _ H (Same.refl H) (by show V.bl _ = V.bl _; rw [dec_int, Bool.beq_eq_decide_eq])⟩
theorem ev_neB {i j : Bool} (ha : Ev X C g a (.bl i)) (hb : Ev X C g b (.bl j)) : Ev X C g (.Compare a [.NotEq] [b] pos) (.bl (i != j)) := by
  obtain ⟨ta, pa, qa⟩ := ha
  obtain ⟨tb, pb, qb⟩ := hb
  refine ⟨_, pe_cmpR op_ne pa pb (nomark _), tOp_of qa qb fun x y H Q h1 h2 q => ?_⟩
  have e1 : x = .bl i := h1
  have e2 : y = .bl j := h2
  subst e1 e2
  exact ⟨rfl, q _ H (Same.refl H) (by show V.bl _ = V.bl _; rw [dec_bl]; rfl)⟩

theorem et_val {k : Bool} (h : Ev X C g e (.bl k)) (he : ∀ whole, isTrue e X.env whole = (do let v ← whole; standAt e.pos; holding [v] (truthy v)) := by intro _; rfl) : EvT X C g e k := by
  obtain ⟨t, p, q⟩ := h
  exact ⟨_, pt_val p he, et_of q⟩
theorem et_not {k : Bool} (h : EvT X C g e k) : EvT X C g (.UnaryOp .Not e pos) (!k) := by
  obtain ⟨t, p, q⟩ := h
  exact ⟨_, pt_not p, fun σ H Q I h => q σ H _ I fun H' s => h H' s⟩
theorem EvW.et {k : Bool} (h : EvW X C g e k) : EvT X C g e k := by
  obtain ⟨t, p, q⟩ := h
  exact ⟨t, p.pt, q⟩
theorem ew_or1 {k : Bool} (h : EvT X C g a k) : EvW X C g (.BoolOp .Or [a] pos) k := by
  obtain ⟨t, p, q⟩ := h
  exact ⟨t, pw_or1 p, q⟩
theorem ew_and1 {k : Bool} (h : EvT X C g a k) : EvW X C g (.BoolOp .And [a] pos) k := by
  obtain ⟨t, p, q⟩ := h
  exact ⟨t, pw_and1 p, q⟩
theorem ew_or {j k : Bool} (h : EvT X C g a j) (h2 : j = false → EvW X C g (.BoolOp .Or (b :: es) pos) k) : EvW X C g (.BoolOp .Or (a :: b :: es) pos) (j || k) := by
  obtain ⟨t, p, q⟩ := h
  cases j with
  | true => exact ⟨_, pw_or p pw_no, fun σ H Q I h => q σ H _ I fun H' s => (if_pos rfl).mpr (h H' s)⟩
  | false =>
    obtain ⟨u, p2, q2⟩ := h2 rfl
    exact ⟨_, pw_or p p2, fun σ H Q I h => q σ H _ I fun H' s => (if_neg (by decide)).mpr (q2 σ H' Q (I.same s) fun H'' s2 => h H'' (s.trans s2))⟩
theorem ew_and {j k : Bool} (h : EvT X C g a j) (h2 : j = true → EvW X C g (.BoolOp .And (b :: es) pos) k) : EvW X C g (.BoolOp .And (a :: b :: es) pos) (j && k) := by
  obtain ⟨t, p, q⟩ := h
  cases j with
  | false => exact ⟨_, pw_and p pw_no, fun σ H Q I h => q σ H _ I fun H' s => (if_neg (by decide)).mpr (h H' s)⟩
  | true =>
    obtain ⟨u, p2, q2⟩ := h2 rfl
    exact ⟨_, pw_and p p2, fun σ H Q I h => q σ H _ I fun H' s => (if_pos rfl).mpr (q2 σ H' Q (I.same s) fun H'' s2 => h H'' (s.trans s2))⟩
theorem et_or {j k : Bool} (h : EvT X C g a j) (h2 : j = false → EvT X C g b k) : EvT X C g (.BoolOp .Or [a, b] pos) (j || k) := (ew_or h fun z => ew_or1 (h2 z)).et
theorem et_and {j k : Bool} (h : EvT X C g a j) (h2 : j = true → EvT X C g b k) : EvT X C g (.BoolOp .And [a, b] pos) (j && k) := (ew_and h fun z => ew_and1 (h2 z)).et
theorem ev_and {j k : Bool} (h : Ev X C g a (.bl j)) (h2 : Ev X C g b (.bl k)) : Ev X C g (.BoolOp .And [a, b] pos) (.bl (j && k)) := by
  obtain ⟨t, p, q⟩ := h
  obtain ⟨u, p2, q2⟩ := h2
  refine ⟨_, pe_and p (pe_one p2), fun σ H Q I h => q σ H _ I fun v H' s d => ⟨j, d, ?_⟩⟩
  cases j with
  | true => exact (if_pos rfl).mpr (q2 σ H' Q (I.same s) fun v H'' s2 d2 => h v H'' (s.trans s2) d2)
  | false => exact (if_neg (by decide)).mpr (h _ H' s rfl)
theorem ev_ifx {k : Bool} (h : EvT X C g c k) (h1 : k = true → Ev X C g a d) (h2 : k = false → Ev X C g b d) : Ev X C g (.IfExp c a b pos) d := by
  obtain ⟨t, p, q⟩ := h
  cases k with
  | true =>
    obtain ⟨u, p2, q2⟩ := h1 rfl
    exact ⟨_, pe_ifExp p p2 pe_no, fun σ H Q I h => q σ H _ I fun H' s => (if_pos rfl).mpr (q2 σ H' Q (I.same s) fun v H'' s2 d2 => h v H'' (s.trans s2) d2)⟩
  | false =>
    obtain ⟨u, p2, q2⟩ := h2 rfl
    exact ⟨_, pe_ifExp p pe_no p2, fun σ H Q I h => q σ H _ I fun H' s => (if_neg (by decide)).mpr (q2 σ H' Q (I.same s) fun v H'' s2 d2 => h v H'' (s.trans s2) d2)⟩

theorem ev_fld {f : Fm} {n : Str} {i : Int} (h : Ev X C g e (.form f)) (cl : Cls X.K C) (na : NoAttr X.K C n) (hl : (fields f).lookup n = some (.int i)) (hb : attributeBase e n X.env (eval e X.env) = eval e X.env := by rfl) : Ev X C g (.Attribute e n pos) (.int i) := by
  obtain ⟨t, p, q⟩ := h
  refine ⟨_, pe_fld p hb, fun σ H Q I h => q σ H _ I fun v H' s d => ?_⟩
  obtain ⟨a, dx, e1, e2⟩ := d
  exact ⟨a, C, dx, _, _, e1, e2, cl, na, hl, h _ H' s rfl⟩
theorem ea_nil : EvA X C g [] [] := ⟨_, pa_nil, fun σ H Q I h => h [] H (Same.refl H) trivial⟩
theorem ea_cons {ds : List D} (h : Ev X C g e d) (h2 : EvA X C g es ds) (hs : starEach (e :: es) X.env = (false, eval e X.env) :: starEach es X.env := by rfl) : EvA X C g (e :: es) (d :: ds) := by
  obtain ⟨t, p, q⟩ := h
  obtain ⟨u, p2, q2⟩ := h2
  exact ⟨_, pa_cons p p2 hs, fun σ H Q I h => q σ H _ I fun v H' s d1 => q2 σ H' _ (I.same s) fun vs H'' s2 d2 => h (v :: vs) H'' (s.trans s2) ⟨d1.same s2, d2⟩⟩
theorem Ev.lst {xs : List V} (h : Ev X C g e (.own xs)) : Ev X C g e (.lst xs) := by
  obtain ⟨t, p, q⟩ := h
  exact ⟨t, p, fun σ H Q I k => q σ H Q I fun v H' s ⟨a, h1, h2⟩ => k v H' s ⟨a, h1, SqL.of h2⟩⟩
theorem ev_listO {xs : List V} (h : EvA X C g es (xs.map D.sc)) (hl : xs.length ≤ sizeLine) : Ev X C g (.List es pos) (.own xs) := by
  obtain ⟨t, p, q⟩ := h
  refine ⟨_, pe_lst p, fun σ H Q I h => q σ H _ I fun vs H' s d => ?_⟩
  have e := d.scs
  subst e
  refine ⟨hl, fun l hl' => ?_⟩
  refine h _ _ (fun b o z => ?_) ⟨l, rfl, upd_same⟩
  rw [upd_ne (ne_of_none (s _ _ z) hl')]
  exact s _ _ z
theorem ev_list {xs : List V} (h : EvA X C g es (xs.map D.sc)) (hl : xs.length ≤ sizeLine) : Ev X C g (.List es pos) (.lst xs) := (ev_listO h hl).lst
theorem ev_ix {xs : List V} {i : Int} {v : V} (ha : Ev X C g a (.lst xs)) (hb : Ev X C g b (.int i)) (hv : atI xs i = some v) (hs : PlainIx b := by exact fun _ _ => rfl) : Ev X C g (.Subscript a b pos) (.sc v) := by
  obtain ⟨ta, pa, qa⟩ := ha
  obtain ⟨tb, pb, qb⟩ := hb
  refine ⟨_, pe_ix ix_list pa pb hs, tOp_of qa qb fun x y H Q h1 h2 q => ?_⟩
  obtain ⟨l, e1, e2⟩ := h1
  exact ⟨l, xs, i, v, e1, h2, e2, hv, q _ H (Same.refl H) rfl⟩

theorem ev_builtin {x : Str} {id : String} {r : List V → Hp → VK → Prop} {xs : List V} (hc : CallR X (.builtin id) r) (hm : X.mg x = none) (hv : bootBuiltins x = some (.builtin id)) (ha : EvA X C g (e :: es) (xs.map D.sc))
    (hr : ∀ H Q, (∀ v, Den X.K C H v d → Q v H) → r xs H Q) (hg : Gl X x := by rfl) (hn : x ≠ "__name__" := by decide) (hdb : (x == ("__debug__" : Str)) = false := by decide)
    (he : starEach (e :: es) X.env = (false, eval e X.env) :: starEach es X.env := by rfl) (hpl : (backTo pos (starEach es X.env)).any (·.1) = false := by rfl) : Ev X C g (.Call (.Name x p) (e :: es) [] pos) d := by
  obtain ⟨t, pa, q⟩ := ha
  refine ⟨_, pe_callB hc hg hm hv pa hn hdb he hpl, fun σ H Q I h => q σ H _ I fun vs H' s d1 => ?_⟩
  have e1 := d1.scs
  subst e1
  exact hr H' Q fun v dv => h v H' s dv
theorem ev_abs {i : Int} (h : Ev X C g e (.int i)) (hm : X.mg "abs" = none) (hg : Gl X "abs" := by rfl)
    (he : starEach [e] X.env = (false, eval e X.env) :: starEach [] X.env := by rfl) : Ev X C g (.Call (.Name "abs" p) [e] [] pos) (.int (if i < 0 then -i else i)) :=
  ev_builtin (xs := [.int i]) call_abs hm (by decide +kernel) (ea_cons h ea_nil he) (fun H Q q => ⟨i, rfl, q _ rfl⟩) hg (by decide) (by decide) he rfl
theorem ev_max {i j : Int} (hc : X.calm = true) (h : Ev X C g a (.int i)) (h2 : Ev X C g b (.int j)) (hm : X.mg "max" = none) (hg : Gl X "max" := by rfl)
    (he : starEach [a, b] X.env = (false, eval a X.env) :: starEach [b] X.env := by rfl) (he2 : starEach [b] X.env = (false, eval b X.env) :: starEach [] X.env := by rfl) : Ev X C g (.Call (.Name "max" p) [a, b] [] pos) (.int (if j > i then j else i)) :=
  ev_builtin (xs := [.int i, .int j]) (call_max2 hc) hm (by decide +kernel) (ea_cons h (ea_cons h2 ea_nil he2) he) (fun H Q q => ⟨i, j, rfl, q _ rfl⟩) hg (by decide) (by decide) he (by rw [he2]; rfl)
theorem ev_min {i j : Int} (hc : X.calm = true) (h : Ev X C g a (.int i)) (h2 : Ev X C g b (.int j)) (hm : X.mg "min" = none) (hg : Gl X "min" := by rfl)
    (he : starEach [a, b] X.env = (false, eval a X.env) :: starEach [b] X.env := by rfl) (he2 : starEach [b] X.env = (false, eval b X.env) :: starEach [] X.env := by rfl) : Ev X C g (.Call (.Name "min" p) [a, b] [] pos) (.int (if j < i then j else i)) :=
  ev_builtin (xs := [.int i, .int j]) (call_min2 hc) hm (by decide +kernel) (ea_cons h (ea_cons h2 ea_nil he2) he) (fun H Q q => ⟨i, j, rfl, q _ rfl⟩) hg (by decide) (by decide) he (by rw [he2]; rfl)
theorem mt_bits : MtR X "int.bit_length" (fun x xs H Q => ∃ i, x = .int i ∧ xs = [] ∧ Q (.int (intBits i)) H) := by
  intro pins s σ H x xs v us Q I rx rs h
  obtain ⟨i, rfl, rfl, q⟩ := h
  obtain ⟨t, rfl⟩ := rx
  cases rs
  exact PyProof.Rows.call_int_bit_length ⟨.int (intBits i), H, I.tok _, ⟨_, rfl⟩, q⟩
theorem ev_bits {i : Int} (h : Ev X C g e (.int i)) (hbase : attributeBase e "bit_length" X.env (eval e X.env) = eval e X.env := by rfl) (hline : (apos.endLine == pos.line) = true := by rfl) :
    Ev X C g (.Call (.Attribute e "bit_length" apos) [] [] pos) (.int (intBits i)) := by
  obtain ⟨t, p, q⟩ := h
  refine ⟨_, pe_bm0 PySem.F.plainAttrs_int PySem.F.slot_int_bit_length PySem.F.type_int_bit_length mt_bits p hbase hline, fun σ H Q I h => q σ H _ I fun v H' s d => ⟨?_, i, d, rfl, h _ H' s rfl⟩⟩
  have e1 : v = .int i := d
  subst e1
  exact rfl
end

def spR (K : PySem.W.Frag) (C : Addr) (R : List D → D → Prop) : Sp := fun vs H Q _ => ∃ ds d, DenAll K C H vs ds ∧ R ds d ∧ ∀ v H', Same H H' → Den K C H' v d → Q v H'
section
variable {X : Cx} {C : Addr} {g : Gm} {e o : Expr} {es : List Expr} {pos p apos : Pos} {d : D} {k : Nat} {f : Addr} {fd : FuncData} {ps : List Str} {R : List D → D → Prop} {x m : Str} {ds : List D}
theorem ev_call (F : FnOk X.prog X.w X.K X.mg X.base CX0 k f fd ps (spR X.K C R)) (hr : Room k X.A) (hm : X.mg x = some (.ref f)) (hk : PySem.W.keepIn X.K (.ref f) = true) (hb : Binds X.K fd ps []) (ha : EvA X C g (e :: es) ds) (hR : R ds d)
    (hg : Gl X x := by rfl) (hdb : (x == ("__debug__" : Str)) = false := by decide) (he : starEach (e :: es) X.env = (false, eval e X.env) :: starEach es X.env := by rfl) (hpl : (backTo pos (starEach es X.env)).any (·.1) = false := by rfl) :
    Ev X C g (.Call (.Name x p) (e :: es) [] pos) d := by
  obtain ⟨t, pa, q⟩ := ha
  refine ⟨_, pe_call F hr hg hm hk hb (dvs := []) .nil pass0 pa hdb he hpl, fun σ H Q I h => q σ H _ I fun vs H' s d1 => ?_⟩
  rw [List.append_nil]
  exact ⟨ds, d, d1, hR, fun v H'' s2 d2 => h v H'' (s.trans s2) d2⟩
theorem ev_call0 (F : FnOk X.prog X.w X.K X.mg X.base CX0 k f fd ps (spR X.K C R)) (hr : Room k X.A) (hm : X.mg x = some (.ref f)) (hk : PySem.W.keepIn X.K (.ref f) = true) (hb : Binds X.K fd ps []) (hR : R [] d)
    (hg : Gl X x := by rfl) (hdb : (x == ("__debug__" : Str)) = false := by decide) : Ev X C g (.Call (.Name x p) [] [] pos) d :=
  ⟨_, pe_call0 F hr hg hm hk hb (dvs := []) .nil pass0 hdb, fun σ H Q I h => ⟨[], d, trivial, hR, fun v H'' s2 d2 => h v H'' s2 d2⟩⟩
theorem ev_meth {pl : Sem Bool} {fm : Fm} (ho : Ev X C g o (.form fm)) (c : Cls X.K C) (hm : Meth X.K C m f) (F : FnOk X.prog X.w X.K X.mg X.base CX0 k f fd ps (spR X.K C R)) (hr : Room k X.A) (hb : Binds X.K fd ps []) (hno : (fields fm).lookup m = none) (ha : EvA X C g (e :: es) ds) (hR : R (.form fm :: ds) d)
    (hst : starEach (e :: es) X.env = (false, eval e X.env) :: starEach es X.env := by rfl) (hpl : (backTo pos (starEach es X.env)).any (·.1) = false := by rfl)
    (ht : eval (.Call (.Attribute o m apos) (e :: es) [] pos) X.env = (do
      let ov ← eval o X.env
      standAt apos.atName
      let (f, first) ← holding [ov] (getMethod ov m pl)
      callWith pos f first (backTo pos (starEach (e :: es) X.env)) (backToKw pos (keywordEach [] X.env))) := by rfl) :
    Ev X C g (.Call (.Attribute o m apos) (e :: es) [] pos) d := by
  obtain ⟨t, pa, q⟩ := ha
  obtain ⟨to, po, qo⟩ := ho
  refine ⟨_, pe_meth po c hm F hr hb (dvs := []) .nil pass0 pa hst hpl ht, fun σ H Q I h => qo σ H _ I fun v H1 s1 d1 => ?_⟩
  obtain ⟨a, dx, e1, e2⟩ := d1
  refine ⟨a, dx, _, e1, e2, hno, q σ H1 _ (I.same s1) fun vs H2 s2 d2 => ?_⟩
  rw [List.append_nil]
  exact ⟨.form fm :: ds, d, ⟨⟨a, dx, e1, s2 _ _ e2⟩, d2⟩, hR, fun v' H'' s3 d3 => h v' H'' ((s1.trans s2).trans s3) d3⟩
end

def Rt (X : Cx) (C : Addr) (g : Gm) (ss : List Stmt) (d : D) : Prop :=
  ∃ t, PSs X ss t ∧ ∀ (E : Ends) σ H, Is X.K C H σ g → (∀ v H', Same H H' → Den X.K C H' v d → E.rt v H') → t E σ H
def Nx (X : Cx) (C : Addr) (g : Gm) (s : Stmt) (g' : Gm) : Prop :=
  ∃ t, PS X s t ∧ ∀ (E : Ends) σ H, Is X.K C H σ g → (∀ σ' H', Same H H' → Is X.K C H' σ' g' → E.nx σ' H') → t E σ H
def Nxs (X : Cx) (C : Addr) (g : Gm) (ss : List Stmt) (g' : Gm) : Prop :=
  ∃ t, PSs X ss t ∧ ∀ (E : Ends) σ H, Is X.K C H σ g → (∀ σ' H', Same H H' → Is X.K C H' σ' g' → E.nx σ' H') → t E σ H
section
variable {X : Cx} {C : Addr} {g g' g2 : Gm} {e c : Expr} {s : Stmt} {ss a b : List Stmt} {pos pos' : Pos} {d : D}
theorem rt_ret (h : Ev X C g e d) : Rt X C g [.Return (some e) pos] d := by
  obtain ⟨t, p, q⟩ := h
  exact ⟨_, pss_one (ps_ret p), fun E σ H I k => q σ H _ I k⟩
theorem rt_cons (h : Nx X C g s g') (h2 : Rt X C g' ss d) : Rt X C g (s :: ss) d := by
  obtain ⟨t, p, q⟩ := h
  obtain ⟨u, p2, q2⟩ := h2
  exact ⟨_, pss_cons p p2, fun E σ H I k => q _ σ H I fun σ' H' s1 I1 => q2 E σ' H' I1 fun v H'' s2 d2 => k v H'' (s1.trans s2) d2⟩
theorem rt_ifT (h : EvT X C g c true) (h2 : Rt X C g a d) : Rt X C g (.If c a b pos :: ss) d := by
  obtain ⟨t, p, q⟩ := h
  obtain ⟨u, p2, q2⟩ := h2
  exact ⟨_, pss_cons (ps_if p p2 pss_never) pss_never, fun E σ H I k => q σ H _ I fun H' s1 => (if_pos rfl).mpr (q2 _ σ H' (I.same s1) fun v H'' s2 d2 => k v H'' (s1.trans s2) d2)⟩
theorem rt_ifF (h : EvT X C g c false) (h2 : Rt X C g ss d) : Rt X C g (.If c a [] pos :: ss) d := by
  obtain ⟨t, p, q⟩ := h
  obtain ⟨u, p2, q2⟩ := h2
  exact ⟨_, pss_cons (ps_if p pss_never pss_nil) p2, fun E σ H I k => q σ H _ I fun H' s1 => (if_neg (by decide)).mpr (q2 E σ H' (I.same s1) fun v H'' s2 d2 => k v H'' (s1.trans s2) d2)⟩
theorem rt_if {k : Bool} (h : EvT X C g c k) (h1 : k = true → Rt X C g a d) (h2 : k = false → Rt X C g ss d) : Rt X C g (.If c a [] pos :: ss) d := by
  cases k with
  | true => exact rt_ifT h (h1 rfl)
  | false => exact rt_ifF h (h2 rfl)
theorem nx_set (i : Nat) {x : Str} (h : Ev X C g e d) (hN : X.N.Nodup) (hi : X.N[i]? = some x := by rfl) (hx : Loc X.env.scope x := by first | exact Or.inl rfl | exact Or.inr rfl)
    (hs : swapsWith e (some (.Name x pos')) pos.line X.env = pure false := by rfl) (hf : X.fn x = true ∨ X.env.scope.names.lookup x = some .local := by first | exact .inl rfl | exact .inr rfl) :
    Nx X C g (.Assign [.Name x pos'] e pos) (g.set i (some d)) := by
  obtain ⟨t, p, q⟩ := h
  exact ⟨_, ps_set (i := i) hN hi hx p hs hf, fun E σ H I k => q σ H _ I fun v H' s1 d1 => k _ H' s1 ((I.same s1).set i d1)⟩
theorem nxs_one (h : Nx X C g s g') : Nxs X C g [s] g' := by
  obtain ⟨t, p, q⟩ := h
  exact ⟨_, pss_one p, q⟩
theorem nxs_cons (h : Nx X C g s g') (h2 : Nxs X C g' ss g2) : Nxs X C g (s :: ss) g2 := by
  obtain ⟨t, p, q⟩ := h
  obtain ⟨u, p2, q2⟩ := h2
  exact ⟨_, pss_cons p p2, fun E σ H I k => q _ σ H I fun σ' H' s1 I1 => q2 E σ' H' I1 fun v H'' s2 d2 => k v H'' (s1.trans s2) d2⟩
theorem nx_if {k : Bool} (h : EvT X C g c k) (h1 : k = true → Nxs X C g a g') (h2 : k = false → g' = g) : Nx X C g (.If c a [] pos) g' := by
  obtain ⟨t, p, q⟩ := h
  cases k with
  | true =>
    obtain ⟨u, p2, q2⟩ := h1 rfl
    exact ⟨_, ps_if p p2 pss_nil, fun E σ H I k => q σ H _ I fun H' s1 => (if_pos rfl).mpr (q2 E σ H' (I.same s1) fun σ' H'' s2 I2 => k σ' H'' (s1.trans s2) I2)⟩
  | false =>
    have e1 := h2 rfl
    subst e1
    exact ⟨_, ps_if p pss_never pss_nil, fun E σ H I k => q σ H _ I fun H' s1 => (if_neg (by decide)).mpr (k σ H' s1 (I.same s1))⟩
theorem nx_inc (i : Nat) {x : Str} {m j : Int} (h : Ev X C g e (.int j)) (hg : g[i]? = some (some (.int m))) (hN : X.N.Nodup) (hi : X.N[i]? = some x := by rfl) (hx : Loc X.env.scope x := by first | exact Or.inl rfl | exact Or.inr rfl)
    (hf : X.fn x = true ∨ X.env.scope.names.lookup x = some .local := by first | exact .inl rfl | exact .inr rfl) :
    Nx X C g (.AugAssign (.Name x pos') .Add e pos) (g.set i (some (.int (m + j)))) := by
  obtain ⟨t, p, q⟩ := h
  refine ⟨_, ps_aug (i := i) hN hi hx p iop_add hf, fun E σ H I k => ?_⟩
  obtain ⟨v, e1, e2⟩ := I.at_ i _ hg
  refine ⟨v, e1, q σ H _ I fun y H' s1 d1 => ⟨m, j, e2, d1, ?_⟩⟩
  exact k _ H' s1 ((I.same s1).set i rfl)
end

def startD (N : List Str) (ds : List D) : Gm := ds.map some ++ List.replicate (N.length - ds.length) none
theorem is_start {K : PySem.W.Frag} {C : Addr} {H : Hp} {N : List Str} {vs : List V} {ds : List D} (h : DenAll K C H vs ds) : Is K C H (L2.start N vs) (startD N ds) := by
  have hl := h.length
  refine ⟨by unfold L2.start startD; rw [List.length_append, List.length_append, List.length_map, List.length_map, List.length_replicate, List.length_replicate, hl], fun i d q => ?_⟩
  unfold startD at q
  by_cases hi : i < ds.length
  · rw [List.getElem?_append_left (by simpa using hi), List.getElem?_map] at q
    cases e : ds[i]? with
    | none => rw [e] at q; cases q
    | some d' =>
      rw [e] at q
      have e2 : d' = d := Option.some.inj (Option.some.inj q)
      subst e2
      obtain ⟨v, h1, h2⟩ := h.get e
      refine ⟨v, ?_, h2⟩
      unfold L2.start
      rw [List.getElem?_append_left (by rw [List.length_map]; omega), List.getElem?_map, h1]
      rfl
  · rw [List.getElem?_append_right (by simpa using hi), List.getElem?_replicate] at q
    split at q <;> cases q
section
variable {P : Program} {w : World} {K : PySem.W.Frag} {mg : Str → Option Value} {base : Heap}
theorem ok_def {x qual : Str} {st : Stmt} {f C : Addr} {fd : FuncData} {N ps : List Str} {k : Nat} {R : List D → D → Prop} (F : Fun K x qual st f fd) (S : FnScope N ps (defScope st)) (hlen : ∀ ds d, R ds d → ds.length = ps.length)
    (hbody : ∀ X : Cx, X.prog = P → X.w = w → X.K = K → X.mg = mg → X.base = base → X.N = N → X.calm = true → X.env.scope = defScope st → X.fn = (fun _ => true) → Room k X.A →
      ∀ ds d, R ds d → Rt X C (startD N ds) (defBody st) d) : FnOk P w K mg base CX0 (k + 1) f fd ps (spR K C R) := by
  refine F.ok S (fun vs H Q E ⟨ds, d, h1, h2, _⟩ => h1.length.trans (hlen ds d h2)) fun cdv A outer s H vs Q E hr ⟨ds, d, h1, h2, h3⟩ => ?_
  obtain ⟨t, p, q⟩ := hbody (cxOf CX0 P w K mg base N qual (defScope st) f cdv A outer s H E).nox rfl rfl rfl rfl rfl rfl rfl rfl rfl hr ds d h2
  exact ⟨t, p, q _ (L2.start N vs) H (is_start h1) h3⟩
theorem ok_defX {x qual : Str} {st : Stmt} {f C : Addr} {fd : FuncData} {N ps : List Str} {k : Nat} {R : List D → D → Prop} (F : Fun K x qual st f fd) (S : FnScope N ps (defScope st)) (hlen : ∀ ds d, R ds d → ds.length = ps.length)
    (hbody : ∀ (cdv : Value) (A : Around) (outer : List Env) (s : Shared) (H : Hp) (E : XK), Room k (A.deeper (envOfC qual (defScope st) s.heap.objs.size f cdv)) →
      ∀ ds d, R ds d → Rt (cxOf CX0 P w K mg base N qual (defScope st) f cdv A outer s H E).nox C (startD N ds) (defBody st) d) : FnOk P w K mg base CX0 (k + 1) f fd ps (spR K C R) := by
  refine F.ok S (fun vs H Q E ⟨ds, d, h1, h2, _⟩ => h1.length.trans (hlen ds d h2)) fun cdv A outer s H vs Q E hr ⟨ds, d, h1, h2, h3⟩ => ?_
  obtain ⟨t, p, q⟩ := hbody cdv A outer s H E hr ds d h2
  exact ⟨t, p, q _ (L2.start N vs) H (is_start h1) h3⟩
end
end Cs
end
section
set_option Elab.async false
set_option linter.all false
set_option maxRecDepth 100000
namespace Cs
open PySem PySem.Spec PyProof.Rows L2
theorem ev_lcO {X : Cx} {C : Addr} {g : Gm} {elt iter : Expr} {x : Str} {scope : Scope} {v : Nat} {pos tpos : Pos} {xs : List V} {f : V → V} (hc : X.calm = true) (hN : X.N.Nodup) (ok : BlkOk X.N X.env.scope scope [(x, v)])
    (hi : Ev X C g iter (.lst xs)) (hz : xs.length ≤ 100000)
    (hx : ∀ (s : Shared) (H : Hp) (Cc : Addr) (cl : List (Str × Addr)) (fp : List Addr), PG (X.blk s H scope (compEnvC scope cl Cc X.env) fp) (.Name x tpos) (gName v))
    (he : ∀ (s : Shared) (H : Hp) (Cc : Addr) (cl : List (Str × Addr)) (fp : List Addr) (u : V), u ∈ xs → Ev (X.blk s H scope (compEnvC scope cl Cc X.env) fp) C (g.set v (some (.sc u))) elt (.sc (f u)))
    (hs : ∀ x, foldedSetIterable iter X.env x = pure x := by intro _; rfl) : Ev X C g (.ListComp elt [⟨.Name x tpos, iter, [], 0⟩] scope pos) (.own (xs.map f)) := by
  obtain ⟨t, p, q⟩ := hi
  obtain ⟨te, pe, qe⟩ : ∃ te : TE, (∀ (s : Shared) (H : Hp) (Cc : Addr) (cl : List (Str × Addr)) (fp : List Addr), PE (X.blk s H scope (compEnvC scope cl Cc X.env) fp) elt te) ∧
      ∀ u, u ∈ xs → ∀ σ H Q, Is X.K C H σ (g.set v (some (.sc u))) → (∀ y H', Same H H' → Den X.K C H' y (.sc (f u)) → Q y H') → te σ H Q :=
    ⟨fun σ H Q => ∃ u, ∃ hu : u ∈ xs, ∀ s H0 Cc cl fp, (he s H0 Cc cl fp u hu).choose σ H Q,
      fun s H0 Cc cl fp pins s' σ H Q I ⟨u, hu, h⟩ => (he s H0 Cc cl fp u hu).choose_spec.1 pins s' σ H Q I (h s H0 Cc cl fp),
      fun u hu σ H Q I k => ⟨u, hu, fun s H0 Cc cl fp => (he s H0 Cc cl fp u hu).choose_spec.2 σ H Q I k⟩⟩
  refine ⟨_, pe_lc hc hN (pi_list p) ok hx (fun _ _ _ _ _ => pts_nil) pe hs, fun σ H Q I k => q σ H _ I fun y H1 s1 d1 => ?_⟩
  obtain ⟨a, e1, e2⟩ := d1
  refine ⟨a, e1, ⟨xs, e2⟩, fun D hD => ?_⟩
  refine ⟨fun i m H' => m = xs.length - i ∧ i ≤ xs.length ∧ Same H1 H' ∧ H' D = some (.lst ((xs.take i).map f)), ⟨xs.length, by simp, Nat.zero_le _, fun b o z => by rw [upd_ne (ne_of_none z hD)]; exact z, upd_same⟩, ?_⟩
  rintro i m H2 ⟨rfl, hi, s2, h2⟩
  have sq := s2.seq e2
  by_cases hlt : i < xs.length
  · refine .inr ⟨⟨xs, xs[i], sq, by simp [hlt]⟩, fun H' => Same H1 H' ∧ H' D = some (.lst ((xs.take (i + 1)).map f)), fun H' ⟨z1, z2⟩ => ⟨xs.length - (i + 1), by omega, rfl, hlt, z1, z2⟩, fun u H' y => ?_⟩
    obtain ⟨e, y⟩ := y
    subst e
    have hu : xs[i]? = some u := y xs sq
    have hm : u ∈ xs := List.mem_of_getElem? hu
    show (wipe ((wipe σ [v]).set v (some u)) [v] = wipe σ [v]) ∧ _
    refine ⟨?_, ?_⟩
    · show (((σ.set v none).set v (some u)).set v none) = σ.set v none
      rw [List.set_set, List.set_set]
    · unfold tYes; dsimp only
      rw [if_pos rfl]
      have I2 : Is X.K C H' ((σ.set v none).set v (some u)) (g.set v (some (.sc u))) := (I.same (s1.trans s2)).unset v rfl
      refine qe u hm _ _ _ I2 fun yv H4 s4 d4 => ?_
      refine ⟨_, s4 _ _ h2, ?_, ?_, ?_⟩
      · rw [List.length_map, List.length_take, PySem.sizeLine_eq]; omega
      · intro b o z
        rw [upd_ne (ne_of_none z hD)]
        exact s4 _ _ (s2 _ _ z)
      · rw [upd_same]
        have e3 : yv = f u := d4
        have e4 : xs.take (i + 1) = xs.take i ++ [u] := by rw [List.take_add_one, hu]; rfl
        rw [e3, e4, List.map_append]
        rfl
  · have e : i = xs.length := by omega
    subst e
    refine .inl ⟨⟨xs, sq, Nat.le_refl _⟩, ?_⟩
    rw [List.take_length] at h2
    exact k _ _ (s1.trans s2) ⟨D, rfl, h2⟩
theorem ev_lc {X : Cx} {C : Addr} {g : Gm} {elt iter : Expr} {x : Str} {scope : Scope} {v : Nat} {pos tpos : Pos} {xs : List V} {f : V → V} (hc : X.calm = true) (hN : X.N.Nodup) (ok : BlkOk X.N X.env.scope scope [(x, v)])
    (hi : Ev X C g iter (.lst xs)) (hz : xs.length ≤ 100000)
    (hx : ∀ (s : Shared) (H : Hp) (Cc : Addr) (cl : List (Str × Addr)) (fp : List Addr), PG (X.blk s H scope (compEnvC scope cl Cc X.env) fp) (.Name x tpos) (gName v))
    (he : ∀ (s : Shared) (H : Hp) (Cc : Addr) (cl : List (Str × Addr)) (fp : List Addr) (u : V), u ∈ xs → Ev (X.blk s H scope (compEnvC scope cl Cc X.env) fp) C (g.set v (some (.sc u))) elt (.sc (f u)))
    (hs : ∀ x, foldedSetIterable iter X.env x = pure x := by intro _; rfl) : Ev X C g (.ListComp elt [⟨.Name x tpos, iter, [], 0⟩] scope pos) (.lst (xs.map f)) := (ev_lcO hc hN ok hi hz hx he hs).lst
end Cs
end
section
set_option Elab.async false
set_option linter.all false
set_option maxRecDepth 100000
namespace Cs
open PySem PySem.Spec PyProof.Rows L2
open Builtin.Int (intBits)

def sF : Fm := ⟨23, 8388608, 2147483648, 2139095040, 2147483647, 1065353216, ((2 ^ 149 : Nat) : Int)⟩
def dF : Fm := ⟨52, 4503599627370496, 9223372036854775808, 9218868437227405312, 9223372036854775807, 4607182418800017408, ((2 ^ 1074 : Nat) : Int)⟩
def Fm.Ok (f : Fm) : Prop := f = sF ∨ f = dF
theorem okS : sF.Ok := .inl rfl
theorem fl_fb (f : Fm) : (fields f).lookup ("fraction_bits" : Str) = some (V.int f.fb) := rfl
theorem fl_lead (f : Fm) : (fields f).lookup ("leading_bit" : Str) = some (V.int f.lead) := rfl
theorem fl_sb (f : Fm) : (fields f).lookup ("sign_bit" : Str) = some (V.int f.sb) := rfl
theorem fl_inf (f : Fm) : (fields f).lookup ("infinity" : Str) = some (V.int f.inf) := rfl
theorem fl_nan (f : Fm) : (fields f).lookup ("some_no_number" : Str) = some (V.int f.nan) := rfl
theorem fl_one (f : Fm) : (fields f).lookup ("one" : Str) = some (V.int f.one) := rfl
theorem fl_uo (f : Fm) : (fields f).lookup ("units_of_one" : Str) = some (V.int f.uo) := rfl

theorem Fm.Ok.sb {f : Fm} (h : f.Ok) : 0 < f.sb := by rcases h with h | h <;> (subst h; decide)
theorem Fm.Ok.lead {f : Fm} (h : f.Ok) : 0 < f.lead := by rcases h with h | h <;> (subst h; decide)
theorem Fm.Ok.fb {f : Fm} (h : f.Ok) : 0 ≤ f.fb ∧ f.fb ≤ 52 := by rcases h with h | h <;> (subst h; decide)

def magI (f : Fm) (x : Int) : Int := x % f.sb
def negB (f : Fm) (x : Int) : Bool := decide (f.sb ≤ x)
def nanB (f : Fm) (x : Int) : Bool := decide (f.inf < magI f x)
def infB (f : Fm) (x : Int) : Bool := decide (magI f x = f.inf)
def zeroB (f : Fm) (x : Int) : Bool := decide (magI f x = 0)
def oppI (f : Fm) (x : Int) : Int := Builtin.bitXor x f.sb
def signI (f : Fm) (m : Int) (n : Bool) : Int := if n = true then m + f.sb else m
def absI (i : Int) : Int := if i < 0 then -i else i
def R_magnitude (ds : List D) (d : D) : Prop := ∃ f x, f.Ok ∧ ds = [.form f, .int x] ∧ d = .int (magI f x)
def R_is_negative (ds : List D) (d : D) : Prop := ∃ f x, f.Ok ∧ ds = [.form f, .int x] ∧ d = .bl (negB f x)
def R_is_no_number (ds : List D) (d : D) : Prop := ∃ f x, f.Ok ∧ ds = [.form f, .int x] ∧ d = .bl (nanB f x)
def R_is_infinite (ds : List D) (d : D) : Prop := ∃ f x, f.Ok ∧ ds = [.form f, .int x] ∧ d = .bl (infB f x)
def R_is_zero (ds : List D) (d : D) : Prop := ∃ f x, f.Ok ∧ ds = [.form f, .int x] ∧ d = .bl (zeroB f x)
def R_opposite (ds : List D) (d : D) : Prop := ∃ f x, f.Ok ∧ ds = [.form f, .int x] ∧ d = .int (oppI f x)
def R_signed (ds : List D) (d : D) : Prop := ∃ f m n, f.Ok ∧ ds = [.form f, .int m, .bl n] ∧ d = .int (signI f m n)
def R_single_form (ds : List D) (d : D) : Prop := ds = [] ∧ d = .form sF
def ansI (f : Fm) (x : Int) : Int := if nanB f x = true then 4294967296 else x
def vInts (l : List Int) : List V := l.map V.int
def R_answered (ds : List D) (d : D) : Prop := ∃ f, ∃ l : List Int, f.Ok ∧ l.length ≤ 1000 ∧ ds = [.form f, .lst (vInts l)] ∧ d = .own (vInts (l.map (ansI f)))
def spInit (C : Addr) : Sp := fun vs H Q _ => ∃ (p dx : Addr) (f : Fm), (f = sF ∧ vs = [.ref p, .int 8, .int 23] ∨ f = dF ∧ vs = [.ref p, .int 11, .int 52]) ∧ H p = some (.ins C dx []) ∧
  ∀ H' : Hp, H' p = some (.ins C dx (fields f)) → (∀ b o, H b = some o → b ≠ p → H' b = some o) → Q .non H'

theorem ev_make {X : Cx} {C : Addr} {g : Gm} {f : Addr} {fd : FuncData} {ps : List Str} {k : Nat} {x : Str} {p pos : Pos} {e : Expr} {es : List Expr} {fm : Fm} {i j : Int} (M : Mk X.K C f) (F : FnOk X.prog X.w X.K X.mg X.base CX0 k f fd ps (spInit C)) (hr : Room (k + 1) X.A) (hm : X.mg x = some (.ref C)) (hb : Binds X.K fd ps [])
    (ha : EvA X C g (e :: es) [.int i, .int j]) (hf : fm = sF ∧ i = 8 ∧ j = 23 ∨ fm = dF ∧ i = 11 ∧ j = 52) (hg : Gl X x := by rfl) (hdb : (x == ("__debug__" : Str)) = false := by decide)
    (he : starEach (e :: es) X.env = (false, eval e X.env) :: starEach es X.env := by rfl) (hpl : (backTo pos (starEach es X.env)).any (·.1) = false := by rfl) : Ev X C g (.Call (.Name x p) (e :: es) [] pos) (.form fm) := by
  obtain ⟨t, pa, q⟩ := ha
  refine ⟨_, pe_make M F hr hg hm hb (dvs := []) .nil pass0 pa hdb he hpl, fun σ H Q I h => q σ H _ I fun vs H' s d1 => ?_⟩
  have e1 : vs = [.int i, .int j] := d1.scs (us := [.int i, .int j])
  subst e1
  intro z dz n1 n2 n3
  refine ⟨z, dz, fm, ?_, upd_same, fun H2 h1 h2 => ⟨rfl, ?_⟩⟩
  · rcases hf with ⟨a1, a2, a3⟩ | ⟨a1, a2, a3⟩
    · exact .inl ⟨a1, by rw [a2, a3]; rfl⟩
    · exact .inr ⟨a1, by rw [a2, a3]; rfl⟩
  · exact h _ _ (s.trans (Same.made n1 n2 h2)) ⟨z, dz, rfl, h1⟩
end Cs
end
section
set_option Elab.async false
set_option linter.all false
set_option maxRecDepth 100000
namespace Cs
open PySem PySem.Spec PyProof.Rows L2
open Builtin.Int (intBits)
theorem vInts_len (l : List Int) : (vInts l).length = l.length := by unfold vInts; rw [List.length_map]
theorem vInts_mem {l : List Int} {u : V} (h : u ∈ vInts l) : ∃ z, u = .int z := by
  obtain ⟨z, _, e⟩ := List.mem_map.mp h
  exact ⟨z, e.symm⟩
theorem vInts_map {l : List Int} {f : Int → Int} (F : V → V) (h : ∀ z, F (.int z) = .int (f z)) : (vInts l).map F = vInts (l.map f) := by
  unfold vInts
  rw [List.map_map, List.map_map]
  refine List.map_congr_left fun z _ => ?_
  exact h z
def ansV (f : Fm) : V → V
  | .int z => .int (ansI f z)
  | v => v
theorem ansV_yes {f : Fm} {z : Int} (h : nanB f z = true) : ansV f (.int z) = .int 4294967296 := by
  show V.int (ansI f z) = _
  unfold ansI
  rw [if_pos h]
theorem ansV_no {f : Fm} {z : Int} (h : nanB f z = false) : ansV f (.int z) = .int z := by
  show V.int (ansI f z) = _
  unfold ansI
  rw [if_neg (by rw [h]; decide)]

theorem pow2i (n : Nat) : (2 : Int) ^ n = ((2 ^ n : Nat) : Int) := by rw [Int.natCast_pow]; rfl
structure InitOk (f : Fm) (x y : Int) : Prop where
  e1 : y = f.fb
  e2 : 1 * 2 ^ y.toNat = f.lead
  e3 : 1 * 2 ^ (x + y).toNat = f.sb
  e4 : f.sb - f.lead = f.inf
  e5 : f.sb - 1 = f.nan
  e6 : (1 * 2 ^ (x - 1).toNat - 1) * 2 ^ y.toNat = f.one
  e7 : 1 * 2 ^ (1 * 2 ^ (x - 1).toNat - 1 - 1 + y).toNat = f.uo
theorem init_facts {f : Fm} {p : Addr} {vs : List V} (h : f = sF ∧ vs = [.ref p, .int 8, .int 23] ∨ f = dF ∧ vs = [.ref p, .int 11, .int 52]) :
    ∃ x y : Int, vs = [.ref p, .int x, .int y] ∧ InitOk f x y ∧ 8 ≤ x ∧ x ≤ 11 ∧ 23 ≤ y ∧ y ≤ 52 ∧ 127 ≤ (1 * 2 ^ (x - 1).toNat - 1 : Int) ∧ (1 * 2 ^ (x - 1).toNat - 1 : Int) ≤ 1023 := by
  rcases h with ⟨rfl, rfl⟩ | ⟨rfl, rfl⟩
  · refine ⟨8, 23, rfl, ⟨rfl, by decide, by decide, by decide, by decide, by decide, ?_⟩, by decide, by decide, by decide, by decide, by decide, by decide⟩
    have e : (1 * 2 ^ ((8 : Int) - 1).toNat - 1 - 1 + 23 : Int).toNat = 149 := by decide
    rw [e, Int.one_mul, pow2i]; rfl
  · refine ⟨11, 52, rfl, ⟨rfl, by decide, by decide, by decide, by decide, by decide, ?_⟩, by decide, by decide, by decide, by decide, by decide, by decide⟩
    have e : (1 * 2 ^ ((11 : Int) - 1).toNat - 1 - 1 + 52 : Int).toNat = 1074 := by decide
    rw [e, Int.one_mul, pow2i]; rfl
theorem init_fields {f : Fm} {x y : Int} (h : InitOk f x y) :
    putF "units_of_one" (.int (1 * 2 ^ (1 * 2 ^ (x - 1).toNat - 1 - 1 + y).toNat)) (putF "one" (.int ((1 * 2 ^ (x - 1).toNat - 1) * 2 ^ y.toNat)) (putF "some_no_number" (.int (1 * 2 ^ (x + y).toNat - 1)) (putF "infinity" (.int (1 * 2 ^ (x + y).toNat - 1 * 2 ^ y.toNat))
      (putF "sign_bit" (.int (1 * 2 ^ (x + y).toNat)) (putF "leading_bit" (.int (1 * 2 ^ y.toNat)) (putF "fraction_bits" (.int y) [])))))) = fields f := by
  rw [h.e7, h.e6, h.e3, h.e2, h.e1, h.e4, h.e5]
  rfl

def spE (K : PySem.W.Frag) (R : List D → D → Prop) : Sp := fun vs H Q E => ∀ C, spR K C R vs H Q E
theorem any_C {P : Program} {w : World} {K : PySem.W.Frag} {mg : Str → Option Value} {fa : Addr} {k : Nat} {ps : List Str} {R : List D → D → Prop}
    (h : ∃ fd : FuncData, (∀ (s : Shared) (us : List Value), us.length = ps.length → BindsTo s fd ⟨us, []⟩ (ps.zip us)) ∧ ∃ C : Addr, ∀ base : Heap, K.In base → base.Ns mainGlobals mg → FnOk P w K mg base CX0 k fa fd ps (spR K C R)) :
    ∃ fd : FuncData, (∀ (s : Shared) (us : List Value), us.length = ps.length → BindsTo s fd ⟨us, []⟩ (ps.zip us)) ∧ ∀ base : Heap, K.In base → base.Ns mainGlobals mg → FnOk P w K mg base CX0 k fa fd ps (spE K R) := by
  obtain ⟨fd, h1, C, h2⟩ := h
  exact ⟨fd, h1, fun base a b => (h2 base a b).imp fun vs H Q E q => q C⟩
end Cs
end
section
set_option Elab.async false
set_option linter.all false
set_option maxRecDepth 100000
set_option exponentiation.threshold 5000
namespace Cs
open PySem PySem.Spec PyProof.Rows L2
open Builtin.Int (intBits)

def expI (f : Fm) (x : Int) : Int := magI f x / 2 ^ f.fb.toNat
def unitsV (f : Fm) (e u : Int) : Int := if 0 < e then (f.lead + u) * 2 ^ (e - 1).toNat else u
def unitsI (f : Fm) (x : Int) : Int := if negB f x = true then -(unitsV f (expI f x) (x % f.lead)) else unitsV f (expI f x) (x % f.lead)
def R_units_of (ds : List D) (d : D) : Prop := ∃ f x, f.Ok ∧ ds = [.form f, .int x] ∧ d = .int (unitsI f x)

theorem expI_le {f : Fm} (hf : f.Ok) (x : Int) : 0 ≤ expI f x ∧ expI f x ≤ 2047 := by
  unfold expI magI
  rcases hf with h | h
  · subst h
    have e1 : (2 : Int) ^ sF.fb.toNat = 8388608 := by decide
    have e2 : sF.sb = 2147483648 := rfl
    rw [e1, e2]; omega
  · subst h
    have e1 : (2 : Int) ^ dF.fb.toNat = 4503599627370496 := by decide
    have e2 : dF.sb = 9223372036854775808 := rfl
    rw [e1, e2]; omega
theorem rest_le {f : Fm} (hf : f.Ok) (x : Int) : 0 ≤ x % f.lead ∧ x % f.lead < 4503599627370496 ∧ f.lead + x % f.lead < 9007199254740992 := by
  rcases hf with h | h
  · subst h
    have e2 : sF.lead = 8388608 := rfl
    rw [e2]; omega
  · subst h
    have e2 : dF.lead = 4503599627370496 := rfl
    rw [e2]; omega
theorem units_sh {f : Fm} (hf : f.Ok) {x : Int} (h : 0 < expI f x) : CSh (f.lead + x % f.lead) (expI f x - 1) := by
  have h1 := expI_le hf x
  have h2 := rest_le hf x
  have h3 := hf.lead
  have h4 : intBits (f.lead + x % f.lead) ≤ 64 := intBits_le_64 (by omega) (by omega)
  refine ⟨by omega, ?_⟩
  have : (intBits (f.lead + x % f.lead) : Int) ≤ 64 := by omega
  have c : (2 : Int) ^ 27 = 134217728 := by decide
  rw [c]; omega
theorem bits_pow (n : Nat) : intBits ((2 : Int) ^ n) ≤ n + 1 := by
  refine intBits_le_iff.mpr ?_
  rw [Int.natAbs_pow]
  exact Nat.pow_lt_pow_right (by decide) (Nat.lt_succ_self n)
theorem units_bits {f : Fm} (hf : f.Ok) (x : Int) : intBits (unitsI f x) ≤ 2112 := by
  have h1 := expI_le hf x
  have h2 := rest_le hf x
  have h3 := hf.lead
  have key : intBits (unitsV f (expI f x) (x % f.lead)) ≤ 2112 := by
    unfold unitsV
    split
    · have a := intBits_le_64 (k := f.lead + x % f.lead) (by omega) (by omega)
      have b := bits_pow (expI f x - 1).toNat
      have c := intBits_mul_le a b
      refine Nat.le_trans c ?_
      have : (expI f x - 1).toNat ≤ 2046 := by omega
      omega
    · have a := intBits_le_64 (k := x % f.lead) (by omega) (by omega)
      omega
  unfold unitsI
  split
  · exact intBits_neg_le key
  · exact key

def supI (f : Fm) (a b : Int) : Int := if (intBits (a / b) : Int) - f.fb - 1 > 0 then (intBits (a / b) : Int) - f.fb - 1 else 0
def stepI (f : Fm) (a b : Int) : Int := b * 2 ^ (supI f a b).toNat
def upB (f : Fm) (a b : Int) : Bool := decide (stepI f a b < 2 * (a % stepI f a b)) || (decide (2 * (a % stepI f a b) = stepI f a b) && decide (a / stepI f a b % 2 = 1))
def keptI (f : Fm) (a b : Int) : Int := if upB f a b = true then a / stepI f a b + 1 else a / stepI f a b
def nearI (f : Fm) (a b : Int) : Int := if f.inf < supI f a b * 2 ^ f.fb.toNat + keptI f a b then f.inf else supI f a b * 2 ^ f.fb.toNat + keptI f a b
def R_nearest (ds : List D) (d : D) : Prop := ∃ f a b, f.Ok ∧ 0 < b ∧ intBits a ≤ 4300 ∧ intBits b ≤ 4300 ∧ ds = [.form f, .int a, .int b] ∧ d = .int (nearI f a b)

theorem log2_bits {b : Int} {n : Nat} (h : intBits b ≤ n) (hn : 0 < n) : b.natAbs.log2 < n := by
  have h1 := intBits_le_iff.mp h
  rcases Nat.eq_zero_or_pos b.natAbs with h0 | hp
  · rw [h0]; exact hn
  · exact (Nat.log2_lt (by omega)).mpr h1
theorem bits_ediv {a b : Int} (hb : 0 < b) {n : Nat} (h : intBits a ≤ n) : intBits (a / b) ≤ n := by
  rw [← Int.fdiv_eq_ediv_of_nonneg a (by omega)]
  exact intBits_fdiv_le h
theorem sup_le {f : Fm} (hf : f.Ok) {a b : Int} (hb : 0 < b) (ha : intBits a ≤ 4300) : 0 ≤ supI f a b ∧ supI f a b ≤ 4300 := by
  have h1 := bits_ediv hb ha
  have h2 := hf.fb
  unfold supI
  split <;> omega
theorem near_c1 {a b : Int} (hb : 0 < b) (hb2 : intBits b ≤ 4300) : CFd a b := ⟨hb, Nat.lt_trans (log2_bits hb2 (by decide)) (by decide)⟩
theorem near_c2 {f : Fm} (hf : f.Ok) {a b : Int} (hb : 0 < b) (ha : intBits a ≤ 4300) (hb2 : intBits b ≤ 4300) : CSh b (supI f a b) := by
  have h := sup_le hf hb ha
  refine ⟨h.1, ?_⟩
  have c : (2 : Int) ^ 27 = 134217728 := by decide
  rw [c]; omega
theorem step_pos (f : Fm) {a b : Int} (hb : 0 < b) : 0 < stepI f a b := Int.mul_pos hb (Int.pow_pos (by decide))
theorem near_c3 {f : Fm} (hf : f.Ok) {a b : Int} (hb : 0 < b) (ha : intBits a ≤ 4300) (hb2 : intBits b ≤ 4300) : CFd a (stepI f a b) := by
  refine ⟨step_pos f hb, ?_⟩
  have h := sup_le hf hb ha
  have h1 := bits_pow (supI f a b).toNat
  have h2 := intBits_mul_le hb2 h1
  exact log2_bits (Nat.le_trans h2 (by omega)) (by decide)
theorem near_c4 {f : Fm} (hf : f.Ok) {a b : Int} (hb : 0 < b) (ha : intBits a ≤ 4300) : CSh (supI f a b) f.fb := by
  have h := sup_le hf hb ha
  have h2 := hf.fb
  have h4 : intBits (supI f a b) ≤ 64 := intBits_le_64 (by omega) (by omega)
  refine ⟨h2.1, ?_⟩
  have c : (2 : Int) ^ 27 = 134217728 := by decide
  rw [c]; omega

def plusI (f : Fm) (x y : Int) : Int :=
  if (nanB f x || nanB f y) = true then f.nan
  else if infB f x = true then (if y = oppI f x then f.nan else x)
  else if infB f y = true then y
  else if unitsI f x + unitsI f y = 0 then signI f 0 (negB f x && negB f y)
  else signI f (nearI f (absI (unitsI f x + unitsI f y)) 1) (decide (unitsI f x + unitsI f y < 0))
def minusI (f : Fm) (x y : Int) : Int := plusI f x (oppI f y)
def timesI (f : Fm) (x y : Int) : Int :=
  if (nanB f x || nanB f y) = true then f.nan
  else if (infB f x || infB f y) = true then (if (zeroB f x || zeroB f y) = true then f.nan else signI f f.inf (negB f x != negB f y))
  else signI f (nearI f (absI (unitsI f x * unitsI f y)) f.uo) (negB f x != negB f y)
def R_plus (ds : List D) (d : D) : Prop := ∃ f x y, f.Ok ∧ ds = [.form f, .int x, .int y] ∧ d = .int (plusI f x y)
def R_minus (ds : List D) (d : D) : Prop := ∃ f x y, f.Ok ∧ ds = [.form f, .int x, .int y] ∧ d = .int (minusI f x y)
def R_times (ds : List D) (d : D) : Prop := ∃ f x y, f.Ok ∧ ds = [.form f, .int x, .int y] ∧ d = .int (timesI f x y)
theorem absI_bits {i : Int} {n : Nat} (h : intBits i ≤ n) : intBits (absI i) ≤ n := by
  unfold absI
  split
  · exact intBits_neg_le h
  · exact h
theorem sum_bits {f : Fm} (hf : f.Ok) (x y : Int) : intBits (absI (unitsI f x + unitsI f y)) ≤ 4300 := by
  refine absI_bits (Nat.le_trans (intBits_add_le (units_bits hf x) (units_bits hf y)) ?_)
  decide
theorem prod_ok {f : Fm} (hf : f.Ok) (x y : Int) : IntMulOk (unitsI f x) (unitsI f y) := IntMulOk.of_le (units_bits hf x) (units_bits hf y) (by decide)
theorem prod_bits {f : Fm} (hf : f.Ok) (x y : Int) : intBits (absI (unitsI f x * unitsI f y)) ≤ 4300 := by
  refine absI_bits (Nat.le_trans (intBits_mul_le (units_bits hf x) (units_bits hf y)) ?_)
  decide
theorem uo_pos {f : Fm} (hf : f.Ok) : 0 < f.uo := by
  rcases hf with h | h
  · subst h; exact Int.natCast_pos.mpr (Nat.two_pow_pos 149)
  · subst h; exact Int.natCast_pos.mpr (Nat.two_pow_pos 1074)
theorem uo_bits {f : Fm} (hf : f.Ok) : intBits f.uo ≤ 1075 := by
  rcases hf with h | h
  · subst h
    refine intBits_le_iff.mpr ?_
    show ((2 ^ 149 : Nat) : Int).natAbs < _
    rw [Int.natAbs_natCast]
    exact Nat.pow_lt_pow_right (by decide) (by decide)
  · subst h
    refine intBits_le_iff.mpr ?_
    show ((2 ^ 1074 : Nat) : Int).natAbs < _
    rw [Int.natAbs_natCast]
    exact Nat.pow_lt_pow_right (by decide) (by decide)
def R_sum_parts (ds : List D) (d : D) : Prop := ∃ f x y u v, f.Ok ∧ ds = [.form f, .lst (vInts [x, y]), .lst (vInts [u, v])] ∧ d = .lst (vInts [plusI f x u, plusI f y v])
end Cs
end
section
set_option Elab.async false
set_option linter.all false
set_option maxRecDepth 100000
set_option exponentiation.threshold 5000
namespace Cs
open PySem PySem.Spec PyProof.Rows L2
open Builtin.Int (intBits)

theorem den_one {K : PySem.W.Frag} {C : Addr} {H : Hp} {d : D} : ∀ {vs : List V}, DenAll K C H vs [d] → ∃ v, vs = [v] ∧ Den K C H v d
  | [], h => h.elim
  | [v], h => ⟨v, rfl, h.1⟩
  | _ :: _ :: _, h => h.2.elim
theorem boot_any' : bootBuiltins "any" = some (.builtin "any") := by decide +kernel
theorem boot_all' : bootBuiltins "all" = some (.builtin "all") := by decide +kernel
section
variable {X : Cx} {C : Addr} {g : Gm} {e : Expr} {pos p : Pos} {d : D}
theorem EvT.cast {j k : Bool} (h : EvT X C g e j) (q : j = k) : EvT X C g e k := q ▸ h
theorem bools_at : ∀ {bs : List Bool} {its : List Value} {i : Nat} {v : Value}, Vals (bs.map V.bl) its → its[i]? = some v → ∃ b, bs[i]? = some b ∧ v = Value.bool b
  | [], _, _, _, .nil, h => by simp at h
  | b :: bs, _, 0, v, .cons r t, h => by
    have e := Option.some.inj h
    subst e
    exact ⟨b, rfl, r⟩
  | b :: bs, _, i + 1, v, .cons r t, h => by
    obtain ⟨c, h1, h2⟩ := bools_at (i := i) (v := v) t h
    exact ⟨c, h1, h2⟩
theorem iter_bools {prog : Program} {w : World} {A : Around} {E : Value → Shared → Prop} {s : Shared} {a : Addr} {bs : List Bool} {its : List Value} {Z : Nat → (Nat → Bool) → Shared → Prop} (j : Bool) (hd : A.handled = none) (rv : Vals (bs.map V.bl) its)
    (hl : s.heap.IsList a its.toArray) (fin : ∀ H tk, (∀ b x, s.heap.get? b = some x → H.get? b = some x) → Z bs.length (fun i => (bs[i]?).getD j) { s with heap := H, toks := tk }) :
    wpAny (model prog w) A (pyIter (.ref a)) (fun it z => ∃ I fp wr n P St tr, it = .ref I ∧ Walks prog w A I fp wr n P St ∧ St 0 z.heap ∧ TruthOf prog w A P tr ∧
      ∀ H tk, (∀ b o, b ∉ wr → z.heap.get? b = some o → H.get? b = some o) → Z n tr { z with heap := H, toks := tk }) E s := by
  have below : a < s.heap.objs.size := hl.elim fun _ q => Heap.lt_size q.1
  have len : bs.length = its.toArray.size := by simpa using rv.length
  have truth : TruthOf prog w A (fun i v => its.toArray[i]? = some v) fun i => (bs[i]?).getD j := fun i v z Q' E' at0 q => by
    obtain ⟨b, eb, rfl⟩ := bools_at (i := i) rv (by simpa using at0)
    have same : (bs[i]?).getD j = b := by rw [eb]; rfl
    exact wpAny_truthy_bool (same ▸ q)
  rw [len] at fin
  exact wpAny_pyIter_list hl ⟨_, _, _, _, _, _, _, rfl, Walks.list hd s.heap.objs.size a (Nat.ne_of_lt below) its.toArray, And.intro ⟨_, Heap.get?_push_size _ rfl, rfl, rfl⟩ (hl.push _), truth, fun H tk kp => fin H tk (LSm.kept_iter kp)⟩
theorem call_any (hc : X.calm = true) : CallR X (.builtin "any") (fun xs H Q => ∃ (a : Addr) (bs : List Bool), xs = [.ref a] ∧ SqL X.K H a (bs.map V.bl) ∧ Q (.bl (bs.any id)) H) := by
  intro pins s σ H xs us Q I r h
  obtain ⟨a, bs, rfl, hq, q⟩ := h
  obtain ⟨u, rfl, ru⟩ := vals1 r
  cases ru
  obtain ⟨its, rv, pl, hz⟩ := I.list hq
  exact call_any_walk (iter_bools (Z := fun n tr z => EP X pins σ Q (.bool ((List.range n).any tr)) z) false (I.ok.hd hc) rv pl.isList fun H' tk kp => by rw [LSm.range_any]; exact ⟨.bl (bs.any id), H, I.kept kp, rfl, q⟩)
theorem call_all (hc : X.calm = true) : CallR X (.builtin "all") (fun xs H Q => ∃ (a : Addr) (bs : List Bool), xs = [.ref a] ∧ SqL X.K H a (bs.map V.bl) ∧ Q (.bl (bs.all id)) H) := by
  intro pins s σ H xs us Q I r h
  obtain ⟨a, bs, rfl, hq, q⟩ := h
  obtain ⟨u, rfl, ru⟩ := vals1 r
  cases ru
  obtain ⟨its, rv, pl, hz⟩ := I.list hq
  exact call_all_walk (iter_bools (Z := fun n tr z => EP X pins σ Q (.bool ((List.range n).all tr)) z) true (I.ok.hd hc) rv pl.isList fun H' tk kp => by rw [LSm.range_all]; exact ⟨.bl (bs.all id), H, I.kept kp, rfl, q⟩)
theorem ev_any {bs : List Bool} (hc : X.calm = true) (h : Ev X C g e (.lst (bs.map V.bl))) (hm : X.mg "any" = none) (hg : Gl X "any" := by rfl)
    (he : starEach [e] X.env = (false, eval e X.env) :: starEach [] X.env := by rfl) : Ev X C g (.Call (.Name "any" p) [e] [] pos) (.bl (bs.any id)) := by
  obtain ⟨t, pa, q⟩ := ea_cons h ea_nil he
  refine ⟨_, pe_callB (call_any hc) hg hm boot_any' pa (by decide) (by decide) he rfl, fun σ H Q I h => q σ H _ I fun vs H' s d1 => ?_⟩
  obtain ⟨v, e0, a, e1, e2⟩ := den_one d1
  exact ⟨a, bs, by rw [e0, e1], e2, h _ H' s rfl⟩
theorem ev_all {bs : List Bool} (hc : X.calm = true) (h : Ev X C g e (.lst (bs.map V.bl))) (hm : X.mg "all" = none) (hg : Gl X "all" := by rfl)
    (he : starEach [e] X.env = (false, eval e X.env) :: starEach [] X.env := by rfl) : Ev X C g (.Call (.Name "all" p) [e] [] pos) (.bl (bs.all id)) := by
  obtain ⟨t, pa, q⟩ := ea_cons h ea_nil he
  refine ⟨_, pe_callB (call_all hc) hg hm boot_all' pa (by decide) (by decide) he rfl, fun σ H Q I h => q σ H _ I fun vs H' s d1 => ?_⟩
  obtain ⟨v, e0, a, e1, e2⟩ := den_one d1
  exact ⟨a, bs, by rw [e0, e1], e2, h _ H' s rfl⟩
end
def tstV (p : Int → Bool) : V → V
  | .int z => .bl (p z)
  | v => v
theorem tstV_map (p : Int → Bool) (l : List Int) : (vInts l).map (tstV p) = (l.map p).map V.bl := by
  unfold vInts
  rw [List.map_map, List.map_map]
  rfl
theorem any_id (p : Int → Bool) (l : List Int) : (l.map p).any id = l.any p := by rw [List.any_map]; rfl
theorem all_id (p : Int → Bool) (l : List Int) : (l.map p).all id = l.all p := by rw [List.all_map]; rfl
def intV (h : Int → Int) : V → V
  | .int z => .int (h z)
  | v => v
theorem intV_map (h : Int → Int) (l : List Int) : (vInts l).map (intV h) = vInts (l.map h) := by
  unfold vInts
  rw [List.map_map, List.map_map]
  rfl

def R_any_infinite (ds : List D) (d : D) : Prop := ∃ f, ∃ l : List Int, f.Ok ∧ l.length ≤ 1000 ∧ ds = [.form f, .lst (vInts l)] ∧ d = .bl (l.any (infB f))
def R_all_no_numbers (ds : List D) (d : D) : Prop := ∃ f, ∃ l : List Int, f.Ok ∧ l.length ≤ 1000 ∧ ds = [.form f, .lst (vInts l)] ∧ d = .bl (l.all (nanB f))
def oneI (f : Fm) (z : Int) : Int := signI f (if infB f z = true then f.one else 0) (negB f z)
def zeroI (f : Fm) (z : Int) : Int := if nanB f z = true then signI f 0 (negB f z) else z
def R_ones_for_infinities (ds : List D) (d : D) : Prop := ∃ f, ∃ l : List Int, f.Ok ∧ l.length ≤ 1000 ∧ ds = [.form f, .lst (vInts l)] ∧ d = .lst (vInts (l.map (oneI f)))
def R_zeros_for_no_numbers (ds : List D) (d : D) : Prop := ∃ f, ∃ l : List Int, f.Ok ∧ l.length ≤ 1000 ∧ ds = [.form f, .lst (vInts l)] ∧ d = .lst (vInts (l.map (zeroI f)))
def R_scaled (ds : List D) (d : D) : Prop := ∃ f k, ∃ l : List Int, f.Ok ∧ l.length ≤ 1000 ∧ ds = [.form f, .int k, .lst (vInts l)] ∧ d = .lst (vInts (l.map (timesI f k)))
def fourL (f : Fm) (x y u v : Int) : List Int := [timesI f x u, timesI f y v, timesI f x v, timesI f y u]
def R_four_products (ds : List D) (d : D) : Prop := ∃ f x y u v, f.Ok ∧ ds = [.form f, .lst (vInts [x, y]), .lst (vInts [u, v])] ∧ d = .lst (vInts (fourL f x y u v))
def R_parts_of_products (ds : List D) (d : D) : Prop := ∃ f p q r s, f.Ok ∧ ds = [.form f, .lst (vInts [p, q, r, s])] ∧ d = .lst (vInts [minusI f p q, plusI f r s])
def partsL (f : Fm) (x y u v : Int) : List Int := [minusI f (timesI f x u) (timesI f y v), plusI f (timesI f x v) (timesI f y u)]
def scaledL (f : Fm) (k x y u v : Int) : List Int := (partsL f x y u v).map (timesI f k)
def mendL (f : Fm) (x y u v : Int) : List Int :=
  if [x, y].any (infB f) = true then
    (if [zeroI f u, zeroI f v].any (infB f) = true then scaledL f f.inf (zeroI f (oneI f x)) (zeroI f (oneI f y)) (oneI f (zeroI f u)) (oneI f (zeroI f v))
      else scaledL f f.inf (oneI f x) (oneI f y) (zeroI f u) (zeroI f v))
  else if [u, v].any (infB f) = true then scaledL f f.inf (zeroI f x) (zeroI f y) (oneI f u) (oneI f v)
  else if (fourL f x y u v).any (infB f) = true then scaledL f f.inf (zeroI f x) (zeroI f y) (zeroI f u) (zeroI f v)
  else partsL f x y u v
def R_mended_product (ds : List D) (d : D) : Prop := ∃ f x y u v, f.Ok ∧ ds = [.form f, .lst (vInts [x, y]), .lst (vInts [u, v]), .lst (vInts (fourL f x y u v)), .lst (vInts (partsL f x y u v))] ∧ d = .lst (vInts (mendL f x y u v))
def prodL (f : Fm) (x y u v : Int) : List Int := if (partsL f x y u v).all (nanB f) = true then mendL f x y u v else partsL f x y u v
def R_product_parts (ds : List D) (d : D) : Prop := ∃ f x y u v, f.Ok ∧ ds = [.form f, .lst (vInts [x, y]), .lst (vInts [u, v])] ∧ d = .lst (vInts (prodL f x y u v))
theorem mendL_len (f : Fm) (x y u v : Int) : (mendL f x y u v).length = 2 := by
  unfold mendL scaledL partsL
  split
  · split <;> rfl
  · split
    · rfl
    · split <;> rfl
theorem prodL_len (f : Fm) (x y u v : Int) : (prodL f x y u v).length = 2 := by
  unfold prodL
  split
  · exact mendL_len f x y u v
  · rfl
end Cs
end
section
set_option Elab.async false
set_option linter.all false
set_option maxRecDepth 100000
set_option exponentiation.threshold 5000
namespace Cs
open PySem PySem.Spec PyProof.Rows L2
open Builtin.Int (intBits)

theorem Is.forget {K : PySem.W.Frag} {C : Addr} {H : Hp} {σ : L2.St} {g : Gm} {v : Nat} {o : Option D} (h : Is K C H σ (g.set v o)) (hv : g[v]? = some none) : Is K C H σ g := by
  refine ⟨h.len.trans (List.length_set ..), fun i d q => h.at_ i d ?_⟩
  by_cases e : v = i
  · subst e
    rw [hv] at q
    cases q
  · rw [List.getElem?_set_ne e]; exact q
theorem Is.free {K : PySem.W.Frag} {C : Addr} {H : Hp} {σ : L2.St} {g : Gm} {v : Nat} {o : Option V} (h : Is K C H σ g) (hv : g[v]? = some none) : Is K C H (σ.set v o) g := by
  refine ⟨by rw [List.length_set]; exact h.len, fun i d q => ?_⟩
  have e : v ≠ i := fun e => by
    subst e
    rw [hv] at q
    cases q
  rw [List.getElem?_set_ne e]
  exact h.at_ i d q

section
variable {X : Cx} {C : Addr} {g : Gm} {a b c e : Expr} {es : List Expr} {pos p : Pos} {d : D}
theorem ev_or {j k : Bool} (h : Ev X C g a (.bl j)) (h2 : Ev X C g b (.bl k)) : Ev X C g (.BoolOp .Or [a, b] pos) (.bl (j || k)) := by
  obtain ⟨t, p, q⟩ := h
  obtain ⟨u, p2, q2⟩ := h2
  refine ⟨_, pe_or p (pe_one p2), fun σ H Q I h => q σ H _ I fun v H' s d => ⟨j, d, ?_⟩⟩
  cases j with
  | false => exact (if_neg (by decide)).mpr (q2 σ H' Q (I.same s) fun v H'' s2 d2 => h v H'' (s.trans s2) d2)
  | true => exact (if_pos rfl).mpr (h _ H' s rfl)
def EvR (X : Cx) (C : Addr) (g : Gm) (tg iter : Expr) (lo : Int) (n : Nat) : Prop :=
  ∃ wi, PI X tg iter wi ∧ ∀ σ H R, Is X.K C H σ g → (∀ H', Same H H' → R (Itr lo n) H') → wi σ H R
theorem er_range1 {tg : Expr} {j : Int} {n : Nat} (hn : j.toNat = n) (h : EvA X C g [a] [.int j]) (hm : X.mg "range" = none) (h1 : 0 ≤ j) (h2 : j < 1000000) (hg : Gl X "range" := by rfl) (hs : starEach [a] X.env = [(false, eval a X.env)] := by rfl) :
    EvR X C g tg (.Call (.Name "range" p) [a] [] pos) 0 n := by
  subst hn
  obtain ⟨t, pa, q⟩ := h
  refine ⟨_, pi_range1 hg hm pa hs, fun σ H R I k => q σ H _ I fun vs H' s d1 => ?_⟩
  have e : vs = [.int j] := d1.scs (us := [.int j])
  exact ⟨j, e, by omega, by omega, k H' s⟩
theorem er_range2 {tg : Expr} {i j : Int} {n : Nat} (hn : (j - i).toNat = n) (h : EvA X C g [a, b] [.int i, .int j]) (hm : X.mg "range" = none) (h0 : 0 ≤ i) (h1 : i ≤ j) (h2 : j < 1000000) (hg : Gl X "range" := by rfl) (hs : starEach [a, b] X.env = [(false, eval a X.env), (false, eval b X.env)] := by rfl) (hs2 : starEach [b] X.env = [(false, eval b X.env)] := by rfl) :
    EvR X C g tg (.Call (.Name "range" p) [a, b] [] pos) i n := by
  subst hn
  obtain ⟨t, pa, q⟩ := h
  refine ⟨_, pi_range2 hg hm pa hs hs2, fun σ H R I k => q σ H _ I fun vs H' s d1 => ?_⟩
  have e : vs = [.int i, .int j] := d1.scs (us := [.int i, .int j])
  exact ⟨i, j, e, ⟨by omega, by omega, by omega, by omega⟩, k H' s⟩
variable {body : List Stmt} {x : Str} {tpos : Pos}
theorem nx_forR {iter : Expr} {lo : Int} {n : Nat} {v : Nat} (G : Nat → Gm) (hp : PassesOwn (model X.prog X.w) X.A X.env X.xe) (hc : X.calm = true) (hN : X.N.Nodup) (hi : EvR X C (G 0) (.Name x tpos) iter lo n)
    (hv : ∀ i, (G i)[v]? = some none) (hb : ∀ i, i < n → Nxs X C ((G i).set v (some (.int (lo + i)))) body ((G (i + 1)).set v (some (.int (lo + i)))))
    (hx : X.N[v]? = some x := by rfl) (hl : Loc X.env.scope x := by first | exact Or.inl rfl | exact Or.inr rfl) (hf : X.fn x = true ∨ X.env.scope.names.lookup x = some .local := by first | exact .inl rfl | exact .inr rfl)
    (hs : ∀ x, foldedSetIterable iter X.env x = pure x := by intro _; rfl) : Nx X C (G 0) (.For (.Name x tpos) iter body [] pos) (G n) := by
  obtain ⟨wi, pi, qi⟩ := hi
  obtain ⟨tb, pb, qb⟩ : ∃ tb : TS, PSs X body tb ∧ ∀ i, i < n → ∀ (E : Ends) σ H, Is X.K C H σ ((G i).set v (some (.int (lo + i)))) → (∀ σ' H', Same H H' → Is X.K C H' σ' ((G (i + 1)).set v (some (.int (lo + i)))) → E.nx σ' H') → tb E σ H :=
    ⟨fun E σ H => ∃ i, ∃ h : i < n, (hb i h).choose E σ H, fun pins s σ H E I ⟨i, h, z⟩ => (hb i h).choose_spec.1 pins s σ H E I z, fun i h E σ H I k => ⟨i, h, (hb i h).choose_spec.2 E σ H I k⟩⟩
  refine ⟨_, ps_for hp hc pi (pg_name hN hx hl hf) pb hs, fun E σ H I k => qi σ H _ I fun H1 s1 => ?_⟩
  refine for_range (fun i σ' H' => Same H1 H' ∧ Is X.K C H' σ' (G i)) ⟨Same.refl H1, I.same s1⟩ (fun i σ' H' hi ⟨s2, I2⟩ => ?_) (fun σ' H' ⟨s2, I2⟩ => k σ' H' (s1.trans s2) I2)
  refine qb i hi _ _ _ (I2.set v rfl) fun σ2 H2 s3 I3 => ⟨s2.trans s3, I3.forget (hv (i + 1))⟩
end

theorem rt_grow {X : Cx} {C : Addr} {g : Gm} {es : List Expr} {iter arg : Expr} {l x : Str} {a v n : Nat} {xs : List V} {ys : Nat → List V} {p1 p2 p3 p4 p5 p6 p7 p8 p9 p10 p11 : Pos} (hp : PassesOwn (model X.prog X.w) X.A X.env X.xe) (hc : X.calm = true) (hN : X.N.Nodup)
    (hE : EvA X C g es (xs.map D.sc)) (hi : EvR X C g (.Name x p4) iter 0 n) (hb : ∀ i : Nat, i < n → Ev X C (g.set v (some (.int i))) arg (.own (ys i))) (hga : g[a]? = some none) (hgv : g[v]? = some none) (hav : v ≠ a)
    (hlen : xs.length ≤ 1000 ∧ n ≤ 1000 ∧ ∀ i, i < n → (ys i).length ≤ 1000)
    (hx : X.N[v]? = some x := by rfl) (hl : X.N[a]? = some l := by rfl) (lx : Loc X.env.scope x := by first | exact Or.inl rfl | exact Or.inr rfl) (ll : Loc X.env.scope l := by first | exact Or.inl rfl | exact Or.inr rfl)
    (fx : X.fn x = true ∨ X.env.scope.names.lookup x = some .local := by first | exact .inl rfl | exact .inr rfl) (fl : X.fn l = true ∨ X.env.scope.names.lookup l = some .local := by first | exact .inl rfl | exact .inr rfl)
    (vl : Vis X.env.scope l := by first | exact Or.inl rfl | exact Or.inr (Or.inl rfl) | exact Or.inr (Or.inr rfl)) (d1 : (l == ("__debug__" : Str)) = false := by decide) (d2 : (l == ("__classdict__" : Str)) = false := by decide)
    (hs1 : swapsWith (.List es p2) (some (.Name l p1)) p3.line X.env = pure false := by rfl) (hs2 : ∀ z, foldedSetIterable iter X.env z = pure z := by intro _; rfl)
    (hb1 : attributeBase (.Name l p5) "extend" X.env (eval (.Name l p5) X.env) = eval (.Name l p5) X.env := by rfl)
    (hb2 : ((backTo p7 (starEach [arg] X.env)).all (fun x => !x.1) && (backToKw p7 (keywordEach [] X.env)).all (fun x => x.1.isSome) && decide (([arg] : List Expr).length + ([] : List Keyword).length + (if ([] : List Keyword).isEmpty then 0 else 1) < 30)) = true := by rfl)
    (hb3 : (p6.endLine == p7.line) = true := by rfl) (hb4 : starEach [arg] X.env = (false, eval arg X.env) :: starEach [] X.env := by rfl) (hb5 : (backTo p7 (starEach [] X.env)).any (·.1) = false := by rfl)
    (hb6 : swapsWith (.Call (.Attribute (.Name l p5) "extend" p6) [arg] [] p7) none p8.line X.env = pure false := by rfl) :
    Rt X C g [.Assign [.Name l p1] (.List es p2) p3, .For (.Name x p4) iter [.Expr (.Call (.Attribute (.Name l p5) "extend" p6) [arg] [] p7) p8] [] p9, .Return (some (.Name l p10)) p11] (.own (xs ++ (List.range n).flatMap ys)) := by
  obtain ⟨tE, pE, qE⟩ := hE
  obtain ⟨wi, pi, qi⟩ := hi
  obtain ⟨te, pe, qe⟩ : ∃ te : TE, PE X arg te ∧ ∀ i, i < n → ∀ σ H Q, Is X.K C H σ (g.set v (some (.int i))) → (∀ y H', Same H H' → Den X.K C H' y (.own (ys i)) → Q y H') → te σ H Q :=
    ⟨fun σ H Q => ∃ i, ∃ h : i < n, (hb i h).choose σ H Q, fun pins s σ H Q I ⟨i, h, z⟩ => (hb i h).choose_spec.1 pins s σ H Q I z, fun i h σ H Q I k => ⟨i, h, (hb i h).choose_spec.2 σ H Q I k⟩⟩
  refine ⟨_, pss_cons (ps_set (i := a) hN hl ll (pe_lst pE) hs1 fl) (pss_cons (ps_for hp hc pi (pg_name hN hx lx fx) (pss_one (ps_expr (pe_bm PySem.F.plainAttrs_list PySem.F.slot_list_extend PySem.F.type_list_extend mt_extend (pe_var hl vl d1 d2) (pa_cons pe pa_nil hb4) hb1 hb2 hb3 hb4 hb5) hb6)) hs2)
    (pss_one (ps_ret (pe_var hl vl d1 d2)))), fun E σ H I k => qE σ H _ I fun vs H1 s1 dv => ?_⟩
  have e1 := dv.scs
  subst e1
  refine ⟨by rw [PySem.sizeLine_eq]; omega, fun z hz => ?_⟩
  have sz : Same H1 (upd H1 z (.lst vs)) := fun b o q => by rw [upd_ne (ne_of_none q hz)]; exact q
  have I1 : Is X.K C H1 (σ.set a (some (.ref z))) g := (I.same s1).free hga
  have la : a < σ.length := by
    rw [I.len]
    exact (List.getElem?_eq_some_iff.mp hga).1
  refine qi _ _ _ (I1.same sz) fun H2 s2 => ?_
  have lenB : ∀ i, i ≤ n → (vs ++ (List.range i).flatMap ys).length ≤ 1000 + 1000 * i := by
    intro i hi
    induction i with
    | zero => simp; omega
    | succ i ih =>
      have h1 := ih (by omega)
      have h2 := hlen.2.2 i (by omega)
      rw [List.range_succ, List.flatMap_append, ← List.append_assoc, List.length_append, show ([i] : List Nat).flatMap ys = ys i by simp]
      omega
  refine for_range (fun i σ' H' => Is X.K C H1 σ' g ∧ Same H1 H' ∧ σ'[a]? = some (some (.ref z)) ∧ H' z = some (.lst (vs ++ (List.range i).flatMap ys)))
    ⟨I1, sz.trans s2, List.getElem?_set_self la, by rw [s2 _ _ upd_same]; simp⟩ (fun i σ' H' hi ⟨J1, J2, J3, J4⟩ => ?_) (fun σ' H' ⟨J1, J2, J3, J4⟩ => ?_)
  · have e3 : ((0 : Int) + (i : Nat)) = (i : Int) := by omega
    show _
    refine ⟨.ref z, by rw [List.getElem?_set_ne hav]; exact J3, .inl ⟨rfl, _, SqL.of J4⟩, ?_⟩
    refine qe i hi _ _ _ (by rw [e3]; exact (J1.same J2).set v rfl) fun y H3 s3 dy => ?_
    obtain ⟨r, e4, e5⟩ := dy
    have hl1 := lenB i (by omega)
    have hl2 := hlen.2.2 i hi
    refine ⟨z, r, _, _, rfl, by rw [e4], s3 _ _ J4, e5, by rw [PySem.sizeLine_eq]; omega, ?_⟩
    refine ⟨J1.free hgv, fun b o q => ?_, by rw [List.getElem?_set_ne hav]; exact J3, ?_⟩
    · rw [upd_ne (ne_of_none q hz)]
      exact s3 _ _ (J2 _ _ q)
    · rw [upd_same, List.range_succ, List.flatMap_append, List.append_assoc]
      simp
  · refine ⟨.ref z, J3, k _ _ (s1.trans J2) ⟨z, rfl, J4⟩⟩
end Cs
end
section
set_option Elab.async false
set_option linter.all false
set_option maxRecDepth 100000
set_option exponentiation.threshold 5000
namespace Cs
open PySem PySem.Spec PyProof.Rows L2
open Builtin.Int (intBits)
theorem Ev.cast {X : Cx} {C : Addr} {g : Gm} {e : Expr} {d d' : D} (h : Ev X C g e d) (q : d = d') : Ev X C g e d' := q ▸ h
theorem Rt.lst {X : Cx} {C : Addr} {g : Gm} {ss : List Stmt} {xs : List V} (h : Rt X C g ss (.own xs)) : Rt X C g ss (.lst xs) := by
  obtain ⟨t, p, q⟩ := h
  exact ⟨t, p, fun E σ H I k => q E σ H I fun v H' s ⟨a, h1, h2⟩ => k v H' s ⟨a, h1, SqL.of h2⟩⟩
theorem Rt.cast {X : Cx} {C : Addr} {g : Gm} {ss : List Stmt} {d d' : D} (h : Rt X C g ss d) (q : d = d') : Rt X C g ss d' := q ▸ h

def R_is_refused (ds : List D) (d : D) : Prop := ∃ n, ds = [.int n] ∧ d = .bl (decide (n < 1) || decide (64 < n))
def atP (l : List Int) (k : Nat) : Int × Int := (l.getD (2 * k) 0, l.getD (2 * k + 1) 0)
def R_number_at (ds : List D) (d : D) : Prop := ∃ (l : List Int) (k : Nat), 2 * k + 1 < l.length ∧ k ≤ 1000 ∧ ds = [.lst (vInts l), .int k] ∧ d = .lst (vInts [(atP l k).1, (atP l k).2])
theorem at_vInts {l : List Int} {j : Nat} (h : j < l.length) : atI (vInts l) (j : Int) = some (.int (l.getD j 0)) := by
  refine atI_nat ?_
  unfold vInts
  rw [List.getElem?_map, List.getD_eq_getElem?_getD, List.getElem?_eq_getElem h]
  rfl
def prodP (f : Fm) (x y u v : Int) : Int × Int := ((prodL f x y u v).getD 0 0, (prodL f x y u v).getD 1 0)
theorem prodP_eq (f : Fm) (x y u v : Int) : prodL f x y u v = [(prodP f x y u v).1, (prodP f x y u v).2] := by
  have h := prodL_len f x y u v
  unfold prodP
  match prodL f x y u v, h with
  | [p, q], _ => rfl
def sumP (f : Fm) (a b : Int × Int) : Int × Int := (plusI f a.1 b.1, plusI f a.2 b.2)
def polyP (f : Fm) (c : List Int) (zr zi : Int) (n : Nat) : Nat → Int × Int
  | 0 => atP c (n - 1)
  | i + 1 => sumP f (prodP f (polyP f c zr zi n i).1 (polyP f c zr zi n i).2 zr zi) (atP c (n - 2 - i))
def pairA (a : Int × Int) : List Int := [ansI sF a.1, ansI sF a.2]
def trP (f : Fm) (x w : List Int) (n k : Nat) : Nat → Int × Int
  | 0 => prodP f (atP x 0).1 (atP x 0).2 (atP w 0).1 (atP w 0).2
  | j + 1 => sumP f (trP f x w n k j) (prodP f (atP x (j + 1)).1 (atP x (j + 1)).2 (atP w ((j + 1) * k % n)).1 (atP w ((j + 1) * k % n)).2)
def R_transform_parts (ds : List D) (d : D) : Prop := ∃ (f : Fm) (x w : List Int) (n k : Nat), f.Ok ∧ 1 ≤ n ∧ n ≤ 64 ∧ k < n ∧ x.length = 2 * n ∧ w.length = 2 * n ∧ ds = [.form f, .int n, .lst (vInts x), .lst (vInts w), .int k] ∧
  d = .lst (vInts [(trP f x w n k (n - 1)).1, (trP f x w n k (n - 1)).2])
def R_transform (ds : List D) (d : D) : Prop := ∃ (n : Int) (x w : List Int), ds = [.int n, .lst (vInts x), .lst (vInts w)] ∧
  ((n < 1 ∨ 64 < n) ∧ d = .lst (vInts [-1]) ∨ ∃ m : Nat, n = (m : Int) ∧ 1 ≤ m ∧ m ≤ 64 ∧ x.length = 2 * m ∧ w.length = 2 * m ∧ d = .lst (vInts (0 :: (List.range m).flatMap fun k => pairA (trP sF x w m k (m - 1)))))
theorem mul2_ok (k : Nat) (h : k ≤ 1000) : IntMulOk 2 (k : Int) := IntMulOk.of_left (intBits_le_64 (by decide) (by decide))
theorem mul_ok {i k : Int} (h : 0 ≤ i) (h2 : i ≤ 1000) : IntMulOk i k := IntMulOk.of_left (intBits_le_64 (by omega) (by omega))
theorem grow_eq (m : Nat) (g : Nat → List Int) : ([V.int 0] : List V) ++ (List.range m).flatMap (fun k => vInts (g k)) = vInts (0 :: (List.range m).flatMap g) := by
  unfold vInts
  rw [List.map_cons, List.map_flatMap]
  rfl
end Cs
end
section
set_option exponentiation.threshold 2000
namespace My
open Sl03 Sl03Neutral

theorem log2_scale {m : Nat} (hm : 0 < m) (j : Nat) : Nat.log2 (m * 2 ^ j) = Nat.log2 m + j := by
  have h0 : m ≠ 0 := by omega
  have h1 := Nat.log2_self_le h0
  have h2 := @Nat.lt_log2_self m
  have hp : 0 < 2 ^ j := Nat.two_pow_pos j
  refine (Nat.log2_eq_iff (Nat.mul_ne_zero h0 (by omega))).mpr ⟨?_, ?_⟩
  · rw [Nat.pow_add]; exact Nat.mul_le_mul_right _ h1
  · have e : Nat.log2 m + j + 1 = (Nat.log2 m + 1) + j := by omega
    rw [e, Nat.pow_add]; exact Nat.mul_lt_mul_of_pos_right h2 hp

theorem even_scale (m k j : Nat) : even (m * 2 ^ j) (k + j) = even m k := by
  have hp : 0 < 2 ^ j := Nat.two_pow_pos j
  unfold even
  have e1 : m * 2 ^ j / 2 ^ (k + j) = m / 2 ^ k := by rw [Nat.pow_add]; exact Nat.mul_div_mul_right _ _ hp
  have e2 : m * 2 ^ j % 2 ^ (k + j) = (m % 2 ^ k) * 2 ^ j := by rw [Nat.pow_add]; exact Nat.mul_mod_mul_right _ _ _
  have e3 : (2 ^ (k + j) < 2 * (m % 2 ^ k * 2 ^ j)) ↔ (2 ^ k < 2 * (m % 2 ^ k)) := by
    rw [Nat.pow_add, ← Nat.mul_assoc]; exact Nat.mul_lt_mul_right hp
  have e4 : (2 * (m % 2 ^ k * 2 ^ j) = 2 ^ (k + j)) ↔ (2 * (m % 2 ^ k) = 2 ^ k) := by
    rw [Nat.pow_add, ← Nat.mul_assoc]; exact Nat.mul_left_inj (by omega)
  rw [e1, e2]
  simp only [e3, e4]

theorem even_zero (m : Nat) : even m 0 = m := by
  unfold even
  simp [Nat.mod_one]

theorem even_exact (m k : Nat) : even (m * 2 ^ k) k = m := by
  have := even_scale m 0 k
  rw [Nat.zero_add, even_zero] at this
  exact this

theorem even_of_zero (k : Nat) : even 0 k = 0 := by
  have := even_exact 0 k
  rw [Nat.zero_mul] at this
  exact this

theorem even_le (n k b : Nat) (h : n < 2 ^ (b + k)) : even n k ≤ 2 ^ b := by
  unfold even
  have h1 : n / 2 ^ k < 2 ^ b := by
    rw [Nat.pow_add] at h
    exact Nat.div_lt_of_lt_mul (by rw [Nat.mul_comm]; exact h)
  split <;> omega

theorem even_ge (n k b : Nat) (h : 2 ^ (b + k) ≤ n) : 2 ^ b ≤ even n k := by
  unfold even
  have hp : 0 < 2 ^ k := Nat.two_pow_pos k
  have h1 : 2 ^ b ≤ n / 2 ^ k := by
    rw [Nat.pow_add] at h
    exact (Nat.le_div_iff_mul_le hp).mpr h
  omega

def unitsN (g : Nat) : Nat := if g / 2 ^ 23 = 0 then g else (2 ^ 23 + g % 2 ^ 23) * 2 ^ (g / 2 ^ 23 - 1)

def sg (s : Bool) : Nat := if s = true then 2147483648 else 0

def Rep : Num → Nat → Prop
  | .nan _, b => b < 4294967296 ∧ 2139095040 < b % 2147483648
  | .inf s, b => b = sg s + 2139095040
  | .fin s m e, b => ∃ g, b = sg s + g ∧ g < 2139095040 ∧ -149 ≤ e ∧ m * 2 ^ (e + 149).toNat = unitsN g

def packed (S Q : Nat) : Nat := S * 2 ^ 23 + Q

theorem unitsN_packed {S Q : Nat} (hQ : Q ≤ 2 ^ 24) (h : 2 ^ 23 ≤ Q ∨ S = 0) : unitsN (packed S Q) = Q * 2 ^ S := by
  unfold unitsN packed
  have c23 : (2 : Nat) ^ 23 = 8388608 := by decide
  have c24 : (2 : Nat) ^ 24 = 16777216 := by decide
  rw [c23] at *
  rw [c24] at hQ
  by_cases h1 : Q < 8388608
  · have hS : S = 0 := by omega
    subst hS
    rw [if_pos (by omega)]
    simp
  · by_cases h2 : Q = 16777216
    · subst h2
      have e1 : (S * 8388608 + 16777216) / 8388608 = S + 2 := by omega
      have e2 : (S * 8388608 + 16777216) % 8388608 = 0 := by omega
      rw [e1, e2, if_neg (by omega)]
      have e3 : S + 2 - 1 = S + 1 := by omega
      rw [e3, Nat.pow_succ]
      omega
    · have e1 : (S * 8388608 + Q) / 8388608 = S + 1 := by omega
      have e2 : (S * 8388608 + Q) % 8388608 = Q - 8388608 := by omega
      rw [e1, e2, if_neg (by omega)]
      have e3 : S + 1 - 1 = S := by omega
      have e4 : 8388608 + (Q - 8388608) = Q := by omega
      rw [e3, e4]

theorem over_iff {S Q : Nat} (hQ : Q ≤ 2 ^ 24) (h : 2 ^ 23 ≤ Q ∨ S = 0) : Q * 2 ^ S < 2 ^ 277 ↔ packed S Q < 2139095040 := by
  unfold packed
  have c23 : (2 : Nat) ^ 23 = 8388608 := by decide
  have c24 : (2 : Nat) ^ 24 = 16777216 := by decide
  have e1 : (2 : Nat) ^ 277 = 2 ^ 24 * 2 ^ 253 := Nat.pow_add 2 24 253
  have e2 : (2 : Nat) ^ 254 = 2 * 2 ^ 253 := Nat.pow_succ'
  have e3 : (2 : Nat) ^ 253 = 2 * 2 ^ 252 := Nat.pow_succ'
  have p : 0 < (2 : Nat) ^ 252 := Nat.two_pow_pos _
  have m1 : 254 ≤ S → (2 : Nat) ^ 254 ≤ 2 ^ S := fun h => Nat.pow_le_pow_right (by decide) h
  have m2 : S ≤ 252 → (2 : Nat) ^ S ≤ 2 ^ 252 := fun h => Nat.pow_le_pow_right (by decide) h
  have m3 : S = 253 → (2 : Nat) ^ S = 2 * 2 ^ 252 := by
    intro hs
    subst hs
    exact e3
  rw [e1]
  rw [e2, e3] at m1
  rw [c23, c24, e3] at *
  generalize (2 : Nat) ^ 252 = P at *
  generalize (2 : Nat) ^ S = T at *
  clear e1 e2 e3 c23 c24
  constructor
  · intro hlt
    by_cases hS : S ≤ 252
    · omega
    · have hQ23 : 8388608 ≤ Q := by omega
      by_cases hS2 : S = 253
      · have t := m3 hS2
        rw [t] at hlt
        have : Q < 16777216 := Nat.lt_of_mul_lt_mul_right hlt
        omega
      · exfalso
        have h1 : 8388608 * (2 * (2 * P)) ≤ Q * T := Nat.mul_le_mul hQ23 (m1 (by omega))
        omega
  · intro hlt
    by_cases hS2 : S ≤ 252
    · have h1 : Q * T ≤ 16777216 * P := Nat.mul_le_mul hQ (m2 hS2)
      omega
    · have hS3 : S = 253 := by omega
      rw [m3 hS3]
      exact Nat.mul_lt_mul_of_pos_right (by omega) (by omega)
end My
end
section
set_option exponentiation.threshold 2000
namespace My
open Sl03 Sl03Neutral

def expo (V d : Nat) : Nat := Nat.log2 V - (23 + d)

def near (V d : Nat) : Nat := min 2139095040 (packed (expo V d) (even V (expo V d + d)))

theorem near_parts {V d : Nat} (hV : 0 < V) : even V (expo V d + d) ≤ 2 ^ 24 ∧ (2 ^ 23 ≤ even V (expo V d + d) ∨ expo V d = 0) := by
  have h0 : V ≠ 0 := by omega
  have h1 := Nat.log2_self_le h0
  have h2 := @Nat.lt_log2_self V
  unfold expo
  by_cases h : 23 + d ≤ Nat.log2 V
  · have e : V.log2 - (23 + d) + d = V.log2 - 23 := by omega
    rw [e]
    refine ⟨even_le _ _ 24 ?_, .inl (even_ge _ _ 23 ?_)⟩
    · have : 24 + (V.log2 - 23) = V.log2 + 1 := by omega
      rw [this]; exact h2
    · have : 23 + (V.log2 - 23) = V.log2 := by omega
      rw [this]; exact h1
  · refine ⟨even_le _ _ 24 ?_, .inr (by omega)⟩
    refine Nat.lt_of_lt_of_le h2 (Nat.pow_le_pow_right (by decide) (by omega))

theorem sg_lt (s : Bool) : sg s ≤ 2147483648 := by cases s <;> decide

theorem rep_of_parts {s : Bool} {q : Nat} {x : Int} {S Q : Nat} (hQ : Q ≤ 2 ^ 24) (h : 2 ^ 23 ≤ Q ∨ S = 0) (hx : -149 ≤ x)
    (e : q * 2 ^ (x + 149).toNat = Q * 2 ^ S) :
    Rep (if q * 2 ^ (x - single.least).toNat < 2 ^ (single.bits + (single.most - single.least).toNat) then .fin s q x else .inf s) (sg s + min 2139095040 (packed S Q)) := by
  have o := over_iff hQ h
  have e1 : x - single.least = x + 149 := by show x - (-149) = x + 149; omega
  have e2 : single.bits + (single.most - single.least).toNat = 277 := by decide
  rw [e1, e2, e]
  by_cases c : Q * 2 ^ S < 2 ^ 277
  · rw [if_pos c]
    have c' := o.mp c
    refine ⟨packed S Q, ?_, c', hx, ?_⟩
    · rw [Nat.min_eq_right (by omega)]
    · rw [unitsN_packed hQ h]; exact e
  · rw [if_neg c]
    have c' : ¬ packed S Q < 2139095040 := fun k => c (o.mpr k)
    show _ = _
    rw [Nat.min_eq_left (by omega)]

theorem rounded_rep (s : Bool) (m : Nat) (e : Int) (d : Nat) (hm : 0 < m) (he : -149 - (d : Int) ≤ e) :
    Rep (rounded single (.fin s m e)) (sg s + near (m * 2 ^ (e + 149 + d).toNat) d) := by
  have hV : 0 < m * 2 ^ (e + 149 + d).toNat := Nat.mul_pos hm (Nat.two_pow_pos _)
  have hl := log2_scale hm (e + 149 + d).toNat
  obtain ⟨p1, p2⟩ := near_parts (d := d) hV
  unfold rounded near
  have hb : single.bits = 24 := rfl
  have hle : single.least = -149 := rfl
  dsimp only
  rw [if_neg (show ¬ m = 0 by omega)]
  by_cases k : max ((Nat.log2 m : Int) + 1 - (single.bits : Int)) (single.least - e) ≤ 0
  · simp only [if_pos k]
    have k' : max ((Nat.log2 m : Int) + 1 - 24) (-149 - e) ≤ 0 := k
    refine rep_of_parts p1 p2 (by omega) ?_
    -- exact
    have a1 : expo (m * 2 ^ (e + 149 + d).toNat) d ≤ (e + 149).toNat := by unfold expo; rw [hl]; omega
    have a2 : (e + 149 + d).toNat = ((e + 149).toNat - expo (m * 2 ^ (e + 149 + d).toNat) d) + (expo (m * 2 ^ (e + 149 + d).toNat) d + d) := by omega
    generalize expo (m * 2 ^ (e + 149 + d).toNat) d = S at *
    rw [a2, Nat.pow_add, ← Nat.mul_assoc, even_exact, Nat.mul_assoc, ← Nat.pow_add]
    congr 2
    omega
  · simp only [if_neg k]
    have k' : ¬ max ((Nat.log2 m : Int) + 1 - 24) (-149 - e) ≤ 0 := k
    show Rep (if _ * 2 ^ ((e + max ((Nat.log2 m : Int) + 1 - 24) (-149 - e)) - single.least).toNat < _ then _ else _) _
    have a1 : e + max ((Nat.log2 m : Int) + 1 - 24) (-149 - e) + 149 = (expo (m * 2 ^ (e + 149 + d).toNat) d : Nat) := by unfold expo; rw [hl]; omega
    have a2 : expo (m * 2 ^ (e + 149 + d).toNat) d + d = (max ((Nat.log2 m : Int) + 1 - 24) (-149 - e)).toNat + (e + 149 + d).toNat := by omega
    have a3 : even (m * 2 ^ (e + 149 + d).toNat) (expo (m * 2 ^ (e + 149 + d).toNat) d + d) = even m (max ((Nat.log2 m : Int) + 1 - 24) (-149 - e)).toNat := by
      rw [a2, even_scale]
    refine rep_of_parts p1 p2 (by omega) ?_
    rw [a3, a1]
    rfl

theorem bitsOf_rep {n : Num} {b : Nat} (h : Rep n b) : bitsOf n = (if 2139095040 < b % 2147483648 then 4294967296 else b : Nat) := by
  cases n with
  | nan s =>
    obtain ⟨h1, h2⟩ := h
    rw [if_pos h2]; rfl
  | inf s =>
    have h' : b = sg s + 2139095040 := h
    subst h'
    cases s <;> decide
  | fin s m e =>
    obtain ⟨g, h1, h2, h3, h4⟩ := h
    have hs : (sg s + g) % 2147483648 = g := by cases s <;> (unfold sg; simp; omega)
    subst h1
    rw [hs, if_neg (by omega)]
    unfold bitsOf
    dsimp only
    have ht : (if s = true then 2 ^ 31 else 0) = sg s := rfl
    rw [ht]
    unfold unitsN at h4
    have c23 : (2 : Nat) ^ 23 = 8388608 := by decide
    by_cases hm : m = 0
    · subst hm
      rw [if_pos rfl]
      rw [Nat.zero_mul] at h4
      split at h4
      · rw [← h4]; rfl
      · exfalso
        have := Nat.mul_pos (show 0 < 2 ^ 23 + g % 2 ^ 23 by omega) (Nat.two_pow_pos (g / 2 ^ 23 - 1))
        omega
    · rw [if_neg hm]
      have hl := log2_scale (show 0 < m by omega) (e + 149).toNat
      rw [h4] at hl
      by_cases hg : g / 2 ^ 23 = 0
      · rw [if_pos hg] at hl h4
        have hg0 : g ≠ 0 := by
          intro z
          rw [z] at h4
          have := Nat.mul_pos (show 0 < m by omega) (Nat.two_pow_pos (e + 149).toNat)
          omega
        have l1 : Nat.log2 g < 23 := (Nat.log2_lt hg0).mpr (by omega)
        have x1 : max (-149) (e + (Nat.log2 m : Nat) - 23) = -149 := by omega
        rw [x1, if_pos h3]
        have x2 : e - -149 = e + 149 := by omega
        rw [x2, h4, if_neg (by omega)]
      · rw [if_neg hg] at hl h4
        have l1 : Nat.log2 ((2 ^ 23 + g % 2 ^ 23) * 2 ^ (g / 2 ^ 23 - 1)) = 23 + (g / 2 ^ 23 - 1) := by
          rw [log2_scale (by omega)]
          congr 1
          exact (Nat.log2_eq_iff (by omega)).mpr ⟨by omega, by omega⟩
        rw [l1] at hl
        have x1 : max (-149) (e + (Nat.log2 m : Nat) - 23) = ((g / 2 ^ 23 : Nat) : Int) - 150 := by omega
        rw [x1]
        have key : (if ((g / 2 ^ 23 : Nat) : Int) - 150 ≤ e then m * 2 ^ (e - (((g / 2 ^ 23 : Nat) : Int) - 150)).toNat else m / 2 ^ ((((g / 2 ^ 23 : Nat) : Int) - 150) - e).toNat) = 2 ^ 23 + g % 2 ^ 23 := by
          by_cases c : ((g / 2 ^ 23 : Nat) : Int) - 150 ≤ e
          · rw [if_pos c]
            have y : (e + 149).toNat = (e - (((g / 2 ^ 23 : Nat) : Int) - 150)).toNat + (g / 2 ^ 23 - 1) := by omega
            rw [y, Nat.pow_add, ← Nat.mul_assoc] at h4
            exact Nat.eq_of_mul_eq_mul_right (Nat.two_pow_pos _) h4
          · rw [if_neg c]
            have y : g / 2 ^ 23 - 1 = ((((g / 2 ^ 23 : Nat) : Int) - 150) - e).toNat + (e + 149).toNat := by omega
            rw [y, Nat.pow_add, ← Nat.mul_assoc] at h4
            have h5 := Nat.eq_of_mul_eq_mul_right (Nat.two_pow_pos _) h4
            rw [h5]
            exact Nat.mul_div_cancel _ (Nat.two_pow_pos _)
        rw [key]
        congr 2
        rw [if_pos (by omega)]
        omega
end My
end
section
set_option exponentiation.threshold 2000
namespace My
open Sl03 Sl03Neutral

def isNaNb (x : Nat) : Prop := 2139095040 < x % 2147483648
instance isNaNb_dec (x : Nat) : Decidable (isNaNb x) := by unfold isNaNb; infer_instance
def isInfb (x : Nat) : Prop := x % 2147483648 = 2139095040
instance isInfb_dec (x : Nat) : Decidable (isInfb x) := by unfold isInfb; infer_instance
def signb (x : Nat) : Bool := decide (2147483648 ≤ x)

def unitsZ (x : Nat) : Int := if 2147483648 ≤ x then -(unitsN (x % 2147483648) : Int) else (unitsN (x % 2147483648) : Int)

def sumZ (x y : Nat) : Int := unitsZ x + unitsZ y

def finSum (x y : Nat) : Nat :=
  sg (if sumZ x y = 0 then signb x && signb y else decide (sumZ x y < 0)) + near (sumZ x y).natAbs 0

def plusN (x y : Nat) : Nat :=
  if isNaNb x ∨ isNaNb y then 2147483647
  else if isInfb x ∧ isInfb y ∧ x ≠ y then 2147483647
  else if isInfb x then x
  else if isInfb y then y
  else finSum x y

theorem unitsZ_sg (s : Bool) {g : Nat} (h : g < 2139095040) : unitsZ (sg s + g) = (if s = true then -1 else 1) * (unitsN g : Int) := by
  unfold unitsZ sg
  cases s
  · simp only [Bool.false_eq_true, if_false, Nat.zero_add]
    rw [if_neg (by omega), Nat.mod_eq_of_lt (by omega)]
    omega
  · simp only [if_true]
    rw [if_pos (by omega)]
    have : (2147483648 + g) % 2147483648 = g := by omega
    rw [this]; omega

theorem near_zero (d : Nat) : near 0 d = 0 := by
  unfold near
  rw [even_of_zero]
  have : expo 0 d = 0 := by unfold expo; simp
  rw [this]; rfl

theorem unitsN_eq_zero {g : Nat} (h : unitsN g = 0) : g = 0 := by
  unfold unitsN at h
  split at h
  · exact h
  · exfalso
    have := Nat.mul_pos (show 0 < 2 ^ 23 + g % 2 ^ 23 by omega) (Nat.two_pow_pos (g / 2 ^ 23 - 1))
    omega

theorem rep_zero (s : Bool) : Rep (.fin s 0 0) (sg s) := ⟨0, rfl, by decide, by decide, by rw [Nat.zero_mul]; rfl⟩

theorem value_units {s : Bool} {m : Nat} {x e : Int} (h1 : e ≤ x) (h2 : -149 ≤ e) :
    value s m x e * ((2 ^ (e + 149).toNat : Nat) : Int) = (if s = true then -1 else 1) * ((m * 2 ^ (x + 149).toNat : Nat) : Int) := by
  unfold value
  rw [Int.mul_assoc, ← Int.natCast_mul, Nat.mul_assoc, ← Nat.pow_add]
  congr 4
  omega

theorem signb_sg (s : Bool) {g : Nat} (h : g < 2147483648) : signb (sg s + g) = s := by
  unfold signb sg
  cases s
  · simp; omega
  · simp

theorem nan_sg (s : Bool) {g : Nat} (h : g < 2139095040) : ¬ isNaNb (sg s + g) ∧ ¬ isInfb (sg s + g) := by
  unfold isNaNb isInfb sg
  cases s <;> simp <;> omega

theorem inf_sg (s : Bool) : ¬ isNaNb (sg s + 2139095040) ∧ isInfb (sg s + 2139095040) := by
  cases s <;> decide

theorem add_fin {s t : Bool} {m n : Nat} {x y : Int} {a b : Nat} (ha : Rep (.fin s m x) a) (hb : Rep (.fin t n y) b) :
    Rep (add single (.fin s m x) (.fin t n y)) (finSum a b) := by
  obtain ⟨g, a1, a2, a3, a4⟩ := ha
  obtain ⟨k, b1, b2, b3, b4⟩ := hb
  have u1 := unitsZ_sg s a2
  have u2 := unitsZ_sg t b2
  rw [← a1] at u1
  rw [← b1] at u2
  have v1 := value_units (s := s) (m := m) (x := x) (e := min x y) (by omega) (by omega)
  have v2 := value_units (s := t) (m := n) (x := y) (e := min x y) (by omega) (by omega)
  rw [a4, ← u1] at v1
  rw [b4, ← u2] at v2
  have hz : (value s m x (min x y) + value t n y (min x y)) * ((2 ^ (min x y + 149).toNat : Nat) : Int) = sumZ a b := by
    rw [Int.add_mul, v1, v2]; rfl
  have hp : (0 : Int) < ((2 ^ (min x y + 149).toNat : Nat) : Int) := by
    have := Nat.two_pow_pos (min x y + 149).toNat
    omega
  have sa : signb a = s := by rw [a1]; exact signb_sg s (by omega)
  have sb : signb b = t := by rw [b1]; exact signb_sg t (by omega)
  unfold add finSum
  dsimp only
  generalize value s m x (min x y) + value t n y (min x y) = z at *
  by_cases c : z = 0
  · have c2 : sumZ a b = 0 := by rw [← hz, c]; omega
    rw [if_pos c, c2, if_pos rfl, sa, sb]
    have e : near (Int.natAbs 0) 0 = 0 := near_zero 0
    rw [e, Nat.add_zero]
    have q : (if m = 0 ∧ n = 0 then s && t else false) = (s && t) := by
      by_cases mn : m = 0 ∧ n = 0
      · rw [if_pos mn]
      · rw [if_neg mn]
        cases s <;> cases t <;> try rfl
        exfalso
        unfold sumZ at c2
        rw [u1, u2] at c2
        have z1 : unitsN g = 0 := by simp at c2; omega
        have z2 : unitsN k = 0 := by simp at c2; omega
        rw [z1] at a4
        rw [z2] at b4
        have p1 := Nat.two_pow_pos (x + 149).toNat
        have p2 := Nat.two_pow_pos (y + 149).toNat
        have r1 := Nat.mul_eq_zero.mp a4
        have r2 := Nat.mul_eq_zero.mp b4
        omega
    rw [q]
    exact rep_zero _
  · have c2 : sumZ a b ≠ 0 := by
      rw [← hz]
      exact Int.mul_ne_zero c (by omega)
    rw [if_neg c, if_neg c2]
    have r := rounded_rep (decide (z < 0)) z.natAbs (min x y) 0 (by omega) (by omega)
    have e1 : decide (z < 0) = decide (sumZ a b < 0) := by
      rw [← hz]
      by_cases zn : z < 0
      · have := Int.mul_neg_of_neg_of_pos zn hp
        simp only [zn, this]
      · have := Int.mul_nonneg (show 0 ≤ z by omega) (Int.le_of_lt hp)
        have n2 : ¬ z * ((2 ^ (min x y + 149).toNat : Nat) : Int) < 0 := by omega
        simp only [zn, n2]
    have e2 : z.natAbs * 2 ^ (min x y + 149 + ((0 : Nat) : Int)).toNat = (sumZ a b).natAbs := by
      rw [← hz, Int.natAbs_mul, Int.natAbs_natCast]
      congr 3
      omega
    rw [e2] at r
    rw [← e1]
    exact r

theorem add_rep {p q : Num} {a b : Nat} (ha : Rep p a) (hb : Rep q b) : Rep (add single p q) (plusN a b) := by
  have nn : ∀ s : Bool, Rep (.nan s) 2147483647 := fun s => ⟨by decide, by decide⟩
  cases p with
  | nan s =>
    have h : isNaNb a := ha.2
    unfold plusN
    rw [if_pos (.inl h)]
    exact nn s
  | inf s =>
    have ha' : a = sg s + 2139095040 := ha
    obtain ⟨i1, i2⟩ := inf_sg s
    rw [← ha'] at i1 i2
    cases q with
    | nan t =>
      have h : isNaNb b := hb.2
      unfold plusN
      rw [if_pos (.inr h)]
      exact nn t
    | inf t =>
      have hb' : b = sg t + 2139095040 := hb
      obtain ⟨j1, j2⟩ := inf_sg t
      rw [← hb'] at j1 j2
      unfold plusN
      rw [if_neg (by simp [i1, j1])]
      show Rep (if s = t then .inf s else .nan true) _
      by_cases st : s = t
      · rw [if_pos st]
        have ab : a = b := by rw [ha', hb', st]
        rw [if_neg (by simp [ab]), if_pos i2]
        exact ha'
      · rw [if_neg st]
        have ab : a ≠ b := by
          rw [ha', hb']
          cases s <;> cases t <;> first | (exact absurd rfl st) | decide
        rw [if_pos ⟨i2, j2, ab⟩]
        exact nn true
    | fin t n y =>
      obtain ⟨k, b1, b2, _, _⟩ := hb
      obtain ⟨j1, j2⟩ := nan_sg t b2
      rw [← b1] at j1 j2
      unfold plusN
      rw [if_neg (by simp [i1, j1]), if_neg (by simp [j2]), if_pos i2]
      exact ha'
  | fin s m x =>
    obtain ⟨g, a1, a2, _, _⟩ := id ha
    obtain ⟨i1, i2⟩ := nan_sg s a2
    rw [← a1] at i1 i2
    cases q with
    | nan t =>
      have h : isNaNb b := hb.2
      unfold plusN
      rw [if_pos (.inr h)]
      exact nn t
    | inf t =>
      have hb' : b = sg t + 2139095040 := hb
      obtain ⟨j1, j2⟩ := inf_sg t
      rw [← hb'] at j1 j2
      unfold plusN
      rw [if_neg (by simp [i1, j1]), if_neg (by simp [i2]), if_neg i2, if_pos j2]
      exact hb'
    | fin t n y =>
      obtain ⟨k, b1, b2, _, _⟩ := id hb
      obtain ⟨j1, j2⟩ := nan_sg t b2
      rw [← b1] at j1 j2
      unfold plusN
      rw [if_neg (by simp [i1, j1]), if_neg (by simp [i2]), if_neg i2, if_neg j2]
      exact add_fin ha hb

theorem ofBits_rep {b : Nat} (h : b < 4294967296) : Rep (ofBits b) b := by
  have c31 : (2 : Nat) ^ 31 = 2147483648 := by decide
  have c23 : (2 : Nat) ^ 23 = 8388608 := by decide
  have hs : sg (b / 2147483648 % 2 == 1) + b % 2147483648 = b := by
    by_cases k : b / 2147483648 % 2 = 1
    · simp only [k, beq_self_eq_true]
      unfold sg; simp; omega
    · have : (b / 2147483648 % 2 == 1) = false := by simp [k]
      rw [this]; unfold sg; simp; omega
  unfold ofBits
  simp only [c31, c23]
  generalize (b / 2147483648 % 2 == 1) = s at *
  by_cases x : b / 8388608 % 256 = 255
  · rw [if_pos x]
    by_cases m : b % 8388608 = 0
    · rw [if_pos m]
      show b = sg s + 2139095040
      omega
    · rw [if_neg m]
      exact ⟨h, by omega⟩
  · rw [if_neg x]
    by_cases x0 : b / 8388608 % 256 = 0
    · rw [if_pos x0]
      refine ⟨b % 2147483648, hs.symm, by omega, by decide, ?_⟩
      unfold unitsN
      rw [if_pos (by omega)]
      simp
      omega
    · rw [if_neg x0]
      refine ⟨b % 2147483648, hs.symm, by omega, by omega, ?_⟩
      unfold unitsN
      rw [c23, if_neg (by omega)]
      have e1 : b % 2147483648 % 8388608 = b % 8388608 := by omega
      have e2 : b % 2147483648 / 8388608 = b / 8388608 % 256 := by omega
      rw [e1, e2]
      congr 2
      omega

theorem neg_rep {p : Num} {a : Nat} (h : Rep p a) : Rep p.neg (if 2147483648 ≤ a then a - 2147483648 else a + 2147483648) := by
  cases p with
  | nan s =>
    obtain ⟨h1, h2⟩ := h
    refine ⟨?_, ?_⟩ <;> split <;> omega
  | inf s =>
    have h' : a = sg s + 2139095040 := h
    subst h'
    cases s <;> rfl
  | fin s m e =>
    obtain ⟨g, h1, h2, h3, h4⟩ := h
    refine ⟨g, ?_, h2, h3, h4⟩
    subst h1
    cases s
    · unfold sg; simp only [Bool.false_eq_true, if_false, if_true, Bool.not_false]; rw [if_neg (by omega)]; omega
    · unfold sg; simp only [Bool.false_eq_true, if_false, if_true, Bool.not_true]; rw [if_pos (by omega)]; omega

def told (b : Nat) : Nat := if 2139095040 < b % 2147483648 then 4294967296 else b
def oppN (a : Nat) : Nat := if 2147483648 ≤ a then a - 2147483648 else a + 2147483648

end My
end
section
set_option exponentiation.threshold 2000
namespace My
open Sl03 Sl03Neutral

def timesN (x y : Nat) : Nat :=
  if isNaNb x ∨ isNaNb y then 2147483647
  else if isInfb x ∨ isInfb y then
    (if x % 2147483648 = 0 ∨ y % 2147483648 = 0 then 2147483647 else sg (signb x != signb y) + 2139095040)
  else sg (signb x != signb y) + near (unitsN (x % 2147483648) * unitsN (y % 2147483648)) 149

theorem mod_sg (s : Bool) {g : Nat} (h : g < 2147483648) : (sg s + g) % 2147483648 = g := by
  unfold sg
  cases s <;> simp <;> omega

theorem mul_fin {s t : Bool} {m n : Nat} {x y : Int} {a b : Nat} (ha : Rep (.fin s m x) a) (hb : Rep (.fin t n y) b) :
    Rep (mul single (.fin s m x) (.fin t n y)) (sg (signb a != signb b) + near (unitsN (a % 2147483648) * unitsN (b % 2147483648)) 149) := by
  obtain ⟨g, a1, a2, a3, a4⟩ := ha
  obtain ⟨k, b1, b2, b3, b4⟩ := hb
  subst a1 b1
  rw [signb_sg s (by omega), signb_sg t (by omega), mod_sg s (by omega), mod_sg t (by omega), ← a4, ← b4]
  show Rep (rounded single (.fin (s != t) (m * n) (x + y))) _
  by_cases c : m * n = 0
  · have z : m * 2 ^ (x + 149).toNat * (n * 2 ^ (y + 149).toNat) = 0 := by
      rcases Nat.mul_eq_zero.mp c with h | h <;> rw [h] <;> simp
    rw [z, near_zero, c]
    have r : rounded single (.fin (s != t) 0 (x + y)) = .fin (s != t) 0 0 := by
      unfold rounded; simp
    rw [r]
    exact rep_zero _
  · have r := rounded_rep (s != t) (m * n) (x + y) 149 (by omega) (by omega)
    have e : m * n * 2 ^ (x + y + 149 + ((149 : Nat) : Int)).toNat = m * 2 ^ (x + 149).toNat * (n * 2 ^ (y + 149).toNat) := by
      have e1 : (x + y + 149 + ((149 : Nat) : Int)).toNat = (x + 149).toNat + (y + 149).toNat := by omega
      rw [e1, Nat.pow_add]
      simp only [Nat.mul_assoc, Nat.mul_left_comm]
    rw [e] at r
    exact r

theorem isZero_rep {p : Num} {a : Nat} (h : Rep p a) : p.isZero = decide (a % 2147483648 = 0) := by
  cases p with
  | nan s =>
    have := h.2
    simp [Num.isZero]; omega
  | inf s =>
    have h' : a = sg s + 2139095040 := h
    subst h'
    cases s <;> rfl
  | fin s m e =>
    obtain ⟨g, h1, h2, h3, h4⟩ := h
    subst h1
    rw [mod_sg s (by omega)]
    show (m == 0) = _
    by_cases m0 : m = 0
    · subst m0
      rw [Nat.zero_mul] at h4
      have := unitsN_eq_zero h4.symm
      simp [this]
    · have : g ≠ 0 := by
        intro z
        subst z
        have p := Nat.mul_pos (show 0 < m by omega) (Nat.two_pow_pos (e + 149).toNat)
        rw [h4] at p
        exact absurd p (by decide)
      simp [m0, this]

theorem sign_rep {p : Num} {a : Nat} (h : Rep p a) (hn : ¬ isNaNb a) : p.sign = signb a := by
  cases p with
  | nan s => exact absurd h.2 hn
  | inf s =>
    have h' : a = sg s + 2139095040 := h
    subst h'
    cases s <;> rfl
  | fin s m e =>
    obtain ⟨g, h1, h2, h3, h4⟩ := h
    subst h1
    rw [signb_sg s (by omega)]; rfl

theorem isNaN_rep {p : Num} {a : Nat} (h : Rep p a) : p.isNaN = decide (isNaNb a) := by
  cases p with
  | nan s =>
    have : isNaNb a := h.2
    simp [Num.isNaN, this]
  | inf s =>
    have h' : a = sg s + 2139095040 := h
    subst h'
    cases s <;> rfl
  | fin s m e =>
    obtain ⟨g, h1, h2, h3, h4⟩ := h
    subst h1
    simp [Num.isNaN, (nan_sg s h2).1]

theorem isInf_rep {p : Num} {a : Nat} (h : Rep p a) : p.isInf = decide (isInfb a) := by
  cases p with
  | nan s =>
    have : ¬ isInfb a := by have := h.2; unfold isInfb; omega
    simp [Num.isInf, this]
  | inf s =>
    have h' : a = sg s + 2139095040 := h
    subst h'
    cases s <;> rfl
  | fin s m e =>
    obtain ⟨g, h1, h2, h3, h4⟩ := h
    subst h1
    simp [Num.isInf, (nan_sg s h2).2]

theorem mul_rep {p q : Num} {a b : Nat} (ha : Rep p a) (hb : Rep q b) : Rep (mul single p q) (timesN a b) := by
  have nn : ∀ s : Bool, Rep (.nan s) 2147483647 := fun s => ⟨by decide, by decide⟩
  have za := isZero_rep ha
  have zb := isZero_rep hb
  cases p with
  | nan s =>
    have h : isNaNb a := ha.2
    unfold timesN
    rw [if_pos (.inl h)]
    exact nn s
  | inf s =>
    have ha' : a = sg s + 2139095040 := ha
    obtain ⟨i1, i2⟩ := inf_sg s
    rw [← ha'] at i1 i2
    have sa : signb a = s := by rw [ha']; exact signb_sg s (by omega)
    have a0 : ¬ a % 2147483648 = 0 := by unfold isInfb at i2; omega
    by_cases bn : isNaNb b
    · unfold timesN
      rw [if_pos (.inr bn)]
      cases q with
      | nan t => exact nn t
      | inf t => exact absurd bn (by rw [show b = sg t + 2139095040 from hb]; exact (inf_sg t).1)
      | fin t n y => 
        obtain ⟨k, b1, b2, _, _⟩ := hb
        exact absurd bn (by rw [b1]; exact (nan_sg t b2).1)
    · have sb := sign_rep hb bn
      have nb := isNaN_rep hb
      unfold timesN
      rw [if_neg (by simp [i1, bn]), if_pos (.inl i2)]
      have m : mul single (.inf s) q = if q.isZero = true then .nan true else .inf (s != q.sign) := by
        cases q with
        | nan t => simp [Num.isNaN, bn] at nb
        | inf t => rfl
        | fin t n y => rfl
      rw [m, zb, sb, sa]
      by_cases b0 : b % 2147483648 = 0
      · rw [if_pos (by simp [b0]), if_pos (.inr b0)]
        exact nn true
      · rw [if_neg (by simp [b0]), if_neg (by simp [a0, b0])]
        exact rfl
  | fin s m x =>
    obtain ⟨g, a1, a2, _, _⟩ := id ha
    obtain ⟨i1, i2⟩ := nan_sg s a2
    rw [← a1] at i1 i2
    have sa : signb a = s := by rw [a1]; exact signb_sg s (by omega)
    cases q with
    | nan t =>
      have h : isNaNb b := hb.2
      unfold timesN
      rw [if_pos (.inr h)]
      exact nn t
    | inf t =>
      have hb' : b = sg t + 2139095040 := hb
      obtain ⟨j1, j2⟩ := inf_sg t
      rw [← hb'] at j1 j2
      have sb : signb b = t := by rw [hb']; exact signb_sg t (by omega)
      have b0 : ¬ b % 2147483648 = 0 := by unfold isInfb at j2; omega
      unfold timesN
      rw [if_neg (by simp [i1, j1]), if_pos (.inr j2)]
      show Rep (if (Num.fin s m x).isZero = true then .nan true else .inf (s != t)) _
      rw [za, sa, sb]
      by_cases a0 : a % 2147483648 = 0
      · rw [if_pos (by simp [a0]), if_pos (.inl a0)]
        exact nn true
      · rw [if_neg (by simp [a0]), if_neg (by simp [a0, b0])]
        exact rfl
    | fin t n y =>
      obtain ⟨k, b1, b2, _, _⟩ := id hb
      obtain ⟨j1, j2⟩ := nan_sg t b2
      rw [← b1] at j1 j2
      unfold timesN
      rw [if_neg (by simp [i1, j1]), if_neg (by simp [i2, j2])]
      exact mul_fin ha hb
end My
end
section
set_option Elab.async false
set_option linter.all false
set_option maxRecDepth 100000
set_option exponentiation.threshold 4000
namespace Cs
open PySem PyProof.Rows
open Builtin.Int (intBits)

theorem and_pow (x : Int) (n : Nat) (h0 : 0 ≤ x) (h : x < 2 * ((2 ^ n : Nat) : Int)) : Builtin.bitAnd x ((2 ^ n : Nat) : Int) = if ((2 ^ n : Nat) : Int) ≤ x then ((2 ^ n : Nat) : Int) else 0 := by
  have hp : 0 < 2 ^ n := Nat.two_pow_pos n
  unfold Builtin.bitAnd
  rw [decide_eq_true h0, decide_eq_true (show (0 : Int) ≤ ((2 ^ n : Nat) : Int) by omega)]
  dsimp only
  rw [Int.toNat_natCast]
  obtain ⟨m, rfl⟩ := Int.eq_ofNat_of_zero_le h0
  rw [Int.toNat_natCast]
  have key : m &&& 2 ^ n = if 2 ^ n ≤ m then 2 ^ n else 0 := by
    refine Nat.eq_of_testBit_eq fun i => ?_
    rw [Nat.testBit_and, Nat.testBit_two_pow]
    by_cases hi : n = i
    · subst hi
      rw [decide_eq_true rfl, Bool.and_true, Nat.testBit_eq_decide_div_mod_eq]
      by_cases c : 2 ^ n ≤ m
      · have e : m / 2 ^ n = 1 := Nat.div_eq_of_lt_le (by omega) (by omega)
        rw [e, if_pos c, Nat.testBit_two_pow]
        simp
      · rw [Nat.div_eq_of_lt (by omega), if_neg c]
        simp
    · rw [decide_eq_false hi, Bool.and_false]
      split
      · rw [Nat.testBit_two_pow, decide_eq_false hi]
      · simp
  rw [key]
  by_cases c : 2 ^ n ≤ m
  · rw [if_pos c, if_pos (by omega)]
  · rw [if_neg c, if_neg (by omega)]; rfl
theorem xor_pow (x : Int) (n : Nat) (h0 : 0 ≤ x) (h : x < 2 * ((2 ^ n : Nat) : Int)) : Builtin.bitXor x ((2 ^ n : Nat) : Int) = if ((2 ^ n : Nat) : Int) ≤ x then x - ((2 ^ n : Nat) : Int) else x + ((2 ^ n : Nat) : Int) := by
  rw [bitXor_and, and_pow x n h0 h]
  split <;> omega
theorem oppI_s {x : Int} (h : 0 ≤ x ∧ x ≤ 4294967295) : oppI sF x = ((My.oppN x.toNat : Nat) : Int) := by
  have e := xor_pow x 31 h.1 (by have : (2 ^ 31 : Nat) = 2147483648 := by decide
                                 omega)
  have c : ((2 ^ 31 : Nat) : Int) = 2147483648 := by decide
  rw [c] at e
  show Builtin.bitXor x 2147483648 = _
  rw [e]
  unfold My.oppN
  split <;> split <;> omega
theorem ansI_s {x : Int} (h : 0 ≤ x ∧ x ≤ 4294967295) : ansI sF x = ((My.told x.toNat : Nat) : Int) := by
  unfold ansI nanB magI My.told
  have e1 : sF.sb = 2147483648 := rfl
  have e2 : sF.inf = 2139095040 := rfl
  rw [e1, e2]
  by_cases c : 2139095040 < x % 2147483648
  · rw [if_pos (by simpa using c), if_pos (by omega)]; rfl
  · rw [if_neg (by simpa using c), if_neg (by omega)]; omega
end Cs
end
section
set_option Elab.async false
set_option linter.all false
set_option maxRecDepth 100000
set_option exponentiation.threshold 5000
namespace Cs
open PySem PyProof.Rows
open Builtin.Int (intBits)

theorem log2_div (V d : Nat) (h : 2 ^ d ≤ V) : Nat.log2 (V / 2 ^ d) = Nat.log2 V - d := by
  have hp : 0 < 2 ^ d := Nat.two_pow_pos d
  have h0 : V ≠ 0 := by omega
  have h1 := Nat.log2_self_le h0
  have h2 := @Nat.lt_log2_self V
  have hd : d ≤ Nat.log2 V := (Nat.le_log2 h0).mpr h
  have e1 : V / 2 ^ d ≠ 0 := Nat.ne_of_gt (Nat.div_pos h hp)
  refine (Nat.log2_eq_iff e1).mpr ⟨?_, ?_⟩
  · rw [Nat.le_div_iff_mul_le hp, ← Nat.pow_add, Nat.sub_add_cancel hd]; exact h1
  · rw [Nat.div_lt_iff_lt_mul hp, ← Nat.pow_add]
    have : V.log2 - d + 1 + d = V.log2 + 1 := by omega
    rw [this]; exact h2
theorem bits_nat (n : Nat) : intBits (n : Int) = if n = 0 then 0 else Nat.log2 n + 1 := by
  unfold Builtin.Int.intBits
  by_cases h : n = 0
  · subst h; rfl
  · rw [if_neg h]
    have : ((n : Int) == 0) = false := by simp; omega
    rw [this]
    simp
namespace S
open My
theorem sup_is (V d : Nat) : supI sF (V : Int) ((2 ^ d : Nat) : Int) = ((expo V d : Nat) : Int) := by
  unfold supI expo
  rw [← Int.natCast_ediv, bits_nat]
  have e : sF.fb = 23 := rfl
  rw [e]
  have hp : 0 < 2 ^ d := Nat.two_pow_pos d
  by_cases c : V / 2 ^ d = 0
  · rw [if_pos c]
    have h1 : V < 2 ^ d := by
      rcases Nat.div_eq_zero_iff.mp c with h | h
      · omega
      · exact h
    rw [if_neg (by omega)]
    by_cases v0 : V = 0
    · subst v0; simp
    · have : Nat.log2 V < d := (Nat.log2_lt v0).mpr h1
      omega
  · rw [if_neg c]
    have h1 : 2 ^ d ≤ V := by
      by_cases k : V < 2 ^ d
      · exact absurd (Nat.div_eq_of_lt k) c
      · omega
    rw [log2_div V d h1]
    have hd : d ≤ Nat.log2 V := (Nat.le_log2 (by omega)).mpr h1
    split <;> omega
theorem step_is (V d : Nat) : stepI sF (V : Int) ((2 ^ d : Nat) : Int) = ((2 ^ (expo V d + d) : Nat) : Int) := by
  unfold stepI
  rw [sup_is, Int.toNat_natCast, pow2i, ← Int.natCast_mul, ← Nat.pow_add, Nat.add_comm]
theorem kept_is (V d : Nat) : keptI sF (V : Int) ((2 ^ d : Nat) : Int) = ((Sl03.even V (expo V d + d) : Nat) : Int) := by
  unfold keptI upB
  rw [step_is]
  unfold Sl03.even
  generalize 2 ^ (expo V d + d) = k
  have e1 : (V : Int) % (k : Int) = ((V % k : Nat) : Int) := by omega
  have e2 : (V : Int) / (k : Int) = ((V / k : Nat) : Int) := by omega
  rw [e1, e2]
  have e3 : ((decide ((k : Int) < 2 * ((V % k : Nat) : Int)) || (decide (2 * ((V % k : Nat) : Int) = (k : Int)) && decide (((V / k : Nat) : Int) % 2 = 1))) = true) ↔ (k < 2 * (V % k) ∨ (2 * (V % k) = k ∧ V / k % 2 = 1)) := by
    rw [Bool.or_eq_true, Bool.and_eq_true, decide_eq_true_iff, decide_eq_true_iff, decide_eq_true_iff]
    omega
  by_cases c : k < 2 * (V % k) ∨ (2 * (V % k) = k ∧ V / k % 2 = 1)
  · rw [if_pos c, if_pos (e3.mpr c)]; omega
  · rw [if_neg c, if_neg (fun z => c (e3.mp z))]; omega
theorem near_is (V d : Nat) : nearI sF (V : Int) ((2 ^ d : Nat) : Int) = ((near V d : Nat) : Int) := by
  unfold nearI
  rw [kept_is, sup_is]
  unfold near packed
  have e1 : (2 : Int) ^ sF.fb.toNat = 8388608 := by decide
  have e2 : sF.inf = 2139095040 := rfl
  have e3 : (2 : Nat) ^ 23 = 8388608 := by decide
  rw [e1, e2, e3]
  generalize Sl03.even V (expo V d + d) = q
  generalize expo V d = S
  split <;> omega
theorem nan_is (m : Nat) : nanB sF (m : Int) = decide (isNaNb m) := by
  unfold nanB magI isNaNb
  have e1 : sF.sb = 2147483648 := rfl
  have e2 : sF.inf = 2139095040 := rfl
  rw [e1, e2]
  by_cases c : 2139095040 < m % 2147483648
  · rw [decide_eq_true c]; exact decide_eq_true (by omega)
  · rw [decide_eq_false c]; exact decide_eq_false (by omega)
theorem inf_is (m : Nat) : infB sF (m : Int) = decide (isInfb m) := by
  unfold infB magI isInfb
  have e1 : sF.sb = 2147483648 := rfl
  have e2 : sF.inf = 2139095040 := rfl
  rw [e1, e2]
  by_cases c : m % 2147483648 = 2139095040
  · rw [decide_eq_true c]; exact decide_eq_true (by omega)
  · rw [decide_eq_false c]; exact decide_eq_false (by omega)
theorem zero_is (m : Nat) : zeroB sF (m : Int) = decide (m % 2147483648 = 0) := by
  unfold zeroB magI
  have e1 : sF.sb = 2147483648 := rfl
  rw [e1]
  by_cases c : m % 2147483648 = 0
  · rw [decide_eq_true c]; exact decide_eq_true (by omega)
  · rw [decide_eq_false c]; exact decide_eq_false (by omega)
theorem neg_is (m : Nat) : negB sF (m : Int) = signb m := by
  unfold negB signb
  have e1 : sF.sb = 2147483648 := rfl
  rw [e1]
  by_cases c : 2147483648 ≤ m
  · rw [decide_eq_true c]; exact decide_eq_true (by omega)
  · rw [decide_eq_false c]; exact decide_eq_false (by omega)
theorem sign_is (m : Nat) (n : Bool) : signI sF (m : Int) n = ((sg n + m : Nat) : Int) := by
  unfold signI sg
  have e1 : sF.sb = 2147483648 := rfl
  rw [e1]
  cases n
  · simp
  · simp; omega
theorem opp_is {m : Nat} (h : m < 4294967296) : oppI sF (m : Int) = ((oppN m : Nat) : Int) := by
  have e := xor_pow (m : Int) 31 (by omega) (by have : (2 ^ 31 : Nat) = 2147483648 := by decide
                                                omega)
  have c : ((2 ^ 31 : Nat) : Int) = 2147483648 := by decide
  rw [c] at e
  show Builtin.bitXor (m : Int) 2147483648 = _
  rw [e]
  unfold oppN
  split <;> split <;> omega
theorem units_is {m : Nat} (h : m < 4294967296) : unitsI sF (m : Int) = unitsZ m := by
  have key : unitsV sF (expI sF (m : Int)) ((m : Int) % sF.lead) = ((unitsN (m % 2147483648) : Nat) : Int) := by
    unfold unitsV unitsN expI magI
    have e1 : sF.sb = 2147483648 := rfl
    have e2 : sF.lead = 8388608 := rfl
    have e3 : (2 : Int) ^ sF.fb.toNat = 8388608 := by decide
    have e4 : (2 : Nat) ^ 23 = 8388608 := by decide
    rw [e1, e2, e3, e4]
    by_cases c : m % 2147483648 / 8388608 = 0
    · rw [if_pos c, if_neg (by omega)]; omega
    · rw [if_neg c, if_pos (by omega)]
      have e5 : ((m : Int) % 2147483648 / 8388608 - 1).toNat = m % 2147483648 / 8388608 - 1 := by omega
      rw [e5, pow2i, Int.natCast_mul]
      congr 1
      omega
  unfold unitsI unitsZ
  rw [key, neg_is]
  unfold signb
  by_cases c : 2147483648 ≤ m
  · rw [if_pos (decide_eq_true c), if_pos c]
  · rw [if_neg (by simpa using c), if_neg c]
theorem abs_is (z : Int) : absI z = ((z.natAbs : Nat) : Int) := by unfold absI; split <;> omega
theorem plus_is {m n : Nat} (h : m < 4294967296) (h2 : n < 4294967296) : plusI sF (m : Int) (n : Int) = ((plusN m n : Nat) : Int) := by
  unfold plusI plusN
  rw [nan_is, nan_is, inf_is, inf_is, opp_is h, neg_is, neg_is, units_is h, units_is h2]
  by_cases c1 : isNaNb m ∨ isNaNb n
  · rw [if_pos c1, if_pos (by rcases c1 with c | c <;> simp [c])]; rfl
  rw [if_neg c1, if_neg (by simp only [not_or] at c1; simp [c1.1, c1.2])]
  by_cases c2 : isInfb m
  · rw [if_pos (decide_eq_true c2)]
    by_cases c3 : (n : Int) = ((oppN m : Nat) : Int)
    · have c4 : n = oppN m := by omega
      rw [if_pos c3, if_pos]
      · rfl
      · unfold isInfb oppN at *
        refine ⟨c2, ?_, ?_⟩ <;> (subst c4; split <;> omega)
    · rw [if_neg c3, if_neg, if_pos c2]
      intro z
      unfold isInfb oppN at *
      have := z.2.1
      have := z.2.2
      apply c3
      split <;> omega
  rw [if_neg (show ¬ decide (isInfb m) = true by simpa using c2), if_neg (show ¬ (isInfb m ∧ isInfb n ∧ m ≠ n) from fun z => c2 z.1), if_neg c2]
  by_cases c3 : isInfb n
  · rw [if_pos (decide_eq_true c3), if_pos c3]
  rw [if_neg (show ¬ decide (isInfb n) = true by simpa using c3), if_neg c3]
  unfold finSum My.sumZ
  by_cases c4 : unitsZ m + unitsZ n = 0
  · rw [if_pos c4, if_pos c4, c4]
    have e : near (Int.natAbs 0) 0 = 0 := near_zero 0
    rw [e]
    exact sign_is 0 _
  · rw [if_neg c4, if_neg c4, abs_is]
    have e := near_is (unitsZ m + unitsZ n).natAbs 0
    have e0 : ((2 ^ 0 : Nat) : Int) = 1 := rfl
    rw [e0] at e
    rw [e, sign_is]
theorem unitsZ_abs (m n : Nat) : (unitsZ m * unitsZ n).natAbs = unitsN (m % 2147483648) * unitsN (n % 2147483648) := by
  rw [Int.natAbs_mul]
  unfold unitsZ
  congr 1 <;> (split <;> omega)
theorem times_is {m n : Nat} (h : m < 4294967296) (h2 : n < 4294967296) : timesI sF (m : Int) (n : Int) = ((timesN m n : Nat) : Int) := by
  unfold timesI timesN
  rw [nan_is, nan_is, inf_is, inf_is, zero_is, zero_is, neg_is, neg_is, units_is h, units_is h2]
  by_cases c1 : isNaNb m ∨ isNaNb n
  · rw [if_pos c1, if_pos (by rcases c1 with c | c <;> simp [c])]; rfl
  rw [if_neg c1, if_neg (by simp only [not_or] at c1; simp [c1.1, c1.2])]
  by_cases c2 : isInfb m ∨ isInfb n
  · rw [if_pos c2, if_pos (by rcases c2 with c | c <;> simp [c])]
    by_cases c3 : m % 2147483648 = 0 ∨ n % 2147483648 = 0
    · rw [if_pos c3, if_pos (by rcases c3 with c | c <;> simp [c])]; rfl
    · rw [if_neg c3, if_neg (by simp only [not_or] at c3; simp [c3.1, c3.2])]
      exact sign_is 2139095040 _
  rw [if_neg c2, if_neg (by simp only [not_or] at c2; simp [c2.1, c2.2]), abs_is, unitsZ_abs]
  have e : sF.uo = ((2 ^ 149 : Nat) : Int) := rfl
  rw [e, near_is, sign_is]
end S
end Cs
end
section
set_option Elab.async false
set_option linter.all false
set_option maxRecDepth 100000
set_option exponentiation.threshold 5000
namespace Cs
open PySem PyProof.Rows
open Builtin.Int (intBits)
def RepS (p : Sl03.Num) (x : Int) : Prop := ∃ m : Nat, x = (m : Int) ∧ m < 4294967296 ∧ My.Rep p m
theorem rep_lt {p : Sl03.Num} {m : Nat} (h : My.Rep p m) : m < 4294967296 := by
  cases p with
  | nan s => exact h.1
  | inf s =>
    have h' : m = My.sg s + 2139095040 := h
    have := My.sg_lt s
    omega
  | fin s a e =>
    obtain ⟨g, h1, h2, _, _⟩ := h
    have := My.sg_lt s
    omega
theorem RepS.of {p : Sl03.Num} {m : Nat} (h : My.Rep p m) : RepS p (m : Int) := ⟨m, rfl, rep_lt h, h⟩
theorem reps_bits {x : Int} (h : 0 ≤ x ∧ x ≤ 4294967295) : RepS (Sl03.ofBits x.toNat) x := ⟨x.toNat, by omega, by omega, My.ofBits_rep (by omega)⟩
theorem reps_add {p q : Sl03.Num} {x y : Int} (hp : RepS p x) (hq : RepS q y) : RepS (Sl03.add Sl03.single p q) (plusI sF x y) := by
  obtain ⟨m, rfl, h1, h2⟩ := hp
  obtain ⟨n, rfl, h3, h4⟩ := hq
  rw [S.plus_is h1 h3]
  exact .of (My.add_rep h2 h4)
theorem reps_neg {p : Sl03.Num} {x : Int} (hp : RepS p x) : RepS p.neg (oppI sF x) := by
  obtain ⟨m, rfl, h1, h2⟩ := hp
  rw [S.opp_is h1]
  exact .of (My.neg_rep h2)
theorem reps_sub {p q : Sl03.Num} {x y : Int} (hp : RepS p x) (hq : RepS q y) : RepS (Sl03.sub Sl03.single p q) (minusI sF x y) := reps_add hp (reps_neg hq)
theorem reps_mul {p q : Sl03.Num} {x y : Int} (hp : RepS p x) (hq : RepS q y) : RepS (Sl03.mul Sl03.single p q) (timesI sF x y) := by
  obtain ⟨m, rfl, h1, h2⟩ := hp
  obtain ⟨n, rfl, h3, h4⟩ := hq
  rw [S.times_is h1 h3]
  exact .of (My.mul_rep h2 h4)
theorem reps_told {p : Sl03.Num} {x : Int} (hp : RepS p x) : Sl03Neutral.bitsOf p = ansI sF x := by
  obtain ⟨m, rfl, h1, h2⟩ := hp
  rw [My.bitsOf_rep h2, ansI_s ⟨by omega, by omega⟩]
  rfl
end Cs
end
section
set_option Elab.async false
set_option linter.all false
set_option maxRecDepth 100000
set_option exponentiation.threshold 5000
namespace Cs
open PySem PyProof.Rows
open Builtin.Int (intBits)

def isZ (x : Int) : Prop := x = 0 ∨ x = 2147483648
def Bz (x y : Int) : Prop := x = y ∨ (isZ x ∧ isZ y)
theorem isZ.facts {x : Int} (h : isZ x) : nanB sF x = false ∧ infB sF x = false ∧ zeroB sF x = true ∧ unitsI sF x = 0 := by
  rcases h with h | h <;> (subst h; decide)
theorem near_zero_s (b : Int) (hb : ∃ d : Nat, b = ((2 ^ d : Nat) : Int)) : nearI sF 0 b = 0 := by
  obtain ⟨d, rfl⟩ := hb
  have e := S.near_is 0 d
  rw [My.near_zero] at e
  exact e
theorem isZ_sign (n : Bool) : isZ (signI sF 0 n) := by unfold isZ; cases n <;> decide
theorem isZ.opp {x : Int} (h : isZ x) : isZ (oppI sF x) := by rcases h with h | h <;> (subst h; unfold isZ; decide)
theorem Bz.opp {x x' : Int} (h : Bz x x') : Bz (oppI sF x) (oppI sF x') := by
  rcases h with h | h
  · exact .inl (by rw [h])
  · exact .inr ⟨h.1.opp, h.2.opp⟩
theorem inf_opp {x : Int} (h : 0 ≤ x ∧ x ≤ 4294967295) (hi : infB sF x = true) : ¬ isZ (oppI sF x) := by
  intro z
  have e := oppI_s h
  rw [e] at z
  have hi' : x % 2147483648 = 2139095040 := of_decide_eq_true hi
  unfold isZ My.oppN at z
  split at z <;> omega
theorem Bz.plusL {x x' y : Int} (h : isZ x) (h' : isZ x') : Bz (plusI sF x y) (plusI sF x' y) := by
  obtain ⟨a1, a2, a3, a4⟩ := h.facts
  obtain ⟨b1, b2, b3, b4⟩ := h'.facts
  unfold plusI
  rw [a1, a2, a4, b1, b2, b4]
  by_cases c1 : (false || nanB sF y) = true
  · rw [if_pos c1, if_pos c1]; exact .inl rfl
  rw [if_neg c1, if_neg c1]
  simp only [Bool.false_eq_true, if_false]
  by_cases c2 : infB sF y = true
  · rw [if_pos c2, if_pos c2]; exact .inl rfl
  rw [if_neg c2, if_neg c2]
  by_cases c3 : 0 + unitsI sF y = 0
  · rw [if_pos c3, if_pos c3]; exact .inr ⟨isZ_sign _, isZ_sign _⟩
  · rw [if_neg c3, if_neg c3]; exact .inl rfl
theorem Bz.plusR {x y y' : Int} (hx : 0 ≤ x ∧ x ≤ 4294967295) (h : isZ y) (h' : isZ y') : Bz (plusI sF x y) (plusI sF x y') := by
  obtain ⟨a1, a2, a3, a4⟩ := h.facts
  obtain ⟨b1, b2, b3, b4⟩ := h'.facts
  unfold plusI
  rw [a1, a2, a4, b1, b2, b4]
  by_cases c1 : (nanB sF x || false) = true
  · rw [if_pos c1, if_pos c1]; exact .inl rfl
  rw [if_neg c1, if_neg c1]
  by_cases c2 : infB sF x = true
  · rw [if_pos c2, if_pos c2]
    have n := inf_opp hx c2
    rw [if_neg (show ¬ y = oppI sF x from fun z => n (z ▸ h)), if_neg (show ¬ y' = oppI sF x from fun z => n (z ▸ h'))]; exact .inl rfl
  rw [if_neg c2, if_neg c2]
  simp only [Bool.false_eq_true, if_false]
  by_cases c3 : unitsI sF x + 0 = 0
  · rw [if_pos c3, if_pos c3]; exact .inr ⟨isZ_sign _, isZ_sign _⟩
  · rw [if_neg c3, if_neg c3]; exact .inl rfl
theorem times_zz {x x' y : Int} (h : isZ x) (h' : isZ x') : Bz (timesI sF x y) (timesI sF x' y) := by
  obtain ⟨a1, a2, a3, a4⟩ := h.facts
  obtain ⟨b1, b2, b3, b4⟩ := h'.facts
  unfold timesI
  rw [a1, a2, a3, a4, b1, b2, b3, b4]
  by_cases c1 : (false || nanB sF y) = true
  · rw [if_pos c1, if_pos c1]; exact .inl rfl
  rw [if_neg c1, if_neg c1]
  by_cases c2 : (false || infB sF y) = true
  · rw [if_pos c2, if_pos c2, if_pos (by rfl), if_pos (by rfl)]; exact .inl rfl
  rw [if_neg c2, if_neg c2]
  have e : absI (0 * unitsI sF y) = 0 := by rw [Int.zero_mul]; rfl
  rw [e, near_zero_s sF.uo ⟨149, rfl⟩]
  exact .inr ⟨isZ_sign _, isZ_sign _⟩
theorem times_comm (x y : Int) : timesI sF x y = timesI sF y x := by
  unfold timesI
  rw [Bool.or_comm (nanB sF x), Bool.or_comm (infB sF x), Bool.or_comm (zeroB sF x), Int.mul_comm (unitsI sF x)]
  have : (negB sF x != negB sF y) = (negB sF y != negB sF x) := by cases negB sF x <;> cases negB sF y <;> rfl
  rw [this]
theorem Bz.times {x x' y y' : Int} (h : Bz x x') (h' : Bz y y') : Bz (timesI sF x y) (timesI sF x' y') := by
  have tr : ∀ a b c : Int, Bz a b → Bz b c → Bz a c := fun a b c h1 h2 => by
    rcases h1 with h1 | h1
    · rw [h1]; exact h2
    · rcases h2 with h2 | h2
      · rw [← h2]; exact .inr h1
      · exact .inr ⟨h1.1, h2.2⟩
  have s1 : Bz (timesI sF x y) (timesI sF x' y) := by
    rcases h with h | h
    · rw [h]; exact .inl rfl
    · exact times_zz h.1 h.2
  refine tr _ _ _ s1 ?_
  rcases h' with h' | h'
  · rw [h']; exact .inl rfl
  · rw [times_comm x' y, times_comm x' y']; exact times_zz h'.1 h'.2
theorem Bz.tr {a b c : Int} (h1 : Bz a b) (h2 : Bz b c) : Bz a c := by
  rcases h1 with h1 | h1
  · rw [h1]; exact h2
  · rcases h2 with h2 | h2
    · rw [← h2]; exact .inr h1
    · exact .inr ⟨h1.1, h2.2⟩
theorem Bz.plus {x x' y y' : Int} (hx : 0 ≤ x' ∧ x' ≤ 4294967295) (h : Bz x x') (h' : Bz y y') : Bz (plusI sF x y) (plusI sF x' y') := by
  have s1 : Bz (plusI sF x y) (plusI sF x' y) := by
    rcases h with h | h
    · rw [h]; exact .inl rfl
    · exact Bz.plusL h.1 h.2
  refine s1.tr ?_
  rcases h' with h' | h'
  · rw [h']; exact .inl rfl
  · exact Bz.plusR hx h'.1 h'.2
theorem Bz.inf {x x' : Int} (h : Bz x x') : timesI sF sF.inf x = timesI sF sF.inf x' := by
  rcases h with h | h
  · rw [h]
  · obtain ⟨a1, a2, a3, a4⟩ := h.1.facts
    obtain ⟨b1, b2, b3, b4⟩ := h.2.facts
    unfold timesI
    rw [a1, a2, a3, b1, b2, b3]
    have e1 : nanB sF sF.inf = false := by decide
    have e2 : infB sF sF.inf = true := by decide
    have e3 : zeroB sF sF.inf = false := by decide
    rw [e1, e2, e3]
    rfl

def Rz (p : Sl03.Num) (x : Int) : Prop := ∃ x', RepS p x' ∧ Bz x' x
theorem RepS.rz {p : Sl03.Num} {x : Int} (h : RepS p x) : Rz p x := ⟨x, h, .inl rfl⟩
theorem RepS.bd {p : Sl03.Num} {x : Int} (h : RepS p x) : 0 ≤ x ∧ x ≤ 4294967295 := by
  obtain ⟨m, rfl, h1, _⟩ := h
  omega
theorem Rz.bd {p : Sl03.Num} {x : Int} (h : Rz p x) : 0 ≤ x ∧ x ≤ 4294967295 := by
  obtain ⟨x', h1, h2⟩ := h
  rcases h2 with h2 | ⟨_, h2 | h2⟩
  · rw [← h2]; exact h1.bd
  · omega
  · omega
theorem rz_mul {p q : Sl03.Num} {x y : Int} (hp : Rz p x) (hq : Rz q y) : Rz (Sl03.mul Sl03.single p q) (timesI sF x y) := by
  obtain ⟨x', h1, h2⟩ := hp
  obtain ⟨y', h3, h4⟩ := hq
  exact ⟨_, reps_mul h1 h3, h2.times h4⟩
theorem rz_add {p q : Sl03.Num} {x y : Int} (hp : Rz p x) (hq : Rz q y) : Rz (Sl03.add Sl03.single p q) (plusI sF x y) := by
  have b := hp.bd
  obtain ⟨x', h1, h2⟩ := hp
  obtain ⟨y', h3, h4⟩ := hq
  exact ⟨_, reps_add h1 h3, Bz.plus b h2 h4⟩
theorem rz_sub {p q : Sl03.Num} {x y : Int} (hp : Rz p x) (hq : Rz q y) : Rz (Sl03.sub Sl03.single p q) (minusI sF x y) := by
  refine rz_add hp ?_
  obtain ⟨y', h3, h4⟩ := hq
  exact ⟨_, reps_neg h3, h4.opp⟩
theorem reps_INF : RepS Sl03.INF sF.inf := ⟨2139095040, rfl, by decide, rfl⟩
theorem rz_inf {p : Sl03.Num} {x : Int} (hp : Rz p x) : RepS (Sl03.mul Sl03.single Sl03.INF p) (timesI sF sF.inf x) := by
  obtain ⟨x', h1, h2⟩ := hp
  rw [← h2.inf]
  exact reps_mul reps_INF h1
theorem reps_nan {p : Sl03.Num} {x : Int} (h : RepS p x) : p.isNaN = nanB sF x := by
  obtain ⟨m, rfl, h1, h2⟩ := h
  rw [S.nan_is]; exact My.isNaN_rep h2
theorem reps_isinf {p : Sl03.Num} {x : Int} (h : RepS p x) : p.isInf = infB sF x := by
  obtain ⟨m, rfl, h1, h2⟩ := h
  rw [S.inf_is]; exact My.isInf_rep h2
theorem rz_nan {p : Sl03.Num} {x : Int} (h : Rz p x) : p.isNaN = nanB sF x := by
  obtain ⟨x', h1, h2⟩ := h
  rw [reps_nan h1]
  rcases h2 with h2 | h2
  · rw [h2]
  · rw [h2.1.facts.1, h2.2.facts.1]
theorem rz_isinf {p : Sl03.Num} {x : Int} (h : Rz p x) : p.isInf = infB sF x := by
  obtain ⟨x', h1, h2⟩ := h
  rw [reps_isinf h1]
  rcases h2 with h2 | h2
  · rw [h2]
  · rw [h2.1.facts.2.1, h2.2.facts.2.1]
theorem reps_zero (s : Bool) : RepS (.fin s 0 0) (signI sF 0 s) := by
  have e := S.sign_is 0 s
  rw [show signI sF 0 s = ((My.sg s + 0 : Nat) : Int) from e]
  exact .of (My.rep_zero s)
theorem reps_one (s : Bool) : RepS (.fin s 1 0) (signI sF sF.one s) := by
  have e := S.sign_is 1065353216 s
  rw [show signI sF sF.one s = ((My.sg s + 1065353216 : Nat) : Int) from e]
  refine .of ⟨1065353216, rfl, by decide, by decide, ?_⟩
  decide
theorem rz_zero (s t : Bool) : Rz (.fin s 0 0) (signI sF 0 t) := ⟨_, reps_zero s, .inr ⟨isZ_sign _, isZ_sign _⟩⟩
theorem rz_box {p : Sl03.Num} {x : Int} (h : Rz p x) : Rz (Sl03.boxed p) (oneI sF x) := by
  have e := rz_isinf h
  unfold Sl03.boxed oneI
  by_cases c : infB sF x = true
  · rw [if_pos (e.trans c), if_pos c]
    obtain ⟨x', h1, h2⟩ := h
    have hx : x' = x := by
      rcases h2 with h2 | h2
      · exact h2
      · rw [h2.2.facts.2.1] at c; cases c
    subst hx
    cases p with
    | nan s => cases (e.trans c)
    | fin s m k => cases (e.trans c)
    | inf s =>
      obtain ⟨m, rfl, b1, b2⟩ := h1
      have b3 : m = My.sg s + 2139095040 := b2
      have : negB sF (m : Int) = s := by
        rw [S.neg_is, b3]
        exact My.signb_sg s (by decide)
      rw [this]
      exact (reps_one s).rz
  · rw [if_neg (fun z => c (e.symm.trans z)), if_neg c]
    exact rz_zero _ _
theorem rz_num {p : Sl03.Num} {x : Int} (h : Rz p x) : Rz (Sl03.numbered p) (zeroI sF x) := by
  have e := rz_nan h
  unfold Sl03.numbered zeroI
  by_cases c : nanB sF x = true
  · rw [if_pos (e.trans c), if_pos c]
    exact rz_zero _ _
  · rw [if_neg (fun z => c (e.symm.trans z)), if_neg c]
    exact h

def RZ (a : Sl03.Z) (x y : Int) : Prop := RepS a.re x ∧ RepS a.im y
def QZ (a : Sl03.Z) (x y : Int) : Prop := Rz a.re x ∧ Rz a.im y
theorem RZ.q {a : Sl03.Z} {x y : Int} (h : RZ a x y) : QZ a x y := ⟨h.1.rz, h.2.rz⟩
theorem q_inf {a : Sl03.Z} {x y : Int} (h : QZ a x y) : a.infinite = [x, y].any (infB sF) := by
  unfold Sl03.Z.infinite
  rw [rz_isinf h.1, rz_isinf h.2]
  simp
theorem q_box {a : Sl03.Z} {x y : Int} (h : QZ a x y) : QZ a.box (oneI sF x) (oneI sF y) := ⟨rz_box h.1, rz_box h.2⟩
theorem q_num {a : Sl03.Z} {x y : Int} (h : QZ a x y) : QZ a.number (zeroI sF x) (zeroI sF y) := ⟨rz_num h.1, rz_num h.2⟩
theorem scaled_rep {a b : Sl03.Z} {x y u v : Int} (ha : QZ a x y) (hb : QZ b u v) :
    ∃ p q, scaledL sF sF.inf x y u v = [p, q] ∧ RZ ⟨Sl03.mul Sl03.single Sl03.INF (Sl03.parts Sl03.single a b).re, Sl03.mul Sl03.single Sl03.INF (Sl03.parts Sl03.single a b).im⟩ p q :=
  ⟨_, _, rfl, rz_inf (rz_sub (rz_mul ha.1 hb.1) (rz_mul ha.2 hb.2)), rz_inf (rz_add (rz_mul ha.1 hb.2) (rz_mul ha.2 hb.1))⟩
theorem prod_rep {a b : Sl03.Z} {x y u v : Int} (ha : RZ a x y) (hb : RZ b u v) : ∃ p q, prodL sF x y u v = [p, q] ∧ RZ (a.product b) p q := by
  have h0 : RepS (Sl03.parts Sl03.single a b).re (minusI sF (timesI sF x u) (timesI sF y v)) := reps_sub (reps_mul ha.1 hb.1) (reps_mul ha.2 hb.2)
  have h1 : RepS (Sl03.parts Sl03.single a b).im (plusI sF (timesI sF x v) (timesI sF y u)) := reps_add (reps_mul ha.1 hb.2) (reps_mul ha.2 hb.1)
  have n : ((Sl03.parts Sl03.single a b).re.isNaN && (Sl03.parts Sl03.single a b).im.isNaN) = (partsL sF x y u v).all (nanB sF) := by
    rw [reps_nan h0, reps_nan h1]
    unfold partsL
    simp
  unfold prodL Sl03.Z.product
  dsimp only
  rw [n]
  by_cases c0 : (partsL sF x y u v).all (nanB sF) = true
  · rw [if_pos c0, if_neg (by rw [c0]; decide)]
    unfold mendL
    have i1 := q_inf ha.q
    rw [i1]
    by_cases c1 : [x, y].any (infB sF) = true
    · simp only [c1, if_true, Bool.not_true, Bool.false_and, Bool.true_or, Bool.false_eq_true, if_false]
      have b1 := q_num hb.q
      rw [q_inf b1]
      by_cases c2 : [zeroI sF u, zeroI sF v].any (infB sF) = true
      · simp only [c2, if_true]
        exact scaled_rep (q_num (q_box ha.q)) (q_box b1)
      · simp only [c2, Bool.false_eq_true, if_false]
        exact scaled_rep (q_box ha.q) b1
    · have c1' : [x, y].any (infB sF) = false := by simpa using c1
      simp only [c1', Bool.false_eq_true, if_false, Bool.not_false, Bool.true_and, Bool.false_or]
      rw [q_inf hb.q]
      by_cases c2 : [u, v].any (infB sF) = true
      · simp only [c2, if_true, Bool.not_true, Bool.false_and, Bool.true_or, Bool.false_eq_true, if_false]
        exact scaled_rep (q_num ha.q) (q_box hb.q)
      · have c2' : [u, v].any (infB sF) = false := by simpa using c2
        have e : [Sl03.mul Sl03.single a.re b.re, Sl03.mul Sl03.single a.im b.im, Sl03.mul Sl03.single a.re b.im, Sl03.mul Sl03.single a.im b.re].any Sl03.Num.isInf = (fourL sF x y u v).any (infB sF) := by
          unfold fourL
          simp only [List.any_cons, List.any_nil]
          rw [reps_isinf (reps_mul ha.1 hb.1), reps_isinf (reps_mul ha.2 hb.2), reps_isinf (reps_mul ha.1 hb.2), reps_isinf (reps_mul ha.2 hb.1)]
        simp only [c2', Bool.false_eq_true, if_false, Bool.not_false, Bool.true_and, Bool.false_or]
        rw [e]
        by_cases c3 : (fourL sF x y u v).any (infB sF) = true
        · simp only [c3, if_true]
          exact scaled_rep (q_num ha.q) (q_num hb.q)
        · simp only [c3, Bool.false_eq_true, if_false]
          exact ⟨_, _, rfl, h0, h1⟩
  · rw [if_neg c0, if_pos (by simpa using c0)]
    exact ⟨_, _, rfl, h0, h1⟩
theorem pair_told {a : Sl03.Z} {x y : Int} (h : RZ a x y) : Sl03Neutral.pairOf a = [ansI sF x, ansI sF y] := by
  unfold Sl03Neutral.pairOf
  rw [reps_told h.1, reps_told h.2]
theorem rz_bits {x y : Int} (hx : 0 ≤ x ∧ x ≤ 4294967295) (hy : 0 ≤ y ∧ y ≤ 4294967295) : RZ (Sl03Neutral.number x y) x y := ⟨reps_bits hx, reps_bits hy⟩
end Cs
end
section
set_option Elab.async false
set_option linter.all false
set_option maxRecDepth 100000
set_option exponentiation.threshold 5000
namespace Cs
open PySem PyProof.Rows
open Sl03 (Z)

def Wd (x : Int) : Prop := 0 ≤ x ∧ x ≤ 4294967295
theorem word_iff {x : Int} (h : Sl03Neutral.word x = true) : Wd x := by
  unfold Sl03Neutral.word at h
  rw [Bool.and_eq_true, decide_eq_true_iff, decide_eq_true_iff] at h
  have : (2 : Int) ^ 32 = 4294967296 := by decide
  unfold Wd
  omega
theorem zs_at : ∀ (m : Nat) (c : List Int), c.length = 2 * m → (Sl03.zs (Sl03Neutral.nats c)).length = m ∧ ∀ k, k < m → (Sl03.zs (Sl03Neutral.nats c))[k]? = some (Sl03Neutral.number (atP c k).1 (atP c k).2)
  | 0, [], _ => ⟨rfl, fun k h => absurd h (by omega)⟩
  | 0, _ :: _, h => by simp at h
  | m + 1, [], h => by simp at h
  | m + 1, [_], h => by simp at h; omega
  | m + 1, a :: b :: c, h => by
    have h' : c.length = 2 * m := by simp at h; omega
    obtain ⟨i1, i2⟩ := zs_at m c h'
    have e : Sl03.zs (Sl03Neutral.nats (a :: b :: c)) = Sl03Neutral.number a b :: Sl03.zs (Sl03Neutral.nats c) := rfl
    rw [e]
    refine ⟨by rw [List.length_cons, i1], fun k hk => ?_⟩
    cases k with
    | zero => rfl
    | succ k =>
      rw [List.getElem?_cons_succ, i2 k (by omega)]
      have q : atP (a :: b :: c) (k + 1) = atP c k := by
        unfold atP
        rw [show 2 * (k + 1) = (2 * k + 1) + 1 by omega, show (2 * k + 1) + 1 + 1 = (2 * k + 1 + 1) + 1 by omega]
        simp only [List.getD_cons_succ]
      rw [q]
theorem at_wd {c : List Int} (h : ∀ x ∈ c, Wd x) {k : Nat} : Wd (atP c k).1 ∧ Wd (atP c k).2 := by
  have key : ∀ j, Wd (c.getD j 0) := fun j => by
    rw [List.getD_eq_getElem?_getD]
    cases e : c[j]? with
    | none => exact ⟨by decide, by decide⟩
    | some x => exact h x (List.mem_of_getElem? e)
  exact ⟨key _, key _⟩
theorem at_rz {c : List Int} (h : ∀ x ∈ c, Wd x) (k : Nat) : RZ (Sl03Neutral.number (atP c k).1 (atP c k).2) (atP c k).1 (atP c k).2 := rz_bits (at_wd h).1 (at_wd h).2
theorem prodP_rep {a b : Z} {x y u v : Int} (ha : RZ a x y) (hb : RZ b u v) : RZ (a.product b) (prodP sF x y u v).1 (prodP sF x y u v).2 := by
  obtain ⟨p, q, e, h⟩ := prod_rep ha hb
  unfold prodP
  rw [e]
  exact h
theorem sumP_rep {a b : Z} {x y : Int × Int} (ha : RZ a x.1 x.2) (hb : RZ b y.1 y.2) : RZ (a.sum b) (sumP sF x y).1 (sumP sF x y).2 := ⟨reps_add ha.1 hb.1, reps_add ha.2 hb.2⟩
theorem poly_cons {z c : Z} : ∀ {l : List Z}, l ≠ [] → Sl03.polynomial z (c :: l) = ((Sl03.polynomial z l).product z).sum c
  | [], h => absurd rfl h
  | _ :: _, _ => rfl
theorem poly_rep {c : List Int} {zr zi : Int} {m : Nat} (hm : 1 ≤ m) (hc : ∀ x ∈ c, Wd x) (hl : c.length = 2 * m) (hr : Wd zr) (hi : Wd zi) :
    ∀ i, i ≤ m - 1 → RZ (Sl03.polynomial (Sl03Neutral.number zr zi) ((Sl03.zs (Sl03Neutral.nats c)).drop (m - 1 - i))) (polyP sF c zr zi m i).1 (polyP sF c zr zi m i).2
  | 0, _ => by
    obtain ⟨i1, i2⟩ := zs_at m c hl
    have e : (Sl03.zs (Sl03Neutral.nats c)).drop (m - 1) = [Sl03Neutral.number (atP c (m - 1)).1 (atP c (m - 1)).2] := by
      have hlt : m - 1 < (Sl03.zs (Sl03Neutral.nats c)).length := by omega
      rw [List.drop_eq_getElem_cons hlt]
      have q := i2 (m - 1) (by omega)
      rw [List.getElem?_eq_getElem hlt] at q
      rw [Option.some.inj q, List.drop_of_length_le (by omega)]
    rw [Nat.sub_zero, e]
    exact at_rz hc (m - 1)
  | i + 1, h => by
    have ih := poly_rep hm hc hl hr hi i (by omega)
    obtain ⟨i1, i2⟩ := zs_at m c hl
    have hlt : m - 1 - (i + 1) < (Sl03.zs (Sl03Neutral.nats c)).length := by omega
    have q := i2 (m - 1 - (i + 1)) (by omega)
    rw [List.getElem?_eq_getElem hlt] at q
    rw [List.drop_eq_getElem_cons hlt, Option.some.inj q, show m - 1 - (i + 1) + 1 = m - 1 - i by omega]
    rw [poly_cons (by intro z; have z' := congrArg List.length z; rw [List.length_drop, i1, List.length_nil] at z'; omega)]
    have e : m - 1 - (i + 1) = m - 2 - i := by omega
    rw [e]
    exact sumP_rep (prodP_rep ih (rz_bits hr hi)) (at_rz hc _)
theorem isCount_iff {n : Int} (h : Wd n) : Sl03.isCount n.toNat = true ↔ ¬ (n < 1 ∨ 64 < n) := by
  unfold Sl03.isCount
  have e : Sl03.MOST = 64 := rfl
  rw [e, Bool.and_eq_true, decide_eq_true_iff, decide_eq_true_iff]
  have := h.1
  omega
theorem twice_iff {n : Int} {l : List Int} (hn : Wd n) (h : Sl03Neutral.twice n l = true) : (∀ x ∈ l, Wd x) ∧ (¬ (n < 1 ∨ 64 < n) → (l.length : Int) = 2 * n) := by
  unfold Sl03Neutral.twice at h
  rw [Bool.and_eq_true] at h
  refine ⟨fun x hx => word_iff (List.all_eq_true.mp h.1 x hx), fun c => ?_⟩
  have h2 := h.2
  rw [if_pos ((isCount_iff hn).mpr c)] at h2
  exact of_decide_eq_true h2
def termZ (x w : List Z) (n k j : Nat) : Z := match x[j]?, w[j * k % n]? with
    | some a, some b => a.product b
    | _, _ => ⟨.nan false, .nan false⟩
theorem term_rep {x w : List Int} {m k j : Nat} (hj : j < m) (hx : ∀ z ∈ x, Wd z) (hw : ∀ z ∈ w, Wd z) (lx : x.length = 2 * m) (lw : w.length = 2 * m) :
    RZ (termZ (Sl03.zs (Sl03Neutral.nats x)) (Sl03.zs (Sl03Neutral.nats w)) m k j) (prodP sF (atP x j).1 (atP x j).2 (atP w (j * k % m)).1 (atP w (j * k % m)).2).1 (prodP sF (atP x j).1 (atP x j).2 (atP w (j * k % m)).1 (atP w (j * k % m)).2).2 := by
  obtain ⟨i1, i2⟩ := zs_at m x lx
  obtain ⟨j1, j2⟩ := zs_at m w lw
  have hm : j * k % m < m := Nat.mod_lt _ (by omega)
  unfold termZ
  rw [i2 j hj, j2 _ hm]
  exact prodP_rep (at_rz hx j) (at_rz hw _)
theorem tr_rep {x w : List Int} {m k : Nat} (hm : 1 ≤ m) (hx : ∀ z ∈ x, Wd z) (hw : ∀ z ∈ w, Wd z) (lx : x.length = 2 * m) (lw : w.length = 2 * m) :
    ∀ j, j ≤ m - 1 → RZ ((List.range j).foldl (fun s i => s.sum (termZ (Sl03.zs (Sl03Neutral.nats x)) (Sl03.zs (Sl03Neutral.nats w)) m k (i + 1))) (termZ (Sl03.zs (Sl03Neutral.nats x)) (Sl03.zs (Sl03Neutral.nats w)) m k 0)) (trP sF x w m k j).1 (trP sF x w m k j).2
  | 0, _ => by
    have h := term_rep (k := k) (j := 0) (m := m) (by omega) hx hw lx lw
    rw [Nat.zero_mul, Nat.zero_mod] at h
    exact h
  | j + 1, h => by
    have ih := tr_rep (k := k) hm hx hw lx lw j (by omega)
    rw [List.range_succ, List.foldl_append]
    exact sumP_rep ih (term_rep (by omega) hx hw lx lw)
theorem transform_is {n : Int} {x w : List Int} (ask : PySl03.transform_asked n x w = true) : R_transform [.int n, .lst (vInts x), .lst (vInts w)] (.lst (vInts (PySl03.transform n x w))) := by
  have h : (Sl03Neutral.word n && (Sl03Neutral.twice n x && Sl03Neutral.twice n w)) = true := ask
  rw [Bool.and_eq_true, Bool.and_eq_true] at h
  obtain ⟨h1, h2, h3⟩ := h
  have hn := word_iff h1
  obtain ⟨t1, t2⟩ := twice_iff hn h2
  obtain ⟨t3, t4⟩ := twice_iff hn h3
  refine ⟨n, x, w, rfl, ?_⟩
  have e : PySl03.transform n x w = if Sl03.isCount n.toNat = true then 0 :: (List.range n.toNat).flatMap fun (k : Nat) => Sl03Neutral.pairOf (Sl03.transformed (Sl03.zs (Sl03Neutral.nats x)) (Sl03.zs (Sl03Neutral.nats w)) k) else [-1] := rfl
  rw [e]
  by_cases k : n < 1 ∨ 64 < n
  · rw [if_neg (fun z => (isCount_iff hn).mp z k)]
    exact .inl ⟨k, rfl⟩
  · rw [if_pos ((isCount_iff hn).mpr k)]
    have lx : x.length = 2 * n.toNat := by have := t2 k; omega
    have lw : w.length = 2 * n.toNat := by have := t4 k; omega
    refine .inr ⟨n.toNat, by omega, by omega, by omega, lx, lw, ?_⟩
    have q : (fun (k : Nat) => Sl03Neutral.pairOf (Sl03.transformed (Sl03.zs (Sl03Neutral.nats x)) (Sl03.zs (Sl03Neutral.nats w)) k)) = fun k => pairA (trP sF x w n.toNat k (n.toNat - 1)) := by
      funext k'
      have hr := tr_rep (k := k') (m := n.toNat) (by omega) t1 t3 lx lw (n.toNat - 1) (Nat.le_refl _)
      have e2 : Sl03.transformed (Sl03.zs (Sl03Neutral.nats x)) (Sl03.zs (Sl03Neutral.nats w)) k' = (List.range (n.toNat - 1)).foldl (fun s i => s.sum (termZ (Sl03.zs (Sl03Neutral.nats x)) (Sl03.zs (Sl03Neutral.nats w)) n.toNat k' (i + 1))) (termZ (Sl03.zs (Sl03Neutral.nats x)) (Sl03.zs (Sl03Neutral.nats w)) n.toNat k' 0) := by
        unfold Sl03.transformed
        dsimp only
        rw [(zs_at n.toNat x lx).1]
        rfl
      rw [e2, pair_told hr]
      rfl
    rw [q]
end Cs
end
set_option Elab.async false
set_option linter.all false
set_option maxRecDepth 100000
set_option maxHeartbeats 4000000
namespace Row
open PySem PySem.Spec PyProof.Rows L2 Cs
open PySem.W (Codec)
open Builtin.Int (intBits)
def top (i : Nat) : Stmt := PySem.Challenge.pw_complexsingles_s08_transform.main.body.getD i (.Pass ⟨0, 0, 0, 0⟩)
abbrev s___init__ : Stmt := inClass (top 3) 0
abbrev s_single_form : Stmt := top 2
abbrev s_magnitude : Stmt := inClass (top 3) 1
abbrev s_is_negative : Stmt := inClass (top 3) 2
abbrev s_is_no_number : Stmt := inClass (top 3) 3
abbrev s_is_infinite : Stmt := inClass (top 3) 4
abbrev s_is_zero : Stmt := inClass (top 3) 6
abbrev s_opposite : Stmt := inClass (top 3) 7
abbrev s_signed : Stmt := inClass (top 3) 8
abbrev s_units_of : Stmt := inClass (top 3) 13
abbrev s_nearest : Stmt := inClass (top 3) 14
abbrev s_plus : Stmt := inClass (top 3) 9
abbrev s_minus : Stmt := inClass (top 3) 10
abbrev s_times : Stmt := inClass (top 3) 11
abbrev s_answered : Stmt := top 10
abbrev s_sum_parts : Stmt := top 11
abbrev s_four_products : Stmt := top 13
abbrev s_parts_of_products : Stmt := top 14
abbrev s_scaled : Stmt := top 17
abbrev s_ones_for_infinities : Stmt := top 18
abbrev s_zeros_for_no_numbers : Stmt := top 19
abbrev s_any_infinite : Stmt := top 20
abbrev s_all_no_numbers : Stmt := top 21
abbrev s_mended_product : Stmt := top 15
abbrev s_product_parts : Stmt := top 12
abbrev s_is_refused : Stmt := top 8
abbrev s_number_at : Stmt := top 9
abbrev s_transform_parts : Stmt := top 16
abbrev s_transform : Stmt := top 7
structure Ad where
  C : Addr
  f___init__ : Addr
  d___init__ : FuncData
  f_single_form : Addr
  d_single_form : FuncData
  f_magnitude : Addr
  d_magnitude : FuncData
  f_is_negative : Addr
  d_is_negative : FuncData
  f_is_no_number : Addr
  d_is_no_number : FuncData
  f_is_infinite : Addr
  d_is_infinite : FuncData
  f_is_zero : Addr
  d_is_zero : FuncData
  f_opposite : Addr
  d_opposite : FuncData
  f_signed : Addr
  d_signed : FuncData
  f_units_of : Addr
  d_units_of : FuncData
  f_nearest : Addr
  d_nearest : FuncData
  f_plus : Addr
  d_plus : FuncData
  f_minus : Addr
  d_minus : FuncData
  f_times : Addr
  d_times : FuncData
  f_answered : Addr
  d_answered : FuncData
  f_sum_parts : Addr
  d_sum_parts : FuncData
  f_four_products : Addr
  d_four_products : FuncData
  f_parts_of_products : Addr
  d_parts_of_products : FuncData
  f_scaled : Addr
  d_scaled : FuncData
  f_ones_for_infinities : Addr
  d_ones_for_infinities : FuncData
  f_zeros_for_no_numbers : Addr
  d_zeros_for_no_numbers : FuncData
  f_any_infinite : Addr
  d_any_infinite : FuncData
  f_all_no_numbers : Addr
  d_all_no_numbers : FuncData
  f_mended_product : Addr
  d_mended_product : FuncData
  f_product_parts : Addr
  d_product_parts : FuncData
  f_is_refused : Addr
  d_is_refused : FuncData
  f_number_at : Addr
  d_number_at : FuncData
  f_transform_parts : Addr
  d_transform_parts : FuncData
  f_transform : Addr
  d_transform : FuncData
structure Txt (K : PySem.W.Frag) (mg : Str → Option Value) (a : Ad) : Prop where
  cl : Cls K a.C
  mgC : mg "Form" = some (.ref a.C)
  made : Mk K a.C a.f___init__
  na_fraction_bits : NoAttr K a.C "fraction_bits"
  na_leading_bit : NoAttr K a.C "leading_bit"
  na_sign_bit : NoAttr K a.C "sign_bit"
  na_infinity : NoAttr K a.C "infinity"
  na_some_no_number : NoAttr K a.C "some_no_number"
  na_one : NoAttr K a.C "one"
  na_units_of_one : NoAttr K a.C "units_of_one"
  F___init__ : Fun K "__init__" "Form.__init__" s___init__ a.f___init__ a.d___init__
  B___init__ : Binds K a.d___init__ ["self", "exponent_bits", "fraction_bits"] []
  F_single_form : Fun K "single_form" "single_form" s_single_form a.f_single_form a.d_single_form
  B_single_form : Binds K a.d_single_form [] []
  G_single_form : mg "single_form" = some (.ref a.f_single_form)
  F_magnitude : Fun K "magnitude" "Form.magnitude" s_magnitude a.f_magnitude a.d_magnitude
  B_magnitude : Binds K a.d_magnitude ["self", "x"] []
  M_magnitude : Meth K a.C "magnitude" a.f_magnitude
  F_is_negative : Fun K "is_negative" "Form.is_negative" s_is_negative a.f_is_negative a.d_is_negative
  B_is_negative : Binds K a.d_is_negative ["self", "x"] []
  M_is_negative : Meth K a.C "is_negative" a.f_is_negative
  F_is_no_number : Fun K "is_no_number" "Form.is_no_number" s_is_no_number a.f_is_no_number a.d_is_no_number
  B_is_no_number : Binds K a.d_is_no_number ["self", "x"] []
  M_is_no_number : Meth K a.C "is_no_number" a.f_is_no_number
  F_is_infinite : Fun K "is_infinite" "Form.is_infinite" s_is_infinite a.f_is_infinite a.d_is_infinite
  B_is_infinite : Binds K a.d_is_infinite ["self", "x"] []
  M_is_infinite : Meth K a.C "is_infinite" a.f_is_infinite
  F_is_zero : Fun K "is_zero" "Form.is_zero" s_is_zero a.f_is_zero a.d_is_zero
  B_is_zero : Binds K a.d_is_zero ["self", "x"] []
  M_is_zero : Meth K a.C "is_zero" a.f_is_zero
  F_opposite : Fun K "opposite" "Form.opposite" s_opposite a.f_opposite a.d_opposite
  B_opposite : Binds K a.d_opposite ["self", "x"] []
  M_opposite : Meth K a.C "opposite" a.f_opposite
  F_signed : Fun K "signed" "Form.signed" s_signed a.f_signed a.d_signed
  B_signed : Binds K a.d_signed ["self", "magnitude", "negative"] []
  M_signed : Meth K a.C "signed" a.f_signed
  F_units_of : Fun K "units_of" "Form.units_of" s_units_of a.f_units_of a.d_units_of
  B_units_of : Binds K a.d_units_of ["self", "x"] []
  M_units_of : Meth K a.C "units_of" a.f_units_of
  F_nearest : Fun K "nearest" "Form.nearest" s_nearest a.f_nearest a.d_nearest
  B_nearest : Binds K a.d_nearest ["self", "dividend", "divisor"] []
  M_nearest : Meth K a.C "nearest" a.f_nearest
  F_plus : Fun K "plus" "Form.plus" s_plus a.f_plus a.d_plus
  B_plus : Binds K a.d_plus ["self", "x", "y"] []
  M_plus : Meth K a.C "plus" a.f_plus
  F_minus : Fun K "minus" "Form.minus" s_minus a.f_minus a.d_minus
  B_minus : Binds K a.d_minus ["self", "x", "y"] []
  M_minus : Meth K a.C "minus" a.f_minus
  F_times : Fun K "times" "Form.times" s_times a.f_times a.d_times
  B_times : Binds K a.d_times ["self", "x", "y"] []
  M_times : Meth K a.C "times" a.f_times
  F_answered : Fun K "answered" "answered" s_answered a.f_answered a.d_answered
  B_answered : Binds K a.d_answered ["form", "parts"] []
  G_answered : mg "answered" = some (.ref a.f_answered)
  F_sum_parts : Fun K "sum_parts" "sum_parts" s_sum_parts a.f_sum_parts a.d_sum_parts
  B_sum_parts : Binds K a.d_sum_parts ["form", "a", "b"] []
  G_sum_parts : mg "sum_parts" = some (.ref a.f_sum_parts)
  F_four_products : Fun K "four_products" "four_products" s_four_products a.f_four_products a.d_four_products
  B_four_products : Binds K a.d_four_products ["form", "a", "b"] []
  G_four_products : mg "four_products" = some (.ref a.f_four_products)
  F_parts_of_products : Fun K "parts_of_products" "parts_of_products" s_parts_of_products a.f_parts_of_products a.d_parts_of_products
  B_parts_of_products : Binds K a.d_parts_of_products ["form", "products"] []
  G_parts_of_products : mg "parts_of_products" = some (.ref a.f_parts_of_products)
  F_scaled : Fun K "scaled" "scaled" s_scaled a.f_scaled a.d_scaled
  B_scaled : Binds K a.d_scaled ["form", "factor", "parts"] []
  G_scaled : mg "scaled" = some (.ref a.f_scaled)
  F_ones_for_infinities : Fun K "ones_for_infinities" "ones_for_infinities" s_ones_for_infinities a.f_ones_for_infinities a.d_ones_for_infinities
  B_ones_for_infinities : Binds K a.d_ones_for_infinities ["form", "parts"] []
  G_ones_for_infinities : mg "ones_for_infinities" = some (.ref a.f_ones_for_infinities)
  F_zeros_for_no_numbers : Fun K "zeros_for_no_numbers" "zeros_for_no_numbers" s_zeros_for_no_numbers a.f_zeros_for_no_numbers a.d_zeros_for_no_numbers
  B_zeros_for_no_numbers : Binds K a.d_zeros_for_no_numbers ["form", "parts"] []
  G_zeros_for_no_numbers : mg "zeros_for_no_numbers" = some (.ref a.f_zeros_for_no_numbers)
  F_any_infinite : Fun K "any_infinite" "any_infinite" s_any_infinite a.f_any_infinite a.d_any_infinite
  B_any_infinite : Binds K a.d_any_infinite ["form", "parts"] []
  G_any_infinite : mg "any_infinite" = some (.ref a.f_any_infinite)
  F_all_no_numbers : Fun K "all_no_numbers" "all_no_numbers" s_all_no_numbers a.f_all_no_numbers a.d_all_no_numbers
  B_all_no_numbers : Binds K a.d_all_no_numbers ["form", "parts"] []
  G_all_no_numbers : mg "all_no_numbers" = some (.ref a.f_all_no_numbers)
  F_mended_product : Fun K "mended_product" "mended_product" s_mended_product a.f_mended_product a.d_mended_product
  B_mended_product : Binds K a.d_mended_product ["form", "a", "b", "products", "parts"] []
  G_mended_product : mg "mended_product" = some (.ref a.f_mended_product)
  F_product_parts : Fun K "product_parts" "product_parts" s_product_parts a.f_product_parts a.d_product_parts
  B_product_parts : Binds K a.d_product_parts ["form", "a", "b"] []
  G_product_parts : mg "product_parts" = some (.ref a.f_product_parts)
  F_is_refused : Fun K "is_refused" "is_refused" s_is_refused a.f_is_refused a.d_is_refused
  B_is_refused : Binds K a.d_is_refused ["n"] []
  G_is_refused : mg "is_refused" = some (.ref a.f_is_refused)
  F_number_at : Fun K "number_at" "number_at" s_number_at a.f_number_at a.d_number_at
  B_number_at : Binds K a.d_number_at ["numbers", "place"] []
  G_number_at : mg "number_at" = some (.ref a.f_number_at)
  F_transform_parts : Fun K "transform_parts" "transform_parts" s_transform_parts a.f_transform_parts a.d_transform_parts
  B_transform_parts : Binds K a.d_transform_parts ["form", "n", "x", "w", "k"] []
  G_transform_parts : mg "transform_parts" = some (.ref a.f_transform_parts)
  F_transform : Fun K "transform" "transform" s_transform a.f_transform a.d_transform
  B_transform : Binds K a.d_transform ["n", "x", "w"] []
  G_transform : mg "transform" = some (.ref a.f_transform)
  no_abs : mg "abs" = none
  no_all : mg "all" = none
  no_any : mg "any" = none
  no_max : mg "max" = none
  no_min : mg "min" = none
  no_range : mg "range" = none
  g_LARGEST_COUNT : ∃ t, mg "LARGEST_COUNT" = some (.int 64 t)
  g_NO_NUMBER_ANSWER : ∃ t, mg "NO_NUMBER_ANSWER" = some (.int 4294967296 t)
section
variable {P : Program} {w : World} {K : PySem.W.Frag} {mg : Str → Option Value} {base : Heap} {a : Ad}
theorem sc___init__ : FnScope ["self", "exponent_bits", "fraction_bits", "bias"] ["self", "exponent_bits", "fraction_bits"] (defScope s___init__) := ⟨rfl, rfl, rfl, by decide +kernel, rfl, by decide +kernel, by decide +kernel⟩
theorem ok___init__ (T : Txt K mg a) : FnOk P w K mg base CX0 1 a.f___init__ a.d___init__ ["self", "exponent_bits", "fraction_bits"] (spInit a.C) := by
  refine T.F___init__.ok sc___init__ (fun vs H Q E h => ?_) (fun cdv A outer s H vs Q E hr h => ?_)
  · obtain ⟨p, dx, f, ⟨_, rfl⟩ | ⟨_, rfl⟩, _⟩ := h <;> rfl
  · obtain ⟨p, dx, f, hv, hp, k⟩ := h
    obtain ⟨x, y, hv, io, b1, b2, b3, b4, b5, b6⟩ := Cs.init_facts hv
    subst hv
    refine ⟨_, pss_cons (ps_fld (pv 0) (pv 2) rfl) (pss_cons (ps_fld (pv 0) (pe_op op_shl pe_int (pv 2)) rfl) (pss_cons (ps_fld (pv 0) (pe_op op_shl pe_int (pe_op op_add (pv 1) (pv 2))) rfl)
      (pss_cons (ps_fld (pv 0) (pe_op op_sub (pe_fld (pv 0) rfl) (pe_fld (pv 0) rfl)) rfl) (pss_cons (ps_fld (pv 0) (pe_op op_sub (pe_fld (pv 0) rfl) pe_int) rfl)
      (pss_cons (ps_set (i := 3) sc___init__.nd rfl (Or.inl rfl) (pe_op op_sub (pe_op op_shl pe_int (pe_op op_sub (pv 1) pe_int)) pe_int))
      (pss_cons (ps_fld (pv 0) (pe_op op_shl (pv 3) (pv 2)) rfl) (pss_one (ps_fld (pv 0) (pe_op op_shl pe_int (pe_op op_add (pe_op op_sub (pv 3) pe_int) (pv 2))) rfl)))))))), ?_⟩
    refine ⟨_, rfl, _, rfl, p, a.C, dx, [], rfl, hp, T.cl, T.na_fraction_bits, (by decide), ?_⟩
    refine ⟨_, rfl, _, _, rfl, rfl, ⟨by omega, by omega, by decide⟩, _, rfl, p, a.C, dx, _, rfl, upd_same, T.cl, T.na_leading_bit, (by show 1 < 1000; decide), ?_⟩
    refine ⟨_, rfl, _, rfl, _, _, rfl, rfl, _, _, rfl, rfl, ⟨by omega, by omega, by decide⟩, _, rfl, p, a.C, dx, _, rfl, upd_same, T.cl, T.na_sign_bit, (by show 2 < 1000; decide), ?_⟩
    refine ⟨_, rfl, p, a.C, dx, _, _, rfl, upd_same, T.cl, T.na_sign_bit, rfl, _, rfl, p, a.C, dx, _, _, rfl, upd_same, T.cl, T.na_leading_bit, rfl, _, _, rfl, rfl, _, rfl, p, a.C, dx, _, rfl, upd_same, T.cl, T.na_infinity, (by show 3 < 1000; decide), ?_⟩
    refine ⟨_, rfl, p, a.C, dx, _, _, rfl, upd_same, T.cl, T.na_sign_bit, rfl, _, _, rfl, rfl, _, rfl, p, a.C, dx, _, rfl, upd_same, T.cl, T.na_some_no_number, (by show 4 < 1000; decide), ?_⟩
    refine ⟨_, rfl, _, _, rfl, rfl, _, _, rfl, rfl, ⟨by omega, by omega, by decide⟩, _, _, rfl, rfl, ?_⟩
    refine ⟨_, rfl, _, rfl, _, _, rfl, rfl, ⟨by omega, by omega, by omega⟩, _, rfl, p, a.C, dx, _, rfl, upd_same, T.cl, T.na_one, (by show 5 < 1000; decide), ?_⟩
    refine ⟨_, rfl, _, _, rfl, rfl, _, rfl, _, _, rfl, rfl, _, _, rfl, rfl, ⟨by omega, by omega, by decide⟩, _, rfl, p, a.C, dx, _, rfl, upd_same, T.cl, T.na_units_of_one, (by show 6 < 1000; decide), ?_⟩
    refine k _ ?_ ?_
    · rw [upd_same]
      exact congrArg (fun q => some (HO.ins a.C dx q)) (Cs.init_fields io)
    · intro b o e hb
      rw [upd_ne hb, upd_ne hb, upd_ne hb, upd_ne hb, upd_ne hb, upd_ne hb, upd_ne hb]
      exact e
theorem sc_single_form : FnScope [] [] (defScope s_single_form) := ⟨rfl, rfl, rfl, by decide +kernel, rfl, by decide +kernel, by decide +kernel⟩
theorem ok_single_form (T : Txt K mg a) : FnOk P w K mg base CX0 3 a.f_single_form a.d_single_form [] (spR K a.C R_single_form) := by
  have K___init__ : FnOk P w K mg base CX0 1 a.f___init__ a.d___init__ ["self", "exponent_bits", "fraction_bits"] (spInit a.C) := ok___init__ T
  refine ok_defX T.F_single_form sc_single_form (fun ds d ⟨e, _⟩ => by rw [e]; rfl) fun cdv A outer s H E hr ds d ⟨e1, e2⟩ => ?_
  subst e1 e2
  exact rt_ret (ev_make T.made K___init__ (hr.mono (by decide : 2 ≤ 2)) T.mgC T.B___init__ (ea_cons ev_int (ea_cons ev_int ea_nil)) (.inl ⟨rfl, rfl, rfl⟩))
theorem sc_magnitude : FnScope ["self", "x"] ["self", "x"] (defScope s_magnitude) := ⟨rfl, rfl, rfl, by decide +kernel, rfl, by decide +kernel, by decide +kernel⟩
theorem ok_magnitude (T : Txt K mg a) : FnOk P w K mg base CX0 1 a.f_magnitude a.d_magnitude ["self", "x"] (spR K a.C R_magnitude) := by
  refine ok_defX T.F_magnitude sc_magnitude (fun ds d ⟨f, x, _, e, _⟩ => by rw [e]; rfl) fun cdv A outer s H E hr ds d ⟨f, x, hf, e1, e2⟩ => ?_
  subst e1 e2
  exact rt_ret (ev_mod (ev_var 1) (ev_fld (ev_var 0) T.cl T.na_sign_bit (fl_sb f)) hf.sb)
theorem sc_is_negative : FnScope ["self", "x"] ["self", "x"] (defScope s_is_negative) := ⟨rfl, rfl, rfl, by decide +kernel, rfl, by decide +kernel, by decide +kernel⟩
theorem ok_is_negative (T : Txt K mg a) : FnOk P w K mg base CX0 1 a.f_is_negative a.d_is_negative ["self", "x"] (spR K a.C R_is_negative) := by
  refine ok_defX T.F_is_negative sc_is_negative (fun ds d ⟨f, x, _, e, _⟩ => by rw [e]; rfl) fun cdv A outer s H E hr ds d ⟨f, x, hf, e1, e2⟩ => ?_
  subst e1 e2
  exact rt_ret (ev_ge (ev_var 1) (ev_fld (ev_var 0) T.cl T.na_sign_bit (fl_sb f)))
theorem sc_is_no_number : FnScope ["self", "x"] ["self", "x"] (defScope s_is_no_number) := ⟨rfl, rfl, rfl, by decide +kernel, rfl, by decide +kernel, by decide +kernel⟩
theorem ok_is_no_number (T : Txt K mg a) : FnOk P w K mg base CX0 2 a.f_is_no_number a.d_is_no_number ["self", "x"] (spR K a.C R_is_no_number) := by
  have K_magnitude : FnOk P w K mg base CX0 1 a.f_magnitude a.d_magnitude ["self", "x"] (spR K a.C R_magnitude) := ok_magnitude T
  refine ok_defX T.F_is_no_number sc_is_no_number (fun ds d ⟨f, x, _, e, _⟩ => by rw [e]; rfl) fun cdv A outer s H E hr ds d ⟨f, x, hf, e1, e2⟩ => ?_
  subst e1 e2
  exact rt_ret (ev_gt (ev_meth (ev_var 0) T.cl T.M_magnitude K_magnitude (hr.mono (by decide : 1 ≤ 1)) T.B_magnitude rfl (ea_cons (ev_var 1) ea_nil) ⟨f, x, hf, rfl, rfl⟩) (ev_fld (ev_var 0) T.cl T.na_infinity (fl_inf f)))
theorem sc_is_infinite : FnScope ["self", "x"] ["self", "x"] (defScope s_is_infinite) := ⟨rfl, rfl, rfl, by decide +kernel, rfl, by decide +kernel, by decide +kernel⟩
theorem ok_is_infinite (T : Txt K mg a) : FnOk P w K mg base CX0 2 a.f_is_infinite a.d_is_infinite ["self", "x"] (spR K a.C R_is_infinite) := by
  have K_magnitude : FnOk P w K mg base CX0 1 a.f_magnitude a.d_magnitude ["self", "x"] (spR K a.C R_magnitude) := ok_magnitude T
  refine ok_defX T.F_is_infinite sc_is_infinite (fun ds d ⟨f, x, _, e, _⟩ => by rw [e]; rfl) fun cdv A outer s H E hr ds d ⟨f, x, hf, e1, e2⟩ => ?_
  subst e1 e2
  exact rt_ret (ev_eq (ev_meth (ev_var 0) T.cl T.M_magnitude K_magnitude (hr.mono (by decide : 1 ≤ 1)) T.B_magnitude rfl (ea_cons (ev_var 1) ea_nil) ⟨f, x, hf, rfl, rfl⟩) (ev_fld (ev_var 0) T.cl T.na_infinity (fl_inf f)))
theorem sc_is_zero : FnScope ["self", "x"] ["self", "x"] (defScope s_is_zero) := ⟨rfl, rfl, rfl, by decide +kernel, rfl, by decide +kernel, by decide +kernel⟩
theorem ok_is_zero (T : Txt K mg a) : FnOk P w K mg base CX0 2 a.f_is_zero a.d_is_zero ["self", "x"] (spR K a.C R_is_zero) := by
  have K_magnitude : FnOk P w K mg base CX0 1 a.f_magnitude a.d_magnitude ["self", "x"] (spR K a.C R_magnitude) := ok_magnitude T
  refine ok_defX T.F_is_zero sc_is_zero (fun ds d ⟨f, x, _, e, _⟩ => by rw [e]; rfl) fun cdv A outer s H E hr ds d ⟨f, x, hf, e1, e2⟩ => ?_
  subst e1 e2
  exact rt_ret (ev_eq (ev_meth (ev_var 0) T.cl T.M_magnitude K_magnitude (hr.mono (by decide : 1 ≤ 1)) T.B_magnitude rfl (ea_cons (ev_var 1) ea_nil) ⟨f, x, hf, rfl, rfl⟩) ev_int)
theorem sc_opposite : FnScope ["self", "x"] ["self", "x"] (defScope s_opposite) := ⟨rfl, rfl, rfl, by decide +kernel, rfl, by decide +kernel, by decide +kernel⟩
theorem ok_opposite (T : Txt K mg a) : FnOk P w K mg base CX0 1 a.f_opposite a.d_opposite ["self", "x"] (spR K a.C R_opposite) := by
  refine ok_defX T.F_opposite sc_opposite (fun ds d ⟨f, x, _, e, _⟩ => by rw [e]; rfl) fun cdv A outer s H E hr ds d ⟨f, x, hf, e1, e2⟩ => ?_
  subst e1 e2
  exact rt_ret (ev_xor (ev_var 1) (ev_fld (ev_var 0) T.cl T.na_sign_bit (fl_sb f)))
theorem sc_signed : FnScope ["self", "magnitude", "negative"] ["self", "magnitude", "negative"] (defScope s_signed) := ⟨rfl, rfl, rfl, by decide +kernel, rfl, by decide +kernel, by decide +kernel⟩
theorem ok_signed (T : Txt K mg a) : FnOk P w K mg base CX0 1 a.f_signed a.d_signed ["self", "magnitude", "negative"] (spR K a.C R_signed) := by
  refine ok_defX T.F_signed sc_signed (fun ds d ⟨f, m, n, _, e, _⟩ => by rw [e]; rfl) fun cdv A outer s H E hr ds d ⟨f, m, n, hf, e1, e2⟩ => ?_
  subst e1 e2

  refine rt_ret (ev_ifx (k := n) (et_val (ev_var 2)) (fun h => ?_) (fun h => ?_))
  · subst h
    exact ev_add (ev_var 1) (ev_fld (ev_var 0) T.cl T.na_sign_bit (fl_sb f))
  · subst h
    exact ev_var 1
theorem sc_units_of : FnScope ["self", "x", "exponent", "units"] ["self", "x"] (defScope s_units_of) := ⟨rfl, rfl, rfl, by decide +kernel, rfl, by decide +kernel, by decide +kernel⟩
theorem ok_units_of (T : Txt K mg a) : FnOk P w K mg base CX0 2 a.f_units_of a.d_units_of ["self", "x"] (spR K a.C R_units_of) := by
  have K_magnitude : FnOk P w K mg base CX0 1 a.f_magnitude a.d_magnitude ["self", "x"] (spR K a.C R_magnitude) := ok_magnitude T
  have K_is_negative : FnOk P w K mg base CX0 1 a.f_is_negative a.d_is_negative ["self", "x"] (spR K a.C R_is_negative) := ok_is_negative T
  refine ok_defX T.F_units_of sc_units_of (fun ds d ⟨f, x, _, e, _⟩ => by rw [e]; rfl) fun cdv A outer s H E hr ds d ⟨f, x, hf, e1, e2⟩ => ?_
  subst e1 e2

  refine rt_cons (nx_set 2 (ev_shr (ev_meth (ev_var 0) T.cl T.M_magnitude K_magnitude (hr.mono (by decide : 1 ≤ 1)) T.B_magnitude rfl (ea_cons (ev_var 1) ea_nil) ⟨f, x, hf, rfl, rfl⟩) (ev_fld (ev_var 0) T.cl T.na_fraction_bits (fl_fb f)) hf.fb.1) sc_units_of.nd) ?_
  refine rt_cons (nx_set 3 (ev_mod (ev_var 1) (ev_fld (ev_var 0) T.cl T.na_leading_bit (fl_lead f)) hf.lead) sc_units_of.nd) ?_
  refine rt_cons (g' := [some (.form f), some (.int x), some (.int (expI f x)), some (.int (unitsV f (expI f x) (x % f.lead)))]) (nx_if (k := decide (0 < expI f x)) (et_gt (ev_var 2) ev_int) (fun h => ?_) (fun h => ?_)) ?_
  · rw [show unitsV f (expI f x) (x % f.lead) = (f.lead + x % f.lead) * 2 ^ (expI f x - 1).toNat from if_pos (of_decide_eq_true h)]
    exact nxs_one (nx_set 3 (ev_shl (ev_add (ev_fld (ev_var 0) T.cl T.na_leading_bit (fl_lead f)) (ev_var 3)) (ev_sub (ev_var 2) ev_int) (units_sh hf (of_decide_eq_true h))) sc_units_of.nd)
  · rw [show unitsV f (expI f x) (x % f.lead) = x % f.lead from if_neg (of_decide_eq_false h)]
    rfl
  · refine rt_ret (ev_ifx (k := negB f x) (et_val (ev_meth (ev_var 0) T.cl T.M_is_negative K_is_negative (hr.mono (by decide : 1 ≤ 1)) T.B_is_negative rfl (ea_cons (ev_var 1) ea_nil) ⟨f, x, hf, rfl, rfl⟩)) (fun h => ?_) (fun h => ?_))
    · rw [show unitsI f x = -(unitsV f (expI f x) (x % f.lead)) from if_pos h]
      exact ev_neg (ev_var 3)
    · rw [show unitsI f x = unitsV f (expI f x) (x % f.lead) from if_neg (by rw [h]; decide)]
      exact ev_var 3
theorem sc_nearest : FnScope ["self", "dividend", "divisor", "surplus", "step", "kept", "twice_rest", "bits"] ["self", "dividend", "divisor"] (defScope s_nearest) := ⟨rfl, rfl, rfl, by decide +kernel, rfl, by decide +kernel, by decide +kernel⟩
theorem ok_nearest (T : Txt K mg a) : FnOk P w K mg base CX0 1 a.f_nearest a.d_nearest ["self", "dividend", "divisor"] (spR K a.C R_nearest) := by
  refine ok_defX T.F_nearest sc_nearest (fun ds d ⟨f, a, b, _, _, _, _, e, _⟩ => by rw [e]; rfl) fun cdv A outer s H E hr ds d ⟨f, a, b, hf, hb, ha, hb2, e1, e2⟩ => ?_
  subst e1 e2

  refine rt_cons (nx_set 3 (ev_max rfl ev_int (ev_sub (ev_sub (ev_bits (ev_fdiv (ev_var 1) (ev_var 2) (near_c1 hb hb2))) (ev_fld (ev_var 0) T.cl T.na_fraction_bits (fl_fb f))) ev_int) T.no_max) sc_nearest.nd) ?_
  refine rt_cons (nx_set 4 (ev_shl (ev_var 2) (ev_var 3 (d := .int (supI f a b))) (near_c2 hf hb ha hb2)) sc_nearest.nd) ?_
  refine rt_cons (nx_set 5 (ev_fdiv (ev_var 1) (ev_var 4 (d := .int (stepI f a b))) (near_c3 hf hb ha hb2)) sc_nearest.nd) ?_
  refine rt_cons (nx_set 6 (ev_mul ev_int (ev_mod (ev_var 1) (ev_var 4 (d := .int (stepI f a b))) (step_pos f hb)) (IntMulOk.of_left (intBits_le_64 (by decide) (by decide)))) sc_nearest.nd) ?_
  refine rt_cons (g' := [some (.form f), some (.int a), some (.int b), some (.int (supI f a b)), some (.int (stepI f a b)), some (.int (keptI f a b)), some (.int (2 * (a % stepI f a b))), none]) (nx_if (k := upB f a b)
    (et_or (et_gt (ev_var 6 (d := .int (2 * (a % stepI f a b)))) (ev_var 4 (d := .int (stepI f a b)))) fun _ => et_and (et_eq (ev_var 6 (d := .int (2 * (a % stepI f a b)))) (ev_var 4 (d := .int (stepI f a b)))) fun _ => et_eq (ev_mod (ev_var 5 (d := .int (a / stepI f a b))) ev_int (by decide)) ev_int) (fun h => ?_) (fun h => ?_)) ?_
  · rw [show keptI f a b = a / stepI f a b + 1 from if_pos h]
    exact nxs_one (nx_inc 5 (m := a / stepI f a b) ev_int rfl sc_nearest.nd)
  · rw [show keptI f a b = a / stepI f a b from if_neg (by rw [h]; decide)]
    rfl
  · refine rt_cons (nx_set 7 (ev_add (ev_shl (ev_var 3) (ev_fld (ev_var 0) T.cl T.na_fraction_bits (fl_fb f)) (near_c4 hf hb ha)) (ev_var 5)) sc_nearest.nd) ?_
    exact rt_ret (ev_min rfl (ev_var 7) (ev_fld (ev_var 0) T.cl T.na_infinity (fl_inf f)) T.no_min)
theorem sc_plus : FnScope ["self", "x", "y", "total"] ["self", "x", "y"] (defScope s_plus) := ⟨rfl, rfl, rfl, by decide +kernel, rfl, by decide +kernel, by decide +kernel⟩
theorem ok_plus (T : Txt K mg a) : FnOk P w K mg base CX0 3 a.f_plus a.d_plus ["self", "x", "y"] (spR K a.C R_plus) := by
  have K_is_no_number : FnOk P w K mg base CX0 2 a.f_is_no_number a.d_is_no_number ["self", "x"] (spR K a.C R_is_no_number) := ok_is_no_number T
  have K_is_infinite : FnOk P w K mg base CX0 2 a.f_is_infinite a.d_is_infinite ["self", "x"] (spR K a.C R_is_infinite) := ok_is_infinite T
  have K_opposite : FnOk P w K mg base CX0 1 a.f_opposite a.d_opposite ["self", "x"] (spR K a.C R_opposite) := ok_opposite T
  have K_units_of : FnOk P w K mg base CX0 2 a.f_units_of a.d_units_of ["self", "x"] (spR K a.C R_units_of) := ok_units_of T
  have K_is_negative : FnOk P w K mg base CX0 1 a.f_is_negative a.d_is_negative ["self", "x"] (spR K a.C R_is_negative) := ok_is_negative T
  have K_signed : FnOk P w K mg base CX0 1 a.f_signed a.d_signed ["self", "magnitude", "negative"] (spR K a.C R_signed) := ok_signed T
  have K_nearest : FnOk P w K mg base CX0 1 a.f_nearest a.d_nearest ["self", "dividend", "divisor"] (spR K a.C R_nearest) := ok_nearest T
  refine ok_defX T.F_plus sc_plus (fun ds d ⟨f, x, y, _, e, _⟩ => by rw [e]; rfl) fun cdv A outer s H E hr ds d ⟨f, x, y, hf, e1, e2⟩ => ?_
  subst e1 e2

  refine rt_if (k := nanB f x || nanB f y) (et_or (et_val (ev_meth (ev_var 0) T.cl T.M_is_no_number K_is_no_number (hr.mono (by decide : 2 ≤ 2)) T.B_is_no_number rfl (ea_cons (ev_var 1) ea_nil) ⟨f, x, hf, rfl, rfl⟩)) fun _ => (et_val (ev_meth (ev_var 0) T.cl T.M_is_no_number K_is_no_number (hr.mono (by decide : 2 ≤ 2)) T.B_is_no_number rfl (ea_cons (ev_var 2) ea_nil) ⟨f, y, hf, rfl, rfl⟩))) (fun h => ?_) (fun h1 => ?_)
  · rw [show plusI f x y = f.nan from if_pos h]
    exact rt_ret (ev_fld (ev_var 0) T.cl T.na_some_no_number (fl_nan f))
  rw [show plusI f x y = _ from if_neg (by rw [h1]; decide)]
  refine rt_if (k := infB f x) (et_val (ev_meth (ev_var 0) T.cl T.M_is_infinite K_is_infinite (hr.mono (by decide : 2 ≤ 2)) T.B_is_infinite rfl (ea_cons (ev_var 1) ea_nil) ⟨f, x, hf, rfl, rfl⟩)) (fun h => ?_) (fun h2 => ?_)
  · rw [if_pos h]
    refine rt_ret (ev_ifx (k := decide (y = oppI f x)) (et_eq (ev_var 2) (ev_meth (ev_var 0) T.cl T.M_opposite K_opposite (hr.mono (by decide : 1 ≤ 2)) T.B_opposite rfl (ea_cons (ev_var 1) ea_nil) ⟨f, x, hf, rfl, rfl⟩)) (fun h => ?_) (fun h => ?_))
    · rw [if_pos (of_decide_eq_true h)]
      exact (ev_fld (ev_var 0) T.cl T.na_some_no_number (fl_nan f))
    · rw [if_neg (of_decide_eq_false h)]
      exact ev_var 1
  rw [if_neg (show ¬ infB f x = true by rw [h2]; decide)]
  refine rt_if (k := infB f y) (et_val (ev_meth (ev_var 0) T.cl T.M_is_infinite K_is_infinite (hr.mono (by decide : 2 ≤ 2)) T.B_is_infinite rfl (ea_cons (ev_var 2) ea_nil) ⟨f, y, hf, rfl, rfl⟩)) (fun h => ?_) (fun h3 => ?_)
  · rw [if_pos h]
    exact rt_ret (ev_var 2)
  rw [if_neg (show ¬ infB f y = true by rw [h3]; decide)]
  refine rt_cons (nx_set 3 (ev_add (ev_meth (ev_var 0) T.cl T.M_units_of K_units_of (hr.mono (by decide : 2 ≤ 2)) T.B_units_of rfl (ea_cons (ev_var 1) ea_nil) ⟨f, x, hf, rfl, rfl⟩) (ev_meth (ev_var 0) T.cl T.M_units_of K_units_of (hr.mono (by decide : 2 ≤ 2)) T.B_units_of rfl (ea_cons (ev_var 2) ea_nil) ⟨f, y, hf, rfl, rfl⟩)) sc_plus.nd) ?_
  refine rt_if (k := decide (unitsI f x + unitsI f y = 0)) (et_eq (ev_var 3) ev_int) (fun h => ?_) (fun h => ?_)
  · rw [if_pos (of_decide_eq_true h)]
    exact rt_ret (ev_meth (ev_var 0) T.cl T.M_signed K_signed (hr.mono (by decide : 1 ≤ 2)) T.B_signed rfl (ea_cons ev_int (ea_cons (ev_and (ev_meth (ev_var 0) T.cl T.M_is_negative K_is_negative (hr.mono (by decide : 1 ≤ 2)) T.B_is_negative rfl (ea_cons (ev_var 1) ea_nil) ⟨f, x, hf, rfl, rfl⟩) (ev_meth (ev_var 0) T.cl T.M_is_negative K_is_negative (hr.mono (by decide : 1 ≤ 2)) T.B_is_negative rfl (ea_cons (ev_var 2) ea_nil) ⟨f, y, hf, rfl, rfl⟩)) ea_nil)) ⟨f, _, _, hf, rfl, rfl⟩)
  · rw [if_neg (of_decide_eq_false h)]
    exact rt_ret (ev_meth (ev_var 0) T.cl T.M_signed K_signed (hr.mono (by decide : 1 ≤ 2)) T.B_signed rfl (ea_cons (ev_meth (ev_var 0) T.cl T.M_nearest K_nearest (hr.mono (by decide : 1 ≤ 2)) T.B_nearest rfl (ea_cons (ev_abs (ev_var 3 (d := .int (unitsI f x + unitsI f y))) T.no_abs) (ea_cons ev_int ea_nil)) ⟨f, absI (unitsI f x + unitsI f y), 1, hf, by decide, sum_bits hf x y, by decide, rfl, rfl⟩) (ea_cons (ev_lt (ev_var 3) ev_int) ea_nil)) ⟨f, _, _, hf, rfl, rfl⟩)
theorem sc_minus : FnScope ["self", "x", "y"] ["self", "x", "y"] (defScope s_minus) := ⟨rfl, rfl, rfl, by decide +kernel, rfl, by decide +kernel, by decide +kernel⟩
theorem ok_minus (T : Txt K mg a) : FnOk P w K mg base CX0 4 a.f_minus a.d_minus ["self", "x", "y"] (spR K a.C R_minus) := by
  have K_plus : FnOk P w K mg base CX0 3 a.f_plus a.d_plus ["self", "x", "y"] (spR K a.C R_plus) := ok_plus T
  have K_opposite : FnOk P w K mg base CX0 1 a.f_opposite a.d_opposite ["self", "x"] (spR K a.C R_opposite) := ok_opposite T
  refine ok_defX T.F_minus sc_minus (fun ds d ⟨f, x, y, _, e, _⟩ => by rw [e]; rfl) fun cdv A outer s H E hr ds d ⟨f, x, y, hf, e1, e2⟩ => ?_
  subst e1 e2

  exact rt_ret (ev_meth (ev_var 0) T.cl T.M_plus K_plus (hr.mono (by decide : 3 ≤ 3)) T.B_plus rfl (ea_cons (ev_var 1) (ea_cons (ev_meth (ev_var 0) T.cl T.M_opposite K_opposite (hr.mono (by decide : 1 ≤ 3)) T.B_opposite rfl (ea_cons (ev_var 2) ea_nil) ⟨f, y, hf, rfl, rfl⟩) ea_nil)) ⟨f, x, oppI f y, hf, rfl, rfl⟩)
theorem sc_times : FnScope ["self", "x", "y", "negative", "squared_units"] ["self", "x", "y"] (defScope s_times) := ⟨rfl, rfl, rfl, by decide +kernel, rfl, by decide +kernel, by decide +kernel⟩
theorem ok_times (T : Txt K mg a) : FnOk P w K mg base CX0 3 a.f_times a.d_times ["self", "x", "y"] (spR K a.C R_times) := by
  have K_is_no_number : FnOk P w K mg base CX0 2 a.f_is_no_number a.d_is_no_number ["self", "x"] (spR K a.C R_is_no_number) := ok_is_no_number T
  have K_is_infinite : FnOk P w K mg base CX0 2 a.f_is_infinite a.d_is_infinite ["self", "x"] (spR K a.C R_is_infinite) := ok_is_infinite T
  have K_is_zero : FnOk P w K mg base CX0 2 a.f_is_zero a.d_is_zero ["self", "x"] (spR K a.C R_is_zero) := ok_is_zero T
  have K_is_negative : FnOk P w K mg base CX0 1 a.f_is_negative a.d_is_negative ["self", "x"] (spR K a.C R_is_negative) := ok_is_negative T
  have K_units_of : FnOk P w K mg base CX0 2 a.f_units_of a.d_units_of ["self", "x"] (spR K a.C R_units_of) := ok_units_of T
  have K_nearest : FnOk P w K mg base CX0 1 a.f_nearest a.d_nearest ["self", "dividend", "divisor"] (spR K a.C R_nearest) := ok_nearest T
  have K_signed : FnOk P w K mg base CX0 1 a.f_signed a.d_signed ["self", "magnitude", "negative"] (spR K a.C R_signed) := ok_signed T
  refine ok_defX T.F_times sc_times (fun ds d ⟨f, x, y, _, e, _⟩ => by rw [e]; rfl) fun cdv A outer s H E hr ds d ⟨f, x, y, hf, e1, e2⟩ => ?_
  subst e1 e2

  refine rt_if (k := nanB f x || nanB f y) (et_or (et_val (ev_meth (ev_var 0) T.cl T.M_is_no_number K_is_no_number (hr.mono (by decide : 2 ≤ 2)) T.B_is_no_number rfl (ea_cons (ev_var 1) ea_nil) ⟨f, x, hf, rfl, rfl⟩)) fun _ => (et_val (ev_meth (ev_var 0) T.cl T.M_is_no_number K_is_no_number (hr.mono (by decide : 2 ≤ 2)) T.B_is_no_number rfl (ea_cons (ev_var 2) ea_nil) ⟨f, y, hf, rfl, rfl⟩))) (fun h => ?_) (fun h1 => ?_)
  · rw [show timesI f x y = f.nan from if_pos h]
    exact rt_ret (ev_fld (ev_var 0) T.cl T.na_some_no_number (fl_nan f))
  rw [show timesI f x y = _ from if_neg (by rw [h1]; decide)]
  refine rt_cons (nx_set 3 (ev_neB (ev_meth (ev_var 0) T.cl T.M_is_negative K_is_negative (hr.mono (by decide : 1 ≤ 2)) T.B_is_negative rfl (ea_cons (ev_var 1) ea_nil) ⟨f, x, hf, rfl, rfl⟩) (ev_meth (ev_var 0) T.cl T.M_is_negative K_is_negative (hr.mono (by decide : 1 ≤ 2)) T.B_is_negative rfl (ea_cons (ev_var 2) ea_nil) ⟨f, y, hf, rfl, rfl⟩)) sc_times.nd) ?_
  refine rt_if (k := infB f x || infB f y) (et_or (et_val (ev_meth (ev_var 0) T.cl T.M_is_infinite K_is_infinite (hr.mono (by decide : 2 ≤ 2)) T.B_is_infinite rfl (ea_cons (ev_var 1) ea_nil) ⟨f, x, hf, rfl, rfl⟩)) fun _ => (et_val (ev_meth (ev_var 0) T.cl T.M_is_infinite K_is_infinite (hr.mono (by decide : 2 ≤ 2)) T.B_is_infinite rfl (ea_cons (ev_var 2) ea_nil) ⟨f, y, hf, rfl, rfl⟩))) (fun h => ?_) (fun h2 => ?_)
  · rw [if_pos h]
    refine rt_if (k := zeroB f x || zeroB f y) (et_or (et_val (ev_meth (ev_var 0) T.cl T.M_is_zero K_is_zero (hr.mono (by decide : 2 ≤ 2)) T.B_is_zero rfl (ea_cons (ev_var 1) ea_nil) ⟨f, x, hf, rfl, rfl⟩)) fun _ => (et_val (ev_meth (ev_var 0) T.cl T.M_is_zero K_is_zero (hr.mono (by decide : 2 ≤ 2)) T.B_is_zero rfl (ea_cons (ev_var 2) ea_nil) ⟨f, y, hf, rfl, rfl⟩))) (fun h => ?_) (fun h => ?_)
    · rw [if_pos h]
      exact rt_ret (ev_fld (ev_var 0) T.cl T.na_some_no_number (fl_nan f))
    · rw [if_neg (show ¬ (zeroB f x || zeroB f y) = true by rw [h]; decide)]
      exact rt_ret (ev_meth (ev_var 0) T.cl T.M_signed K_signed (hr.mono (by decide : 1 ≤ 2)) T.B_signed rfl (ea_cons (ev_fld (ev_var 0) T.cl T.na_infinity (fl_inf f)) (ea_cons (ev_var 3) ea_nil)) ⟨f, _, _, hf, rfl, rfl⟩)
  rw [if_neg (show ¬ (infB f x || infB f y) = true by rw [h2]; decide)]
  refine rt_cons (nx_set 4 (ev_abs (ev_mul (ev_meth (ev_var 0) T.cl T.M_units_of K_units_of (hr.mono (by decide : 2 ≤ 2)) T.B_units_of rfl (ea_cons (ev_var 1) ea_nil) ⟨f, x, hf, rfl, rfl⟩) (ev_meth (ev_var 0) T.cl T.M_units_of K_units_of (hr.mono (by decide : 2 ≤ 2)) T.B_units_of rfl (ea_cons (ev_var 2) ea_nil) ⟨f, y, hf, rfl, rfl⟩) (prod_ok hf x y)) T.no_abs) sc_times.nd) ?_
  exact rt_ret (ev_meth (ev_var 0) T.cl T.M_signed K_signed (hr.mono (by decide : 1 ≤ 2)) T.B_signed rfl (ea_cons (ev_meth (ev_var 0) T.cl T.M_nearest K_nearest (hr.mono (by decide : 1 ≤ 2)) T.B_nearest rfl (ea_cons (ev_var 4 (d := .int (absI (unitsI f x * unitsI f y)))) (ea_cons (ev_fld (ev_var 0) T.cl T.na_units_of_one (fl_uo f)) ea_nil)) ⟨f, absI (unitsI f x * unitsI f y), f.uo, hf, uo_pos hf, prod_bits hf x y, Nat.le_trans (uo_bits hf) (by decide), rfl, rfl⟩) (ea_cons (ev_var 3) ea_nil)) ⟨f, _, _, hf, rfl, rfl⟩)
theorem sc_answered : FnScope ["form", "parts", "part"] ["form", "parts"] (defScope s_answered) := ⟨rfl, rfl, rfl, by decide +kernel, rfl, by decide +kernel, by decide +kernel⟩
theorem ok_answered (T : Txt K mg a) : FnOk P w K mg base CX0 3 a.f_answered a.d_answered ["form", "parts"] (spR K a.C R_answered) := by
  have K_is_no_number : FnOk P w K mg base CX0 2 a.f_is_no_number a.d_is_no_number ["self", "x"] (spR K a.C R_is_no_number) := ok_is_no_number T
  obtain ⟨tk, hk⟩ := T.g_NO_NUMBER_ANSWER
  refine ok_defX T.F_answered sc_answered (fun ds d ⟨f, l, _, _, e, _⟩ => by rw [e]; rfl) fun cdv A outer s H E hr ds d ⟨f, l, hf, hl, e1, e2⟩ => ?_
  subst e1 e2
  rw [← vInts_map (ansV f) (fun _ => rfl)]
  refine rt_ret (ev_lcO (x := "part") (v := 2) (f := ansV f) rfl sc_answered.nd (blkOk_by (by show blkC ["form", "parts", "part"] (defScope s_answered) _ _ = true; decide +kernel)) (ev_var 1) (by rw [vInts_len]; omega) (fun _ _ _ _ _ => pg_name sc_answered.nd rfl (Or.inl rfl)) fun s1 H1 Cc cl fp u hu => ?_)
  obtain ⟨z, rfl⟩ := vInts_mem hu
  refine ev_ifx (k := nanB f z) (et_val (ev_meth (ev_var 0) T.cl T.M_is_no_number K_is_no_number (hr.mono (by decide : 2 ≤ 2)) T.B_is_no_number rfl (ea_cons (ev_var 2) ea_nil) ⟨f, z, hf, rfl, rfl⟩)) (fun h => ?_) (fun h => ?_)
  · rw [ansV_yes h]
    exact ev_glob hk
  · rw [ansV_no h]
    exact ev_var 2
theorem sc_sum_parts : FnScope ["form", "a", "b"] ["form", "a", "b"] (defScope s_sum_parts) := ⟨rfl, rfl, rfl, by decide +kernel, rfl, by decide +kernel, by decide +kernel⟩
theorem ok_sum_parts (T : Txt K mg a) : FnOk P w K mg base CX0 4 a.f_sum_parts a.d_sum_parts ["form", "a", "b"] (spR K a.C R_sum_parts) := by
  have K_plus : FnOk P w K mg base CX0 3 a.f_plus a.d_plus ["self", "x", "y"] (spR K a.C R_plus) := ok_plus T
  refine ok_defX T.F_sum_parts sc_sum_parts (fun ds d ⟨f, x, y, u, v, _, e, _⟩ => by rw [e]; rfl) fun cdv A outer s H E hr ds d ⟨f, x, y, u, v, hf, e1, e2⟩ => ?_
  subst e1 e2

  exact rt_ret (ev_list (xs := vInts [plusI f x u, plusI f y v]) (ea_cons (ev_meth (ev_var 0) T.cl T.M_plus K_plus (hr.mono (by decide : 3 ≤ 3)) T.B_plus rfl (ea_cons (ev_ix (v := .int x) (ev_var 1) ev_int rfl) (ea_cons (ev_ix (v := .int u) (ev_var 2) ev_int rfl) ea_nil)) ⟨f, x, u, hf, rfl, rfl⟩) (ea_cons (ev_meth (ev_var 0) T.cl T.M_plus K_plus (hr.mono (by decide : 3 ≤ 3)) T.B_plus rfl (ea_cons (ev_ix (v := .int y) (ev_var 1) ev_int rfl) (ea_cons (ev_ix (v := .int v) (ev_var 2) ev_int rfl) ea_nil)) ⟨f, y, v, hf, rfl, rfl⟩) ea_nil)) (by show 2 ≤ sizeLine; decide))
theorem sc_four_products : FnScope ["form", "a", "b"] ["form", "a", "b"] (defScope s_four_products) := ⟨rfl, rfl, rfl, by decide +kernel, rfl, by decide +kernel, by decide +kernel⟩
theorem ok_four_products (T : Txt K mg a) : FnOk P w K mg base CX0 4 a.f_four_products a.d_four_products ["form", "a", "b"] (spR K a.C R_four_products) := by
  have K_times : FnOk P w K mg base CX0 3 a.f_times a.d_times ["self", "x", "y"] (spR K a.C R_times) := ok_times T
  refine ok_defX T.F_four_products sc_four_products (fun ds d ⟨f, x, y, u, v, _, e, _⟩ => by rw [e]; rfl) fun cdv A outer s H E hr ds d ⟨f, x, y, u, v, hf, e1, e2⟩ => ?_
  subst e1 e2

  exact rt_ret (ev_list (xs := vInts [timesI f x u, timesI f y v, timesI f x v, timesI f y u]) (ea_cons (ev_meth (ev_var 0) T.cl T.M_times K_times (hr.mono (by decide : 3 ≤ 3)) T.B_times rfl (ea_cons (ev_ix (v := .int x) (ev_var 1) ev_int rfl) (ea_cons (ev_ix (v := .int u) (ev_var 2) ev_int rfl) ea_nil)) ⟨f, x, u, hf, rfl, rfl⟩) (ea_cons (ev_meth (ev_var 0) T.cl T.M_times K_times (hr.mono (by decide : 3 ≤ 3)) T.B_times rfl (ea_cons (ev_ix (v := .int y) (ev_var 1) ev_int rfl) (ea_cons (ev_ix (v := .int v) (ev_var 2) ev_int rfl) ea_nil)) ⟨f, y, v, hf, rfl, rfl⟩) (ea_cons (ev_meth (ev_var 0) T.cl T.M_times K_times (hr.mono (by decide : 3 ≤ 3)) T.B_times rfl (ea_cons (ev_ix (v := .int x) (ev_var 1) ev_int rfl) (ea_cons (ev_ix (v := .int v) (ev_var 2) ev_int rfl) ea_nil)) ⟨f, x, v, hf, rfl, rfl⟩) (ea_cons (ev_meth (ev_var 0) T.cl T.M_times K_times (hr.mono (by decide : 3 ≤ 3)) T.B_times rfl (ea_cons (ev_ix (v := .int y) (ev_var 1) ev_int rfl) (ea_cons (ev_ix (v := .int u) (ev_var 2) ev_int rfl) ea_nil)) ⟨f, y, u, hf, rfl, rfl⟩) ea_nil)))) (by show 4 ≤ sizeLine; decide))
theorem sc_parts_of_products : FnScope ["form", "products"] ["form", "products"] (defScope s_parts_of_products) := ⟨rfl, rfl, rfl, by decide +kernel, rfl, by decide +kernel, by decide +kernel⟩
theorem ok_parts_of_products (T : Txt K mg a) : FnOk P w K mg base CX0 5 a.f_parts_of_products a.d_parts_of_products ["form", "products"] (spR K a.C R_parts_of_products) := by
  have K_minus : FnOk P w K mg base CX0 4 a.f_minus a.d_minus ["self", "x", "y"] (spR K a.C R_minus) := ok_minus T
  have K_plus : FnOk P w K mg base CX0 3 a.f_plus a.d_plus ["self", "x", "y"] (spR K a.C R_plus) := ok_plus T
  refine ok_defX T.F_parts_of_products sc_parts_of_products (fun ds d ⟨f, p, q, r, s', _, e, _⟩ => by rw [e]; rfl) fun cdv A outer s H E hr ds d ⟨f, p, q, r, s', hf, e1, e2⟩ => ?_
  subst e1 e2

  exact rt_ret (ev_list (xs := vInts [minusI f p q, plusI f r s']) (ea_cons (ev_meth (ev_var 0) T.cl T.M_minus K_minus (hr.mono (by decide : 4 ≤ 4)) T.B_minus rfl (ea_cons (ev_ix (v := .int p) (ev_var 1) ev_int rfl) (ea_cons (ev_ix (v := .int q) (ev_var 1) ev_int rfl) ea_nil)) ⟨f, p, q, hf, rfl, rfl⟩) (ea_cons (ev_meth (ev_var 0) T.cl T.M_plus K_plus (hr.mono (by decide : 3 ≤ 4)) T.B_plus rfl (ea_cons (ev_ix (v := .int r) (ev_var 1) ev_int rfl) (ea_cons (ev_ix (v := .int s') (ev_var 1) ev_int rfl) ea_nil)) ⟨f, r, s', hf, rfl, rfl⟩) ea_nil)) (by show 2 ≤ sizeLine; decide))
theorem sc_scaled : FnScope ["form", "factor", "parts", "part"] ["form", "factor", "parts"] (defScope s_scaled) := ⟨rfl, rfl, rfl, by decide +kernel, rfl, by decide +kernel, by decide +kernel⟩
theorem ok_scaled (T : Txt K mg a) : FnOk P w K mg base CX0 4 a.f_scaled a.d_scaled ["form", "factor", "parts"] (spR K a.C R_scaled) := by
  have K_times : FnOk P w K mg base CX0 3 a.f_times a.d_times ["self", "x", "y"] (spR K a.C R_times) := ok_times T
  refine ok_defX T.F_scaled sc_scaled (fun ds d ⟨f, k, l, _, _, e, _⟩ => by rw [e]; rfl) fun cdv A outer s H E hr ds d ⟨f, k, l, hf, hl, e1, e2⟩ => ?_
  subst e1 e2

  rw [← intV_map]
  refine rt_ret (ev_lc (x := "part") (v := 3) (f := intV (timesI f k)) rfl sc_scaled.nd (blkOk_by (by show blkC ["form", "factor", "parts", "part"] (defScope s_scaled) _ _ = true; decide +kernel)) (ev_var 2) (by rw [vInts_len]; omega) (fun _ _ _ _ _ => pg_name sc_scaled.nd rfl (Or.inl rfl)) fun s1 H1 Cc cl fp u hu => ?_)
  obtain ⟨z, rfl⟩ := vInts_mem hu
  exact (ev_meth (ev_var 0) T.cl T.M_times K_times (hr.mono (by decide : 3 ≤ 3)) T.B_times rfl (ea_cons (ev_var 1) (ea_cons (ev_var 3) ea_nil)) ⟨f, k, z, hf, rfl, rfl⟩)
theorem sc_ones_for_infinities : FnScope ["form", "parts", "part"] ["form", "parts"] (defScope s_ones_for_infinities) := ⟨rfl, rfl, rfl, by decide +kernel, rfl, by decide +kernel, by decide +kernel⟩
theorem ok_ones_for_infinities (T : Txt K mg a) : FnOk P w K mg base CX0 3 a.f_ones_for_infinities a.d_ones_for_infinities ["form", "parts"] (spR K a.C R_ones_for_infinities) := by
  have K_is_infinite : FnOk P w K mg base CX0 2 a.f_is_infinite a.d_is_infinite ["self", "x"] (spR K a.C R_is_infinite) := ok_is_infinite T
  have K_is_negative : FnOk P w K mg base CX0 1 a.f_is_negative a.d_is_negative ["self", "x"] (spR K a.C R_is_negative) := ok_is_negative T
  have K_signed : FnOk P w K mg base CX0 1 a.f_signed a.d_signed ["self", "magnitude", "negative"] (spR K a.C R_signed) := ok_signed T
  refine ok_defX T.F_ones_for_infinities sc_ones_for_infinities (fun ds d ⟨f, l, _, _, e, _⟩ => by rw [e]; rfl) fun cdv A outer s H E hr ds d ⟨f, l, hf, hl, e1, e2⟩ => ?_
  subst e1 e2

  rw [← intV_map]
  refine rt_ret (ev_lc (x := "part") (v := 2) (f := intV (oneI f)) rfl sc_ones_for_infinities.nd (blkOk_by (by show blkC ["form", "parts", "part"] (defScope s_ones_for_infinities) _ _ = true; decide +kernel)) (ev_var 1) (by rw [vInts_len]; omega) (fun _ _ _ _ _ => pg_name sc_ones_for_infinities.nd rfl (Or.inl rfl)) fun s1 H1 Cc cl fp u hu => ?_)
  obtain ⟨z, rfl⟩ := vInts_mem hu
  refine (ev_meth (ev_var 0) T.cl T.M_signed K_signed (hr.mono (by decide : 1 ≤ 2)) T.B_signed rfl (ea_cons (d := .int (if infB f z = true then f.one else 0)) ?_ (ea_cons (ev_meth (ev_var 0) T.cl T.M_is_negative K_is_negative (hr.mono (by decide : 1 ≤ 2)) T.B_is_negative rfl (ea_cons (ev_var 2) ea_nil) ⟨f, z, hf, rfl, rfl⟩) ea_nil)) ⟨f, _, _, hf, rfl, rfl⟩)
  refine ev_ifx (k := infB f z) (et_val (ev_meth (ev_var 0) T.cl T.M_is_infinite K_is_infinite (hr.mono (by decide : 2 ≤ 2)) T.B_is_infinite rfl (ea_cons (ev_var 2) ea_nil) ⟨f, z, hf, rfl, rfl⟩)) (fun h => ?_) (fun h => ?_)
  · rw [if_pos h]
    exact (ev_fld (ev_var 0) T.cl T.na_one (fl_one f))
  · rw [if_neg (by rw [h]; decide)]
    exact ev_int
theorem sc_zeros_for_no_numbers : FnScope ["form", "parts", "part"] ["form", "parts"] (defScope s_zeros_for_no_numbers) := ⟨rfl, rfl, rfl, by decide +kernel, rfl, by decide +kernel, by decide +kernel⟩
theorem ok_zeros_for_no_numbers (T : Txt K mg a) : FnOk P w K mg base CX0 3 a.f_zeros_for_no_numbers a.d_zeros_for_no_numbers ["form", "parts"] (spR K a.C R_zeros_for_no_numbers) := by
  have K_is_no_number : FnOk P w K mg base CX0 2 a.f_is_no_number a.d_is_no_number ["self", "x"] (spR K a.C R_is_no_number) := ok_is_no_number T
  have K_is_negative : FnOk P w K mg base CX0 1 a.f_is_negative a.d_is_negative ["self", "x"] (spR K a.C R_is_negative) := ok_is_negative T
  have K_signed : FnOk P w K mg base CX0 1 a.f_signed a.d_signed ["self", "magnitude", "negative"] (spR K a.C R_signed) := ok_signed T
  refine ok_defX T.F_zeros_for_no_numbers sc_zeros_for_no_numbers (fun ds d ⟨f, l, _, _, e, _⟩ => by rw [e]; rfl) fun cdv A outer s H E hr ds d ⟨f, l, hf, hl, e1, e2⟩ => ?_
  subst e1 e2

  rw [← intV_map]
  refine rt_ret (ev_lc (x := "part") (v := 2) (f := intV (zeroI f)) rfl sc_zeros_for_no_numbers.nd (blkOk_by (by show blkC ["form", "parts", "part"] (defScope s_zeros_for_no_numbers) _ _ = true; decide +kernel)) (ev_var 1) (by rw [vInts_len]; omega) (fun _ _ _ _ _ => pg_name sc_zeros_for_no_numbers.nd rfl (Or.inl rfl)) fun s1 H1 Cc cl fp u hu => ?_)
  obtain ⟨z, rfl⟩ := vInts_mem hu
  refine ev_ifx (k := nanB f z) (et_val (ev_meth (ev_var 0) T.cl T.M_is_no_number K_is_no_number (hr.mono (by decide : 2 ≤ 2)) T.B_is_no_number rfl (ea_cons (ev_var 2) ea_nil) ⟨f, z, hf, rfl, rfl⟩)) (fun h => ?_) (fun h => ?_)
  · rw [show intV (zeroI f) (.int z) = .int (signI f 0 (negB f z)) from congrArg V.int (if_pos h)]
    exact (ev_meth (ev_var 0) T.cl T.M_signed K_signed (hr.mono (by decide : 1 ≤ 2)) T.B_signed rfl (ea_cons ev_int (ea_cons (ev_meth (ev_var 0) T.cl T.M_is_negative K_is_negative (hr.mono (by decide : 1 ≤ 2)) T.B_is_negative rfl (ea_cons (ev_var 2) ea_nil) ⟨f, z, hf, rfl, rfl⟩) ea_nil)) ⟨f, _, _, hf, rfl, rfl⟩)
  · rw [show intV (zeroI f) (.int z) = .int z from congrArg V.int (if_neg (by rw [h]; decide))]
    exact ev_var 2
theorem sc_any_infinite : FnScope ["form", "parts", "part"] ["form", "parts"] (defScope s_any_infinite) := ⟨rfl, rfl, rfl, by decide +kernel, rfl, by decide +kernel, by decide +kernel⟩
theorem ok_any_infinite (T : Txt K mg a) : FnOk P w K mg base CX0 3 a.f_any_infinite a.d_any_infinite ["form", "parts"] (spR K a.C R_any_infinite) := by
  have K_is_infinite : FnOk P w K mg base CX0 2 a.f_is_infinite a.d_is_infinite ["self", "x"] (spR K a.C R_is_infinite) := ok_is_infinite T
  refine ok_defX T.F_any_infinite sc_any_infinite (fun ds d ⟨f, l, _, _, e, _⟩ => by rw [e]; rfl) fun cdv A outer s H E hr ds d ⟨f, l, hf, hl, e1, e2⟩ => ?_
  subst e1 e2

  rw [← any_id]
  refine rt_ret (ev_any rfl ?_ T.no_any)
  rw [← tstV_map]
  refine (ev_lc (x := "part") (v := 2) (f := tstV (infB f)) rfl sc_any_infinite.nd (blkOk_by (by show blkC ["form", "parts", "part"] (defScope s_any_infinite) _ _ = true; decide +kernel)) (ev_var 1) (by rw [vInts_len]; omega) (fun _ _ _ _ _ => pg_name sc_any_infinite.nd rfl (Or.inl rfl)) fun s1 H1 Cc cl fp u hu => ?_)
  obtain ⟨z, rfl⟩ := vInts_mem hu
  exact (ev_meth (ev_var 0) T.cl T.M_is_infinite K_is_infinite (hr.mono (by decide : 2 ≤ 2)) T.B_is_infinite rfl (ea_cons (ev_var 2) ea_nil) ⟨f, z, hf, rfl, rfl⟩)
theorem sc_all_no_numbers : FnScope ["form", "parts", "part"] ["form", "parts"] (defScope s_all_no_numbers) := ⟨rfl, rfl, rfl, by decide +kernel, rfl, by decide +kernel, by decide +kernel⟩
theorem ok_all_no_numbers (T : Txt K mg a) : FnOk P w K mg base CX0 3 a.f_all_no_numbers a.d_all_no_numbers ["form", "parts"] (spR K a.C R_all_no_numbers) := by
  have K_is_no_number : FnOk P w K mg base CX0 2 a.f_is_no_number a.d_is_no_number ["self", "x"] (spR K a.C R_is_no_number) := ok_is_no_number T
  refine ok_defX T.F_all_no_numbers sc_all_no_numbers (fun ds d ⟨f, l, _, _, e, _⟩ => by rw [e]; rfl) fun cdv A outer s H E hr ds d ⟨f, l, hf, hl, e1, e2⟩ => ?_
  subst e1 e2

  rw [← all_id]
  refine rt_ret (ev_all rfl ?_ T.no_all)
  rw [← tstV_map]
  refine (ev_lc (x := "part") (v := 2) (f := tstV (nanB f)) rfl sc_all_no_numbers.nd (blkOk_by (by show blkC ["form", "parts", "part"] (defScope s_all_no_numbers) _ _ = true; decide +kernel)) (ev_var 1) (by rw [vInts_len]; omega) (fun _ _ _ _ _ => pg_name sc_all_no_numbers.nd rfl (Or.inl rfl)) fun s1 H1 Cc cl fp u hu => ?_)
  obtain ⟨z, rfl⟩ := vInts_mem hu
  exact (ev_meth (ev_var 0) T.cl T.M_is_no_number K_is_no_number (hr.mono (by decide : 2 ≤ 2)) T.B_is_no_number rfl (ea_cons (ev_var 2) ea_nil) ⟨f, z, hf, rfl, rfl⟩)
theorem sc_mended_product : FnScope ["form", "a", "b", "products", "parts", "a_infinite", "b_infinite"] ["form", "a", "b", "products", "parts"] (defScope s_mended_product) := ⟨rfl, rfl, rfl, by decide +kernel, rfl, by decide +kernel, by decide +kernel⟩
theorem ok_mended_product (T : Txt K mg a) : FnOk P w K mg base CX0 6 a.f_mended_product a.d_mended_product ["form", "a", "b", "products", "parts"] (spR K a.C R_mended_product) := by
  have K_any_infinite : FnOk P w K mg base CX0 3 a.f_any_infinite a.d_any_infinite ["form", "parts"] (spR K a.C R_any_infinite) := ok_any_infinite T
  have K_ones_for_infinities : FnOk P w K mg base CX0 3 a.f_ones_for_infinities a.d_ones_for_infinities ["form", "parts"] (spR K a.C R_ones_for_infinities) := ok_ones_for_infinities T
  have K_zeros_for_no_numbers : FnOk P w K mg base CX0 3 a.f_zeros_for_no_numbers a.d_zeros_for_no_numbers ["form", "parts"] (spR K a.C R_zeros_for_no_numbers) := ok_zeros_for_no_numbers T
  have K_parts_of_products : FnOk P w K mg base CX0 5 a.f_parts_of_products a.d_parts_of_products ["form", "products"] (spR K a.C R_parts_of_products) := ok_parts_of_products T
  have K_four_products : FnOk P w K mg base CX0 4 a.f_four_products a.d_four_products ["form", "a", "b"] (spR K a.C R_four_products) := ok_four_products T
  have K_scaled : FnOk P w K mg base CX0 4 a.f_scaled a.d_scaled ["form", "factor", "parts"] (spR K a.C R_scaled) := ok_scaled T
  refine ok_defX T.F_mended_product sc_mended_product (fun ds d ⟨f, x, y, u, v, _, e, _⟩ => by rw [e]; rfl) fun cdv A outer s H E hr ds d ⟨f, x, y, u, v, hf, e1, e2⟩ => ?_
  subst e1 e2

  refine rt_cons (nx_set 5 (ev_call K_any_infinite (hr.mono (by decide : 3 ≤ 5)) T.G_any_infinite T.F_any_infinite.kp T.B_any_infinite (ea_cons (ev_var 0) (ea_cons (ev_var 1) ea_nil)) ⟨f, [x, y], hf, (by show 2 ≤ 1000; decide), rfl, rfl⟩) sc_mended_product.nd) ?_
  unfold mendL
  by_cases c1 : [x, y].any (infB f) = true
  · rw [if_pos c1]
    refine rt_cons (nx_if (k := [x, y].any (infB f)) (et_val (ev_var 5)) (fun _ => nxs_cons (nx_set 1 (ev_call K_ones_for_infinities (hr.mono (by decide : 3 ≤ 5)) T.G_ones_for_infinities T.F_ones_for_infinities.kp T.B_ones_for_infinities (ea_cons (ev_var 0) (ea_cons (ev_var 1) ea_nil)) ⟨f, [x, y], hf, (by show 2 ≤ 1000; decide), rfl, rfl⟩) sc_mended_product.nd) (nxs_one (nx_set 2 (ev_call K_zeros_for_no_numbers (hr.mono (by decide : 3 ≤ 5)) T.G_zeros_for_no_numbers T.F_zeros_for_no_numbers.kp T.B_zeros_for_no_numbers (ea_cons (ev_var 0) (ea_cons (ev_var 2) ea_nil)) ⟨f, [u, v], hf, (by show 2 ≤ 1000; decide), rfl, rfl⟩) sc_mended_product.nd))) (fun h => by rw [h] at c1; cases c1)) ?_
    refine rt_cons (nx_set 6 (ev_call K_any_infinite (hr.mono (by decide : 3 ≤ 5)) T.G_any_infinite T.F_any_infinite.kp T.B_any_infinite (ea_cons (ev_var 0) (ea_cons (ev_var 2) ea_nil)) ⟨f, [zeroI f u, zeroI f v], hf, (by show 2 ≤ 1000; decide), rfl, rfl⟩) sc_mended_product.nd) ?_
    by_cases c2 : [zeroI f u, zeroI f v].any (infB f) = true
    · rw [if_pos c2]
      refine rt_cons (nx_if (k := [zeroI f u, zeroI f v].any (infB f)) (et_val (ev_var 6)) (fun _ => nxs_cons (nx_set 2 (ev_call K_ones_for_infinities (hr.mono (by decide : 3 ≤ 5)) T.G_ones_for_infinities T.F_ones_for_infinities.kp T.B_ones_for_infinities (ea_cons (ev_var 0) (ea_cons (ev_var 2) ea_nil)) ⟨f, [zeroI f u, zeroI f v], hf, (by show 2 ≤ 1000; decide), rfl, rfl⟩) sc_mended_product.nd) (nxs_one (nx_set 1 (ev_call K_zeros_for_no_numbers (hr.mono (by decide : 3 ≤ 5)) T.G_zeros_for_no_numbers T.F_zeros_for_no_numbers.kp T.B_zeros_for_no_numbers (ea_cons (ev_var 0) (ea_cons (ev_var 1) ea_nil)) ⟨f, [oneI f x, oneI f y], hf, (by show 2 ≤ 1000; decide), rfl, rfl⟩) sc_mended_product.nd))) (fun h => by rw [h] at c2; cases c2)) ?_
      exact rt_ifF (EvT.cast (et_and (k := true) (et_not (et_val (ev_var 5 (d := .bl ([x, y].any (infB f)))))) (fun h => absurd h (by rw [c1]; decide))) (by rw [c1]; rfl)) (rt_ret (ev_call K_scaled (hr.mono (by decide : 4 ≤ 5)) T.G_scaled T.F_scaled.kp T.B_scaled (ea_cons (ev_var 0) (ea_cons (ev_fld (ev_var 0) T.cl T.na_infinity (fl_inf f)) (ea_cons (ev_call K_parts_of_products (hr.mono (by decide : 5 ≤ 5)) T.G_parts_of_products T.F_parts_of_products.kp T.B_parts_of_products (ea_cons (ev_var 0) (ea_cons (ev_call K_four_products (hr.mono (by decide : 4 ≤ 5)) T.G_four_products T.F_four_products.kp T.B_four_products (ea_cons (ev_var 0) (ea_cons (ev_var 1) (ea_cons (ev_var 2) ea_nil))) ⟨f, (zeroI f (oneI f x)), (zeroI f (oneI f y)), (oneI f (zeroI f u)), (oneI f (zeroI f v)), hf, rfl, rfl⟩) ea_nil)) ⟨f, _, _, _, _, hf, rfl, rfl⟩) ea_nil))) ⟨f, f.inf, _, hf, (by show 2 ≤ 1000; decide), rfl, rfl⟩))
    · rw [if_neg c2]
      refine rt_cons (nx_if (k := [zeroI f u, zeroI f v].any (infB f)) (et_val (ev_var 6)) (fun h => absurd h c2) (fun _ => rfl)) ?_
      exact rt_ifF (EvT.cast (et_and (k := true) (et_not (et_val (ev_var 5 (d := .bl ([x, y].any (infB f)))))) (fun h => absurd h (by rw [c1]; decide))) (by rw [c1]; rfl)) (rt_ret (ev_call K_scaled (hr.mono (by decide : 4 ≤ 5)) T.G_scaled T.F_scaled.kp T.B_scaled (ea_cons (ev_var 0) (ea_cons (ev_fld (ev_var 0) T.cl T.na_infinity (fl_inf f)) (ea_cons (ev_call K_parts_of_products (hr.mono (by decide : 5 ≤ 5)) T.G_parts_of_products T.F_parts_of_products.kp T.B_parts_of_products (ea_cons (ev_var 0) (ea_cons (ev_call K_four_products (hr.mono (by decide : 4 ≤ 5)) T.G_four_products T.F_four_products.kp T.B_four_products (ea_cons (ev_var 0) (ea_cons (ev_var 1) (ea_cons (ev_var 2) ea_nil))) ⟨f, (oneI f x), (oneI f y), (zeroI f u), (zeroI f v), hf, rfl, rfl⟩) ea_nil)) ⟨f, _, _, _, _, hf, rfl, rfl⟩) ea_nil))) ⟨f, f.inf, _, hf, (by show 2 ≤ 1000; decide), rfl, rfl⟩))
  · rw [if_neg c1]
    have c1' : [x, y].any (infB f) = false := by simpa using c1
    refine rt_cons (nx_if (k := [x, y].any (infB f)) (et_val (ev_var 5)) (fun h => absurd h c1) (fun _ => rfl)) ?_
    refine rt_cons (nx_set 6 (ev_call K_any_infinite (hr.mono (by decide : 3 ≤ 5)) T.G_any_infinite T.F_any_infinite.kp T.B_any_infinite (ea_cons (ev_var 0) (ea_cons (ev_var 2) ea_nil)) ⟨f, [u, v], hf, (by show 2 ≤ 1000; decide), rfl, rfl⟩) sc_mended_product.nd) ?_
    by_cases c2 : [u, v].any (infB f) = true
    · rw [if_pos c2]
      refine rt_cons (nx_if (k := [u, v].any (infB f)) (et_val (ev_var 6)) (fun _ => nxs_cons (nx_set 2 (ev_call K_ones_for_infinities (hr.mono (by decide : 3 ≤ 5)) T.G_ones_for_infinities T.F_ones_for_infinities.kp T.B_ones_for_infinities (ea_cons (ev_var 0) (ea_cons (ev_var 2) ea_nil)) ⟨f, [u, v], hf, (by show 2 ≤ 1000; decide), rfl, rfl⟩) sc_mended_product.nd) (nxs_one (nx_set 1 (ev_call K_zeros_for_no_numbers (hr.mono (by decide : 3 ≤ 5)) T.G_zeros_for_no_numbers T.F_zeros_for_no_numbers.kp T.B_zeros_for_no_numbers (ea_cons (ev_var 0) (ea_cons (ev_var 1) ea_nil)) ⟨f, [x, y], hf, (by show 2 ≤ 1000; decide), rfl, rfl⟩) sc_mended_product.nd))) (fun h => by rw [h] at c2; cases c2)) ?_
      exact rt_ifF (EvT.cast (et_and (et_not (et_val (ev_var 5 (d := .bl ([x, y].any (infB f)))))) (fun _ => et_not (et_val (ev_var 6 (d := .bl ([u, v].any (infB f))))))) (by rw [c1', c2]; rfl)) (rt_ret (ev_call K_scaled (hr.mono (by decide : 4 ≤ 5)) T.G_scaled T.F_scaled.kp T.B_scaled (ea_cons (ev_var 0) (ea_cons (ev_fld (ev_var 0) T.cl T.na_infinity (fl_inf f)) (ea_cons (ev_call K_parts_of_products (hr.mono (by decide : 5 ≤ 5)) T.G_parts_of_products T.F_parts_of_products.kp T.B_parts_of_products (ea_cons (ev_var 0) (ea_cons (ev_call K_four_products (hr.mono (by decide : 4 ≤ 5)) T.G_four_products T.F_four_products.kp T.B_four_products (ea_cons (ev_var 0) (ea_cons (ev_var 1) (ea_cons (ev_var 2) ea_nil))) ⟨f, (zeroI f x), (zeroI f y), (oneI f u), (oneI f v), hf, rfl, rfl⟩) ea_nil)) ⟨f, _, _, _, _, hf, rfl, rfl⟩) ea_nil))) ⟨f, f.inf, _, hf, (by show 2 ≤ 1000; decide), rfl, rfl⟩))
    · rw [if_neg c2]
      have c2' : [u, v].any (infB f) = false := by simpa using c2
      refine rt_cons (nx_if (k := [u, v].any (infB f)) (et_val (ev_var 6)) (fun h => absurd h c2) (fun _ => rfl)) ?_
      by_cases c3 : (fourL f x y u v).any (infB f) = true
      · rw [if_pos c3]
        refine rt_cons (nx_if (k := true) (EvT.cast (et_and (et_not (et_val (ev_var 5 (d := .bl ([x, y].any (infB f)))))) (fun _ => et_not (et_val (ev_var 6 (d := .bl ([u, v].any (infB f))))))) (by rw [c1', c2']; rfl)) (fun _ => nxs_cons (nx_if (k := !(fourL f x y u v).any (infB f)) (et_not (et_val (ev_call K_any_infinite (hr.mono (by decide : 3 ≤ 5)) T.G_any_infinite T.F_any_infinite.kp T.B_any_infinite (ea_cons (ev_var 0) (ea_cons (ev_var 3) ea_nil)) ⟨f, fourL f x y u v, hf, (by show 4 ≤ 1000; decide), rfl, rfl⟩))) (fun h => by rw [c3] at h; cases h) (fun _ => rfl)) (nxs_cons (nx_set 1 (ev_call K_zeros_for_no_numbers (hr.mono (by decide : 3 ≤ 5)) T.G_zeros_for_no_numbers T.F_zeros_for_no_numbers.kp T.B_zeros_for_no_numbers (ea_cons (ev_var 0) (ea_cons (ev_var 1) ea_nil)) ⟨f, [x, y], hf, (by show 2 ≤ 1000; decide), rfl, rfl⟩) sc_mended_product.nd) (nxs_one (nx_set 2 (ev_call K_zeros_for_no_numbers (hr.mono (by decide : 3 ≤ 5)) T.G_zeros_for_no_numbers T.F_zeros_for_no_numbers.kp T.B_zeros_for_no_numbers (ea_cons (ev_var 0) (ea_cons (ev_var 2) ea_nil)) ⟨f, [u, v], hf, (by show 2 ≤ 1000; decide), rfl, rfl⟩) sc_mended_product.nd)))) (fun h => by cases h)) ?_
        exact rt_ret (ev_call K_scaled (hr.mono (by decide : 4 ≤ 5)) T.G_scaled T.F_scaled.kp T.B_scaled (ea_cons (ev_var 0) (ea_cons (ev_fld (ev_var 0) T.cl T.na_infinity (fl_inf f)) (ea_cons (ev_call K_parts_of_products (hr.mono (by decide : 5 ≤ 5)) T.G_parts_of_products T.F_parts_of_products.kp T.B_parts_of_products (ea_cons (ev_var 0) (ea_cons (ev_call K_four_products (hr.mono (by decide : 4 ≤ 5)) T.G_four_products T.F_four_products.kp T.B_four_products (ea_cons (ev_var 0) (ea_cons (ev_var 1) (ea_cons (ev_var 2) ea_nil))) ⟨f, (zeroI f x), (zeroI f y), (zeroI f u), (zeroI f v), hf, rfl, rfl⟩) ea_nil)) ⟨f, _, _, _, _, hf, rfl, rfl⟩) ea_nil))) ⟨f, f.inf, _, hf, (by show 2 ≤ 1000; decide), rfl, rfl⟩)
      · rw [if_neg c3]
        have c3' : (fourL f x y u v).any (infB f) = false := by simpa using c3
        refine rt_ifT (EvT.cast (et_and (et_not (et_val (ev_var 5 (d := .bl ([x, y].any (infB f)))))) (fun _ => et_not (et_val (ev_var 6 (d := .bl ([u, v].any (infB f))))))) (by rw [c1', c2']; rfl)) (rt_if (k := !(fourL f x y u v).any (infB f)) (et_not (et_val (ev_call K_any_infinite (hr.mono (by decide : 3 ≤ 5)) T.G_any_infinite T.F_any_infinite.kp T.B_any_infinite (ea_cons (ev_var 0) (ea_cons (ev_var 3) ea_nil)) ⟨f, fourL f x y u v, hf, (by show 4 ≤ 1000; decide), rfl, rfl⟩))) (fun _ => rt_ret (ev_var 4)) (fun h => by rw [c3'] at h; cases h))
theorem sc_product_parts : FnScope ["form", "a", "b", "products", "parts"] ["form", "a", "b"] (defScope s_product_parts) := ⟨rfl, rfl, rfl, by decide +kernel, rfl, by decide +kernel, by decide +kernel⟩
theorem ok_product_parts (T : Txt K mg a) : FnOk P w K mg base CX0 7 a.f_product_parts a.d_product_parts ["form", "a", "b"] (spR K a.C R_product_parts) := by
  have K_four_products : FnOk P w K mg base CX0 4 a.f_four_products a.d_four_products ["form", "a", "b"] (spR K a.C R_four_products) := ok_four_products T
  have K_parts_of_products : FnOk P w K mg base CX0 5 a.f_parts_of_products a.d_parts_of_products ["form", "products"] (spR K a.C R_parts_of_products) := ok_parts_of_products T
  have K_all_no_numbers : FnOk P w K mg base CX0 3 a.f_all_no_numbers a.d_all_no_numbers ["form", "parts"] (spR K a.C R_all_no_numbers) := ok_all_no_numbers T
  have K_mended_product : FnOk P w K mg base CX0 6 a.f_mended_product a.d_mended_product ["form", "a", "b", "products", "parts"] (spR K a.C R_mended_product) := ok_mended_product T
  refine ok_defX T.F_product_parts sc_product_parts (fun ds d ⟨f, x, y, u, v, _, e, _⟩ => by rw [e]; rfl) fun cdv A outer s H E hr ds d ⟨f, x, y, u, v, hf, e1, e2⟩ => ?_
  subst e1 e2

  refine rt_cons (nx_set 3 (ev_call K_four_products (hr.mono (by decide : 4 ≤ 6)) T.G_four_products T.F_four_products.kp T.B_four_products (ea_cons (ev_var 0) (ea_cons (ev_var 1) (ea_cons (ev_var 2) ea_nil))) ⟨f, x, y, u, v, hf, rfl, rfl⟩) sc_product_parts.nd) ?_
  refine rt_cons (nx_set 4 (ev_call K_parts_of_products (hr.mono (by decide : 5 ≤ 6)) T.G_parts_of_products T.F_parts_of_products.kp T.B_parts_of_products (ea_cons (ev_var 0) (ea_cons (ev_var 3) ea_nil)) ⟨f, _, _, _, _, hf, rfl, rfl⟩) sc_product_parts.nd) ?_
  refine rt_if (k := (partsL f x y u v).all (nanB f)) (et_val (ev_call K_all_no_numbers (hr.mono (by decide : 3 ≤ 6)) T.G_all_no_numbers T.F_all_no_numbers.kp T.B_all_no_numbers (ea_cons (ev_var 0) (ea_cons (ev_var 4) ea_nil)) ⟨f, partsL f x y u v, hf, (by show 2 ≤ 1000; decide), rfl, rfl⟩)) (fun h => ?_) (fun h => ?_)
  · rw [show prodL f x y u v = mendL f x y u v from if_pos h]
    exact rt_ret (ev_call K_mended_product (hr.mono (by decide : 6 ≤ 6)) T.G_mended_product T.F_mended_product.kp T.B_mended_product (ea_cons (ev_var 0) (ea_cons (ev_var 1) (ea_cons (ev_var 2) (ea_cons (ev_var 3) (ea_cons (ev_var 4) ea_nil))))) ⟨f, x, y, u, v, hf, rfl, rfl⟩)
  · rw [show prodL f x y u v = partsL f x y u v from if_neg (by rw [h]; decide)]
    exact rt_ret (ev_var 4)
theorem sc_is_refused : FnScope ["n"] ["n"] (defScope s_is_refused) := ⟨rfl, rfl, rfl, by decide +kernel, rfl, by decide +kernel, by decide +kernel⟩
theorem ok_is_refused (T : Txt K mg a) : FnOk P w K mg base CX0 1 a.f_is_refused a.d_is_refused ["n"] (spR K a.C R_is_refused) := by
  obtain ⟨tk, hk⟩ := T.g_LARGEST_COUNT
  refine ok_defX T.F_is_refused sc_is_refused (fun ds d ⟨n, e, _⟩ => by rw [e]; rfl) fun cdv A outer s H E hr ds d ⟨n, e1, e2⟩ => ?_
  subst e1 e2

  exact rt_ret (ev_or (ev_lt (ev_var 0) ev_int) (ev_gt (ev_var 0) (ev_glob hk)))
theorem sc_number_at : FnScope ["numbers", "place"] ["numbers", "place"] (defScope s_number_at) := ⟨rfl, rfl, rfl, by decide +kernel, rfl, by decide +kernel, by decide +kernel⟩
theorem ok_number_at (T : Txt K mg a) : FnOk P w K mg base CX0 1 a.f_number_at a.d_number_at ["numbers", "place"] (spR K a.C R_number_at) := by
  refine ok_defX T.F_number_at sc_number_at (fun ds d ⟨l, k, _, _, e, _⟩ => by rw [e]; rfl) fun cdv A outer s H E hr ds d ⟨l, k, h1, h2, e1, e2⟩ => ?_
  subst e1 e2

  exact rt_ret (ev_list (xs := vInts [(atP l k).1, (atP l k).2]) (ea_cons (ev_ix (v := .int (l.getD (2 * k) 0)) (ev_var 0) (ev_mul ev_int (ev_var 1) (mul2_ok k h2)) (by rw [show (2 : Int) * (k : Int) = ((2 * k : Nat) : Int) by omega]; exact at_vInts (by omega)))
    (ea_cons (ev_ix (v := .int (l.getD (2 * k + 1) 0)) (ev_var 0) (ev_add (ev_mul ev_int (ev_var 1) (mul2_ok k h2)) ev_int) (by rw [show (2 : Int) * (k : Int) + 1 = ((2 * k + 1 : Nat) : Int) by omega]; exact at_vInts (by omega))) ea_nil)) (by show 2 ≤ sizeLine; decide))
theorem sc_transform_parts : FnScope ["form", "n", "x", "w", "k", "total", "j"] ["form", "n", "x", "w", "k"] (defScope s_transform_parts) := ⟨rfl, rfl, rfl, by decide +kernel, rfl, by decide +kernel, by decide +kernel⟩
theorem ok_transform_parts (T : Txt K mg a) : FnOk P w K mg base CX0 8 a.f_transform_parts a.d_transform_parts ["form", "n", "x", "w", "k"] (spR K a.C R_transform_parts) := by
  have K_number_at : FnOk P w K mg base CX0 1 a.f_number_at a.d_number_at ["numbers", "place"] (spR K a.C R_number_at) := ok_number_at T
  have K_sum_parts : FnOk P w K mg base CX0 4 a.f_sum_parts a.d_sum_parts ["form", "a", "b"] (spR K a.C R_sum_parts) := ok_sum_parts T
  have K_product_parts : FnOk P w K mg base CX0 7 a.f_product_parts a.d_product_parts ["form", "a", "b"] (spR K a.C R_product_parts) := ok_product_parts T
  refine ok_defX T.F_transform_parts sc_transform_parts (fun ds d ⟨f, x, w', n, k, _, _, _, _, _, _, e, _⟩ => by rw [e]; rfl) fun cdv A outer s H E hr ds d ⟨f, x, w', n, k, hf, h1, h2, h3, h4, h5, e1, e2⟩ => ?_
  subst e1 e2

  refine rt_cons (nx_set 5 (Ev.cast (ev_call K_product_parts (hr.mono (by decide : 7 ≤ 7)) T.G_product_parts T.F_product_parts.kp T.B_product_parts (ea_cons (ev_var 0) (ea_cons (ev_call K_number_at (hr.mono (by decide : 1 ≤ 7)) T.G_number_at T.F_number_at.kp T.B_number_at (ea_cons (ev_var 2) (ea_cons (Ev.cast (d' := .int ((0 : Nat) : Int)) ev_int rfl) ea_nil)) ⟨x, 0, by omega, by omega, rfl, rfl⟩) (ea_cons (ev_call K_number_at (hr.mono (by decide : 1 ≤ 7)) T.G_number_at T.F_number_at.kp T.B_number_at (ea_cons (ev_var 3) (ea_cons (Ev.cast (d' := .int ((0 : Nat) : Int)) ev_int rfl) ea_nil)) ⟨w', 0, by omega, by omega, rfl, rfl⟩) ea_nil))) ⟨f, (atP x 0).1, (atP x 0).2, (atP w' 0).1, (atP w' 0).2, hf, rfl, rfl⟩) (by rw [prodP_eq])) sc_transform_parts.nd) ?_
  refine rt_cons (nx_forR (v := 6) (lo := 1) (n := n - 1) (fun i => [some (.form f), some (.int n), some (.lst (vInts x)), some (.lst (vInts w')), some (.int k), some (.lst (vInts [(trP f x w' n k i).1, (trP f x w' n k i).2])), none]) PassesOwn.never rfl sc_transform_parts.nd
    (er_range2 (i := 1) (j := (n : Int)) (by omega) (ea_cons ev_int (ea_cons (ev_var 1) ea_nil)) T.no_range (by omega) (by omega) (by omega))
    (fun i => rfl) (fun i hi => nxs_one (nx_set 5 ?_ sc_transform_parts.nd))) ?_
  · have hm : (i + 1) * k % n < n := Nat.mod_lt _ (by omega)
    exact (ev_call K_sum_parts (hr.mono (by decide : 4 ≤ 7)) T.G_sum_parts T.F_sum_parts.kp T.B_sum_parts (ea_cons (ev_var 0) (ea_cons (ev_var 5) (ea_cons (Ev.cast (ev_call K_product_parts (hr.mono (by decide : 7 ≤ 7)) T.G_product_parts T.F_product_parts.kp T.B_product_parts (ea_cons (ev_var 0) (ea_cons (ev_call K_number_at (hr.mono (by decide : 1 ≤ 7)) T.G_number_at T.F_number_at.kp T.B_number_at (ea_cons (ev_var 2) (ea_cons (Ev.cast (d' := .int ((i + 1 : Nat) : Int)) (ev_var 6 (d := .int (1 + (i : Nat)))) (by rw [show (1 : Int) + (i : Nat) = ((i + 1 : Nat) : Int) by omega])) ea_nil)) ⟨x, i + 1, by omega, by omega, rfl, rfl⟩) (ea_cons (ev_call K_number_at (hr.mono (by decide : 1 ≤ 7)) T.G_number_at T.F_number_at.kp T.B_number_at (ea_cons (ev_var 3) (ea_cons (Ev.cast (d' := .int (((i + 1) * k % n : Nat) : Int)) (ev_mod (ev_mul (ev_var 6 (d := .int (1 + (i : Nat)))) (ev_var 4) (mul_ok (by omega) (by omega))) (ev_var 1) (by omega)) (by rw [show (1 : Int) + (i : Nat) = ((i + 1 : Nat) : Int) by omega, ← Int.natCast_mul, ← Int.natCast_emod])) ea_nil)) ⟨w', (i + 1) * k % n, by omega, by omega, rfl, rfl⟩) ea_nil))) ⟨f, (atP x (i + 1)).1, (atP x (i + 1)).2, (atP w' ((i + 1) * k % n)).1, (atP w' ((i + 1) * k % n)).2, hf, rfl, rfl⟩) (by rw [prodP_eq])) ea_nil))) ⟨f, (trP f x w' n k i).1, (trP f x w' n k i).2, _, _, hf, rfl, rfl⟩)
  · exact rt_ret (ev_var 5)
theorem sc_transform : FnScope ["n", "x", "w", "form", "answer", "k"] ["n", "x", "w"] (defScope s_transform) := ⟨rfl, rfl, rfl, by decide +kernel, rfl, by decide +kernel, by decide +kernel⟩
theorem ok_transform (T : Txt K mg a) : FnOk P w K mg base CX0 9 a.f_transform a.d_transform ["n", "x", "w"] (spR K a.C R_transform) := by
  have K_is_refused : FnOk P w K mg base CX0 1 a.f_is_refused a.d_is_refused ["n"] (spR K a.C R_is_refused) := ok_is_refused T
  have K_single_form : FnOk P w K mg base CX0 3 a.f_single_form a.d_single_form [] (spR K a.C R_single_form) := ok_single_form T
  have K_answered : FnOk P w K mg base CX0 3 a.f_answered a.d_answered ["form", "parts"] (spR K a.C R_answered) := ok_answered T
  have K_transform_parts : FnOk P w K mg base CX0 8 a.f_transform_parts a.d_transform_parts ["form", "n", "x", "w", "k"] (spR K a.C R_transform_parts) := ok_transform_parts T
  refine ok_defX T.F_transform sc_transform (fun ds d ⟨n, x, w', e, _⟩ => by rw [e]; rfl) fun cdv A outer s H E hr ds d ⟨n, x, w', e1, e2⟩ => ?_
  subst e1

  refine rt_if (k := decide (n < 1) || decide (64 < n)) (et_val (ev_call K_is_refused (hr.mono (by decide : 1 ≤ 8)) T.G_is_refused T.F_is_refused.kp T.B_is_refused (ea_cons (ev_var 0) ea_nil) ⟨n, rfl, rfl⟩)) (fun h => ?_) (fun h => ?_)
  · rcases e2 with ⟨_, e2⟩ | ⟨m, e3, h1, h2, _⟩
    · subst e2
      exact rt_ret (ev_list (xs := vInts [-1]) (ea_cons (ev_neg ev_int) ea_nil) (by show 1 ≤ sizeLine; decide))
    · exfalso
      rw [Bool.or_eq_true, decide_eq_true_iff, decide_eq_true_iff] at h
      omega
  · rcases e2 with ⟨h1, _⟩ | ⟨m, e3, h1, h2, h3, h4, e5⟩
    · exfalso
      rw [Bool.or_eq_false_iff, decide_eq_false_iff_not, decide_eq_false_iff_not] at h
      omega
    · subst e3 e5
      refine rt_cons (nx_set 3 (ev_call0 K_single_form (hr.mono (by decide : 3 ≤ 8)) T.G_single_form T.F_single_form.kp T.B_single_form ⟨rfl, rfl⟩) sc_transform.nd) ?_
      refine (Rt.lst (xs := [V.int 0] ++ (List.range m).flatMap fun k => vInts (pairA (trP sF x w' m k (m - 1)))) ?_).cast (congrArg D.lst (grow_eq m _))
      refine rt_grow (a := 4) (v := 5) (n := m) PassesOwn.never rfl sc_transform.nd (ea_cons ev_int ea_nil)
        (er_range1 (j := (m : Int)) (by omega) (ea_cons (ev_var 0) ea_nil) T.no_range (by omega) (by omega))
        (fun i hi => ?_) rfl rfl (by decide) ⟨by show 1 ≤ 1000; decide, by omega, fun i hi => by show 2 ≤ 1000; decide⟩
      exact (ev_call K_answered (hr.mono (by decide : 3 ≤ 8)) T.G_answered T.F_answered.kp T.B_answered (ea_cons (ev_var 3) (ea_cons (ev_call K_transform_parts (hr.mono (by decide : 8 ≤ 8)) T.G_transform_parts T.F_transform_parts.kp T.B_transform_parts (ea_cons (ev_var 3) (ea_cons (ev_var 0) (ea_cons (ev_var 1) (ea_cons (ev_var 2) (ea_cons (ev_var 5) ea_nil))))) ⟨sF, x, w', m, i, okS, h1, h2, hi, h3, h4, rfl, rfl⟩) ea_nil)) ⟨sF, [_, _], okS, (by show 2 ≤ 1000; decide), rfl, rfl⟩)
end
theorem all_mk {P : Program} {w : World} {K : PySem.W.Frag} {h : Heap} {mg : Str → Option Value} {fa C : Addr} {f___init__ : Addr} {oc___init__ kV___init__ dc___init__ pm___init__ cd___init__ ct___init__ : Value} {od___init__ an___init__ : Option Addr} {sl___init__ : Array (Option Value)} {f_single_form : Addr} {oc_single_form kV_single_form dc_single_form pm_single_form cd_single_form ct_single_form : Value} {od_single_form an_single_form : Option Addr} {sl_single_form : Array (Option Value)} {f_magnitude : Addr} {oc_magnitude kV_magnitude dc_magnitude pm_magnitude cd_magnitude ct_magnitude : Value} {od_magnitude an_magnitude : Option Addr} {sl_magnitude : Array (Option Value)} {f_is_negative : Addr} {oc_is_negative kV_is_negative dc_is_negative pm_is_negative cd_is_negative ct_is_negative : Value} {od_is_negative an_is_negative : Option Addr} {sl_is_negative : Array (Option Value)} {f_is_no_number : Addr} {oc_is_no_number kV_is_no_number dc_is_no_number pm_is_no_number cd_is_no_number ct_is_no_number : Value} {od_is_no_number an_is_no_number : Option Addr} {sl_is_no_number : Array (Option Value)} {f_is_infinite : Addr} {oc_is_infinite kV_is_infinite dc_is_infinite pm_is_infinite cd_is_infinite ct_is_infinite : Value} {od_is_infinite an_is_infinite : Option Addr} {sl_is_infinite : Array (Option Value)} {f_is_zero : Addr} {oc_is_zero kV_is_zero dc_is_zero pm_is_zero cd_is_zero ct_is_zero : Value} {od_is_zero an_is_zero : Option Addr} {sl_is_zero : Array (Option Value)} {f_opposite : Addr} {oc_opposite kV_opposite dc_opposite pm_opposite cd_opposite ct_opposite : Value} {od_opposite an_opposite : Option Addr} {sl_opposite : Array (Option Value)} {f_signed : Addr} {oc_signed kV_signed dc_signed pm_signed cd_signed ct_signed : Value} {od_signed an_signed : Option Addr} {sl_signed : Array (Option Value)} {f_units_of : Addr} {oc_units_of kV_units_of dc_units_of pm_units_of cd_units_of ct_units_of : Value} {od_units_of an_units_of : Option Addr} {sl_units_of : Array (Option Value)} {f_nearest : Addr} {oc_nearest kV_nearest dc_nearest pm_nearest cd_nearest ct_nearest : Value} {od_nearest an_nearest : Option Addr} {sl_nearest : Array (Option Value)} {f_plus : Addr} {oc_plus kV_plus dc_plus pm_plus cd_plus ct_plus : Value} {od_plus an_plus : Option Addr} {sl_plus : Array (Option Value)} {f_minus : Addr} {oc_minus kV_minus dc_minus pm_minus cd_minus ct_minus : Value} {od_minus an_minus : Option Addr} {sl_minus : Array (Option Value)} {f_times : Addr} {oc_times kV_times dc_times pm_times cd_times ct_times : Value} {od_times an_times : Option Addr} {sl_times : Array (Option Value)} {f_answered : Addr} {oc_answered kV_answered dc_answered pm_answered cd_answered ct_answered : Value} {od_answered an_answered : Option Addr} {sl_answered : Array (Option Value)} {f_sum_parts : Addr} {oc_sum_parts kV_sum_parts dc_sum_parts pm_sum_parts cd_sum_parts ct_sum_parts : Value} {od_sum_parts an_sum_parts : Option Addr} {sl_sum_parts : Array (Option Value)} {f_four_products : Addr} {oc_four_products kV_four_products dc_four_products pm_four_products cd_four_products ct_four_products : Value} {od_four_products an_four_products : Option Addr} {sl_four_products : Array (Option Value)} {f_parts_of_products : Addr} {oc_parts_of_products kV_parts_of_products dc_parts_of_products pm_parts_of_products cd_parts_of_products ct_parts_of_products : Value} {od_parts_of_products an_parts_of_products : Option Addr} {sl_parts_of_products : Array (Option Value)} {f_scaled : Addr} {oc_scaled kV_scaled dc_scaled pm_scaled cd_scaled ct_scaled : Value} {od_scaled an_scaled : Option Addr} {sl_scaled : Array (Option Value)} {f_ones_for_infinities : Addr} {oc_ones_for_infinities kV_ones_for_infinities dc_ones_for_infinities pm_ones_for_infinities cd_ones_for_infinities ct_ones_for_infinities : Value} {od_ones_for_infinities an_ones_for_infinities : Option Addr} {sl_ones_for_infinities : Array (Option Value)} {f_zeros_for_no_numbers : Addr} {oc_zeros_for_no_numbers kV_zeros_for_no_numbers dc_zeros_for_no_numbers pm_zeros_for_no_numbers cd_zeros_for_no_numbers ct_zeros_for_no_numbers : Value} {od_zeros_for_no_numbers an_zeros_for_no_numbers : Option Addr} {sl_zeros_for_no_numbers : Array (Option Value)} {f_any_infinite : Addr} {oc_any_infinite kV_any_infinite dc_any_infinite pm_any_infinite cd_any_infinite ct_any_infinite : Value} {od_any_infinite an_any_infinite : Option Addr} {sl_any_infinite : Array (Option Value)} {f_all_no_numbers : Addr} {oc_all_no_numbers kV_all_no_numbers dc_all_no_numbers pm_all_no_numbers cd_all_no_numbers ct_all_no_numbers : Value} {od_all_no_numbers an_all_no_numbers : Option Addr} {sl_all_no_numbers : Array (Option Value)} {f_mended_product : Addr} {oc_mended_product kV_mended_product dc_mended_product pm_mended_product cd_mended_product ct_mended_product : Value} {od_mended_product an_mended_product : Option Addr} {sl_mended_product : Array (Option Value)} {f_product_parts : Addr} {oc_product_parts kV_product_parts dc_product_parts pm_product_parts cd_product_parts ct_product_parts : Value} {od_product_parts an_product_parts : Option Addr} {sl_product_parts : Array (Option Value)} {f_is_refused : Addr} {oc_is_refused kV_is_refused dc_is_refused pm_is_refused cd_is_refused ct_is_refused : Value} {od_is_refused an_is_refused : Option Addr} {sl_is_refused : Array (Option Value)} {f_number_at : Addr} {oc_number_at kV_number_at dc_number_at pm_number_at cd_number_at ct_number_at : Value} {od_number_at an_number_at : Option Addr} {sl_number_at : Array (Option Value)} {f_transform_parts : Addr} {oc_transform_parts kV_transform_parts dc_transform_parts pm_transform_parts cd_transform_parts ct_transform_parts : Value} {od_transform_parts an_transform_parts : Option Addr} {sl_transform_parts : Array (Option Value)} {f_transform : Addr} {oc_transform kV_transform dc_transform pm_transform cd_transform ct_transform : Value} {od_transform an_transform : Option Addr} {sl_transform : Array (Option Value)} {t_LARGEST_COUNT : Tok} {t_NO_NUMBER_ANSWER : Tok}
    (X : K.In h) (G : h.Ns mainGlobals mg) (hfa : mg "transform" = some (.ref fa))
    (aC : PySem.W.nsIn K mainGlobals "Form" = some (some (.ref C)))
    (a___init__ : PySem.W.findIn K (.ref C) "__init__" = some (some (.ref f___init__)))
    (i___init__ : PySem.W.isFn K (.ref f___init__) = true)
    (l___init__ : K.lookup f___init__ = some ⟨oc___init__, od___init__, .func (PySem.W.fnOf "__init__" "Form.__init__" (defArgs s___init__) (defBody s___init__) (defScope s___init__) .none kV___init__ dc___init__ pm___init__ an___init__ cd___init__ ct___init__), sl___init__⟩)
    (c___init__ : PySem.W.codeIn K cd___init__ "Form.__init__" = true)
    (k___init__ : PySem.W.keepIn K (.ref f___init__) = true)
    (a_single_form : PySem.W.nsIn K mainGlobals "single_form" = some (some (.ref f_single_form)))
    (l_single_form : K.lookup f_single_form = some ⟨oc_single_form, od_single_form, .func (PySem.W.fnOf "single_form" "single_form" (defArgs s_single_form) (defBody s_single_form) (defScope s_single_form) .none kV_single_form dc_single_form pm_single_form an_single_form cd_single_form ct_single_form), sl_single_form⟩)
    (c_single_form : PySem.W.codeIn K cd_single_form "single_form" = true)
    (k_single_form : PySem.W.keepIn K (.ref f_single_form) = true)
    (a_magnitude : PySem.W.findIn K (.ref C) "magnitude" = some (some (.ref f_magnitude)))
    (i_magnitude : PySem.W.isFn K (.ref f_magnitude) = true)
    (l_magnitude : K.lookup f_magnitude = some ⟨oc_magnitude, od_magnitude, .func (PySem.W.fnOf "magnitude" "Form.magnitude" (defArgs s_magnitude) (defBody s_magnitude) (defScope s_magnitude) .none kV_magnitude dc_magnitude pm_magnitude an_magnitude cd_magnitude ct_magnitude), sl_magnitude⟩)
    (c_magnitude : PySem.W.codeIn K cd_magnitude "Form.magnitude" = true)
    (k_magnitude : PySem.W.keepIn K (.ref f_magnitude) = true)
    (a_is_negative : PySem.W.findIn K (.ref C) "is_negative" = some (some (.ref f_is_negative)))
    (i_is_negative : PySem.W.isFn K (.ref f_is_negative) = true)
    (l_is_negative : K.lookup f_is_negative = some ⟨oc_is_negative, od_is_negative, .func (PySem.W.fnOf "is_negative" "Form.is_negative" (defArgs s_is_negative) (defBody s_is_negative) (defScope s_is_negative) .none kV_is_negative dc_is_negative pm_is_negative an_is_negative cd_is_negative ct_is_negative), sl_is_negative⟩)
    (c_is_negative : PySem.W.codeIn K cd_is_negative "Form.is_negative" = true)
    (k_is_negative : PySem.W.keepIn K (.ref f_is_negative) = true)
    (a_is_no_number : PySem.W.findIn K (.ref C) "is_no_number" = some (some (.ref f_is_no_number)))
    (i_is_no_number : PySem.W.isFn K (.ref f_is_no_number) = true)
    (l_is_no_number : K.lookup f_is_no_number = some ⟨oc_is_no_number, od_is_no_number, .func (PySem.W.fnOf "is_no_number" "Form.is_no_number" (defArgs s_is_no_number) (defBody s_is_no_number) (defScope s_is_no_number) .none kV_is_no_number dc_is_no_number pm_is_no_number an_is_no_number cd_is_no_number ct_is_no_number), sl_is_no_number⟩)
    (c_is_no_number : PySem.W.codeIn K cd_is_no_number "Form.is_no_number" = true)
    (k_is_no_number : PySem.W.keepIn K (.ref f_is_no_number) = true)
    (a_is_infinite : PySem.W.findIn K (.ref C) "is_infinite" = some (some (.ref f_is_infinite)))
    (i_is_infinite : PySem.W.isFn K (.ref f_is_infinite) = true)
    (l_is_infinite : K.lookup f_is_infinite = some ⟨oc_is_infinite, od_is_infinite, .func (PySem.W.fnOf "is_infinite" "Form.is_infinite" (defArgs s_is_infinite) (defBody s_is_infinite) (defScope s_is_infinite) .none kV_is_infinite dc_is_infinite pm_is_infinite an_is_infinite cd_is_infinite ct_is_infinite), sl_is_infinite⟩)
    (c_is_infinite : PySem.W.codeIn K cd_is_infinite "Form.is_infinite" = true)
    (k_is_infinite : PySem.W.keepIn K (.ref f_is_infinite) = true)
    (a_is_zero : PySem.W.findIn K (.ref C) "is_zero" = some (some (.ref f_is_zero)))
    (i_is_zero : PySem.W.isFn K (.ref f_is_zero) = true)
    (l_is_zero : K.lookup f_is_zero = some ⟨oc_is_zero, od_is_zero, .func (PySem.W.fnOf "is_zero" "Form.is_zero" (defArgs s_is_zero) (defBody s_is_zero) (defScope s_is_zero) .none kV_is_zero dc_is_zero pm_is_zero an_is_zero cd_is_zero ct_is_zero), sl_is_zero⟩)
    (c_is_zero : PySem.W.codeIn K cd_is_zero "Form.is_zero" = true)
    (k_is_zero : PySem.W.keepIn K (.ref f_is_zero) = true)
    (a_opposite : PySem.W.findIn K (.ref C) "opposite" = some (some (.ref f_opposite)))
    (i_opposite : PySem.W.isFn K (.ref f_opposite) = true)
    (l_opposite : K.lookup f_opposite = some ⟨oc_opposite, od_opposite, .func (PySem.W.fnOf "opposite" "Form.opposite" (defArgs s_opposite) (defBody s_opposite) (defScope s_opposite) .none kV_opposite dc_opposite pm_opposite an_opposite cd_opposite ct_opposite), sl_opposite⟩)
    (c_opposite : PySem.W.codeIn K cd_opposite "Form.opposite" = true)
    (k_opposite : PySem.W.keepIn K (.ref f_opposite) = true)
    (a_signed : PySem.W.findIn K (.ref C) "signed" = some (some (.ref f_signed)))
    (i_signed : PySem.W.isFn K (.ref f_signed) = true)
    (l_signed : K.lookup f_signed = some ⟨oc_signed, od_signed, .func (PySem.W.fnOf "signed" "Form.signed" (defArgs s_signed) (defBody s_signed) (defScope s_signed) .none kV_signed dc_signed pm_signed an_signed cd_signed ct_signed), sl_signed⟩)
    (c_signed : PySem.W.codeIn K cd_signed "Form.signed" = true)
    (k_signed : PySem.W.keepIn K (.ref f_signed) = true)
    (a_units_of : PySem.W.findIn K (.ref C) "units_of" = some (some (.ref f_units_of)))
    (i_units_of : PySem.W.isFn K (.ref f_units_of) = true)
    (l_units_of : K.lookup f_units_of = some ⟨oc_units_of, od_units_of, .func (PySem.W.fnOf "units_of" "Form.units_of" (defArgs s_units_of) (defBody s_units_of) (defScope s_units_of) .none kV_units_of dc_units_of pm_units_of an_units_of cd_units_of ct_units_of), sl_units_of⟩)
    (c_units_of : PySem.W.codeIn K cd_units_of "Form.units_of" = true)
    (k_units_of : PySem.W.keepIn K (.ref f_units_of) = true)
    (a_nearest : PySem.W.findIn K (.ref C) "nearest" = some (some (.ref f_nearest)))
    (i_nearest : PySem.W.isFn K (.ref f_nearest) = true)
    (l_nearest : K.lookup f_nearest = some ⟨oc_nearest, od_nearest, .func (PySem.W.fnOf "nearest" "Form.nearest" (defArgs s_nearest) (defBody s_nearest) (defScope s_nearest) .none kV_nearest dc_nearest pm_nearest an_nearest cd_nearest ct_nearest), sl_nearest⟩)
    (c_nearest : PySem.W.codeIn K cd_nearest "Form.nearest" = true)
    (k_nearest : PySem.W.keepIn K (.ref f_nearest) = true)
    (a_plus : PySem.W.findIn K (.ref C) "plus" = some (some (.ref f_plus)))
    (i_plus : PySem.W.isFn K (.ref f_plus) = true)
    (l_plus : K.lookup f_plus = some ⟨oc_plus, od_plus, .func (PySem.W.fnOf "plus" "Form.plus" (defArgs s_plus) (defBody s_plus) (defScope s_plus) .none kV_plus dc_plus pm_plus an_plus cd_plus ct_plus), sl_plus⟩)
    (c_plus : PySem.W.codeIn K cd_plus "Form.plus" = true)
    (k_plus : PySem.W.keepIn K (.ref f_plus) = true)
    (a_minus : PySem.W.findIn K (.ref C) "minus" = some (some (.ref f_minus)))
    (i_minus : PySem.W.isFn K (.ref f_minus) = true)
    (l_minus : K.lookup f_minus = some ⟨oc_minus, od_minus, .func (PySem.W.fnOf "minus" "Form.minus" (defArgs s_minus) (defBody s_minus) (defScope s_minus) .none kV_minus dc_minus pm_minus an_minus cd_minus ct_minus), sl_minus⟩)
    (c_minus : PySem.W.codeIn K cd_minus "Form.minus" = true)
    (k_minus : PySem.W.keepIn K (.ref f_minus) = true)
    (a_times : PySem.W.findIn K (.ref C) "times" = some (some (.ref f_times)))
    (i_times : PySem.W.isFn K (.ref f_times) = true)
    (l_times : K.lookup f_times = some ⟨oc_times, od_times, .func (PySem.W.fnOf "times" "Form.times" (defArgs s_times) (defBody s_times) (defScope s_times) .none kV_times dc_times pm_times an_times cd_times ct_times), sl_times⟩)
    (c_times : PySem.W.codeIn K cd_times "Form.times" = true)
    (k_times : PySem.W.keepIn K (.ref f_times) = true)
    (a_answered : PySem.W.nsIn K mainGlobals "answered" = some (some (.ref f_answered)))
    (l_answered : K.lookup f_answered = some ⟨oc_answered, od_answered, .func (PySem.W.fnOf "answered" "answered" (defArgs s_answered) (defBody s_answered) (defScope s_answered) .none kV_answered dc_answered pm_answered an_answered cd_answered ct_answered), sl_answered⟩)
    (c_answered : PySem.W.codeIn K cd_answered "answered" = true)
    (k_answered : PySem.W.keepIn K (.ref f_answered) = true)
    (a_sum_parts : PySem.W.nsIn K mainGlobals "sum_parts" = some (some (.ref f_sum_parts)))
    (l_sum_parts : K.lookup f_sum_parts = some ⟨oc_sum_parts, od_sum_parts, .func (PySem.W.fnOf "sum_parts" "sum_parts" (defArgs s_sum_parts) (defBody s_sum_parts) (defScope s_sum_parts) .none kV_sum_parts dc_sum_parts pm_sum_parts an_sum_parts cd_sum_parts ct_sum_parts), sl_sum_parts⟩)
    (c_sum_parts : PySem.W.codeIn K cd_sum_parts "sum_parts" = true)
    (k_sum_parts : PySem.W.keepIn K (.ref f_sum_parts) = true)
    (a_four_products : PySem.W.nsIn K mainGlobals "four_products" = some (some (.ref f_four_products)))
    (l_four_products : K.lookup f_four_products = some ⟨oc_four_products, od_four_products, .func (PySem.W.fnOf "four_products" "four_products" (defArgs s_four_products) (defBody s_four_products) (defScope s_four_products) .none kV_four_products dc_four_products pm_four_products an_four_products cd_four_products ct_four_products), sl_four_products⟩)
    (c_four_products : PySem.W.codeIn K cd_four_products "four_products" = true)
    (k_four_products : PySem.W.keepIn K (.ref f_four_products) = true)
    (a_parts_of_products : PySem.W.nsIn K mainGlobals "parts_of_products" = some (some (.ref f_parts_of_products)))
    (l_parts_of_products : K.lookup f_parts_of_products = some ⟨oc_parts_of_products, od_parts_of_products, .func (PySem.W.fnOf "parts_of_products" "parts_of_products" (defArgs s_parts_of_products) (defBody s_parts_of_products) (defScope s_parts_of_products) .none kV_parts_of_products dc_parts_of_products pm_parts_of_products an_parts_of_products cd_parts_of_products ct_parts_of_products), sl_parts_of_products⟩)
    (c_parts_of_products : PySem.W.codeIn K cd_parts_of_products "parts_of_products" = true)
    (k_parts_of_products : PySem.W.keepIn K (.ref f_parts_of_products) = true)
    (a_scaled : PySem.W.nsIn K mainGlobals "scaled" = some (some (.ref f_scaled)))
    (l_scaled : K.lookup f_scaled = some ⟨oc_scaled, od_scaled, .func (PySem.W.fnOf "scaled" "scaled" (defArgs s_scaled) (defBody s_scaled) (defScope s_scaled) .none kV_scaled dc_scaled pm_scaled an_scaled cd_scaled ct_scaled), sl_scaled⟩)
    (c_scaled : PySem.W.codeIn K cd_scaled "scaled" = true)
    (k_scaled : PySem.W.keepIn K (.ref f_scaled) = true)
    (a_ones_for_infinities : PySem.W.nsIn K mainGlobals "ones_for_infinities" = some (some (.ref f_ones_for_infinities)))
    (l_ones_for_infinities : K.lookup f_ones_for_infinities = some ⟨oc_ones_for_infinities, od_ones_for_infinities, .func (PySem.W.fnOf "ones_for_infinities" "ones_for_infinities" (defArgs s_ones_for_infinities) (defBody s_ones_for_infinities) (defScope s_ones_for_infinities) .none kV_ones_for_infinities dc_ones_for_infinities pm_ones_for_infinities an_ones_for_infinities cd_ones_for_infinities ct_ones_for_infinities), sl_ones_for_infinities⟩)
    (c_ones_for_infinities : PySem.W.codeIn K cd_ones_for_infinities "ones_for_infinities" = true)
    (k_ones_for_infinities : PySem.W.keepIn K (.ref f_ones_for_infinities) = true)
    (a_zeros_for_no_numbers : PySem.W.nsIn K mainGlobals "zeros_for_no_numbers" = some (some (.ref f_zeros_for_no_numbers)))
    (l_zeros_for_no_numbers : K.lookup f_zeros_for_no_numbers = some ⟨oc_zeros_for_no_numbers, od_zeros_for_no_numbers, .func (PySem.W.fnOf "zeros_for_no_numbers" "zeros_for_no_numbers" (defArgs s_zeros_for_no_numbers) (defBody s_zeros_for_no_numbers) (defScope s_zeros_for_no_numbers) .none kV_zeros_for_no_numbers dc_zeros_for_no_numbers pm_zeros_for_no_numbers an_zeros_for_no_numbers cd_zeros_for_no_numbers ct_zeros_for_no_numbers), sl_zeros_for_no_numbers⟩)
    (c_zeros_for_no_numbers : PySem.W.codeIn K cd_zeros_for_no_numbers "zeros_for_no_numbers" = true)
    (k_zeros_for_no_numbers : PySem.W.keepIn K (.ref f_zeros_for_no_numbers) = true)
    (a_any_infinite : PySem.W.nsIn K mainGlobals "any_infinite" = some (some (.ref f_any_infinite)))
    (l_any_infinite : K.lookup f_any_infinite = some ⟨oc_any_infinite, od_any_infinite, .func (PySem.W.fnOf "any_infinite" "any_infinite" (defArgs s_any_infinite) (defBody s_any_infinite) (defScope s_any_infinite) .none kV_any_infinite dc_any_infinite pm_any_infinite an_any_infinite cd_any_infinite ct_any_infinite), sl_any_infinite⟩)
    (c_any_infinite : PySem.W.codeIn K cd_any_infinite "any_infinite" = true)
    (k_any_infinite : PySem.W.keepIn K (.ref f_any_infinite) = true)
    (a_all_no_numbers : PySem.W.nsIn K mainGlobals "all_no_numbers" = some (some (.ref f_all_no_numbers)))
    (l_all_no_numbers : K.lookup f_all_no_numbers = some ⟨oc_all_no_numbers, od_all_no_numbers, .func (PySem.W.fnOf "all_no_numbers" "all_no_numbers" (defArgs s_all_no_numbers) (defBody s_all_no_numbers) (defScope s_all_no_numbers) .none kV_all_no_numbers dc_all_no_numbers pm_all_no_numbers an_all_no_numbers cd_all_no_numbers ct_all_no_numbers), sl_all_no_numbers⟩)
    (c_all_no_numbers : PySem.W.codeIn K cd_all_no_numbers "all_no_numbers" = true)
    (k_all_no_numbers : PySem.W.keepIn K (.ref f_all_no_numbers) = true)
    (a_mended_product : PySem.W.nsIn K mainGlobals "mended_product" = some (some (.ref f_mended_product)))
    (l_mended_product : K.lookup f_mended_product = some ⟨oc_mended_product, od_mended_product, .func (PySem.W.fnOf "mended_product" "mended_product" (defArgs s_mended_product) (defBody s_mended_product) (defScope s_mended_product) .none kV_mended_product dc_mended_product pm_mended_product an_mended_product cd_mended_product ct_mended_product), sl_mended_product⟩)
    (c_mended_product : PySem.W.codeIn K cd_mended_product "mended_product" = true)
    (k_mended_product : PySem.W.keepIn K (.ref f_mended_product) = true)
    (a_product_parts : PySem.W.nsIn K mainGlobals "product_parts" = some (some (.ref f_product_parts)))
    (l_product_parts : K.lookup f_product_parts = some ⟨oc_product_parts, od_product_parts, .func (PySem.W.fnOf "product_parts" "product_parts" (defArgs s_product_parts) (defBody s_product_parts) (defScope s_product_parts) .none kV_product_parts dc_product_parts pm_product_parts an_product_parts cd_product_parts ct_product_parts), sl_product_parts⟩)
    (c_product_parts : PySem.W.codeIn K cd_product_parts "product_parts" = true)
    (k_product_parts : PySem.W.keepIn K (.ref f_product_parts) = true)
    (a_is_refused : PySem.W.nsIn K mainGlobals "is_refused" = some (some (.ref f_is_refused)))
    (l_is_refused : K.lookup f_is_refused = some ⟨oc_is_refused, od_is_refused, .func (PySem.W.fnOf "is_refused" "is_refused" (defArgs s_is_refused) (defBody s_is_refused) (defScope s_is_refused) .none kV_is_refused dc_is_refused pm_is_refused an_is_refused cd_is_refused ct_is_refused), sl_is_refused⟩)
    (c_is_refused : PySem.W.codeIn K cd_is_refused "is_refused" = true)
    (k_is_refused : PySem.W.keepIn K (.ref f_is_refused) = true)
    (a_number_at : PySem.W.nsIn K mainGlobals "number_at" = some (some (.ref f_number_at)))
    (l_number_at : K.lookup f_number_at = some ⟨oc_number_at, od_number_at, .func (PySem.W.fnOf "number_at" "number_at" (defArgs s_number_at) (defBody s_number_at) (defScope s_number_at) .none kV_number_at dc_number_at pm_number_at an_number_at cd_number_at ct_number_at), sl_number_at⟩)
    (c_number_at : PySem.W.codeIn K cd_number_at "number_at" = true)
    (k_number_at : PySem.W.keepIn K (.ref f_number_at) = true)
    (a_transform_parts : PySem.W.nsIn K mainGlobals "transform_parts" = some (some (.ref f_transform_parts)))
    (l_transform_parts : K.lookup f_transform_parts = some ⟨oc_transform_parts, od_transform_parts, .func (PySem.W.fnOf "transform_parts" "transform_parts" (defArgs s_transform_parts) (defBody s_transform_parts) (defScope s_transform_parts) .none kV_transform_parts dc_transform_parts pm_transform_parts an_transform_parts cd_transform_parts ct_transform_parts), sl_transform_parts⟩)
    (c_transform_parts : PySem.W.codeIn K cd_transform_parts "transform_parts" = true)
    (k_transform_parts : PySem.W.keepIn K (.ref f_transform_parts) = true)
    (a_transform : PySem.W.nsIn K mainGlobals "transform" = some (some (.ref f_transform)))
    (l_transform : K.lookup f_transform = some ⟨oc_transform, od_transform, .func (PySem.W.fnOf "transform" "transform" (defArgs s_transform) (defBody s_transform) (defScope s_transform) .none kV_transform dc_transform pm_transform an_transform cd_transform ct_transform), sl_transform⟩)
    (c_transform : PySem.W.codeIn K cd_transform "transform" = true)
    (k_transform : PySem.W.keepIn K (.ref f_transform) = true)
    (pg : PySem.W.plainGet K C Str.empty = true)
    (hd : PySem.W.hasDictIn K C = true)
    (po : PySem.W.plainOver K C = true)
    (sa : PySem.W.findIn K (.ref C) "__setattr__" = some (some (.builtin "object.__setattr__")))
    (mk : PySem.W.makesIn K C = true)
    (kc : PySem.W.keepIn K (.ref C) = true)
    (n_fraction_bits : PySem.W.findIn K (.ref C) "fraction_bits" = some none)
    (n_leading_bit : PySem.W.findIn K (.ref C) "leading_bit" = some none)
    (n_sign_bit : PySem.W.findIn K (.ref C) "sign_bit" = some none)
    (n_infinity : PySem.W.findIn K (.ref C) "infinity" = some none)
    (n_some_no_number : PySem.W.findIn K (.ref C) "some_no_number" = some none)
    (n_one : PySem.W.findIn K (.ref C) "one" = some none)
    (n_units_of_one : PySem.W.findIn K (.ref C) "units_of_one" = some none)
    (b_abs : PySem.W.nsIn K mainGlobals "abs" = some none)
    (b_all : PySem.W.nsIn K mainGlobals "all" = some none)
    (b_any : PySem.W.nsIn K mainGlobals "any" = some none)
    (b_max : PySem.W.nsIn K mainGlobals "max" = some none)
    (b_min : PySem.W.nsIn K mainGlobals "min" = some none)
    (b_range : PySem.W.nsIn K mainGlobals "range" = some none)
    (g_LARGEST_COUNT : PySem.W.nsIn K mainGlobals "LARGEST_COUNT" = some (some (.int 64 t_LARGEST_COUNT)))
    (g_NO_NUMBER_ANSWER : PySem.W.nsIn K mainGlobals "NO_NUMBER_ANSWER" = some (some (.int 4294967296 t_NO_NUMBER_ANSWER)))
    : ∃ fd : FuncData, (∀ (s : Shared) (us : List Value), us.length = (["n", "x", "w"] : List Str).length → BindsTo s fd ⟨us, []⟩ ((["n", "x", "w"] : List Str).zip us)) ∧ ∃ C : Addr, ∀ base : Heap, K.In base → base.Ns mainGlobals mg → FnOk P w K mg base CX0 9 fa fd ["n", "x", "w"] (spR K C R_transform) := by
  have e := hfa.symm.trans (PySem.W.mg_of X G a_transform)
  cases e
  have F___init__ := fun_mk (st := s___init__) l___init__ c___init__ k___init__
  have B___init__ := F___init__.binds (ps := ["self", "exponent_bits", "fraction_bits"]) fun _ _ _ _ _ _ us hl => match us, hl with | [_, _, _], _ => rfl
  have F_single_form := fun_mk (st := s_single_form) l_single_form c_single_form k_single_form
  have B_single_form := F_single_form.binds (ps := []) fun _ _ _ _ _ _ us hl => match us, hl with | [], _ => rfl
  have F_magnitude := fun_mk (st := s_magnitude) l_magnitude c_magnitude k_magnitude
  have B_magnitude := F_magnitude.binds (ps := ["self", "x"]) fun _ _ _ _ _ _ us hl => match us, hl with | [_, _], _ => rfl
  have F_is_negative := fun_mk (st := s_is_negative) l_is_negative c_is_negative k_is_negative
  have B_is_negative := F_is_negative.binds (ps := ["self", "x"]) fun _ _ _ _ _ _ us hl => match us, hl with | [_, _], _ => rfl
  have F_is_no_number := fun_mk (st := s_is_no_number) l_is_no_number c_is_no_number k_is_no_number
  have B_is_no_number := F_is_no_number.binds (ps := ["self", "x"]) fun _ _ _ _ _ _ us hl => match us, hl with | [_, _], _ => rfl
  have F_is_infinite := fun_mk (st := s_is_infinite) l_is_infinite c_is_infinite k_is_infinite
  have B_is_infinite := F_is_infinite.binds (ps := ["self", "x"]) fun _ _ _ _ _ _ us hl => match us, hl with | [_, _], _ => rfl
  have F_is_zero := fun_mk (st := s_is_zero) l_is_zero c_is_zero k_is_zero
  have B_is_zero := F_is_zero.binds (ps := ["self", "x"]) fun _ _ _ _ _ _ us hl => match us, hl with | [_, _], _ => rfl
  have F_opposite := fun_mk (st := s_opposite) l_opposite c_opposite k_opposite
  have B_opposite := F_opposite.binds (ps := ["self", "x"]) fun _ _ _ _ _ _ us hl => match us, hl with | [_, _], _ => rfl
  have F_signed := fun_mk (st := s_signed) l_signed c_signed k_signed
  have B_signed := F_signed.binds (ps := ["self", "magnitude", "negative"]) fun _ _ _ _ _ _ us hl => match us, hl with | [_, _, _], _ => rfl
  have F_units_of := fun_mk (st := s_units_of) l_units_of c_units_of k_units_of
  have B_units_of := F_units_of.binds (ps := ["self", "x"]) fun _ _ _ _ _ _ us hl => match us, hl with | [_, _], _ => rfl
  have F_nearest := fun_mk (st := s_nearest) l_nearest c_nearest k_nearest
  have B_nearest := F_nearest.binds (ps := ["self", "dividend", "divisor"]) fun _ _ _ _ _ _ us hl => match us, hl with | [_, _, _], _ => rfl
  have F_plus := fun_mk (st := s_plus) l_plus c_plus k_plus
  have B_plus := F_plus.binds (ps := ["self", "x", "y"]) fun _ _ _ _ _ _ us hl => match us, hl with | [_, _, _], _ => rfl
  have F_minus := fun_mk (st := s_minus) l_minus c_minus k_minus
  have B_minus := F_minus.binds (ps := ["self", "x", "y"]) fun _ _ _ _ _ _ us hl => match us, hl with | [_, _, _], _ => rfl
  have F_times := fun_mk (st := s_times) l_times c_times k_times
  have B_times := F_times.binds (ps := ["self", "x", "y"]) fun _ _ _ _ _ _ us hl => match us, hl with | [_, _, _], _ => rfl
  have F_answered := fun_mk (st := s_answered) l_answered c_answered k_answered
  have B_answered := F_answered.binds (ps := ["form", "parts"]) fun _ _ _ _ _ _ us hl => match us, hl with | [_, _], _ => rfl
  have F_sum_parts := fun_mk (st := s_sum_parts) l_sum_parts c_sum_parts k_sum_parts
  have B_sum_parts := F_sum_parts.binds (ps := ["form", "a", "b"]) fun _ _ _ _ _ _ us hl => match us, hl with | [_, _, _], _ => rfl
  have F_four_products := fun_mk (st := s_four_products) l_four_products c_four_products k_four_products
  have B_four_products := F_four_products.binds (ps := ["form", "a", "b"]) fun _ _ _ _ _ _ us hl => match us, hl with | [_, _, _], _ => rfl
  have F_parts_of_products := fun_mk (st := s_parts_of_products) l_parts_of_products c_parts_of_products k_parts_of_products
  have B_parts_of_products := F_parts_of_products.binds (ps := ["form", "products"]) fun _ _ _ _ _ _ us hl => match us, hl with | [_, _], _ => rfl
  have F_scaled := fun_mk (st := s_scaled) l_scaled c_scaled k_scaled
  have B_scaled := F_scaled.binds (ps := ["form", "factor", "parts"]) fun _ _ _ _ _ _ us hl => match us, hl with | [_, _, _], _ => rfl
  have F_ones_for_infinities := fun_mk (st := s_ones_for_infinities) l_ones_for_infinities c_ones_for_infinities k_ones_for_infinities
  have B_ones_for_infinities := F_ones_for_infinities.binds (ps := ["form", "parts"]) fun _ _ _ _ _ _ us hl => match us, hl with | [_, _], _ => rfl
  have F_zeros_for_no_numbers := fun_mk (st := s_zeros_for_no_numbers) l_zeros_for_no_numbers c_zeros_for_no_numbers k_zeros_for_no_numbers
  have B_zeros_for_no_numbers := F_zeros_for_no_numbers.binds (ps := ["form", "parts"]) fun _ _ _ _ _ _ us hl => match us, hl with | [_, _], _ => rfl
  have F_any_infinite := fun_mk (st := s_any_infinite) l_any_infinite c_any_infinite k_any_infinite
  have B_any_infinite := F_any_infinite.binds (ps := ["form", "parts"]) fun _ _ _ _ _ _ us hl => match us, hl with | [_, _], _ => rfl
  have F_all_no_numbers := fun_mk (st := s_all_no_numbers) l_all_no_numbers c_all_no_numbers k_all_no_numbers
  have B_all_no_numbers := F_all_no_numbers.binds (ps := ["form", "parts"]) fun _ _ _ _ _ _ us hl => match us, hl with | [_, _], _ => rfl
  have F_mended_product := fun_mk (st := s_mended_product) l_mended_product c_mended_product k_mended_product
  have B_mended_product := F_mended_product.binds (ps := ["form", "a", "b", "products", "parts"]) fun _ _ _ _ _ _ us hl => match us, hl with | [_, _, _, _, _], _ => rfl
  have F_product_parts := fun_mk (st := s_product_parts) l_product_parts c_product_parts k_product_parts
  have B_product_parts := F_product_parts.binds (ps := ["form", "a", "b"]) fun _ _ _ _ _ _ us hl => match us, hl with | [_, _, _], _ => rfl
  have F_is_refused := fun_mk (st := s_is_refused) l_is_refused c_is_refused k_is_refused
  have B_is_refused := F_is_refused.binds (ps := ["n"]) fun _ _ _ _ _ _ us hl => match us, hl with | [_], _ => rfl
  have F_number_at := fun_mk (st := s_number_at) l_number_at c_number_at k_number_at
  have B_number_at := F_number_at.binds (ps := ["numbers", "place"]) fun _ _ _ _ _ _ us hl => match us, hl with | [_, _], _ => rfl
  have F_transform_parts := fun_mk (st := s_transform_parts) l_transform_parts c_transform_parts k_transform_parts
  have B_transform_parts := F_transform_parts.binds (ps := ["form", "n", "x", "w", "k"]) fun _ _ _ _ _ _ us hl => match us, hl with | [_, _, _, _, _], _ => rfl
  have F_transform := fun_mk (st := s_transform) l_transform c_transform k_transform
  have B_transform := F_transform.binds (ps := ["n", "x", "w"]) fun _ _ _ _ _ _ us hl => match us, hl with | [_, _, _], _ => rfl
  have T : Txt K mg ⟨C, f___init__, _, f_single_form, _, f_magnitude, _, f_is_negative, _, f_is_no_number, _, f_is_infinite, _, f_is_zero, _, f_opposite, _, f_signed, _, f_units_of, _, f_nearest, _, f_plus, _, f_minus, _, f_times, _, f_answered, _, f_sum_parts, _, f_four_products, _, f_parts_of_products, _, f_scaled, _, f_ones_for_infinities, _, f_zeros_for_no_numbers, _, f_any_infinite, _, f_all_no_numbers, _, f_mended_product, _, f_product_parts, _, f_is_refused, _, f_number_at, _, f_transform_parts, _, fa, _⟩ := { cl := ⟨pg, hd, po, sa⟩, mgC := PySem.W.mg_of X G aC, made := ⟨mk, a___init__, i___init__, kc⟩, na_fraction_bits := n_fraction_bits, na_leading_bit := n_leading_bit, na_sign_bit := n_sign_bit, na_infinity := n_infinity, na_some_no_number := n_some_no_number, na_one := n_one, na_units_of_one := n_units_of_one, F___init__ := F___init__, B___init__ := B___init__, F_single_form := F_single_form, B_single_form := B_single_form, G_single_form := PySem.W.mg_of X G a_single_form, F_magnitude := F_magnitude, B_magnitude := B_magnitude, M_magnitude := ⟨a_magnitude, i_magnitude, k_magnitude⟩, F_is_negative := F_is_negative, B_is_negative := B_is_negative, M_is_negative := ⟨a_is_negative, i_is_negative, k_is_negative⟩, F_is_no_number := F_is_no_number, B_is_no_number := B_is_no_number, M_is_no_number := ⟨a_is_no_number, i_is_no_number, k_is_no_number⟩, F_is_infinite := F_is_infinite, B_is_infinite := B_is_infinite, M_is_infinite := ⟨a_is_infinite, i_is_infinite, k_is_infinite⟩, F_is_zero := F_is_zero, B_is_zero := B_is_zero, M_is_zero := ⟨a_is_zero, i_is_zero, k_is_zero⟩, F_opposite := F_opposite, B_opposite := B_opposite, M_opposite := ⟨a_opposite, i_opposite, k_opposite⟩, F_signed := F_signed, B_signed := B_signed, M_signed := ⟨a_signed, i_signed, k_signed⟩, F_units_of := F_units_of, B_units_of := B_units_of, M_units_of := ⟨a_units_of, i_units_of, k_units_of⟩, F_nearest := F_nearest, B_nearest := B_nearest, M_nearest := ⟨a_nearest, i_nearest, k_nearest⟩, F_plus := F_plus, B_plus := B_plus, M_plus := ⟨a_plus, i_plus, k_plus⟩, F_minus := F_minus, B_minus := B_minus, M_minus := ⟨a_minus, i_minus, k_minus⟩, F_times := F_times, B_times := B_times, M_times := ⟨a_times, i_times, k_times⟩, F_answered := F_answered, B_answered := B_answered, G_answered := PySem.W.mg_of X G a_answered, F_sum_parts := F_sum_parts, B_sum_parts := B_sum_parts, G_sum_parts := PySem.W.mg_of X G a_sum_parts, F_four_products := F_four_products, B_four_products := B_four_products, G_four_products := PySem.W.mg_of X G a_four_products, F_parts_of_products := F_parts_of_products, B_parts_of_products := B_parts_of_products, G_parts_of_products := PySem.W.mg_of X G a_parts_of_products, F_scaled := F_scaled, B_scaled := B_scaled, G_scaled := PySem.W.mg_of X G a_scaled, F_ones_for_infinities := F_ones_for_infinities, B_ones_for_infinities := B_ones_for_infinities, G_ones_for_infinities := PySem.W.mg_of X G a_ones_for_infinities, F_zeros_for_no_numbers := F_zeros_for_no_numbers, B_zeros_for_no_numbers := B_zeros_for_no_numbers, G_zeros_for_no_numbers := PySem.W.mg_of X G a_zeros_for_no_numbers, F_any_infinite := F_any_infinite, B_any_infinite := B_any_infinite, G_any_infinite := PySem.W.mg_of X G a_any_infinite, F_all_no_numbers := F_all_no_numbers, B_all_no_numbers := B_all_no_numbers, G_all_no_numbers := PySem.W.mg_of X G a_all_no_numbers, F_mended_product := F_mended_product, B_mended_product := B_mended_product, G_mended_product := PySem.W.mg_of X G a_mended_product, F_product_parts := F_product_parts, B_product_parts := B_product_parts, G_product_parts := PySem.W.mg_of X G a_product_parts, F_is_refused := F_is_refused, B_is_refused := B_is_refused, G_is_refused := PySem.W.mg_of X G a_is_refused, F_number_at := F_number_at, B_number_at := B_number_at, G_number_at := PySem.W.mg_of X G a_number_at, F_transform_parts := F_transform_parts, B_transform_parts := B_transform_parts, G_transform_parts := PySem.W.mg_of X G a_transform_parts, F_transform := F_transform, B_transform := B_transform, G_transform := PySem.W.mg_of X G a_transform, no_abs := PySem.W.mg_none_of X G b_abs, no_all := PySem.W.mg_none_of X G b_all, no_any := PySem.W.mg_none_of X G b_any, no_max := PySem.W.mg_none_of X G b_max, no_min := PySem.W.mg_none_of X G b_min, no_range := PySem.W.mg_none_of X G b_range, g_LARGEST_COUNT := ⟨_, PySem.W.mg_of X G g_LARGEST_COUNT⟩, g_NO_NUMBER_ANSWER := ⟨_, PySem.W.mg_of X G g_NO_NUMBER_ANSWER⟩ }
  exact ⟨_, fun s us hu => match us, hu with | [_, _, _], _ => .of_eq rfl, C, fun base _ _ => ok_transform T⟩
end Row
open PySem PySem.W PyProof.Rows
set_option maxRecDepth 100000 in
set_option maxHeartbeats 0 in
theorem PySem.Challenge.cw_complexsingles_s08_transform_holds : PySem.Challenge.rw_complexsingles_s08_transform.Holds := by
  w_on; k_headS; (case hw => exact ⟨[.int 0, .list [], .list []], by decide +kernel, by decide +kernel⟩)
  k_fillS
  refine L2.walk_specK (r := PySem.Challenge.rw_complexsingles_s08_transform) (k := 9) (CX := L2.CX0) (ps := ["n", "x", "w"]) (sp := fun K => Cs.spE K Cs.R_transform) (by decide +kernel) rfl rfl ⟨rfl, by decide, by decide⟩ (fun w h Y => PySem.W.kIn_of Y) ?F ?S (fun _ _ _ _ z => z)
  case F =>
    intro w mg fa h Y KX G hmg
    refine Cs.any_C ?_
    refine' Row.all_mk KX G hmg ?p_aC ?p_a___init__ ?p_i___init__ ?p_l___init__ ?p_c___init__ ?p_k___init__ ?p_a_single_form ?p_l_single_form ?p_c_single_form ?p_k_single_form ?p_a_magnitude ?p_i_magnitude ?p_l_magnitude ?p_c_magnitude ?p_k_magnitude ?p_a_is_negative ?p_i_is_negative ?p_l_is_negative ?p_c_is_negative ?p_k_is_negative ?p_a_is_no_number ?p_i_is_no_number ?p_l_is_no_number ?p_c_is_no_number ?p_k_is_no_number ?p_a_is_infinite ?p_i_is_infinite ?p_l_is_infinite ?p_c_is_infinite ?p_k_is_infinite ?p_a_is_zero ?p_i_is_zero ?p_l_is_zero ?p_c_is_zero ?p_k_is_zero ?p_a_opposite ?p_i_opposite ?p_l_opposite ?p_c_opposite ?p_k_opposite ?p_a_signed ?p_i_signed ?p_l_signed ?p_c_signed ?p_k_signed ?p_a_units_of ?p_i_units_of ?p_l_units_of ?p_c_units_of ?p_k_units_of ?p_a_nearest ?p_i_nearest ?p_l_nearest ?p_c_nearest ?p_k_nearest ?p_a_plus ?p_i_plus ?p_l_plus ?p_c_plus ?p_k_plus ?p_a_minus ?p_i_minus ?p_l_minus ?p_c_minus ?p_k_minus ?p_a_times ?p_i_times ?p_l_times ?p_c_times ?p_k_times ?p_a_answered ?p_l_answered ?p_c_answered ?p_k_answered ?p_a_sum_parts ?p_l_sum_parts ?p_c_sum_parts ?p_k_sum_parts ?p_a_four_products ?p_l_four_products ?p_c_four_products ?p_k_four_products ?p_a_parts_of_products ?p_l_parts_of_products ?p_c_parts_of_products ?p_k_parts_of_products ?p_a_scaled ?p_l_scaled ?p_c_scaled ?p_k_scaled ?p_a_ones_for_infinities ?p_l_ones_for_infinities ?p_c_ones_for_infinities ?p_k_ones_for_infinities ?p_a_zeros_for_no_numbers ?p_l_zeros_for_no_numbers ?p_c_zeros_for_no_numbers ?p_k_zeros_for_no_numbers ?p_a_any_infinite ?p_l_any_infinite ?p_c_any_infinite ?p_k_any_infinite ?p_a_all_no_numbers ?p_l_all_no_numbers ?p_c_all_no_numbers ?p_k_all_no_numbers ?p_a_mended_product ?p_l_mended_product ?p_c_mended_product ?p_k_mended_product ?p_a_product_parts ?p_l_product_parts ?p_c_product_parts ?p_k_product_parts ?p_a_is_refused ?p_l_is_refused ?p_c_is_refused ?p_k_is_refused ?p_a_number_at ?p_l_number_at ?p_c_number_at ?p_k_number_at ?p_a_transform_parts ?p_l_transform_parts ?p_c_transform_parts ?p_k_transform_parts ?p_a_transform ?p_l_transform ?p_c_transform ?p_k_transform ?p_pg ?p_hd ?p_po ?p_sa ?p_mk ?p_kc ?p_n_fraction_bits ?p_n_leading_bit ?p_n_sign_bit ?p_n_infinity ?p_n_some_no_number ?p_n_one ?p_n_units_of_one ?p_b_abs ?p_b_all ?p_b_any ?p_b_max ?p_b_min ?p_b_range ?p_g_LARGEST_COUNT ?p_g_NO_NUMBER_ANSWER
    (case p_aC => k_is)
    (case p_a___init__ => k_is)
    (case p_i___init__ => k_is)
    (case p_l___init__ => k_is)
    (case p_c___init__ => k_is)
    (case p_k___init__ => k_is)
    (case p_a_single_form => k_is)
    (case p_l_single_form => k_is)
    (case p_c_single_form => k_is)
    (case p_k_single_form => k_is)
    (case p_a_magnitude => k_is)
    (case p_i_magnitude => k_is)
    (case p_l_magnitude => k_is)
    (case p_c_magnitude => k_is)
    (case p_k_magnitude => k_is)
    (case p_a_is_negative => k_is)
    (case p_i_is_negative => k_is)
    (case p_l_is_negative => k_is)
    (case p_c_is_negative => k_is)
    (case p_k_is_negative => k_is)
    (case p_a_is_no_number => k_is)
    (case p_i_is_no_number => k_is)
    (case p_l_is_no_number => k_is)
    (case p_c_is_no_number => k_is)
    (case p_k_is_no_number => k_is)
    (case p_a_is_infinite => k_is)
    (case p_i_is_infinite => k_is)
    (case p_l_is_infinite => k_is)
    (case p_c_is_infinite => k_is)
    (case p_k_is_infinite => k_is)
    (case p_a_is_zero => k_is)
    (case p_i_is_zero => k_is)
    (case p_l_is_zero => k_is)
    (case p_c_is_zero => k_is)
    (case p_k_is_zero => k_is)
    (case p_a_opposite => k_is)
    (case p_i_opposite => k_is)
    (case p_l_opposite => k_is)
    (case p_c_opposite => k_is)
    (case p_k_opposite => k_is)
    (case p_a_signed => k_is)
    (case p_i_signed => k_is)
    (case p_l_signed => k_is)
    (case p_c_signed => k_is)
    (case p_k_signed => k_is)
    (case p_a_units_of => k_is)
    (case p_i_units_of => k_is)
    (case p_l_units_of => k_is)
    (case p_c_units_of => k_is)
    (case p_k_units_of => k_is)
    (case p_a_nearest => k_is)
    (case p_i_nearest => k_is)
    (case p_l_nearest => k_is)
    (case p_c_nearest => k_is)
    (case p_k_nearest => k_is)
    (case p_a_plus => k_is)
    (case p_i_plus => k_is)
    (case p_l_plus => k_is)
    (case p_c_plus => k_is)
    (case p_k_plus => k_is)
    (case p_a_minus => k_is)
    (case p_i_minus => k_is)
    (case p_l_minus => k_is)
    (case p_c_minus => k_is)
    (case p_k_minus => k_is)
    (case p_a_times => k_is)
    (case p_i_times => k_is)
    (case p_l_times => k_is)
    (case p_c_times => k_is)
    (case p_k_times => k_is)
    (case p_a_answered => k_is)
    (case p_l_answered => k_is)
    (case p_c_answered => k_is)
    (case p_k_answered => k_is)
    (case p_a_sum_parts => k_is)
    (case p_l_sum_parts => k_is)
    (case p_c_sum_parts => k_is)
    (case p_k_sum_parts => k_is)
    (case p_a_four_products => k_is)
    (case p_l_four_products => k_is)
    (case p_c_four_products => k_is)
    (case p_k_four_products => k_is)
    (case p_a_parts_of_products => k_is)
    (case p_l_parts_of_products => k_is)
    (case p_c_parts_of_products => k_is)
    (case p_k_parts_of_products => k_is)
    (case p_a_scaled => k_is)
    (case p_l_scaled => k_is)
    (case p_c_scaled => k_is)
    (case p_k_scaled => k_is)
    (case p_a_ones_for_infinities => k_is)
    (case p_l_ones_for_infinities => k_is)
    (case p_c_ones_for_infinities => k_is)
    (case p_k_ones_for_infinities => k_is)
    (case p_a_zeros_for_no_numbers => k_is)
    (case p_l_zeros_for_no_numbers => k_is)
    (case p_c_zeros_for_no_numbers => k_is)
    (case p_k_zeros_for_no_numbers => k_is)
    (case p_a_any_infinite => k_is)
    (case p_l_any_infinite => k_is)
    (case p_c_any_infinite => k_is)
    (case p_k_any_infinite => k_is)
    (case p_a_all_no_numbers => k_is)
    (case p_l_all_no_numbers => k_is)
    (case p_c_all_no_numbers => k_is)
    (case p_k_all_no_numbers => k_is)
    (case p_a_mended_product => k_is)
    (case p_l_mended_product => k_is)
    (case p_c_mended_product => k_is)
    (case p_k_mended_product => k_is)
    (case p_a_product_parts => k_is)
    (case p_l_product_parts => k_is)
    (case p_c_product_parts => k_is)
    (case p_k_product_parts => k_is)
    (case p_a_is_refused => k_is)
    (case p_l_is_refused => k_is)
    (case p_c_is_refused => k_is)
    (case p_k_is_refused => k_is)
    (case p_a_number_at => k_is)
    (case p_l_number_at => k_is)
    (case p_c_number_at => k_is)
    (case p_k_number_at => k_is)
    (case p_a_transform_parts => k_is)
    (case p_l_transform_parts => k_is)
    (case p_c_transform_parts => k_is)
    (case p_k_transform_parts => k_is)
    (case p_a_transform => k_is)
    (case p_l_transform => k_is)
    (case p_c_transform => k_is)
    (case p_k_transform => k_is)
    (case p_pg => k_is)
    (case p_hd => k_is)
    (case p_po => k_is)
    (case p_sa => k_is)
    (case p_mk => k_is)
    (case p_kc => k_is)
    (case p_n_fraction_bits => k_is)
    (case p_n_leading_bit => k_is)
    (case p_n_sign_bit => k_is)
    (case p_n_infinity => k_is)
    (case p_n_some_no_number => k_is)
    (case p_n_one => k_is)
    (case p_n_units_of_one => k_is)
    (case p_b_abs => k_is)
    (case p_b_all => k_is)
    (case p_b_any => k_is)
    (case p_b_max => k_is)
    (case p_b_min => k_is)
    (case p_b_range => k_is)
    (case p_g_LARGEST_COUNT => k_is)
    (case p_g_NO_NUMBER_ANSWER => k_is)
  case S =>
    intro K H xs a hO hwi hask hx
    obtain ⟨n, c, z, un⟩ := a
    cases hx with
    | cons h1 h2 =>
      cases h2 with
      | cons h3 h4 =>
        cases h4 with
        | cons h5 h6 =>
          cases h6; cases h1
          cases h3 with
          | lst hs ha =>
            cases h5 with
            | lst hs2 ha2 =>
              have e1 := L2.ints_dw c _ ha
              have e2 := L2.ints_dw z _ ha2
              subst e1 e2
              intro C
              refine ⟨[.int n, .lst (Cs.vInts c), .lst (Cs.vInts z)], _, ⟨rfl, ⟨_, rfl, hs⟩, ⟨_, rfl, hs2⟩, trivial⟩, Cs.transform_is hask, fun v H' s d => ?_⟩
              obtain ⟨l, rfl, hl⟩ := d
              exact .lst hl (L2.dw_ints _)
#print axioms PySem.Challenge.cw_complexsingles_s08_transform_holds
