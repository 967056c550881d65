import PyProof.Rows.All
import Wide.All
import OpenK.AllK
import Wide.FinOn
import PyProof.EqAt
import PyProof.EqKinds
import PyProof.TupleCall
import KE.BitLaws
import Open.SpecLaws
import KE.OsHead
import KE.OsGo
import KE.KDictSum
import KE.KDictOf
import KE.KSortedAny
import PyProof.EnumMake
import PySem.Challenge.RW_asalone_s01_answers
section
set_option Elab.async false
set_option linter.all false
set_option maxRecDepth 100000
namespace L2
open PySem PySem.Spec PyProof.Rows

abbrev Key := Sum Int Str
def keyIs : Key → Value → Bool
  | .inl k, v => Value.isInt k v
  | .inr x, v => Value.isStrOf x v
def keyH (w : World) : Key → Int
  | .inl k => hashInt k
  | .inr x => hashStr w x
theorem keyIs_shape : ∀ {k : Key} {v : Value}, keyIs k v = true → (∃ i t, k = Sum.inl i ∧ v = Value.int i t) ∨ (∃ x t, k = Sum.inr x ∧ v = Value.str x t)
  | .inl i, v, h => by
    obtain ⟨t, e⟩ := Value.isInt_shape (k := i) (v := v) h
    exact .inl ⟨i, t, rfl, e⟩
  | .inr x, v, h => by
    obtain ⟨t, e⟩ := Value.isStrOf_shape (x := x) (v := v) h
    exact .inr ⟨x, t, rfl, e⟩
theorem keyIs_int (i : Int) (t : Tok) : keyIs (.inl i) (.int i t) = true := by simp [keyIs, Value.isInt]
theorem keyIs_str (x : Str) (t : Tok) : keyIs (.inr x) (.str x t) = true := by simp [keyIs, Value.isStrOf]
theorem key_ll (a b : Int) : decide ((Sum.inl a : Key) = Sum.inl b) = (a == b) := by
  by_cases e : a = b
  · subst e; simp
  · have h : ¬ (Sum.inl a : Key) = Sum.inl b := fun q => e (Sum.inl.inj q)
    rw [decide_eq_false h]
    exact (beq_eq_false_iff_ne.mpr e).symm
theorem key_rr (a b : Str) : decide ((Sum.inr a : Key) = Sum.inr b) = decide (a = b) := by
  by_cases e : a = b
  · subst e; simp
  · have h : ¬ (Sum.inr a : Key) = Sum.inr b := fun q => e (Sum.inr.inj q)
    rw [decide_eq_false h, decide_eq_false e]
theorem key_lr (a : Int) (b : Str) : decide ((Sum.inl a : Key) = Sum.inr b) = false := decide_eq_false (fun q => nomatch q)
theorem key_rl (a : Str) (b : Int) : decide ((Sum.inr a : Key) = Sum.inl b) = false := decide_eq_false (fun q => nomatch q)

def mixKind (prog : Program) (w : World) : PySem.KeyKind prog w Key where
  is := keyIs
  hash := keyH w
  inj := fun v a b ha hb => by
    rcases keyIs_shape ha with ⟨i, t, rfl, rfl⟩ | ⟨x, t, rfl, rfl⟩
    · rcases keyIs_shape hb with ⟨j, u, rfl, e⟩ | ⟨y, u, rfl, e⟩
      · injection e with e1 _; rw [e1]
      · exact nomatch e
    · rcases keyIs_shape hb with ⟨j, u, rfl, e⟩ | ⟨y, u, rfl, e⟩
      · exact nomatch e
      · injection e with e1 _; rw [e1]
  byValue := fun k v h => by
    rcases keyIs_shape h with ⟨i, t, rfl, rfl⟩ | ⟨x, t, rfl, rfl⟩ <;> rfl
  pyHash := fun hv h => by
    rcases keyIs_shape hv with ⟨i, t, rfl, rfl⟩ | ⟨x, t, rfl, rfl⟩
    · exact wpAny_pyHash_int h
    · exact wpAny_pyHash_str h
  eqBool := fun hu hv h => by
    rcases keyIs_shape hu with ⟨i, t, rfl, rfl⟩ | ⟨x, t, rfl, rfl⟩
    · rcases keyIs_shape hv with ⟨j, u, rfl, rfl⟩ | ⟨y, u, rfl, rfl⟩
      · rw [key_ll] at h; exact wpAny_eqBool_int h
      · rw [key_lr] at h; exact SeqAt.EqAt.int_str i t y u _ _ _ _ h
    · rcases keyIs_shape hv with ⟨j, u, rfl, rfl⟩ | ⟨y, u, rfl, rfl⟩
      · rw [key_rl] at h; exact SeqAt.EqAt.str_int x t j u _ _ _ _ h
      · rw [key_rr] at h; exact wpAny_eqBool_str h
  «strs» := fun k x t v h => by
    rcases keyIs_shape h with ⟨i, u, rfl, e⟩ | ⟨y, u, rfl, e⟩
    · exact nomatch e
    · injection e with e1 _
      subst e1
      cases v <;> rfl

theorem mixKind_int (prog : Program) (w : World) (i : Int) (t : Tok) : (mixKind prog w).is (.inl i) (.int i t) = true := keyIs_int i t
theorem mixKind_str (prog : Program) (w : World) (x : Str) (t : Tok) : (mixKind prog w).is (.inr x) (.str x t) = true := keyIs_str x t
end L2

namespace L2
open PySem PySem.Spec PyProof.Rows

inductive V where
  | non | bl (b : Bool) | int (i : Int) | str (x : Str) | byt (b : Array UInt8) | flt (b : UInt64) | ref (a : Addr) | ty (n : String)
  deriving DecidableEq

def RelV : V → Value → Prop
  | .non, u => u = Value.none
  | .bl b, u => u = Value.bool b
  | .int i, u => ∃ t, u = Value.int i t
  | .str x, u => ∃ t, u = Value.str x t
  | .byt b, u => ∃ t, u = Value.bytes b t
  | .flt b, u => ∃ t, u = Value.float b t
  | .ref a, u => u = Value.ref a
  | .ty n, u => u = Value.type n

abbrev Vals : List V → List Value → Prop := Paired RelV
theorem Vals.length {xs : List V} {us : List Value} (r : Vals xs us) : xs.length = us.length := Paired.length r
theorem Vals.get : ∀ {xs : List V} {us : List Value} {i : Nat} {x : V}, Vals xs us → xs[i]? = some x → ∃ u, us[i]? = some u ∧ RelV x u
  | _, _, _, _, .nil, e => by simp at e
  | _, _, 0, _, .cons r _, e => by simp at e; subst e; exact ⟨_, rfl, r⟩
  | _, _, i + 1, x, .cons _ t, e => by
    obtain ⟨u, h1, h2⟩ := Vals.get (i := i) (x := x) t (by simpa using e)
    exact ⟨u, by simpa using h1, h2⟩
theorem Vals.append : ∀ {xs ys : List V} {us ws : List Value}, Vals xs us → Vals ys ws → Vals (xs ++ ys) (us ++ ws)
  | _, _, _, _, .nil, s => s
  | _, _, _, _, .cons r t, s => .cons r (Vals.append t s)
theorem Vals.take : ∀ {xs : List V} {us : List Value} (n : Nat), Vals xs us → Vals (xs.take n) (us.take n)
  | _, _, 0, _ => .nil
  | _, _, _ + 1, .nil => .nil
  | _, _, n + 1, .cons r t => .cons r (Vals.take n t)
theorem Vals.drop : ∀ {xs : List V} {us : List Value} (n : Nat), Vals xs us → Vals (xs.drop n) (us.drop n)
  | _, _, 0, r => r
  | _, _, _ + 1, .nil => .nil
  | _, _, n + 1, .cons _ t => Vals.drop n t
def RelO : Option V → Option Value → Prop
  | some v, some u => RelV v u
  | none, none => True
  | _, _ => False
def KV {κ : Type} : List (κ × V) → List (κ × Value) → Prop := Paired fun (p : κ × V) (q : κ × Value) => p.1 = q.1 ∧ RelV p.2 q.2

def kV : Key → V
  | .inl i => .int i
  | .inr x => .str x

inductive HO where
  /-- a list -/
  | lst (xs : List V)
  /-- a tuple (never changes) -/
  | tup (xs : List V)
  /-- a dict whose keys are ints and texts; one whose keys are tuples of ints and texts (the empty one is both) -/
  | dK (kvs : List (Key × V)) | dT (kvs : List (List Key × V))
  /-- a set of ints: its members, its size -/
  | set (S : Int → Bool) (n : Nat)
  /-- an instance of the class at C, its dict at dx, its attributes -/
  | ins (C dx : Addr) (fs : List (Str × V))
  /-- the dict of the instance at x -/
  | own (x : Addr)
  /-- the dict of an exception -/
  | xd (fs : List (Str × V))
  /-- a bound method, f of x -/
  | met (f x : Addr)
  /-- a range object lo, lo + 1, .. below hi -/
  | rng (lo hi : Int)
  /-- a thing that is known to the object (the script; a dict while a loop walks it): read, never written while it is so -/
  | frz (o : Obj) (u : HO)
  /-- a code object's table -/
  | tbl (ps : Array Value)
  /-- any other thing, by what is true of its one object (a def of one's own: SetO a S n := HO.ext fun h => ..) -/
  | ext (φ : Heap → Prop)

abbrev Hp := Addr → Option HO
def upd (H : Hp) (a : Addr) (o : HO) : Hp := fun b => if b = a then some o else H b
theorem upd_same {H : Hp} {a : Addr} {o : HO} : upd H a o a = some o := by unfold upd; rw [if_pos rfl]
theorem upd_ne {H : Hp} {a b : Addr} {o : HO} (h : b ≠ a) : upd H a o b = H b := by unfold upd; rw [if_neg h]
theorem upd_upd {H : Hp} {a : Addr} {o u : HO} : upd (upd H a o) a u = upd H a u := by
  funext b; unfold upd; split <;> rfl
theorem ne_of {H : Hp} {a b : Addr} {o u : HO} (h : H a = some o) (h' : H b = some u) (d : o ≠ u) : a ≠ b := by
  intro e; subst e; rw [h] at h'; exact d (Option.some.inj h')
theorem ne_of_none {H : Hp} {a b : Addr} {o : HO} (h : H a = some o) (h' : H b = none) : a ≠ b := by
  intro e; subst e; rw [h] at h'; cases h'

section
variable (P : Program) (w : World)
def ObjOk (H : Hp) (h : Heap) (a : Addr) : HO → Prop
  | .lst xs => xs.length ≤ sizeLine ∧ ∃ (its : List Value) (n : Nat), Vals xs its ∧ h.get? a = some { cls := .type "list", data := .seq its.toArray n }
  | .tup xs => xs.length ≤ sizeLine ∧ ∃ its : List Value, Vals xs its ∧ IsTup h a its.toArray
  | .dK kvs => kvs.length ≤ sizeLine ∧ (a == sysModules) = false ∧ ∃ vs, KV kvs vs ∧ h.DictOf (mixKind P w) a vs
  | .dT kvs => kvs.length ≤ sizeLine ∧ (a == sysModules) = false ∧ ∃ xs : List (List Key × Addr × Value),
      Paired (fun (p : List Key × V) (q : List Key × Addr × Value) => p.1 = q.1 ∧ H q.2.1 = some (.tup (p.1.map kV)) ∧ RelV p.2 q.2.2) kvs xs ∧
      ∃ o es ep, h.get? a = some o ∧ o.ExactDict ∧ o.data = .dict es ep ∧ es.toList = xs.map (entryOfKey (tupleKind (mixKind P w))) ∧ (xs.map (·.1)).Nodup
  | .set S n => h.SetOf (intKind P w) a S n
  | .ins C dx fs => H dx = some (.own a) ∧ fs.length ≤ 1000 ∧ dx ≠ a ∧ h.get? a = some (PySem.W.instObj C dx) ∧
      ∃ mA, h.Ns1 dx mA ∧ (∀ f, RelO (fs.lookup f) (mA f)) ∧ PySem.Within mA (fs.map (·.1))
  | .own _ => ∃ o, h.get? a = some o
  | .xd fs => ∃ mA, h.Ns1 a mA ∧ ∀ f, RelO (fs.lookup f) (mA f)
  | .rng lo hi => ∃ t u v, h.get? a = some { cls := .type "range", data := .fields #[.int lo t, .int hi u, .int 1 v] }
  | .frz o u => h.get? a = some o ∧ ObjOk H h a u
  | .tbl ps => h.get? a = some { cls := .none, data := .fields ps }
  | .met f x => h.get? a = some (PySem.W.methodObj (.ref f) (.ref x))
  | .ext φ => φ h ∧ (∃ o, h.get? a = some o) ∧ ∀ h1 h2 : Heap, φ h1 → (∀ o, h1.get? a = some o → h2.get? a = some o) → φ h2
def HOk (H : Hp) (h : Heap) : Prop := ∀ a o, H a = some o → ObjOk P w H h a o
end

section
variable {P : Program} {w : World} {H H' : Hp} {h h' : Heap} {a : Addr} {o : HO}
theorem ObjOk.lt (x : ObjOk P w H h a o) : a < h.objs.size := by
  cases o with
  | lst xs => obtain ⟨_, _, _, _, e⟩ := x; exact Heap.lt_size e
  | tup xs => obtain ⟨_, _, _, p⟩ := x; exact p.lt
  | dK kvs => obtain ⟨_, _, _, _, o, _, _, e, _⟩ := x; exact Heap.lt_size e
  | dT kvs => obtain ⟨_, _, _, _, o, _, _, e, _⟩ := x; exact Heap.lt_size e
  | set S n => obtain ⟨o, _, _, _, e, _⟩ := x; exact Heap.lt_size e
  | ins C dx fs => obtain ⟨_, _, _, e, _⟩ := x; exact Heap.lt_size e
  | own y => obtain ⟨_, e⟩ := x; exact Heap.lt_size e
  | xd fs => obtain ⟨_, ⟨_, _, _, e, _⟩, _⟩ := x; exact Heap.lt_size e
  | rng lo hi => obtain ⟨_, _, _, e⟩ := x; exact Heap.lt_size e
  | frz ob u => obtain ⟨e, _⟩ := x; exact Heap.lt_size e
  | tbl ps => exact Heap.lt_size (show h.get? a = some _ from x)
  | met f y => exact Heap.lt_size (show h.get? a = some _ from x)
  | ext φ => obtain ⟨_, ⟨_, e⟩, _⟩ := x; exact Heap.lt_size e
theorem Paired.mapP {α β : Type} {F G : α → β → Prop} : ∀ {l₁ : List α} {l₂ : List β}, Paired F l₁ l₂ → (∀ a b, F a b → G a b) → Paired G l₁ l₂
  | _, _, .nil, _ => .nil
  | _, _, .cons r t, f => .cons (f _ _ r) (Paired.mapP t f)
theorem ObjOk.stay (x : ObjOk P w H h a o) (k : ∀ b u, (b = a ∨ H b = some (.own a)) → h.get? b = some u → h'.get? b = some u)
    (ho : ∀ b, H b = some (.own a) → H' b = some (.own a)) (ht : ∀ b xs, H b = some (.tup xs) → H' b = some (.tup xs)) : ObjOk P w H' h' a o := by
  induction o with
  | lst xs => obtain ⟨z, its, n, r, e⟩ := x; exact ⟨z, its, n, r, k _ _ (.inl rfl) e⟩
  | tup xs => obtain ⟨z, its, r, ob, e, c⟩ := x; exact ⟨z, its, r, ob, k _ _ (.inl rfl) e, c⟩
  | dK kvs => obtain ⟨z, y, vs, r, ob, es, ep, e, c⟩ := x; exact ⟨z, y, vs, r, ob, es, ep, k _ _ (.inl rfl) e, c⟩
  | dT kvs =>
    obtain ⟨z, y, xs, r, ob, es, ep, e, c⟩ := x
    exact ⟨z, y, xs, Paired.mapP r fun p q z => ⟨z.1, ht _ _ z.2.1, z.2.2⟩, ob, es, ep, k _ _ (.inl rfl) e, c⟩
  | set S n => obtain ⟨ob, es, ep, t, e, c⟩ := x; exact ⟨ob, es, ep, t, k _ _ (.inl rfl) e, c⟩
  | ins C dx fs =>
    obtain ⟨d, z, ne, e, mA, ⟨od, es, ep, e2, c⟩, r⟩ := x
    exact ⟨ho _ d, z, ne, k _ _ (.inl rfl) e, mA, ⟨od, es, ep, k _ _ (.inr d) e2, c⟩, r⟩
  | own y => obtain ⟨ob, e⟩ := x; exact ⟨ob, k _ _ (.inl rfl) e⟩
  | xd fs => obtain ⟨mA, ⟨od, es, ep, e, c⟩, r⟩ := x; exact ⟨mA, ⟨od, es, ep, k _ _ (.inl rfl) e, c⟩, r⟩
  | rng lo hi => obtain ⟨t, u, v, e⟩ := x; exact ⟨t, u, v, k _ _ (.inl rfl) e⟩
  | frz ob u ih => obtain ⟨e, q⟩ := x; exact ⟨k _ _ (.inl rfl) e, ih q⟩
  | tbl ps =>
    have e : h.get? a = some { cls := .none, data := .fields ps } := x
    show h'.get? a = some { cls := .none, data := .fields ps }
    exact k a _ (.inl rfl) e
  | met f y =>
    have e : h.get? a = some (PySem.W.methodObj (.ref f) (.ref y)) := x
    show h'.get? a = some (PySem.W.methodObj (.ref f) (.ref y))
    exact k a _ (.inl rfl) e
  | ext φ => obtain ⟨p, ⟨o, e⟩, st⟩ := x; exact ⟨st _ _ p fun o q => k _ _ (.inl rfl) q, ⟨o, k _ _ (.inl rfl) e⟩, st⟩
theorem HOk.lt (x : HOk P w H h) (e : H a = some o) : a < h.objs.size := (x a o e).lt
theorem HOk.fresh (x : HOk P w H h) (e : h.objs.size ≤ a) : H a = none := by
  cases q : H a with
  | none => rfl
  | some u => exact absurd (Nat.lt_of_lt_of_le (x.lt q) e) (Nat.lt_irrefl _)
theorem HOk.kept (x : HOk P w H h) (k : ∀ b u, h.get? b = some u → h'.get? b = some u) : HOk P w H h' := fun a o e =>
  (x a o e).stay (fun b u _ q => k b u q) (fun _ q => q) fun _ _ q => q
theorem HOk.laid (x : HOk P w H h) (k : ∀ b u, h.get? b = some u → h'.get? b = some u) (hp : h.objs.size ≤ a) (new : ObjOk P w (upd H a o) h' a o) : HOk P w (upd H a o) h' := fun b u e => by
  have hn := x.fresh hp
  by_cases hb : b = a
  · subst hb; rw [upd_same] at e; cases e; exact new
  · rw [upd_ne hb] at e
    exact (x b u e).stay (fun c v _ q => k c v q) (fun c q => by rw [upd_ne (ne_of_none q hn)]; exact q) fun c xs q => by rw [upd_ne (ne_of_none q hn)]; exact q
end

def Rd (H : Hp) (a : Addr) (u : HO) : Prop := H a = some u ∨ ∃ o, H a = some (.frz o u)
theorem Rd.ok {P : Program} {w : World} {H : Hp} {h : Heap} {a : Addr} {u : HO} (r : Rd H a u) (x : HOk P w H h) : ObjOk P w H h a u := by
  rcases r with r | ⟨o, r⟩
  · exact x a u r
  · obtain ⟨_, q⟩ := x a _ r
    exact q
def Mut : Option HO → Prop
  | some (.lst _) => True
  | some (.dK _) => True
  | some (.dT _) => True
  | some (.set _ _) => True
  | some (.ins _ _ _) => True
  | some (.ext _) => True
  | _ => False
section
variable {P : Program} {w : World} {H : Hp} {h h' : Heap} {x e : Addr} {o' : HO}
theorem HOk.write (ok : HOk P w H h) (mu : Mut (H x)) (he : e = x ∨ H e = some (.own x)) (k : ∀ b u, b ≠ e → h.get? b = some u → h'.get? b = some u) (heo : ∃ u, h'.get? e = some u)
    (new : ObjOk P w (upd H x o') h' x o') : HOk P w (upd H x o') h' := fun b u q => by
  have nown : ∀ c y, H c = some (.own y) → c ≠ x := fun c y r z => by subst z; rw [r] at mu; exact mu
  have ntup : ∀ c xs, H c = some (.tup xs) → c ≠ x := fun c xs r z => by subst z; rw [r] at mu; exact mu
  by_cases hb : b = x
  · subst hb; rw [upd_same] at q; cases q; exact new
  · rw [upd_ne hb] at q
    by_cases hbe : b = e
    · have q' : H b = some (.own x) := by
        rcases he with z | z
        · exact absurd (hbe.trans z) hb
        · rw [hbe]; exact z
      rw [q] at q'; cases q'
      obtain ⟨v, hv⟩ := heo
      exact ⟨v, by rw [hbe]; exact hv⟩
    · refine (ok b u q).stay (fun c v hc r => k c v ?_ r) (fun c r => by rw [upd_ne (nown c b r)]; exact r) fun c xs r => by rw [upd_ne (ntup c xs r)]; exact r
      rcases hc with rfl | hc
      · exact hbe
      · rintro rfl
        rcases he with z | z
        · exact nown c b hc z
        · rw [hc] at z; cases z; exact hb rfl
end

structure Un (fs ex : List Addr) (H H' : Hp) (h h' : Heap) : Prop where
  keep : ∀ b o, h.get? b = some o → H b = none → b ∉ fs → b ∉ ex → h'.get? b = some o
  slot : ∀ b o, h.get? b = some o → H b = none → b ∈ fs → b ∉ ex → ∃ sl, h'.get? b = some { o with slots := sl }
  free : ∀ b o, h.get? b = some o → H b = none → b ∉ ex → H' b = none
  there : ∀ b o, h.get? b = some o → b ∉ ex → ∃ o', h'.get? b = some o'
  tups : ∀ b xs, H b = some (.tup xs) → H' b = some (.tup xs)
  frzs : ∀ b o u, H b = some (.frz o u) → H' b = some (.frz o u)
  tbls : ∀ b ps, H b = some (.tbl ps) → ∃ more, H' b = some (.tbl (ps ++ more))
section
variable {fs fs' ex ex' : List Addr} {H H1 H2 : Hp} {h h1 h2 h' : Heap} {a x e : Addr} {o : HO}
theorem Un.any (u : Un fs ex H H1 h h1) {b : Addr} {ob : Obj} (q : h.get? b = some ob) (n : H b = none) (hx : b ∉ ex) : ∃ sl, h1.get? b = some { ob with slots := sl } := by
  by_cases hb : b ∈ fs
  · exact u.slot b ob q n hb hx
  · exact ⟨ob.slots, u.keep b ob q n hb hx⟩
theorem Un.kept (k : ∀ b u, h.get? b = some u → h'.get? b = some u) : Un fs ex H H h h' :=
  ⟨fun b ob q _ _ _ => k b ob q, fun b ob q _ _ _ => ⟨ob.slots, k b ob q⟩, fun _ _ _ n _ => n, fun b ob q _ => ⟨ob, k b ob q⟩, fun _ _ q => q, fun _ _ _ q => q, fun _ ps q => ⟨#[], by rw [q]; simp⟩⟩
theorem Un.refl : Un fs ex H H h h := Un.kept fun _ _ q => q
theorem Un.laid (k : ∀ b u, h.get? b = some u → h'.get? b = some u) (hp : h.objs.size ≤ a) (hn : H a = none) : Un fs ex H (upd H a o) h h' where
  keep := fun b u q _ _ _ => k b u q
  slot := fun b u q _ _ _ => ⟨u.slots, k b u q⟩
  free := fun b u q n _ => by rw [upd_ne (Nat.ne_of_lt (Nat.lt_of_lt_of_le (Heap.lt_size q) hp))]; exact n
  there := fun b u q _ => ⟨u, k b u q⟩
  tups := fun b xs q => by rw [upd_ne (ne_of_none q hn)]; exact q
  frzs := fun b u xs q => by rw [upd_ne (ne_of_none q hn)]; exact q
  tbls := fun b ps q => ⟨#[], by rw [upd_ne (ne_of_none q hn), q]; simp⟩
theorem Un.write (mu : Mut (H x)) (he : e = x ∨ H e = some (.own x)) (k : ∀ b u, b ≠ e → h.get? b = some u → h'.get? b = some u) (heo : ∃ u, h'.get? e = some u) : Un fs ex H (upd H x o) h h' := by
  have hx : ∀ b, H b = none → b ≠ x := fun b n z => by subst z; rw [n] at mu; exact mu
  have hb : ∀ b, H b = none → b ≠ e := fun b n z => by
    subst z
    rcases he with r | r
    · exact hx b n r
    · rw [n] at r; cases r
  have hm : ∀ b u, H b = some u → ¬ Mut (some u) → b ≠ x := fun b u q nm z => by subst z; rw [q] at mu; exact nm mu
  refine ⟨fun b u q n _ _ => k b u (hb b n) q, fun b u q n _ _ => ⟨u.slots, k b u (hb b n) q⟩, fun b u q n _ => by rw [upd_ne (hx b n)]; exact n, fun b u q _ => ?_,
    fun b xs q => by rw [upd_ne (hm b _ q fun z => z)]; exact q, fun b u xs q => by rw [upd_ne (hm b _ q fun z => z)]; exact q, fun b ps q => ⟨#[], by rw [upd_ne (hm b _ q fun z => z), q]; simp⟩⟩
  by_cases hbe : b = e
  · subst hbe; exact heo
  · exact ⟨u, k b u hbe q⟩
end

def trk (h : Heap) (H : Hp) : List Addr := (List.range h.objs.size).filter fun a => (H a).isSome
def hidT (h : Heap) (H : Hp) : Heap := PySem.W.hideAll h (trk h H)
theorem hidT_size (h : Heap) (H : Hp) : (hidT h H).objs.size = h.objs.size := PySem.W.hideAll_size _ _
theorem hidT_get {h : Heap} {H : Hp} {b : Addr} {o : Obj} (e : h.get? b = some o) (n : H b = none) : (hidT h H).get? b = some o :=
  PySem.W.hideAll_get _ e fun hm => by
    have q : (H b).isSome = true := (List.mem_filter.mp hm).2
    rw [n] at q; simp at q
theorem of_hidT {h : Heap} {H : Hp} {b : Addr} {o : Obj} (e : (hidT h H).get? b = some o) : h.get? b = some o ∧ H b = none := by
  have e' : h.get? b = some o := PySem.W.of_hideAll (trk h H) e
  refine ⟨e', ?_⟩
  cases q : H b with
  | none => rfl
  | some x =>
    have hm : b ∈ trk h H := List.mem_filter.mpr ⟨List.mem_range.mpr (Heap.lt_size e'), by simp [q]⟩
    have z : (hidT h H).get? b = none := PySem.W.hideAll_none (trk h H) hm
    rw [z] at e; cases e

end L2

namespace L2
open PySem PySem.Spec PyProof.Rows

structure Mod (K : PySem.W.Frag) (mg : Str → Option Value) (base : Heap) : Prop where
  kin : K.In base
  glob : base.Ns mainGlobals mg
  blt : ∃ mb, base.Ns builtinsNs mb ∧ ∀ x : Str, x ≠ "__name__" → mb x = bootBuiltins x
  nolimit : base.NoLimit

structure Cx where
  prog : Program
  w : World
  K : PySem.W.Frag
  mg : Str → Option Value
  base : Heap
  A : Around
  N : List Str
  s_0 : Shared
  H_0 : Hp
  env : Env
  outer : List Env
  stack : List Env
  ex : List Addr
  fn : Str → Bool
  calm : Bool
  pn : List (Addr × Obj)
  xe : Value → Shared → Prop
def frs (l : List Env) : List Addr := l.filterMap (·.frame)
abbrev Cx.fs (X : Cx) : List Addr := frs X.outer

def Vis (sc : Scope) (x : Str) : Prop := sc.names.lookup x = some .local ∨ sc.names.lookup x = some .cell ∨ sc.names.lookup x = some .free
def Loc (sc : Scope) (x : Str) : Prop := sc.names.lookup x = some .local ∨ sc.names.lookup x = some .cell
def Look (env : Env) (h : Heap) (m : Str → Option Value) (x : Str) (u : Value) : Prop :=
  (env.kindOf x = some .local ∧ m x = some u) ∨ ((env.kindOf x = some .cell ∨ env.kindOf x = some .free) ∧ ∃ c, env.cells.lookup x = some c ∧ h.IsCell c (some u))

structure Cx.Ok (X : Cx) : Prop where
  mod : Mod X.K X.mg X.base
  kind : X.env.scope.kind = .function
  glob : X.env.globals = mainGlobals
  blt : X.env.builtins = builtinsNs
  above : X.s_0.heap.objs.size ≤ X.env.locals
  inj : ∀ x y c, X.env.cells.lookup x = some c → X.env.cells.lookup y = some c → x = y
  has : ∀ x, (X.env.kindOf x = some .cell ∨ X.env.kindOf x = some .free) → ∃ c, X.env.cells.lookup x = some c
  cab : ∀ x c, X.fn x = true → X.env.cells.lookup x = some c → X.s_0.heap.objs.size ≤ c
  hd : X.calm = true → X.A.handled = none
  frames : X.A.frames = some X.stack
  stk : X.stack = X.outer ∨ (X.stack = X.env :: X.outer ∧ X.env.frame = some X.env.locals)
  exf : ∀ b ∈ X.ex, b ≠ X.env.locals ∧ ∀ x c, X.env.cells.lookup x = some c → c ≠ b
  bs : ∀ b o, X.base.get? b = some o → X.s_0.heap.get? b = some o ∧ X.H_0 b = none
  bsz : X.base.objs.size ≤ X.s_0.heap.objs.size
  noex : ∀ b o, X.base.get? b = some o → b ∉ X.ex
  exfs : ∀ b ∈ X.ex, b ∉ X.fs
  funs : X.s_0.heap.FunFrames X.base X.outer
  frf : ∀ b ∈ X.fs, X.H_0 b = none

structure Inv (X : Cx) (pins : List (Addr × Obj)) (σ : List (Option V)) (H : Hp) (s : Shared) : Prop where
  ok : X.Ok
  os : s.os = X.s_0.os
  bare : AllBare s.gens
  base : Un X.fs X.ex X.H_0 H X.s_0.heap s.heap
  loc : ∃ m, s.heap.Ns X.env.locals m ∧ ∀ (i : Nat) (x : Str) (v : V), X.N[i]? = some x → σ[i]? = some (some v) → Vis X.env.scope x → ∃ u, RelV v u ∧ Look X.env s.heap m x u
  cell : ∀ x c, X.env.cells.lookup x = some c → ∃ v, s.heap.IsCell c v
  free : H X.env.locals = none
  freeC : ∀ x c, X.env.cells.lookup x = some c → H c = none
  pin : ∀ p ∈ X.pn ++ pins, s.heap.get? p.1 = some p.2 ∧ H p.1 = none ∧ p.1 ≠ X.env.locals ∧ p.1 ∉ X.fs ∧ ∀ v, p.2.data ≠ .cell v
  hok : HOk X.prog X.w H s.heap
  len : σ.length = X.N.length

section
variable {X : Cx} {pins : List (Addr × Obj)} {σ : List (Option V)} {H H' : Hp} {s : Shared} {h' : Heap}

theorem Cx.Ok.nofr (ok : X.Ok) {b : Addr} {o : Obj} (e : X.base.get? b = some o) : b ∉ X.fs := fun hb => by
  have := (ok.funs.mem hb).1
  rw [e] at this; cases this
theorem Inv.bs (I : Inv X pins σ H s) : ∀ b o, X.base.get? b = some o → s.heap.get? b = some o ∧ H b = none := fun b o e =>
  ⟨I.base.keep b o (I.ok.bs b o e).1 (I.ok.bs b o e).2 (I.ok.nofr e) (I.ok.noex b o e), I.base.free b o (I.ok.bs b o e).1 (I.ok.bs b o e).2 (I.ok.noex b o e)⟩
theorem Inv.bk (I : Inv X pins σ H s) : ∀ b o, X.base.get? b = some o → s.heap.get? b = some o := fun b o e => (I.bs b o e).1
theorem Inv.mod (I : Inv X pins σ H s) : Mod X.K X.mg X.base := I.ok.mod
theorem Inv.kIn (I : Inv X pins σ H s) : X.K.In s.heap := I.ok.mod.kin.keeps I.bk
theorem Inv.lt (I : Inv X pins σ H s) : X.env.locals < s.heap.objs.size := let ⟨_, hn, _⟩ := I.loc; hn.lt
theorem Inv.sz (I : Inv X pins σ H s) : X.s_0.heap.objs.size ≤ s.heap.objs.size := Nat.le_trans I.ok.above (Nat.le_of_lt I.lt)
theorem Inv.nofs (I : Inv X pins σ H s) {a : Addr} (h : s.heap.objs.size ≤ a) : a ∉ X.fs := fun hb => by
  obtain ⟨_, o, ho, _⟩ := I.ok.funs.mem hb
  exact absurd (Nat.lt_of_lt_of_le (Heap.lt_size ho) (Nat.le_trans I.sz h)) (Nat.lt_irrefl _)
theorem Inv.cne (I : Inv X pins σ H s) : ∀ x c, X.env.cells.lookup x = some c → c ≠ X.env.locals := fun x c e z => by
  obtain ⟨v, o, ho, hd⟩ := I.cell x c e
  obtain ⟨m, ⟨o', es, ep, ho', hd', _⟩, _⟩ := I.loc
  rw [z, ho'] at ho; cases ho; rw [hd'] at hd; cases hd
theorem Inv.funs (I : Inv X pins σ H s) : s.heap.FunFrames X.base X.outer := by
  have all : ∀ (l : List Env), (∀ b ∈ frs l, b ∈ X.fs) → X.s_0.heap.FunFrames X.base l → s.heap.FunFrames X.base l := by
    intro l
    induction l with
    | nil => intro _ _; trivial
    | cons env r ih =>
      intro hs hl
      obtain ⟨hk, ⟨L, o, hf, hn, ho, hd⟩, hr⟩ := hl
      have hL : L ∈ X.fs := hs L (by unfold frs; rw [List.filterMap_cons, hf]; exact List.mem_cons_self)
      obtain ⟨sl, e⟩ := I.base.slot L o ho (I.ok.frf L hL) hL fun z => I.ok.exfs L z hL
      exact ⟨hk, ⟨L, _, hf, hn, e, hd⟩, ih (fun b hb => hs b (by unfold frs; rw [List.filterMap_cons, hf]; exact List.mem_cons_of_mem _ hb)) hr⟩
  exact all X.outer (fun _ hb => hb) I.ok.funs

theorem Inv.stack (I : Inv X pins σ H s) : s.heap.FunFrames X.base X.stack := by
  rcases I.ok.stk with e | ⟨e, hf⟩
  · rw [e]; exact I.funs
  · rw [e]
    obtain ⟨m, hn, _⟩ := I.loc
    refine .cons (by rw [I.ok.kind]; decide) hf hn ?_ I.funs
    exact Heap.get?_none_of_le (Nat.le_trans I.ok.bsz I.ok.above)
theorem Inv.stkSub (I : Inv X pins σ H s) : ∀ b ∈ frs X.stack, b ∈ X.env.locals :: X.fs := fun b hb => by
  rcases I.ok.stk with e | ⟨e, hf⟩
  · rw [e] at hb; exact List.mem_cons_of_mem _ hb
  · rw [e] at hb
    unfold frs at hb
    rw [List.filterMap_cons, hf] at hb
    exact hb
theorem Inv.stkFree (I : Inv X pins σ H s) : ∀ b ∈ frs X.stack, H b = none := fun b hb => by
  rcases List.mem_cons.mp (I.stkSub b hb) with e | hb
  · rw [e]; exact I.free
  · obtain ⟨_, o, ho, _⟩ := I.ok.funs.mem hb
    exact I.base.free b o ho (I.ok.frf b hb) fun z => I.ok.exfs b z hb

theorem Inv.step {g' : Array GenState} {t' : Nat} {d' : Drawn} {ch : List Addr} (I : Inv X pins σ H s)
    (hch : ∀ b ∈ ch, (b ∈ X.ex ∨ X.s_0.heap.objs.size ≤ b) ∧ b ≠ X.env.locals ∧ (∀ x c, X.env.cells.lookup x = some c → c ≠ b) ∧ ∀ p ∈ X.pn ++ pins, p.1 ≠ b)
    (keep : ∀ b o, b ≠ X.env.locals → b ∉ X.fs → b ∉ ch → s.heap.get? b = some o → H b = none → h'.get? b = some o)
    (slot : ∀ b o, b ≠ X.env.locals → b ∈ X.fs → b ∉ ch → s.heap.get? b = some o → H b = none → ∃ sl, h'.get? b = some { o with slots := sl }) (free : ∀ b o, b ∉ ch → s.heap.get? b = some o → H b = none → H' b = none)
    (there : ∀ b o, b ∉ ch → s.heap.get? b = some o → ∃ o', h'.get? b = some o')
    (tups : ∀ b xs, H b = some (.tup xs) → H' b = some (.tup xs)) (frzs : ∀ b o u, H b = some (.frz o u) → H' b = some (.frz o u)) (tbls : ∀ b ps, H b = some (.tbl ps) → ∃ more, H' b = some (.tbl (ps ++ more)))
    (ns : ∀ m, s.heap.Ns X.env.locals m → h'.Ns X.env.locals m) (hok : HOk X.prog X.w H' h') (hg : AllBare g') :
    Inv X pins σ H' { s with heap := h', gens := g', drawn := d', toks := t' } := by
  have neL : ∀ b o, X.s_0.heap.get? b = some o → b ≠ X.env.locals := fun b o e => Nat.ne_of_lt (Nat.lt_of_lt_of_le (Heap.lt_size e) I.ok.above)
  have neC : ∀ b o, X.s_0.heap.get? b = some o → b ∉ X.ex → b ∉ ch := fun b o e hx hb => by
    rcases (hch b hb).1 with z | z
    · exact hx z
    · exact absurd (Nat.lt_of_lt_of_le (Heap.lt_size e) z) (Nat.lt_irrefl _)
  have cellK : ∀ x c, X.env.cells.lookup x = some c → ∀ v, s.heap.IsCell c v → h'.IsCell c v := fun x c e v ⟨o, ho, hd⟩ => by
    have nch : c ∉ ch := fun z => (hch c z).2.2.1 x c e rfl
    by_cases hc : c ∈ X.fs
    · obtain ⟨sl, q⟩ := slot c o (I.cne x c e) hc nch ho (I.freeC x c e)
      exact ⟨_, q, hd⟩
    · exact ⟨o, keep c o (I.cne x c e) hc nch ho (I.freeC x c e), hd⟩
  refine ⟨I.ok, I.os, hg, ⟨fun b o e n hb hx => ?_, fun b o e n hb hx => ?_, fun b o e n hx => ?_, fun b o e hx => ?_, fun b xs e => tups b xs (I.base.tups b xs e), fun b o xs e => frzs b o xs (I.base.frzs b o xs e), fun b ps e => ?_⟩, ?_, fun x c e => ?_, ?_, fun x c e => ?_, fun p hp => ?_, hok, I.len⟩
  · exact keep b o (neL b o e) hb (neC b o e hx) (I.base.keep b o e n hb hx) (I.base.free b o e n hx)
  · obtain ⟨sl, e1⟩ := I.base.slot b o e n hb hx
    obtain ⟨sl', e2⟩ := slot b _ (neL b o e) hb (neC b o e hx) e1 (I.base.free b o e n hx)
    exact ⟨sl', e2⟩
  · obtain ⟨o', e1⟩ := I.base.there b o e hx
    exact free b o' (neC b o e hx) e1 (I.base.free b o e n hx)
  · obtain ⟨o', e1⟩ := I.base.there b o e hx
    exact there b o' (neC b o e hx) e1
  · obtain ⟨m1, e1⟩ := I.base.tbls b ps e
    obtain ⟨m2, e2⟩ := tbls b _ e1
    exact ⟨m1 ++ m2, by rw [e2, Array.append_assoc]⟩
  · obtain ⟨m, hn, hl⟩ := I.loc
    refine ⟨m, ns m hn, fun i x v e1 e2 e3 => ?_⟩
    obtain ⟨u, r, l⟩ := hl i x v e1 e2 e3
    refine ⟨u, r, ?_⟩
    rcases l with l | ⟨k, c, e, z⟩
    · exact .inl l
    · exact .inr ⟨k, c, e, cellK x c e _ z⟩
  · obtain ⟨v, z⟩ := I.cell x c e
    exact ⟨v, cellK x c e v z⟩
  · obtain ⟨m, ⟨o, _, _, ho, _⟩, _⟩ := I.loc
    exact free _ o (fun z => (hch _ z).2.1 rfl) ho I.free
  · obtain ⟨v, o, ho, hd⟩ := I.cell x c e
    exact free c o (fun z => (hch c z).2.2.1 x c e rfl) ho (I.freeC x c e)
  · obtain ⟨e, n, ne, nf, d⟩ := I.pin p hp
    have nch : p.1 ∉ ch := fun z => (hch p.1 z).2.2.2 p hp rfl
    exact ⟨keep p.1 p.2 ne nf nch e n, free p.1 p.2 nch e n, ne, nf, d⟩
theorem Inv.un {t' : Nat} (I : Inv X pins σ H s) (u : Un X.fs [] H H' s.heap h') (hok : HOk X.prog X.w H' h') : Inv X pins σ H' { s with heap := h', toks := t' } := by
  obtain ⟨m, ⟨o, es, ep, ho, r⟩, _⟩ := id I.loc
  obtain ⟨sl, hL⟩ := u.any ho I.free (by simp)
  exact I.step (g' := s.gens) (d' := s.drawn) (ch := []) (fun _ z => nomatch z) (fun b o _ hb _ e n => u.keep b o e n hb (by simp)) (fun b o _ hb _ e n => u.slot b o e n hb (by simp)) (fun b o _ e n => u.free b o e n (by simp)) (fun b o _ e => u.there b o e (by simp)) u.tups u.frzs u.tbls (fun m' hm => by
    obtain ⟨o', es', ep', ho', r'⟩ := hm
    rw [ho] at ho'; cases ho'
    exact ⟨_, es', ep', hL, r'⟩) hok I.bare
theorem Inv.call {g' : Array GenState} {t' : Nat} {d' : Drawn} {ch : List Addr} (I : Inv X pins σ H s) (u : Un (frs X.stack) ch H H' s.heap h') (hok : HOk X.prog X.w H' h') (hg : AllBare g')
    (hch : ∀ b ∈ ch, (b ∈ X.ex ∨ X.s_0.heap.objs.size ≤ b) ∧ b ≠ X.env.locals ∧ (∀ x c, X.env.cells.lookup x = some c → c ≠ b) ∧ ∀ p ∈ X.pn ++ pins, p.1 ≠ b) :
    Inv X pins σ H' { s with heap := h', gens := g', drawn := d', toks := t' } := by
  obtain ⟨m, ⟨o, es, ep, ho, r⟩, _⟩ := id I.loc
  obtain ⟨sl, hL⟩ := u.any ho I.free fun z => (hch _ z).2.1 rfl
  exact I.step (ch := ch) hch (fun b o hL hb hc e n => u.keep b o e n (fun z => (List.mem_cons.mp (I.stkSub b z)).elim hL hb) hc) (fun b o _ _ hc e n => u.any e n hc) (fun b o hc e n => u.free b o e n hc) (fun b o hc e => u.there b o e hc) u.tups u.frzs u.tbls (fun m' hm => by
    obtain ⟨o', es', ep', ho', r'⟩ := hm
    rw [ho] at ho'; cases ho'
    exact ⟨_, es', ep', hL, r'⟩) hok hg
theorem Inv.turned {t' : Nat} {it : Addr} (I : Inv X pins σ H s) (k : ∀ b o, b ≠ it → s.heap.get? b = some o → h'.get? b = some o) (hn : H it = none) (hL : it ≠ X.env.locals)
    (h1 : it ∈ X.ex ∨ X.s_0.heap.objs.size ≤ it) (h2 : ∀ x c, X.env.cells.lookup x = some c → c ≠ it) (h3 : ∀ p ∈ X.pn ++ pins, p.1 ≠ it) : Inv X pins σ H { s with heap := h', toks := t' } := by
  have nit : ∀ b u, H b = some u → b ≠ it := fun b u e z => by rw [z, hn] at e; cases e
  refine I.step (g' := s.gens) (d' := s.drawn) (ch := [it]) (fun b hb => ?_) (fun b o _ _ hc e _ => k b o (fun z => hc (by simp [z])) e) (fun b o _ _ hc e _ => ⟨o.slots, k b o (fun z => hc (by simp [z])) e⟩) (fun _ _ _ _ n => n)
    (fun b o hc e => ⟨o, k b o (fun z => hc (by simp [z])) e⟩) (fun _ _ e => e) (fun _ _ _ e => e) (fun b ps e => ⟨#[], by rw [e]; simp⟩) (fun m hm => ?_) (fun b u e => ?_) I.bare
  · have e : b = it := by simpa using hb
    subst e
    exact ⟨h1, hL, h2, h3⟩
  · obtain ⟨o, es, ep, ho, r⟩ := hm
    exact ⟨o, es, ep, k _ o (Ne.symm hL) ho, r⟩
  · refine (I.hok b u e).stay (fun c v hc q => k c v ?_ q) (fun _ q => q) fun _ _ q => q
    rcases hc with z | z
    · rw [z]; exact nit b u e
    · exact nit c _ z
theorem Inv.tok (I : Inv X pins σ H s) (t : Nat) : Inv X pins σ H { s with toks := t } := I.un (h' := s.heap) (t' := t) Un.refl I.hok
theorem Inv.kept {t' : Nat} (I : Inv X pins σ H s) (k : ∀ b u, s.heap.get? b = some u → h'.get? b = some u) : Inv X pins σ H { s with heap := h', toks := t' } := I.un (Un.kept k) (I.hok.kept k)
theorem Inv.laid {a : Addr} {o : HO} {t' : Nat} (I : Inv X pins σ H s) (k : ∀ b u, s.heap.get? b = some u → h'.get? b = some u) (hp : s.heap.objs.size ≤ a) (new : ObjOk X.prog X.w (upd H a o) h' a o) :
    Inv X pins σ (upd H a o) { s with heap := h', toks := t' } := I.un (Un.laid k hp (I.hok.fresh hp)) (I.hok.laid k hp new)
theorem Inv.write {x e : Addr} {o : HO} {t' : Nat} (I : Inv X pins σ H s) (mu : Mut (H x)) (he : e = x ∨ H e = some (.own x)) (k : ∀ b u, b ≠ e → s.heap.get? b = some u → h'.get? b = some u) (heo : ∃ u, h'.get? e = some u)
    (new : ObjOk X.prog X.w (upd H x o) h' x o) : Inv X pins σ (upd H x o) { s with heap := h', toks := t' } := I.un (Un.write mu he k heo) (I.hok.write mu he k heo new)
theorem Inv.pins_of {pins' : List (Addr × Obj)} (I : Inv X pins σ H s) (h : ∀ p ∈ pins', s.heap.get? p.1 = some p.2 ∧ H p.1 = none ∧ p.1 ≠ X.env.locals ∧ p.1 ∉ X.fs ∧ ∀ v, p.2.data ≠ .cell v) : Inv X pins' σ H s :=
  ⟨I.ok, I.os, I.bare, I.base, I.loc, I.cell, I.free, I.freeC, fun p hp => (List.mem_append.mp hp).elim (fun z => I.pin p (List.mem_append_left _ z)) (h p), I.hok, I.len⟩

theorem nodup_ix {N : List Str} (hN : N.Nodup) {i j : Nat} {x : Str} (a : N[i]? = some x) (b : N[j]? = some x) : i = j := by
  obtain ⟨h1, e1⟩ := List.getElem?_eq_some_iff.mp a
  obtain ⟨h2, e2⟩ := List.getElem?_eq_some_iff.mp b
  exact (List.getElem_inj hN).mp (e1.trans e2.symm)

theorem store_ok2 {M : Model} {A : Around} {E : Value → Shared → Prop} {i : Nat} {x : Str} {v : V} {u : Value} {Q : Unit → Shared → Prop} (I : Inv X pins σ H s) (hN : X.N.Nodup) (hi : X.N[i]? = some x) (hx : Loc X.env.scope x) (r : RelV v u)
    (h : ∀ s', Inv X pins (σ.set i (some v)) H s' → (∃ a, Heap.SameBut a s.heap s'.heap ∧ (a = X.env.locals ∨ X.env.cells.lookup x = some a)) → Q () s') (hf : X.fn x = true ∨ X.env.scope.names.lookup x = some .local := by first | exact .inl rfl | exact .inr rfl | assumption) : wpAny M A (storeName X.env x u) Q E s := by
  obtain ⟨m, hn, hl⟩ := id I.loc
  have hcls : (X.env.scope.kind == .class || (X.env.scope.kind == .module && X.env.locals != X.env.globals)) = false := by rw [I.ok.kind]; rfl
  have hiσ : i < σ.length := by rw [I.len]; exact (List.getElem?_eq_some_iff.mp hi).1
  have cne := I.cne
  have tracked : ∀ {a : Addr} {h' : Heap}, (∃ o, s.heap.get? a = some o ∧ H a = none) → Heap.SameBut a s.heap h' → HOk X.prog X.w H h' := fun {a h'} ha hs b ob e => by
    obtain ⟨_, _, hfree⟩ := ha
    refine (I.hok b ob e).stay (fun c w' hc q => (hs.2 c ?_).trans q) (fun _ q => q) fun _ _ q => q
    rintro rfl
    rcases hc with rfl | hc
    · rw [hfree] at e; cases e
    · rw [hfree] at hc; cases hc
  rcases hx with hk | hk
  · refine wpAny_storeName_local hk hn (fun h' hn' hs => ?_) hcls
    obtain ⟨oL, _, _, hoL, _⟩ := id hn
    refine h _ ⟨I.ok, I.os, I.bare, ⟨fun b o e n hb hx => ?_, fun b o e n hb hx => ?_, I.base.free, fun b o e hx => ?_, I.base.tups, I.base.frzs, I.base.tbls⟩, ⟨_, hn', fun j y v' e1 e2 e3 => ?_⟩, fun y c e => ?_, I.free, I.freeC, fun p hp => ?_, tracked ⟨oL, hoL, I.free⟩ hs, by simpa using I.len⟩ ⟨_, hs, .inl rfl⟩
    · exact (hs.2 b (Nat.ne_of_lt (Nat.lt_of_lt_of_le (Heap.lt_size e) I.ok.above))).trans (I.base.keep b o e n hb hx)
    · obtain ⟨sl, e1⟩ := I.base.slot b o e n hb hx
      exact ⟨sl, (hs.2 b (Nat.ne_of_lt (Nat.lt_of_lt_of_le (Heap.lt_size e) I.ok.above))).trans e1⟩
    · obtain ⟨o', e1⟩ := I.base.there b o e hx
      exact ⟨o', (hs.2 b (Nat.ne_of_lt (Nat.lt_of_lt_of_le (Heap.lt_size e) I.ok.above))).trans e1⟩
    · by_cases hj : j = i
      · subst hj
        rw [hi] at e1; cases e1
        rw [List.getElem?_set_self hiσ] at e2
        cases e2
        exact ⟨u, r, .inl ⟨hk, by simp⟩⟩
      · rw [List.getElem?_set_ne (Ne.symm hj)] at e2
        obtain ⟨u', r', q⟩ := hl j y v' e1 e2 e3
        refine ⟨u', r', ?_⟩
        rcases q with ⟨k, e⟩ | ⟨k, c, e, z⟩
        · refine .inl ⟨k, ?_⟩
          have : y ≠ x := fun e => hj (nodup_ix hN e1 (e ▸ hi))
          simp [this, e]
        · exact .inr ⟨k, c, e, z.sameBut hs (cne y c e)⟩
    · obtain ⟨w', z⟩ := I.cell y c e
      exact ⟨w', z.sameBut hs (cne y c e)⟩
    · obtain ⟨e, n, ne, nf, d⟩ := I.pin p hp
      exact ⟨(hs.2 p.1 ne).trans e, n, ne, nf, d⟩
  · have hfn : X.fn x = true := by
      rcases hf with z | z
      · exact z
      · rw [z] at hk; cases hk
    obtain ⟨c, hc⟩ := I.ok.has x (.inl hk)
    obtain ⟨w', z⟩ := I.cell x c hc
    refine wpAny_storeName_cell I.ok.kind hk hc z (fun h' hc' hs => ?_)
    obtain ⟨oc, hoc, hocd⟩ := id z
    refine h { s with heap := h' } ⟨I.ok, I.os, I.bare, ⟨fun b o e n hb hx => ?_, fun b o e n hb hx => ?_, I.base.free, fun b o e hx => ?_, I.base.tups, I.base.frzs, I.base.tbls⟩, ⟨m, hn.sameBut hs (Ne.symm (cne x c hc)), fun j y v' e1 e2 e3 => ?_⟩, fun y c' e => ?_, I.free, I.freeC, fun p hp => ?_, tracked ⟨oc, hoc, I.freeC x c hc⟩ hs, by simpa using I.len⟩ ⟨c, hs, .inr hc⟩
    · exact (hs.2 b (Nat.ne_of_lt (Nat.lt_of_lt_of_le (Heap.lt_size e) (I.ok.cab x c hfn hc)))).trans (I.base.keep b o e n hb hx)
    · obtain ⟨sl, e1⟩ := I.base.slot b o e n hb hx
      exact ⟨sl, (hs.2 b (Nat.ne_of_lt (Nat.lt_of_lt_of_le (Heap.lt_size e) (I.ok.cab x c hfn hc)))).trans e1⟩
    · obtain ⟨o', e1⟩ := I.base.there b o e hx
      exact ⟨o', (hs.2 b (Nat.ne_of_lt (Nat.lt_of_lt_of_le (Heap.lt_size e) (I.ok.cab x c hfn hc)))).trans e1⟩
    · by_cases hj : j = i
      · subst hj
        rw [hi] at e1; cases e1
        rw [List.getElem?_set_self hiσ] at e2
        cases e2
        exact ⟨u, r, .inr ⟨.inl hk, c, hc, hc'⟩⟩
      · rw [List.getElem?_set_ne (Ne.symm hj)] at e2
        obtain ⟨u', r', q⟩ := hl j y v' e1 e2 e3
        refine ⟨u', r', ?_⟩
        rcases q with q | ⟨k, c', e, z'⟩
        · exact .inl q
        · refine .inr ⟨k, c', e, z'.sameBut hs ?_⟩
          rintro rfl
          exact hj (nodup_ix hN e1 (I.ok.inj _ _ _ e hc ▸ hi))
    · by_cases hcc : c' = c
      · subst hcc; exact ⟨_, hc'⟩
      · obtain ⟨w2, z2⟩ := I.cell y c' e
        exact ⟨w2, z2.sameBut hs hcc⟩
    · obtain ⟨e, n, ne, nf, d⟩ := I.pin p hp
      refine ⟨(hs.2 p.1 ?_).trans e, n, ne, nf, d⟩
      intro q
      rw [q, hoc] at e
      have q' : oc = p.2 := Option.some.inj e
      exact d w' (by rw [← q']; exact hocd)
theorem store_ok {M : Model} {A : Around} {E : Value → Shared → Prop} {i : Nat} {x : Str} {v : V} {u : Value} {Q : Unit → Shared → Prop} (I : Inv X pins σ H s) (hN : X.N.Nodup) (hi : X.N[i]? = some x) (hx : Loc X.env.scope x) (r : RelV v u)
    (h : ∀ s', Inv X pins (σ.set i (some v)) H s' → Q () s') (hf : X.fn x = true ∨ X.env.scope.names.lookup x = some .local := by first | exact .inl rfl | exact .inr rfl | assumption) : wpAny M A (storeName X.env x u) Q E s :=
  store_ok2 I hN hi hx r (fun s' I' _ => h s' I') hf
end

abbrev XK := Value → Option Addr → Hp → Prop
abbrev St := List (Option V)
abbrev VK := V → Hp → Prop
abbrev TE := St → Hp → VK → Prop
abbrev TT := St → Hp → (Bool → Hp → Prop) → Prop
abbrev TA := St → Hp → (List V → Hp → Prop) → Prop
structure Ends where
  nx : St → Hp → Prop
  rt : VK
  bk : St → Hp → Prop := fun _ _ => False
  ct : St → Hp → Prop := fun _ _ => False
abbrev TS := Ends → St → Hp → Prop

def EP (X : Cx) (pins : List (Addr × Obj)) (σ : St) (Q : VK) (u : Value) (s' : Shared) : Prop := ∃ v H', Inv X pins σ H' s' ∧ RelV v u ∧ Q v H'
def TP (X : Cx) (pins : List (Addr × Obj)) (σ : St) (Q : Bool → Hp → Prop) (b : Bool) (s' : Shared) : Prop := ∃ H', Inv X pins σ H' s' ∧ Q b H'
def AP (X : Cx) (pins : List (Addr × Obj)) (σ : St) (Q : List V → Hp → Prop) (us : List Value) (s' : Shared) : Prop := ∃ vs H', Inv X pins σ H' s' ∧ Vals vs us ∧ Q vs H'
def SP (X : Cx) (pins : List (Addr × Obj)) (D : Ends) (f : Flow) (s' : Shared) : Prop :=
  match f with
  | .next => ∃ σ' H', Inv X pins σ' H' s' ∧ D.nx σ' H'
  | .brk => ∃ σ' H', Inv X pins σ' H' s' ∧ D.bk σ' H'
  | .cont => ∃ σ' H', Inv X pins σ' H' s' ∧ D.ct σ' H'
  | .ret u => ∃ v σ' H', Inv X pins σ' H' s' ∧ RelV v u ∧ D.rt v H'

def PE (X : Cx) (e : Expr) (t : TE) : Prop :=
  ∀ (pins : List (Addr × Obj)) (s : Shared) (σ : St) (H : Hp) (Q : VK), Inv X pins σ H s → t σ H Q → wpAny (model X.prog X.w) X.A (eval e X.env) (EP X pins σ Q) X.xe s
def PT (X : Cx) (e : Expr) (t : TT) : Prop :=
  ∀ (pins : List (Addr × Obj)) (s : Shared) (σ : St) (H : Hp) (Q : Bool → Hp → Prop), Inv X pins σ H s → t σ H Q → wpAny (model X.prog X.w) X.A (isTrue e X.env (eval e X.env)) (TP X pins σ Q) X.xe s
def PW (X : Cx) (e : Expr) (t : TT) : Prop :=
  ∀ (whole : Sem Value) (pins : List (Addr × Obj)) (s : Shared) (σ : St) (H : Hp) (Q : Bool → Hp → Prop), Inv X pins σ H s → t σ H Q → wpAny (model X.prog X.w) X.A (isTrue e X.env whole) (TP X pins σ Q) X.xe s
theorem PW.pt {X : Cx} {e : Expr} {t : TT} (h : PW X e t) : PT X e t := h _
def PA (X : Cx) (es : List Expr) (t : TA) : Prop :=
  ∀ (pos : Pos) (pins : List (Addr × Obj)) (s : Shared) (σ : St) (H : Hp) (Q : List V → Hp → Prop), Inv X pins σ H s → t σ H Q → wpAny (model X.prog X.w) X.A (spliced (backTo pos (starEach es X.env))) (AP X pins σ Q) X.xe s
def PS (X : Cx) (st : Stmt) (t : TS) : Prop :=
  ∀ (pins : List (Addr × Obj)) (s : Shared) (σ : St) (H : Hp) (D : Ends), Inv X pins σ H s → t D σ H → wpAny (model X.prog X.w) X.A (exec st X.env) (SP X pins D) X.xe s
def PSs (X : Cx) (st : List Stmt) (t : TS) : Prop :=
  ∀ (pins : List (Addr × Obj)) (s : Shared) (σ : St) (H : Hp) (D : Ends), Inv X pins σ H s → t D σ H → wpAny (model X.prog X.w) X.A (execs st X.env) (SP X pins D) X.xe s
theorem thn {α : Type} {t : Sem α} {Q Q' : α → Shared → Prop} {M : Model} {A : Around} {E : Value → Shared → Prop} {s : Shared} (h : wpAny M A t Q E s) (hQ : ∀ a s, Q a s → Q' a s) : wpAny M A t Q' E s := wpAny_mono h hQ fun _ _ x => x
end L2

namespace L2
open PySem PySem.Spec PyProof.Rows
section
variable {X : Cx}

theorem bin {a b : Expr} {ta tb : TE} (ha : PE X a ta) (hb : PE X b tb) {pins : List (Addr × Obj)} {s : Shared} {σ : St} {H : Hp} {R : V → V → Hp → Prop} (I : Inv X pins σ H s) (h : ta σ H fun x H1 => tb σ H1 fun y H2 => R x y H2)
    {α : Type} {Q : α → Shared → Prop} {f : Value → Value → Sem α}
    (hf : ∀ v u s2 x y H2, Inv X pins σ H2 s2 → RelV x v → RelV y u → R x y H2 → wpAny (model X.prog X.w) X.A (f v u) Q X.xe s2) :
    wpAny (model X.prog X.w) X.A (eval a X.env) (fun v s₁ => wpAny (model X.prog X.w) X.A (eval b X.env) (fun u s₂ => wpAny (model X.prog X.w) X.A (f v u) Q X.xe s₂) X.xe s₁) X.xe s := by
  refine thn (ha pins s σ H _ I h) fun v s1 ⟨x, H1, I1, r1, q1⟩ => ?_
  refine thn (hb pins s1 σ H1 _ I1 q1) fun u s2 ⟨y, H2, I2, r2, q2⟩ => ?_
  exact hf v u s2 x y H2 I2 r1 r2 q2

def tVar (i : Nat) : TE := fun σ H Q => ∃ v, σ[i]? = some (some v) ∧ Q v H
def tC (v : V) : TE := fun _ H Q => Q v H
theorem pe_var {i : Nat} {x : Str} {pos : Pos} (hN : X.N[i]? = some x) (hv : Vis X.env.scope x) (hd : (x == ("__debug__" : Str)) = false := by decide) (hcd : (x == ("__classdict__" : Str)) = false := by decide) : PE X (.Name x pos) (tVar i) := by
  intro pins s σ H Q I h
  obtain ⟨v, e, h⟩ := h
  obtain ⟨m, hn, hl⟩ := I.loc
  obtain ⟨u, r, l⟩ := hl i x v hN e hv
  have fin : EP X pins σ Q u s := ⟨v, H, I, r, h⟩
  rcases l with ⟨hk, hm⟩ | ⟨hk, c, hc, hcell⟩
  · exact wpAny_Name (wpAny_loadName_local I.ok.kind hk hn hm fin) hd
  · rcases hk with hk | hk
    · exact wpAny_Name (wpAny_loadName_cell I.ok.kind hk hc hcell fin) hd
    · exact wpAny_Name (wpAny_loadName_free I.ok.kind hk hc hcell fin hcd) hd
theorem pe_int {i j pos} : PE X (.Constant (.int i) j pos) (tC (.int i)) := fun _ _ _ H _ I h => wpAny_Constant_int ⟨.int i, H, I.tok _, ⟨_, rfl⟩, h⟩
theorem pe_bl {b j pos} : PE X (.Constant (.bool b) j pos) (tC (.bl b)) := fun _ _ _ H _ I h => Constant_bool ⟨.bl b, H, I, rfl, h⟩
theorem pe_non {j pos} : PE X (.Constant .none j pos) (tC .non) := fun _ _ _ H _ I h => Constant_none ⟨.non, H, I, rfl, h⟩
def Gl (X : Cx) (x : Str) : Prop := X.env.kindOf x = some .globalImplicit
theorem ld_glob {E : Value → Shared → Prop} {pins : List (Addr × Obj)} {s : Shared} {σ : St} {H : Hp} {x : Str} {u : Value} {pos : Pos} {Q : Value → Shared → Prop} (I : Inv X pins σ H s) (hg : Gl X x) (hm : X.mg x = some u) (h : Q u s)
    (hd : (x == ("__debug__" : Str)) = false := by decide) : wpAny (model X.prog X.w) X.A (eval (.Name x pos) X.env) Q E s :=
  Calls.Name_function_global I.ok.kind hg (Calls.loadGlobal_global (by rw [I.ok.glob]; exact I.mod.glob.keeps I.bk) hm h) hd
theorem ld_blt {E : Value → Shared → Prop} {pins : List (Addr × Obj)} {s : Shared} {σ : St} {H : Hp} {x : Str} {u : Value} {pos : Pos} {Q : Value → Shared → Prop} (I : Inv X pins σ H s) (hg : Gl X x) (hm : X.mg x = none) (hv : bootBuiltins x = some u) (h : Q u s)
    (hn : x ≠ "__name__" := by decide) (hd : (x == ("__debug__" : Str)) = false := by decide) : wpAny (model X.prog X.w) X.A (eval (.Name x pos) X.env) Q E s := by
  obtain ⟨mb, h1, h2⟩ := I.mod.blt
  exact Calls.Name_function_global I.ok.kind hg (Calls.loadGlobal_builtin (by rw [I.ok.glob]; exact I.mod.glob.keeps I.bk) hm (by rw [I.ok.blt]; exact h1.keeps I.bk) ((h2 x hn).trans hv) h) hd
theorem pe_glob {x : Str} {v : V} {u : Value} {pos : Pos} (hg : Gl X x) (hm : X.mg x = some u) (r : RelV v u) (hd : (x == ("__debug__" : Str)) = false := by decide) : PE X (.Name x pos) (tC v) :=
  fun _ _ _ H _ I h => ld_glob I hg hm ⟨v, H, I, r, h⟩ hd
variable {a b : Expr} {ta tb : TE} {pos : Pos}
def PC (X : Cx) (op : CmpOp) (a b : Expr) (t : TE) : Prop :=
  ∀ (pins : List (Addr × Obj)) (s : Shared) (σ : St) (H : Hp) (Q : VK), Inv X pins σ H s → t σ H Q →
    wpAny (model X.prog X.w) X.A (eval a X.env) (fun v s₁ => wpAny (model X.prog X.w) X.A (eval b X.env) (fun u s₂ => wpAny (model X.prog X.w) X.A (compareOp op v u) (EP X pins σ Q) X.xe s₂) X.xe s₁) X.xe s
theorem nobehind (b : Expr) {op : CmpOp} (h : op ≠ .In) (h2 : op ≠ .NotIn) : behindInMarks op b = false := by
  have e1 : (op == CmpOp.In) = false := by cases op <;> first | rfl | exact absurd rfl h
  have e2 : (op == CmpOp.NotIn) = false := by cases op <;> first | rfl | exact absurd rfl h2
  cases b <;> simp [behindInMarks, e1, e2]
def tIsN (ta : TE) : TE := fun σ H Q => ta σ H fun x H1 => Q (.bl (decide (x = .non))) H1
def tNotN (ta : TE) : TE := fun σ H Q => ta σ H fun x H1 => Q (.bl (!decide (x = .non))) H1
theorem RelV.none_iff {x : V} {v : Value} (r : RelV x v) : (v == Value.none) = decide (x = .non) := by
  cases x with
  | non => cases r; rfl
  | bl _ => cases r; rfl
  | int _ => obtain ⟨t, rfl⟩ := r; rfl
  | str _ => obtain ⟨t, rfl⟩ := r; rfl
  | byt _ => obtain ⟨t, rfl⟩ := r; rfl
  | flt _ => obtain ⟨t, rfl⟩ := r; rfl
  | ref _ => cases r; rfl
  | ty _ => cases r; rfl
theorem pc_isN {j pos'} (ha : PE X a ta) : PC X .Is a (.Constant .none j pos') (tIsN ta) := by
  intro pins s σ H Q I h
  refine thn (ha pins s σ H _ I h) fun v s1 ⟨x, H1, I1, r1, q1⟩ => ?_
  exact Constant_none (is_none_gen ⟨.bl _, H1, I1, by rw [r1.none_iff]; rfl, q1⟩)
theorem pc_notN {j pos'} (ha : PE X a ta) : PC X .IsNot a (.Constant .none j pos') (tNotN ta) := by
  intro pins s σ H Q I h
  refine thn (ha pins s σ H _ I h) fun v s1 ⟨x, H1, I1, r1, q1⟩ => ?_
  exact Constant_none (isnot_none_gen ⟨.bl _, H1, I1, by rw [r1.none_iff]; rfl, q1⟩)
def tB (t : TE) : TT := fun σ H Q => t σ H fun x H1 => ∃ c, x = .bl c ∧ Q c H1
theorem pe_cmp {op : CmpOp} {t : TE} (h : PC X op a b t) (h1 : behindInMarks op b = false := by first | exact nobehind _ (by decide) (by decide) | rfl) : PE X (.Compare a [op] [b] pos) t := fun pins s σ H Q I hw => wpAny_Compare1 (h pins s σ H Q I hw) h1
theorem pt_cmp {op : CmpOp} {t : TE} (h : PC X op a b t) (h1 : behindInMarks op b = false := by first | exact nobehind _ (by decide) (by decide) | rfl) : PT X (.Compare a [op] [b] pos) (tB t) := by
  intro pins s σ H Q I hw
  refine wpAny_isTrue_Compare1 (thn (h pins s σ H _ I hw) fun v s1 h1 => thn h1 fun u s2 h2 => thn h2 fun c s3 ⟨x, H1, I1, r1, q1⟩ => ?_) h1
  obtain ⟨d, rfl, q⟩ := q1
  cases r1
  exact wpAny_truthy_bool ⟨H1, I1, q⟩
theorem pt_val {e : Expr} {t : TE} (h : PE X e t) (he : ∀ whole, isTrue e X.env whole = (do let v ← whole; standAt e.pos; holding [v] (truthy v)) := by intro _; rfl) : PT X e (tB t) := by
  intro pins s σ H Q I hw
  refine isTrue_plain (thn (h pins s σ H _ I hw) fun v s1 ⟨x, H1, I1, r1, q1⟩ => ?_) (he _)
  obtain ⟨d, rfl, q⟩ := q1
  cases r1
  exact wpAny_truthy_bool ⟨H1, I1, q⟩

variable {tA tB' : TT} {rest : List Expr}
def tOr (t u : TT) : TT := fun σ H Q => t σ H fun c H1 => if c = true then Q true H1 else u σ H1 Q
def tNot (t : TT) : TT := fun σ H Q => t σ H fun c H1 => Q (!c) H1
theorem pw_or1 (ha : PT X a tA) : PW X (.BoolOp .Or [a] pos) tA := by
  intro wh pins s σ H Q I h
  refine isTrue_or (thn (ha pins s σ H Q I h) fun c s1 e => ?_)
  cases c with
  | false => exact isTrue_or_nil e
  | true => exact e
theorem pw_or (ha : PT X a tA) (hb : PW X (.BoolOp .Or (b :: rest) pos) tB') : PW X (.BoolOp .Or (a :: b :: rest) pos) (tOr tA tB') := by
  intro wh pins s σ H Q I h
  refine isTrue_or (thn (ha pins s σ H _ I h) fun c s1 ⟨H1, I1, q1⟩ => ?_)
  cases c with
  | true => exact ⟨H1, I1, q1⟩
  | false => exact hb wh pins s1 σ H1 Q I1 q1
theorem pt_not (ha : PT X a tA) : PT X (.UnaryOp .Not a pos) (tNot tA) := by
  intro pins s σ H Q I h
  exact isTrue_not (ha pins s σ H (fun c H1 => Q (!c) H1) I h)
def tAndV (ta tb : TE) : TE := fun σ H Q => ta σ H fun x H1 => ∃ c, x = .bl c ∧ if c = true then tb σ H1 Q else Q (.bl false) H1
theorem pe_one {op} {t : TE} (h : PE X a t) : PE X (.BoolOp op [a] pos) t := fun pins s σ H Q I hw => BoolOp_one (h pins s σ H Q I hw)
theorem pe_and (ha : PE X a ta) (hb : PE X (.BoolOp .And (b :: rest) pos) tb) : PE X (.BoolOp .And (a :: b :: rest) pos) (tAndV ta tb) := by
  intro pins s σ H Q I h
  refine BoolOp_and (thn (ha pins s σ H _ I h) fun v s1 ⟨x, H1, I1, r1, q1⟩ => ?_)
  obtain ⟨c, rfl, q1⟩ := q1
  cases r1
  refine wpAny_truthy_bool ?_
  cases c with
  | true => exact hb pins s1 σ H1 Q I1 q1
  | false => exact ⟨.bl false, H1, I1, rfl, q1⟩
def tIf (t : TT) (ta tb : TE) : TE := fun σ H Q => t σ H fun c H1 => if c = true then ta σ H1 Q else tb σ H1 Q
theorem pe_ifExp {c : Expr} (hc : PT X c tA) (ha : PE X a ta) (hb : PE X b tb) : PE X (.IfExp c a b pos) (tIf tA ta tb) := by
  intro pins s σ H Q I h
  refine wpAny_IfExp (thn (hc pins s σ H _ I h) fun d s1 ⟨H1, I1, q1⟩ => ?_)
  cases d with
  | true => exact ha pins s1 σ H1 Q I1 q1
  | false => exact hb pins s1 σ H1 Q I1 q1
end
end L2

namespace L2
open PySem PySem.Spec PyProof.Rows

def SqL (K : PySem.W.Frag) (H : Hp) (a : Addr) (xs : List V) : Prop :=
  Rd H a (.lst xs) ∨
    ∃ (o : Obj) (its : Array Value) (n : Nat), K.lookup a = some o ∧ o.cls = .type "list" ∧ o.dict = none ∧ o.data = .seq its n ∧ its.size ≤ sizeLine ∧ Vals xs its.toList
def SqT (K : PySem.W.Frag) (H : Hp) (a : Addr) (xs : List V) : Prop :=
  Rd H a (.tup xs) ∨
    ∃ (o : Obj) (its : Array Value) (n : Nat), K.lookup a = some o ∧ o.cls = .type "tuple" ∧ o.data = .seq its n ∧ its.size ≤ sizeLine ∧ Vals xs its.toList
def absV : Value → Option V
  | .none => some .non
  | .bool b => some (.bl b)
  | .int i _ => some (.int i)
  | .str x _ => some (.str x)
  | .bytes b _ => some (.byt b)
  | .float b _ => some (.flt b)
  | .ref a => some (.ref a)
  | .type n => some (.ty n)
  | _ => none
theorem RelV.abs {x : V} {u : Value} (r : RelV x u) : absV u = some x := by
  cases x with
  | non => cases r; rfl
  | bl _ => cases r; rfl
  | int _ => obtain ⟨t, rfl⟩ := r; rfl
  | str _ => obtain ⟨t, rfl⟩ := r; rfl
  | byt _ => obtain ⟨t, rfl⟩ := r; rfl
  | flt _ => obtain ⟨t, rfl⟩ := r; rfl
  | ref _ => cases r; rfl
  | ty _ => cases r; rfl
theorem RelV.inj {x y : V} {u : Value} (r : RelV x u) (q : RelV y u) : x = y := Option.some.inj (r.abs.symm.trans q.abs)
theorem Vals.inj : ∀ {xs ys : List V} {us : List Value}, Vals xs us → Vals ys us → xs = ys
  | _, _, _, .nil, .nil => rfl
  | _, _, _, .cons r t, .cons r' t' => by rw [r.inj r', Vals.inj t t']
section
variable {X : Cx} {pins : List (Addr × Obj)} {σ : St} {H : Hp} {s : Shared} {a : Addr} {xs ys : List V}
theorem SqL.of {K : PySem.W.Frag} (h : H a = some (.lst xs)) : SqL K H a xs := .inl (.inl h)
theorem SqT.of {K : PySem.W.Frag} (h : H a = some (.tup xs)) : SqT K H a xs := .inl (.inl h)
theorem Inv.list (I : Inv X pins σ H s) (h : SqL X.K H a xs) : ∃ its : List Value, Vals xs its ∧ PlainL s.heap a its.toArray ∧ xs.length ≤ sizeLine := by
  rcases h with h | ⟨o, its, n, hk, hc, hd, hs, hz, r⟩
  · obtain ⟨z, its, n, r, e⟩ := h.ok I.hok
    exact ⟨its, r, ⟨_, n, e, rfl, rfl, rfl⟩, z⟩
  · refine ⟨its.toList, r, ⟨o, n, I.kIn a o hk, hc, hd, by simpa using hs⟩, ?_⟩
    have e := r.length
    simp only [Array.length_toList] at e
    omega
theorem Inv.tuple (I : Inv X pins σ H s) (h : SqT X.K H a xs) : ∃ its : List Value, Vals xs its ∧ IsTup s.heap a its.toArray ∧ xs.length ≤ sizeLine := by
  rcases h with h | ⟨o, its, n, hk, hc, hs, hz, r⟩
  · obtain ⟨z, its, r, p⟩ := h.ok I.hok
    exact ⟨its, r, p, z⟩
  · refine ⟨its.toList, r, ⟨o, I.kIn a o hk, hc, n, by simpa using hs⟩, ?_⟩
    have e := r.length
    simp only [Array.length_toList] at e
    omega
theorem Inv.list_inj (I : Inv X pins σ H s) (h : SqL X.K H a xs) (h' : SqL X.K H a ys) : xs = ys := by
  obtain ⟨its, r, ⟨o, n, e, _, _, d⟩, _⟩ := I.list h
  obtain ⟨its', r', ⟨o', n', e', _, _, d'⟩, _⟩ := I.list h'
  rw [e] at e'; cases e'
  rw [d] at d'
  injection d' with d1 _
  have : its = its' := by simpa using congrArg Array.toList d1
  subst this
  exact r.inj r'
end

abbrev Cx.wish (X : Cx) (E : Value → Shared → Prop) : Cx := { X with xe := E }
abbrev Cx.nox (X : Cx) : Cx := X.wish fun _ _ => False
theorem Cx.Ok.wish {X : Cx} (ok : X.Ok) (E : Value → Shared → Prop) : (X.wish E).Ok :=
  ⟨ok.mod, ok.kind, ok.glob, ok.blt, ok.above, ok.inj, ok.has, ok.cab, ok.hd, ok.frames, ok.stk, ok.exf, ok.bs, ok.bsz, ok.noex, ok.exfs, ok.funs, ok.frf⟩
theorem Cx.Ok.unwish {X : Cx} {E : Value → Shared → Prop} (ok : (X.wish E).Ok) : X.Ok :=
  ⟨ok.mod, ok.kind, ok.glob, ok.blt, ok.above, ok.inj, ok.has, ok.cab, ok.hd, ok.frames, ok.stk, ok.exf, ok.bs, ok.bsz, ok.noex, ok.exfs, ok.funs, ok.frf⟩
section
variable {X : Cx} {pins : List (Addr × Obj)} {σ : St} {H : Hp} {s : Shared} {E : Value → Shared → Prop}
theorem Inv.wish (I : Inv X pins σ H s) (E : Value → Shared → Prop) : Inv (X.wish E) pins σ H s := ⟨I.ok.wish E, I.os, I.bare, I.base, I.loc, I.cell, I.free, I.freeC, I.pin, I.hok, I.len⟩
theorem Inv.unwish (I : Inv (X.wish E) pins σ H s) : Inv X pins σ H s := ⟨I.ok.unwish, I.os, I.bare, I.base, I.loc, I.cell, I.free, I.freeC, I.pin, I.hok, I.len⟩
theorem SP.unwish {D : Ends} {f : Flow} {s' : Shared} (h : SP (X.wish E) pins D f s') : SP X pins D f s' := by
  cases f with
  | next => obtain ⟨σ', H', I, q⟩ := h; exact ⟨σ', H', I.unwish, q⟩
  | brk => obtain ⟨σ', H', I, q⟩ := h; exact ⟨σ', H', I.unwish, q⟩
  | cont => obtain ⟨σ', H', I, q⟩ := h; exact ⟨σ', H', I.unwish, q⟩
  | ret u => obtain ⟨v, σ', H', I, r, q⟩ := h; exact ⟨v, σ', H', I.unwish, r, q⟩
theorem PSs.nox {st : List Stmt} {t : TS} (h : PSs X.nox st t) : PSs X st t := fun pins s σ H D I hw =>
  wpAny_mono (h pins s σ H D (I.wish _) hw) (fun _ _ q => q.unwish) fun _ _ z => False.elim z
end

section
variable {X : Cx} {st : Stmt} {rest : List Stmt} {t u : TS} {e : Expr} {te : TE} {pos : Pos}
def tNext : TS := fun D σ H => D.nx σ H
def tSeq (t u : TS) : TS := fun D σ H => t { D with nx := u D } σ H
theorem pss_nil : PSs X [] tNext := fun _ _ σ H _ I h => wpAny_execs_nil ⟨σ, H, I, h⟩
theorem pss_cons (h1 : PS X st t) (h2 : PSs X rest u) : PSs X (st :: rest) (tSeq t u) := by
  intro pins s σ H D I h
  refine wpAny_execs_cons (thn (h1 pins s σ H { D with nx := u D } I h) fun f s1 q => ?_)
  cases f with
  | next =>
    obtain ⟨σ', H', I', q⟩ := q
    exact h2 pins s1 σ' H' D I' q
  | ret v => exact q
  | brk => exact q
  | cont => exact q
theorem pss_one (h1 : PS X st t) : PSs X [st] t := by
  intro pins s σ H D I h
  refine wpAny_execs_cons (thn (h1 pins s σ H D I h) fun f s1 q => ?_)
  cases f with
  | next => exact wpAny_execs_nil q
  | ret v => exact q
  | brk => exact q
  | cont => exact q
theorem Inv.quiet {pins : List (Addr × Obj)} {σ : St} {H : Hp} {s : Shared} (I : Inv X pins σ H s) : interactive X.env = false := by simp [interactive, I.ok.kind]
def tDrop (te : TE) : TS := fun D σ H => te σ H fun _ H1 => D.nx σ H1
theorem ps_expr (he : PE X e te) (hs : swapsWith e none pos.line X.env = pure false := by rfl) : PS X (.Expr e pos) (tDrop te) := by
  intro pins s σ H D I h
  exact wpAny_Expr_any (thn (he pins s σ H _ I h) fun v s1 ⟨x, H1, I1, r1, q1⟩ => ⟨σ, H1, I1, q1⟩) I.quiet hs
def tRet (te : TE) : TS := fun D σ H => te σ H D.rt
theorem ps_ret (he : PE X e te) : PS X (.Return (some e) pos) (tRet te) := by
  intro pins s σ H D I h
  exact wpAny_Return_some (thn (he pins s σ H _ I h) fun v s1 ⟨x, H1, I1, r1, q1⟩ => ⟨x, σ, H1, I1, r1, q1⟩)
def tIfS (c : TT) (t u : TS) : TS := fun D σ H => c σ H fun b H1 => if b = true then t D σ H1 else u D σ H1
theorem ps_if {c : Expr} {a b : List Stmt} {tc : TT} (hc : PT X c tc) (ha : PSs X a t) (hb : PSs X b u) : PS X (.If c a b pos) (tIfS tc t u) := by
  intro pins s σ H D I h
  refine wpAny_If (thn (hc pins s σ H _ I h) fun d s1 ⟨H1, I1, q1⟩ => ?_)
  cases d with
  | true => exact ha pins s1 σ H1 D I1 q1
  | false => exact hb pins s1 σ H1 D I1 q1
end

abbrev TG := V → St → Hp → (St → Hp → Prop) → Prop
abbrev TGs := List V → St → Hp → (St → Hp → Prop) → Prop
def PG (X : Cx) (target : Expr) (t : TG) : Prop :=
  ∀ (pins : List (Addr × Obj)) (s : Shared) (σ : St) (H : Hp) (v : V) (u : Value) (Q : St → Hp → Prop), Inv X pins σ H s → RelV v u → t v σ H Q →
    wpAny (model X.prog X.w) X.A (assign target X.env u) (fun _ s' => ∃ σ' H', Inv X pins σ' H' s' ∧ Q σ' H') X.xe s
def PGs (X : Cx) (ts : List Expr) (t : TGs) : Prop :=
  ∀ (pins : List (Addr × Obj)) (s : Shared) (σ : St) (H : Hp) (vs : List V) (us : List Value) (Q : St → Hp → Prop), Inv X pins σ H s → Vals vs us → t vs σ H Q →
    wpAny (model X.prog X.w) X.A (assignInOrder ((assignEach ts X.env).map (·.2)) us) (fun _ s' => ∃ σ' H', Inv X pins σ' H' s' ∧ Q σ' H') X.xe s
abbrev TIp := V → V → Hp → VK → Prop
def PIp (X : Cx) (op : Operator) (t : TIp) : Prop :=
  ∀ (pins : List (Addr × Obj)) (s : Shared) (σ : St) (H : Hp) (x y : V) (v u : Value) (Q : VK), Inv X pins σ H s → RelV x v → RelV y u → t x y H Q →
    wpAny (model X.prog X.w) X.A (inplaceOp op v u) (EP X pins σ Q) X.xe s
section
variable {X : Cx} {pos : Pos}
def gName (i : Nat) : TG := fun v σ H Q => Q (σ.set i (some v)) H
theorem pg_name {i : Nat} {x : Str} (hN : X.N.Nodup) (hi : X.N[i]? = some x) (hx : Loc X.env.scope x) (hf : X.fn x = true ∨ X.env.scope.names.lookup x = some .local := by first | exact .inl rfl | exact .inr rfl | assumption) : PG X (.Name x pos) (gName i) := by
  intro pins s σ H v u Q I r h
  exact wpAny_assign_Name (store_ok I hN hi hx r (fun s' I' => ⟨_, H, I', h⟩) hf)
def gNil : TGs := fun vs σ H Q => vs = [] ∧ Q σ H
def gCons (t : TG) (u : TGs) : TGs := fun vs σ H Q => ∃ v r, vs = v :: r ∧ t v σ H fun σ' H' => u r σ' H' Q
theorem pgs_nil : PGs X [] gNil := by
  intro pins s σ H vs us Q I r h
  obtain ⟨e, h⟩ := h
  subst e
  cases r
  exact assignInOrder_nil ⟨σ, H, I, h⟩
theorem pgs_cons {e : Expr} {es : List Expr} {t : TG} {u : TGs} (h1 : PG X e t) (h2 : PGs X es u)
    (hs : (assignEach (e :: es) X.env).map (·.2) = assign e X.env :: (assignEach es X.env).map (·.2) := by rfl) : PGs X (e :: es) (gCons t u) := by
  intro pins s σ H vs us Q I r h
  obtain ⟨v, vr, e1, h⟩ := h
  subst e1
  cases r with
  | cons r rr =>
    rw [hs]
    refine assignInOrder_cons (thn (h1 pins s σ H _ _ _ I r h) fun _ s1 ⟨σ1, H1, I1, q1⟩ => ?_)
    exact h2 pins s1 σ1 H1 _ _ Q I1 rr q1
def gTup (K : PySem.W.Frag) (n : Nat) (t : TGs) : TG := fun v σ H Q => ∃ a xs, v = .ref a ∧ SqT K H a xs ∧ xs.length = n ∧ t xs σ H Q
theorem pg_tup {es : List Expr} {k : Nat} {t : TGs} {n : Nat} (hc : X.calm = true) (h : PGs X es t)
    (hn : (assignEach es X.env).length = n := by rfl) (hst : (assignEach es X.env).findIdx? (·.1) = none := by rfl) : PG X (.Tuple es k pos) (gTup X.K n t) := by
  intro pins s σ H v u Q I r hw
  obtain ⟨a, xs, e1, hq, hl, hw⟩ := hw
  subst e1
  cases r
  obtain ⟨its, rv, ht, hz⟩ := I.tuple hq
  refine assign_Tuple_tuple (I.ok.hd hc) ht (by simp [hn, ← hl, rv.length]) hst fun h' hx => ?_
  have I1 : Inv X pins σ H { s with heap := h' } := I.kept (t' := s.toks) fun b o e => hx b o (Nat.ne_of_lt (Heap.lt_size e)) e
  exact h pins _ σ H xs _ Q I1 (by simpa using rv) hw
def tAsg (te : TE) (g : TG) : TS := fun D σ H => te σ H fun x H1 => g x σ H1 D.nx
theorem ps_set {i : Nat} {x : Str} {e : Expr} {te : TE} {pos' : Pos} (hN : X.N.Nodup) (hi : X.N[i]? = some x) (hx : Loc X.env.scope x) (he : PE X e te) (hs : swapsWith e (some (.Name x pos')) pos.line X.env = pure false := by rfl) (hf : X.fn x = true ∨ X.env.scope.names.lookup x = some .local := by first | exact .inl rfl | exact .inr rfl | assumption) :
    PS X (.Assign [.Name x pos'] e pos) (tAsg te (gName i)) := by
  intro pins s σ H D I h
  refine wpAny_Assign_Name (thn (he pins s σ H _ I h) fun v s1 ⟨y, H1, I1, r1, q1⟩ => ?_) hs
  exact store_ok I1 hN hi hx r1 (fun s2 I2 => ⟨_, H1, I2, q1⟩) hf
def tAug (i : Nat) (te : TE) (ti : TIp) : TS := fun D σ H => ∃ x, σ[i]? = some (some x) ∧ te σ H fun y H1 => ti x y H1 fun z H2 => D.nx (σ.set i (some z)) H2
theorem ps_aug {i : Nat} {x : Str} {e : Expr} {te : TE} {op : Operator} {ti : TIp} {pos' : Pos} (hN : X.N.Nodup) (hi : X.N[i]? = some x) (hx : Loc X.env.scope x) (he : PE X e te) (ho : PIp X op ti) (hf : X.fn x = true ∨ X.env.scope.names.lookup x = some .local := by first | exact .inl rfl | exact .inr rfl | assumption) :
    PS X (.AugAssign (.Name x pos') op e pos) (tAug i te ti) := by
  intro pins s σ H D I h
  obtain ⟨v, e1, h⟩ := h
  obtain ⟨m, hn, hl⟩ := I.loc
  have vis : Vis X.env.scope x := by rcases hx with k | k; exact .inl k; exact .inr (.inl k)
  obtain ⟨u, r, l⟩ := hl i x v hi e1 vis
  refine wpAny_AugAssign_Name ?_
  have go : wpAny (model X.prog X.w) X.A (eval e X.env) (fun w s₂ => wpAny (model X.prog X.w) X.A (inplaceOp op u w) (fun r s₃ => wpAny (model X.prog X.w) X.A (storeName X.env x r) (fun _ => SP X pins D .next) X.xe s₃) X.xe s₂) X.xe s := by
    refine thn (he pins s σ H _ I h) fun w s1 ⟨y, H1, I1, r1, q1⟩ => ?_
    refine thn (ho pins s1 σ H1 v y u w _ I1 r r1 q1) fun z s2 ⟨zv, H2, I2, r2, q2⟩ => ?_
    exact store_ok I2 hN hi hx r2 (fun s3 I3 => ⟨_, H2, I3, q2⟩) hf
  rcases l with ⟨hk, hm⟩ | ⟨hk, c, hc, hcell⟩
  · exact wpAny_loadName_local I.ok.kind hk hn hm go
  · rcases hk with hk | hk
    · exact wpAny_loadName_cell I.ok.kind hk hc hcell go
    · rcases hx with k | k
      · have : X.env.scope.names.lookup x = some .free := hk
        rw [k] at this; cases this
      · have : X.env.scope.names.lookup x = some .free := hk
        rw [k] at this; cases this
def ipI (f : Int → Int → Int) : TIp := fun x y H Q => ∃ i j, x = .int i ∧ y = .int j ∧ Q (.int (f i j)) H
theorem ip_add : PIp X .Add (ipI fun i j => i + j) := by
  intro pins s σ H x y v u Q I r1 r2 h
  obtain ⟨i, j, e1, e2, q⟩ := h
  subst e1; subst e2
  obtain ⟨t, rfl⟩ := r1
  obtain ⟨t', rfl⟩ := r2
  exact iadd_int ⟨.int _, H, I.tok _, ⟨_, rfl⟩, q⟩
end

section
variable {X : Cx} {pos : Pos}
def tWhile (c : TT) (tb : TS) : TS := fun D σ H => ∃ W : Nat → St → Hp → Prop, (∃ m, W m σ H) ∧ ∀ m σ H, W m σ H →
  c σ H fun b H1 => if b = true then ∃ N : St → Hp → Prop, (∀ σ' H', N σ' H' → ∃ m', m' < m ∧ W m' σ' H') ∧ tb { D with nx := N, ct := N, bk := D.nx } σ H1 else D.nx σ H1
theorem ps_while {c : Expr} {body : List Stmt} {tc : TT} {tb : TS} (hp : PassesOwn (model X.prog X.w) X.A X.env X.xe) (hc : PT X c tc) (hb : PSs X body tb) : PS X (.While c body [] pos) (tWhile tc tb) := by
  intro pins s σ H D I h
  obtain ⟨W, ⟨m0, w0⟩, turn⟩ := h
  refine wpAny_While (codeAny_whileLoop (fun n s' => ∃ σ' H', Inv X pins σ' H' s' ∧ W n σ' H') ?_ m0 ⟨σ, H, I, w0⟩)
  rintro n s1 ⟨σ1, H1, I1, w1⟩
  refine wpAny_passesOwn hp (thn (hc pins s1 σ1 H1 _ I1 (turn n σ1 H1 w1)) fun b s2 ⟨H2, I2, q2⟩ => ?_)
  cases b with
  | true =>
    obtain ⟨N, hN, q2⟩ := q2
    rw [if_pos rfl]
    refine wpAny_passesOwn hp (thn (hb pins s2 σ1 H2 _ I2 q2) fun f s3 q3 => ?_)
    cases f with
    | next =>
      obtain ⟨σ3, H3, I3, n3⟩ := q3
      obtain ⟨m', hm, w3⟩ := hN σ3 H3 n3
      exact ⟨m', hm, σ3, H3, I3, w3⟩
    | cont =>
      obtain ⟨σ3, H3, I3, n3⟩ := q3
      obtain ⟨m', hm, w3⟩ := hN σ3 H3 n3
      exact ⟨m', hm, σ3, H3, I3, w3⟩
    | brk => exact q3
    | ret v => exact q3
  | false =>
    rw [if_neg Bool.false_ne_true]
    exact wpAny_execs_nil ⟨σ1, H2, I2, q2⟩
end

structure It where
  go : Nat → Hp → Prop
  yld : Nat → Hp → V → Hp → Prop
  stop : Nat → Hp → Prop
def FpOk (X : Cx) (pins : List (Addr × Obj)) (H : Hp) (b : Addr) : Prop :=
  H b = none ∧ b ≠ X.env.locals ∧ b ∉ X.fs ∧ (b ∈ X.ex ∨ X.s_0.heap.objs.size ≤ b) ∧ (∀ x c, X.env.cells.lookup x = some c → c ≠ b) ∧ ∀ p ∈ X.pn ++ pins, p.1 ≠ b
theorem Inv.fpOk {X : Cx} {pins : List (Addr × Obj)} {σ : St} {H H' : Hp} {s : Shared} {b : Addr} (I : Inv X pins σ H s) (hb : s.heap.objs.size ≤ b) (hn : H' b = none) : FpOk X pins H' b := by
  refine ⟨hn, Nat.ne_of_gt (Nat.lt_of_lt_of_le I.lt hb), I.nofs hb, .inr (Nat.le_trans I.sz hb), fun x c e z => ?_, fun p hp z => ?_⟩
  · obtain ⟨v, q⟩ := I.cell x c e
    exact absurd (Nat.lt_of_lt_of_le q.lt (by rw [z]; exact hb)) (Nat.lt_irrefl _)
  · exact absurd (Nat.lt_of_lt_of_le (Heap.lt_size (I.pin p hp).1) (by rw [z]; exact hb)) (Nat.lt_irrefl _)
structure Turn (P : Program) (w : World) (K : PySem.W.Frag) (tg : Expr) (J : It) (fp : List Addr) (it : Addr) (tn : Nat → Heap → Prop) : Prop where
  mem : it ∈ fp
  obj : ∀ i h, tn i h → ∀ b ∈ fp, ∃ o, h.get? b = some o ∧ ∀ v, o.data ≠ .cell v
  keep : ∀ i h h', tn i h → (∀ b ∈ fp, ∀ o, h.get? b = some o → h'.get? b = some o) → tn i h'
  item : ∀ (X : Cx), X.prog = P → X.w = w → X.K = K → X.calm = true → ∀ (i : Nat) (pins : List (Addr × Obj)) (s : Shared) (σ : St) (H : Hp) (E : Value → Shared → Prop), Inv X pins σ H s → (∀ b ∈ fp, FpOk X pins H b) → tn i s.heap → J.go i H →
    wpAny (model P w) X.A (pyNext (.ref it)) (fun r s1 => ∃ u, r = some u ∧
      wpAny (model P w) X.A (letOwnedTupleGo tg (.ref it) u) (fun _ s2 => ∃ x H', Inv X pins σ H' s2 ∧ RelV x u ∧ J.yld i H x H' ∧ tn (i + 1) s2.heap ∧ ∀ b ∈ fp, H' b = none) E s1) E s
  done : ∀ (X : Cx), X.prog = P → X.w = w → X.K = K → X.calm = true → ∀ (i : Nat) (pins : List (Addr × Obj)) (s : Shared) (σ : St) (H : Hp) (E : Value → Shared → Prop), Inv X pins σ H s → (∀ b ∈ fp, FpOk X pins H b) → tn i s.heap → J.stop i H →
    wpAny (model P w) X.A (pyNext (.ref it)) (fun r s1 => r = none ∧ Inv X pins σ H s1) E s
  self : ∀ (A : Around) (i : Nat) (s : Shared) (Q : Value → Shared → Prop) (E : Value → Shared → Prop), tn i s.heap → Q (.ref it) s → wpAny (model P w) A (pyIter (.ref it)) Q E s
abbrev TI := St → Hp → (It → Hp → Prop) → Prop
def PIE (X : Cx) (pins : List (Addr × Obj)) (σ : St) (tg : Expr) (R : It → Hp → Prop) (itv : Value) (s2 : Shared) : Prop :=
  ∃ (it : Addr) (fp : List Addr) (tn : Nat → Heap → Prop) (J : It) (H' : Hp), itv = .ref it ∧ Inv X pins σ H' s2 ∧ Turn X.prog X.w X.K tg J fp it tn ∧ tn 0 s2.heap ∧ (∀ b ∈ fp, FpOk X pins H' b) ∧ R J H'
def PI (X : Cx) (tg iter : Expr) (wi : TI) : Prop :=
  ∀ (pins : List (Addr × Obj)) (s : Shared) (σ : St) (H : Hp) (R : It → Hp → Prop), Inv X pins σ H s → wi σ H R →
    wpAny (model X.prog X.w) X.A (eval iter X.env) (fun v s1 => wpAny (model X.prog X.w) X.A (pyIter v) (PIE X pins σ tg R) X.xe s1) X.xe s

theorem go_of {M : Model} {A : Around} {E : Value → Shared → Prop} {s : Shared} {tg : Expr} {it : Addr} {u : Value} {o : Obj} {n : String} {vs : Array Value} {Q : Unit → Shared → Prop} (ho : s.heap.get? it = some o) (hc : o.cls = .type n) (hd : o.data = .fields vs)
    (hn : ["enumerate", "zip", "dict_itemiterator", "dict_reverseitemiterator", "odict_iterator", "itertools.zip_longest", "itertools.pairwise"].contains n = false) (hQ : Q () s) : wpAny M A (letOwnedTupleGo tg (.ref it) u) Q E s := by
  unfold letOwnedTupleGo
  cases tg <;> first
    | exact wpAny_pure hQ
    | (cases u <;> first
        | exact wpAny_pure hQ
        | (refine wpAny_bind (wpAny_load ho ?_)
           rw [hc, hd]
           show wpAny M A (if (["enumerate", "zip", "dict_itemiterator", "dict_reverseitemiterator", "odict_iterator", "itertools.zip_longest", "itertools.pairwise"].contains n && vs[0]? == some (rawInt _)) = true then _ else _) Q E s
           rw [if_neg (by intro h; rw [hn, Bool.false_and] at h; cases h)]
           exact wpAny_pure hQ))

def Itl (K : PySem.W.Frag) (a : Addr) : It :=
  ⟨fun i H => ∃ xs x, SqL K H a xs ∧ xs[i]? = some x, fun i H x H' => H' = H ∧ ∀ xs, SqL K H a xs → xs[i]? = some x, fun i H => ∃ xs, SqL K H a xs ∧ xs.length ≤ i⟩
def Itr (lo : Int) (n : Nat) : It := ⟨fun i _ => i < n, fun i H x H' => H' = H ∧ x = .int (lo + i), fun i _ => n ≤ i⟩
theorem turn_list {P : Program} {w : World} {K : PySem.W.Frag} {tg : Expr} (a it : Addr) : Turn P w K tg (Itl K a) [it] it (fun i h => h.IsListIter it a i) where
  mem := by simp
  obj := fun i h st b hb => by
    have e : b = it := by simpa using hb
    subst e
    obtain ⟨o, e, c, d⟩ := st
    exact ⟨o, e, fun v z => by rw [d] at z; cases z⟩
  keep := fun i h h' st k => st.at fun o e => k it (by simp) o e
  item := by
    intro X hP hw hK hc i pins s σ H E I hf st hg
    subst hP hw hK
    obtain ⟨xs, x, hq, hx⟩ := hg
    obtain ⟨its, rv, p, hz⟩ := I.list hq
    obtain ⟨u, hu, ru⟩ := rv.get hx
    obtain ⟨f0, f1, f2, f3, f4, f5⟩ := hf it (by simp)
    refine wpAny_pyNext_list_item st p.isList (x := u) (by simpa using hu) fun h' st' sb => ?_
    have I1 : Inv X pins σ H { s with heap := h' } := I.turned (t' := s.toks) (fun b o hb e => (sb.2 b hb).trans e) f0 f1 f3 f4 f5
    obtain ⟨o, e, c, d⟩ := id st'
    exact ⟨u, rfl, go_of (s := { s with heap := h' }) e c d (by decide) ⟨x, H, I1, ru, ⟨rfl, fun ys hy => by rw [I.list_inj hy hq]; exact hx⟩, st', fun b hb => (hf b hb).1⟩⟩
  done := by
    intro X hP hw hK hc i pins s σ H E I hf st hg
    subst hP hw hK
    obtain ⟨xs, hq, hx⟩ := hg
    obtain ⟨its, rv, p, hz⟩ := I.list hq
    obtain ⟨f0, f1, f2, f3, f4, f5⟩ := hf it (by simp)
    have hl := rv.length
    exact wpAny_pyNext_list_end (I.ok.hd hc) st p.isList (by simp; omega) fun h' eb => ⟨rfl, I.turned (t' := s.toks) (fun b o hb e => eb b o hb e) f0 f1 f3 f4 f5⟩
  self := fun _ _ _ _ _ st h => wpAny_pyIter_listiter st h
theorem turn_range {P : Program} {w : World} {K : PySem.W.Frag} {tg : Expr} (it : Addr) (lo : Int) (n : Nat) : Turn P w K tg (Itr lo n) [it] it (fun i h => IsRangeIter h it (lo + (i : Nat) * 1) ((n : Int) - (i : Nat)) 1) where
  mem := by simp
  obj := fun i h st b hb => by
    have e : b = it := by simpa using hb
    subst e
    exact ⟨_, st, fun v z => by
      have z' : Data.fields _ = Data.cell v := z
      cases z'⟩
  keep := fun i h h' st k => k it (by simp) _ st
  item := by
    intro X hP hw hK hc i pins s σ H E I hf st hg
    subst hP hw hK
    obtain ⟨f0, f1, f2, f3, f4, f5⟩ := hf it (by simp)
    have W := Walks.range (prog := X.prog) (w := X.w) (I.ok.hd hc) it lo 1 n
    refine W.item i s _ _ hg st fun v h' tk hv st' kk => ?_
    obtain ⟨t, rfl⟩ := hv
    have I1 : Inv X pins σ H { s with heap := h', toks := tk } := I.turned (fun b o hb e => kk b o (by simpa using hb) e) f0 f1 f3 f4 f5
    refine ⟨_, rfl, go_of (s := { s with heap := h', toks := tk }) (n := "range_iterator") st' rfl rfl (by decide) ⟨.int (lo + i), H, I1, ⟨t, ?_⟩, ⟨rfl, rfl⟩, st', fun b hb => (hf b hb).1⟩⟩
    rw [Int.mul_one]
  done := by
    intro X hP hw hK hc i pins s σ H E I hf st hg
    subst hP hw hK
    obtain ⟨f0, f1, f2, f3, f4, f5⟩ := hf it (by simp)
    exact wpAny_pyNext_range_end (I.ok.hd hc) st (by have : n ≤ i := hg; omega) fun h' eb => ⟨rfl, I.turned (t' := s.toks) (fun b o hb e => eb b o hb e) f0 f1 f3 f4 f5⟩
  self := fun _ _ _ _ _ st h => wpAny_pyIter_rangeiter st h
end L2

namespace L2
open PySem PySem.Spec PyProof.Rows
section
variable {X : Cx} {tg : Expr}
def iList (K : PySem.W.Frag) (tl : TE) : TI := fun σ H R => tl σ H fun x H1 => ∃ a, x = .ref a ∧ (∃ xs, SqL K H1 a xs) ∧ R (Itl K a) H1
theorem pi_list {l : Expr} {tl : TE} (hl : PE X l tl) : PI X tg l (iList X.K tl) := by
  intro pins s σ H R I h
  refine thn (hl pins s σ H _ I h) fun v s1 ⟨x, H1, I1, r1, q1⟩ => ?_
  obtain ⟨a, e, ⟨xs, hq⟩, q⟩ := q1
  subst e
  cases r1
  obtain ⟨its, rv, p, hz⟩ := I1.list hq
  refine wpAny_pyIter_list p.isList ?_
  refine ⟨s1.heap.objs.size, [s1.heap.objs.size], _, _, H1, rfl, I1.kept (t' := s1.toks) fun b o e => Heap.get?_push_of_some _ e, turn_list a _, ⟨_, Heap.get?_push_size _ rfl, rfl, rfl⟩, fun b hb => ?_, q⟩
  have e : b = s1.heap.objs.size := by simpa using hb
  subst e
  exact I1.fpOk (Nat.le_refl _) (I1.hok.fresh (Nat.le_refl _))
theorem range_it {pins : List (Addr × Obj)} {σ : St} {H : Hp} {s : Shared} {R : It → Hp → Prop} {E : Value → Shared → Prop} {lo hi : Int} {t u v : Tok} {tk : Nat} (I : Inv X pins σ H s) (h1 : -(2 ^ 62) ≤ lo) (h2 : lo < 2 ^ 62) (h3 : -(2 ^ 62) ≤ hi) (h4 : hi < 2 ^ 62)
    (q : R (Itr lo (hi - lo).toNat) H) : wpAny (model X.prog X.w) X.A (pyIter (.ref s.heap.objs.size)) (PIE X pins σ tg R) E { s with heap := s.heap.push { cls := .type "range", data := .fields #[.int lo t, .int hi u, .int 1 v] }, toks := tk } := by
  refine wpAny_pyIter_range (IsRange.new ..) (small_one h1 h2 h3 h4) ?_
  have I1 : Inv X pins σ H { s with heap := s.heap.push { cls := .type "range", data := .fields #[.int lo t, .int hi u, .int 1 v] }, toks := tk } := I.kept fun b o e => Heap.get?_push_of_some _ e
  refine ⟨(s.heap.push { cls := .type "range", data := .fields #[.int lo t, .int hi u, .int 1 v] }).objs.size, [(s.heap.push { cls := .type "range", data := .fields #[.int lo t, .int hi u, .int 1 v] }).objs.size], _, _, H, rfl,
    I1.kept (t' := tk) fun b o e => Heap.get?_push_of_some _ e, turn_range _ lo (hi - lo).toNat, ?_, fun b hb => ?_, q⟩
  · have e1 : lo + ((0 : Nat) : Int) * 1 = lo := by simp
    have e2 : (((hi - lo).toNat : Nat) : Int) - ((0 : Nat) : Int) = Builtin.Range.rangeSize lo hi 1 := by rw [rangeSize_one]; split <;> omega
    show IsRangeIter _ _ (lo + ((0 : Nat) : Int) * 1) ((((hi - lo).toNat : Nat) : Int) - ((0 : Nat) : Int)) 1
    rw [e1, e2]
    exact Heap.get?_push_size _ rfl
  · have e : b = (s.heap.push { cls := .type "range", data := .fields #[.int lo t, .int hi u, .int 1 v] }).objs.size := by simpa using hb
    subst e
    exact I1.fpOk (Nat.le_refl _) (I1.hok.fresh (Nat.le_refl _))
def iRng2 (ta : TA) : TI := fun σ H R => ta σ H fun vs H1 => ∃ i j : Int, vs = [.int i, .int j] ∧ (-(2 ^ 62) ≤ i ∧ i < 2 ^ 62 ∧ -(2 ^ 62) ≤ j ∧ j < 2 ^ 62) ∧ R (Itr i (j - i).toNat) H1
theorem pi_range2 {a b : Expr} {ta : TA} {p pos : Pos} (hg : Gl X "range") (hm : X.mg "range" = none) (ha : PA X [a, b] ta) (hs : starEach [a, b] X.env = [(false, eval a X.env), (false, eval b X.env)] := by rfl) (hs2 : starEach [b] X.env = [(false, eval b X.env)] := by rfl) :
    PI X tg (.Call (.Name "range" p) [a, b] [] pos) (iRng2 ta) := by
  intro pins s σ H R I h
  refine Call_ (ld_blt I hg hm boot_range (PyProof.Rows.callWith_type1 (thn (ha pos pins s σ H _ I h) fun us s1 ⟨vs, H1, I1, r1, q1⟩ => ?_) (by rw [hs, hs2]) (by rw [hs2]; rfl)))
  obtain ⟨i, j, e, ⟨q1, q2, q3, q4⟩, q⟩ := q1
  subst e
  cases r1 with
  | cons r rr =>
    cases rr with
    | cons r' rr =>
      cases rr
      obtain ⟨t, rfl⟩ := r
      obtain ⟨t', rfl⟩ := r'
      exact call_range_2 (range_it I1 q1 q2 q3 q4 q)

def tFor (wi : TI) (g : TG) (tb : TS) : TS := fun D σ H => wi σ H fun J H1 => ∃ W : Nat → Nat → St → Hp → Prop, (∃ m, W 0 m σ H1) ∧ ∀ i m σ H, W i m σ H →
  (J.stop i H ∧ D.nx σ H) ∨ (J.go i H ∧ ∃ N : St → Hp → Prop, (∀ σ' H', N σ' H' → ∃ m', m' < m ∧ W (i + 1) m' σ' H') ∧ ∀ x H', J.yld i H x H' → g x σ H' fun σ2 H2 => tb { D with nx := N, ct := N, bk := D.nx } σ2 H2)
def pinsAt (fp : List Addr) (h : Heap) : List (Addr × Obj) := fp.filterMap fun b => (h.get? b).map fun o => (b, o)
theorem mem_pinsAt {fp : List Addr} {h : Heap} {b : Addr} {o : Obj} (hb : b ∈ fp) (e : h.get? b = some o) : (b, o) ∈ pinsAt fp h := List.mem_filterMap.mpr ⟨b, hb, by rw [e]; rfl⟩
theorem of_pinsAt {fp : List Addr} {h : Heap} {p : Addr × Obj} (hp : p ∈ pinsAt fp h) : p.1 ∈ fp ∧ h.get? p.1 = some p.2 := by
  obtain ⟨b, hb, e⟩ := List.mem_filterMap.mp hp
  cases q : h.get? b with
  | none => rw [q] at e; cases e
  | some o =>
    rw [q] at e
    have e' : (b, o) = p := Option.some.inj e
    subst e'
    exact ⟨hb, q⟩
theorem Inv.pinned {pins : List (Addr × Obj)} {σ : St} {H : Hp} {s : Shared} {fp : List Addr} (I : Inv X pins σ H s) (hf : ∀ b ∈ fp, FpOk X pins H b) (ho : ∀ b ∈ fp, ∃ o, s.heap.get? b = some o ∧ ∀ v, o.data ≠ .cell v) : Inv X (pins ++ pinsAt fp s.heap) σ H s :=
  I.pins_of fun p hp => (List.mem_append.mp hp).elim (fun z => I.pin p (List.mem_append_right _ z)) fun z => by
    obtain ⟨hb, e⟩ := of_pinsAt z
    obtain ⟨f0, f1, f2, _⟩ := hf p.1 hb
    obtain ⟨o, e', d⟩ := ho p.1 hb
    rw [e] at e'; cases e'
    exact ⟨e, f0, f1, f2, d⟩
theorem Inv.unpinned {pins pl : List (Addr × Obj)} {σ : St} {H : Hp} {s : Shared} (I : Inv X (pins ++ pl) σ H s) : Inv X pins σ H s := I.pins_of fun p hp => I.pin p (List.mem_append_right _ (List.mem_append_left _ hp))
theorem ps_for {iter : Expr} {body : List Stmt} {wi : TI} {g : TG} {tb : TS} {pos : Pos} (hp : PassesOwn (model X.prog X.w) X.A X.env X.xe) (hc : X.calm = true) (hi : PI X tg iter wi) (hg : PG X tg g) (hb : PSs X body tb)
    (hs : ∀ x, foldedSetIterable iter X.env x = pure x := by intro _; rfl) : PS X (.For tg iter body [] pos) (tFor wi g tb) := by
  intro pins s σ H D I h
  refine wpAny_For (thn (hi pins s σ H _ I h) fun v s1 h1 => thn h1 fun itv s2 h2 => ?_) hs
  obtain ⟨it, fp, tn, J, H2, e, I2, T, st2, f2, W, ⟨m0, w0⟩, turn⟩ := h2
  subst e
  -- what stays true of the iterator's objects through the loop
  have stat : ∀ {H' : Hp}, (∀ b ∈ fp, H' b = none) → ∀ b ∈ fp, FpOk X pins H' b := fun hn b hb => ⟨hn b hb, (f2 b hb).2⟩
  refine codeAny_forLoop_any (fun n s' => ∃ i σ' H', Inv X pins σ' H' s' ∧ tn i s'.heap ∧ (∀ b ∈ fp, H' b = none) ∧ W i n σ' H') ?_ m0 ⟨0, σ, H2, I2, st2, fun b hb => (f2 b hb).1, w0⟩
  rintro n s3 ⟨i, σ3, H3, I3, st3, fr3, w3⟩
  rcases turn i n σ3 H3 w3 with ⟨stop, qn⟩ | ⟨go, N, hN, step⟩
  · refine wpAny_passesOwn hp (thn (T.done X rfl rfl rfl hc i pins s3 σ3 H3 X.xe I3 (stat fr3) st3 stop) fun r s4 ⟨hr, I4⟩ => ?_)
    subst hr
    exact wpAny_execs_nil ⟨σ3, H3, I4, qn⟩
  · refine wpAny_passesOwn hp (thn (T.item X rfl rfl rfl hc i pins s3 σ3 H3 X.xe I3 (stat fr3) st3 go) fun r s4 ⟨u, hr, h4⟩ => ?_)
    subst hr
    refine wpAny_passesOwn hp (thn h4 fun _ s5 ⟨x, H5, I5, r5, y5, st5, fr5⟩ => ?_)
    have I5' := I5.pinned (stat fr5) (T.obj _ _ st5)
    refine wpAny_passesOwn hp (thn (hg _ s5 σ3 H5 x u _ I5' r5 (step x H5 y5)) fun _ s6 ⟨σ6, H6, I6, q6⟩ => ?_)
    refine wpAny_passesOwn hp (thn (hb _ s6 σ6 H6 _ I6 q6) fun f s7 q7 => ?_)
    have again : ∀ {σ7 : St} {H7 : Hp}, Inv X (pins ++ pinsAt fp s5.heap) σ7 H7 s7 → N σ7 H7 → ∃ m, m < n ∧ ∃ i σ' H', Inv X pins σ' H' s7 ∧ tn i s7.heap ∧ (∀ b ∈ fp, H' b = none) ∧ W i m σ' H' := fun {σ7 H7} I7 n7 => by
      obtain ⟨m', hm, w7⟩ := hN σ7 H7 n7
      refine ⟨m', hm, i + 1, σ7, H7, I7.unpinned, T.keep _ _ _ st5 fun b hb o e => (I7.pin (b, o) (List.mem_append_right _ (List.mem_append_right _ (mem_pinsAt hb e)))).1, fun b hb => ?_, w7⟩
      obtain ⟨o, e, d⟩ := T.obj _ _ st5 b hb
      exact (I7.pin (b, o) (List.mem_append_right _ (List.mem_append_right _ (mem_pinsAt hb e)))).2.1
    cases f with
    | next => obtain ⟨σ7, H7, I7, n7⟩ := q7; exact again I7 n7
    | cont => obtain ⟨σ7, H7, I7, n7⟩ := q7; exact again I7 n7
    | brk => obtain ⟨σ7, H7, I7, q7⟩ := q7; exact ⟨σ7, H7, I7.unpinned, q7⟩
    | ret v => obtain ⟨x7, σ7, H7, I7, r7, q7⟩ := q7; exact ⟨x7, σ7, H7, I7.unpinned, r7, q7⟩
end

theorem for_list {K : PySem.W.Frag} {a : Addr} {xs : List V} {g : TG} {tb : TS} {D : Ends} {σ : St} {H : Hp} (Pv : Nat → St → Hp → Prop) (h0 : Pv 0 σ H) (hl : ∀ i σ H, i ≤ xs.length → Pv i σ H → SqL K H a xs)
    (hs : ∀ i x σ H, xs[i]? = some x → Pv i σ H → g x σ H fun σ2 H2 => tb { D with nx := Pv (i + 1), ct := Pv (i + 1), bk := D.nx } σ2 H2) (hd : ∀ σ H, Pv xs.length σ H → D.nx σ H) :
    ∃ W : Nat → Nat → St → Hp → Prop, (∃ m, W 0 m σ H) ∧ ∀ i m σ H, W i m σ H →
      ((Itl K a).stop i H ∧ D.nx σ H) ∨ ((Itl K a).go i H ∧ ∃ N : St → Hp → Prop, (∀ σ' H', N σ' H' → ∃ m', m' < m ∧ W (i + 1) m' σ' H') ∧ ∀ x H', (Itl K a).yld i H x H' → g x σ H' fun σ2 H2 => tb { D with nx := N, ct := N, bk := D.nx } σ2 H2) := by
  refine ⟨fun i m σ H => m = xs.length - i ∧ i ≤ xs.length ∧ Pv i σ H, ⟨xs.length, by simp, Nat.zero_le _, h0⟩, ?_⟩
  rintro i m σ H ⟨rfl, hi, p⟩
  have q := hl i σ H hi p
  by_cases hlt : i < xs.length
  · refine .inr ⟨⟨xs, xs[i], q, by simp [hlt]⟩, Pv (i + 1), fun σ' H' p' => ⟨xs.length - (i + 1), by omega, rfl, hlt, p'⟩, fun x H' y => ?_⟩
    obtain ⟨e, y⟩ := y
    subst e
    exact hs i x σ _ (y xs q) p
  · have e : i = xs.length := by omega
    subst e
    exact .inl ⟨⟨xs, q, Nat.le_refl _⟩, hd σ H p⟩
theorem for_range {lo : Int} {n : Nat} {g : TG} {tb : TS} {D : Ends} {σ : St} {H : Hp} (Pv : Nat → St → Hp → Prop) (h0 : Pv 0 σ H)
    (hs : ∀ i σ H, i < n → Pv i σ H → g (.int (lo + i)) σ H fun σ2 H2 => tb { D with nx := Pv (i + 1), ct := Pv (i + 1), bk := D.nx } σ2 H2) (hd : ∀ σ H, Pv n σ H → D.nx σ H) :
    ∃ W : Nat → Nat → St → Hp → Prop, (∃ m, W 0 m σ H) ∧ ∀ i m σ H, W i m σ H →
      ((Itr lo n).stop i H ∧ D.nx σ H) ∨ ((Itr lo n).go i H ∧ ∃ N : St → Hp → Prop, (∀ σ' H', N σ' H' → ∃ m', m' < m ∧ W (i + 1) m' σ' H') ∧ ∀ x H', (Itr lo n).yld i H x H' → g x σ H' fun σ2 H2 => tb { D with nx := N, ct := N, bk := D.nx } σ2 H2) := by
  refine ⟨fun i m σ H => m = n - i ∧ i ≤ n ∧ Pv i σ H, ⟨n, by simp, Nat.zero_le _, h0⟩, ?_⟩
  rintro i m σ H ⟨rfl, hi, p⟩
  by_cases hlt : i < n
  · refine .inr ⟨hlt, Pv (i + 1), fun σ' H' p' => ⟨n - (i + 1), by omega, rfl, hlt, p'⟩, fun x H' y => ?_⟩
    obtain ⟨e, y⟩ := y
    subst e y
    exact hs i σ _ hlt p
  · have e : i = n := by omega
    subst e
    exact .inl ⟨Nat.le_refl _, hd σ H p⟩
theorem while_by {c : TT} {tb : TS} {D : Ends} {σ : St} {H : Hp} (Pv : St → Hp → Prop) (μ : St → Hp → Nat) (h0 : Pv σ H)
    (hs : ∀ σ H, Pv σ H → c σ H fun b H1 => if b = true then tb { D with nx := fun σ' H' => Pv σ' H' ∧ μ σ' H' < μ σ H, ct := fun σ' H' => Pv σ' H' ∧ μ σ' H' < μ σ H, bk := D.nx } σ H1 else D.nx σ H1)
    (mono : ∀ σ H Q Q', (∀ b H1, Q b H1 → Q' b H1) → c σ H Q → c σ H Q') : tWhile c tb D σ H := by
  refine ⟨fun m σ H => m = μ σ H ∧ Pv σ H, ⟨_, rfl, h0⟩, ?_⟩
  rintro m σ H ⟨rfl, p⟩
  refine mono σ H _ _ (fun b H1 q => ?_) (hs σ H p)
  cases b with
  | true => exact ⟨_, fun σ' H' ⟨p', l⟩ => ⟨_, l, rfl, p'⟩, q⟩
  | false => exact q
end L2

namespace L2
open PySem PySem.Spec PyProof.Rows

abbrev R2 := V → V → Hp → VK → Prop
def OpR (X : Cx) (f : Value → Value → Sem Value) (r : R2) : Prop :=
  ∀ (pins : List (Addr × Obj)) (s : Shared) (σ : St) (H : Hp) (x y : V) (v u : Value) (Q : VK), Inv X pins σ H s → RelV x v → RelV y u → r x y H Q →
    wpAny (model X.prog X.w) X.A (f v u) (EP X pins σ Q) X.xe s
def UnR (X : Cx) (f : Value → Sem Value) (r : V → Hp → VK → Prop) : Prop :=
  ∀ (pins : List (Addr × Obj)) (s : Shared) (σ : St) (H : Hp) (x : V) (v : Value) (Q : VK), Inv X pins σ H s → RelV x v → r x H Q →
    wpAny (model X.prog X.w) X.A (f v) (EP X pins σ Q) X.xe s
def CallR (X : Cx) (f : Value) (r : List V → Hp → VK → Prop) : Prop :=
  ∀ (pins : List (Addr × Obj)) (s : Shared) (σ : St) (H : Hp) (xs : List V) (us : List Value) (Q : VK), Inv X pins σ H s → Vals xs us → r xs H Q →
    wpAny (model X.prog X.w) X.A (call f us) (EP X pins σ Q) X.xe s
def TruR (X : Cx) (r : V → Hp → (Bool → Hp → Prop) → Prop) : Prop :=
  ∀ (pins : List (Addr × Obj)) (s : Shared) (σ : St) (H : Hp) (x : V) (v : Value) (Q : Bool → Hp → Prop), Inv X pins σ H s → RelV x v → r x H Q →
    wpAny (model X.prog X.w) X.A (truthy v) (TP X pins σ Q) X.xe s

def tOp (r : R2) (ta tb : TE) : TE := fun σ H Q => ta σ H fun x H1 => tb σ H1 fun y H2 => r x y H2 Q
def tUn (r : V → Hp → VK → Prop) (ta : TE) : TE := fun σ H Q => ta σ H fun x H1 => r x H1 Q
def rI (C : Int → Int → Prop) (g : Int → Int → V) : R2 := fun x y H Q => ∃ i j, x = .int i ∧ y = .int j ∧ C i j ∧ Q (g i j) H
def rI0 (g : Int → Int → V) : R2 := fun x y H Q => ∃ i j, x = .int i ∧ y = .int j ∧ Q (g i j) H
def rU (g : Int → V) : V → Hp → VK → Prop := fun x H Q => ∃ i, x = .int i ∧ Q (g i) H

section
variable {X : Cx} {a b c : Expr} {ta tb tc : TE} {pos : Pos}

theorem binT (ha : PE X a ta) (hb : PE X b tb) {pins : List (Addr × Obj)} {s : Shared} {σ : St} {H : Hp} {R : V → V → Hp → Prop} (I : Inv X pins σ H s)
    (h : ta σ H fun x H1 => tb σ H1 fun y H2 => R x y H2) {Q : Value → Shared → Prop} {f : Value → Value → Sem Value}
    (hf : ∀ v u s2 x y H2, Inv X pins σ H2 s2 → RelV x v → RelV y u → R x y H2 → wpAny (model X.prog X.w) X.A (f v u) Q X.xe s2) :
    wpAny (model X.prog X.w) X.A (eval a X.env) (fun v s₁ => wpAny (model X.prog X.w) X.A (eval b X.env) (fun u s₂ => wpAny (model X.prog X.w) X.A (f v u) Q X.xe s₂) X.xe s₁) X.xe s := by
  refine thn (ha pins s σ H _ I h) fun v s1 ⟨x, H1, I1, r1, q1⟩ => ?_
  refine thn (hb pins s1 σ H1 _ I1 q1) fun u s2 ⟨y, H2, I2, r2, q2⟩ => ?_
  exact hf v u s2 x y H2 I2 r1 r2 q2

theorem pe_op {op : Operator} {r : R2} (ho : OpR X (binaryOp op) r) (ha : PE X a ta) (hb : PE X b tb) : PE X (.BinOp a op b pos) (tOp r ta tb) := by
  intro pins s σ H Q I h
  exact wpAny_BinOp (binT ha hb I h fun v u s2 x y H2 I2 rx ry q => ho pins s2 σ H2 x y v u Q I2 rx ry q)
theorem pe_un {op : UnaryOp} {r : V → Hp → VK → Prop} (ho : UnR X (unaryOp op) r) (ha : PE X a ta) : PE X (.UnaryOp op a pos) (tUn r ta) := by
  intro pins s σ H Q I h
  exact UnaryOp_ (thn (ha pins s σ H _ I h) fun v s1 ⟨x, H1, I1, r1, q1⟩ => ho pins s1 σ H1 x v Q I1 r1 q1)
theorem opI {f : Value → Value → Sem Value} {C : Int → Int → Prop} {g : Int → Int → Int}
    (rule : ∀ (i j : Int) (t u : Tok) (s : Shared) (Q : Value → Shared → Prop) (E : Value → Shared → Prop), C i j → Q (.int (g i j) s.toks) { s with toks := s.toks + 1 } → wpAny (model X.prog X.w) X.A (f (.int i t) (.int j u)) Q E s) :
    OpR X f (rI C fun i j => .int (g i j)) := by
  intro pins s σ H x y v u Q I rx ry h
  obtain ⟨i, j, rfl, rfl, hc, q⟩ := h
  obtain ⟨t, rfl⟩ := rx
  obtain ⟨t', rfl⟩ := ry
  exact rule i j t t' s _ _ hc ⟨.int (g i j), H, I.tok _, ⟨_, rfl⟩, q⟩
theorem opI0 {f : Value → Value → Sem Value} {g : Int → Int → Int}
    (rule : ∀ (i j : Int) (t u : Tok) (s : Shared) (Q : Value → Shared → Prop) (E : Value → Shared → Prop), Q (.int (g i j) s.toks) { s with toks := s.toks + 1 } → wpAny (model X.prog X.w) X.A (f (.int i t) (.int j u)) Q E s) :
    OpR X f (rI0 fun i j => .int (g i j)) := by
  intro pins s σ H x y v u Q I rx ry h
  obtain ⟨i, j, rfl, rfl, q⟩ := h
  obtain ⟨t, rfl⟩ := rx
  obtain ⟨t', rfl⟩ := ry
  exact rule i j t t' s _ _ ⟨.int (g i j), H, I.tok _, ⟨_, rfl⟩, q⟩
theorem opB0 {f : Value → Value → Sem Value} {g : Int → Int → Bool}
    (rule : ∀ (i j : Int) (t u : Tok) (s : Shared) (Q : Value → Shared → Prop) (E : Value → Shared → Prop), Q (.bool (g i j)) s → wpAny (model X.prog X.w) X.A (f (.int i t) (.int j u)) Q E s) :
    OpR X f (rI0 fun i j => .bl (g i j)) := by
  intro pins s σ H x y v u Q I rx ry h
  obtain ⟨i, j, rfl, rfl, q⟩ := h
  obtain ⟨t, rfl⟩ := rx
  obtain ⟨t', rfl⟩ := ry
  exact rule i j t t' s _ _ ⟨.bl (g i j), H, I, rfl, q⟩

def CDiv (i j : Int) : Prop := 0 < j ∧ j < 1073741824
def CMul (i j : Int) : Prop := (-(2 ^ 64) < i ∧ i < 2 ^ 64) ∨ (-(2 ^ 64) < j ∧ j < 2 ^ 64)
theorem CMul.ok {i j : Int} (h : CMul i j) : IntMulOk i j := by
  rcases h with ⟨h1, h2⟩ | ⟨h1, h2⟩
  · exact .of_left (intBits_le_64 h1 h2)
  · exact .of_right (intBits_le_64 h1 h2)
theorem op_add : OpR X (binaryOp .Add) (rI0 fun i j => .int (i + j)) := opI0 fun _ _ _ _ _ _ _ q => add_int q
theorem op_sub : OpR X (binaryOp .Sub) (rI0 fun i j => .int (i - j)) := opI0 fun _ _ _ _ _ _ _ q => sub_int q
theorem op_mul : OpR X (binaryOp .Mult) (rI CMul fun i j => .int (i * j)) := opI fun _ _ _ _ _ _ _ hc q => mul_int q hc.ok
theorem op_fdiv : OpR X (binaryOp .FloorDiv) (rI CDiv fun i j => .int (i / j)) := opI fun i j _ _ _ _ _ hc q => by
  have h1 : (0 : Int) < j := hc.1
  have h2 : j < 1073741824 := hc.2
  exact floordiv_int (by omega) (by rw [Int.fdiv_eq_ediv_of_nonneg i (by omega)]; exact q) (.inl (PyProof.noPylong_small (by omega)))
theorem op_mod : OpR X (binaryOp .Mod) (rI (fun _ j => 0 < j) fun i j => .int (i % j)) := opI fun i j _ _ _ _ _ hc q => by
  have h1 : (0 : Int) < j := hc
  exact mod_int' (by omega) (by rw [Int.fmod_eq_emod_of_nonneg i (by omega)]; exact q)
theorem unI {f : Value → Sem Value} {g : Int → Int}
    (rule : ∀ (i : Int) (t : Tok) (s : Shared) (Q : Value → Shared → Prop) (E : Value → Shared → Prop), Q (.int (g i) s.toks) { s with toks := s.toks + 1 } → wpAny (model X.prog X.w) X.A (f (.int i t)) Q E s) :
    UnR X f (rU fun i => .int (g i)) := by
  intro pins s σ H x v Q I rx h
  obtain ⟨i, rfl, q⟩ := h
  obtain ⟨t, rfl⟩ := rx
  exact rule i t s _ _ ⟨.int (g i), H, I.tok _, ⟨_, rfl⟩, q⟩
theorem un_neg : UnR X (unaryOp .USub) (rU fun i => .int (-i)) := unI fun _ _ _ _ _ q => neg_int q
end

def scal : V → V → Bool
  | .non, .non => true | .non, .int _ => true | .int _, .non => true | .non, .bl _ => true | .bl _, .non => true | .non, .str _ => true | .str _, .non => true
  | .int _, .int _ => true | .bl _, .bl _ => true | .str _, .str _ => true | .byt _, .byt _ => true
  | .int _, .str _ => true | .str _, .int _ => true | .bl _, .str _ => true | .str _, .bl _ => true
  | _, _ => false
def rEq : R2 := fun x y H Q => scal x y = true ∧ Q (.bl (decide (x = y))) H
def rNe : R2 := fun x y H Q => scal x y = true ∧ Q (.bl (!decide (x = y))) H

theorem dec_int {i j : Int} : decide (V.int i = V.int j) = (i == j) := by
  rw [Bool.eq_iff_iff]
  simp
theorem dec_bl {i j : Bool} : decide (V.bl i = V.bl j) = (i == j) := by
  rw [Bool.eq_iff_iff]
  simp
theorem dec_str {i j : Str} : decide (V.str i = V.str j) = (i == j) := by
  rw [Bool.eq_iff_iff]
  simp
theorem dec_byt {i j : Array UInt8} : decide (V.byt i = V.byt j) = (i.toList == j.toList) := by
  rw [Bool.eq_iff_iff]
  cases i
  cases j
  simp

section
variable {X : Cx} {a b c : Expr} {ta tb tc : TE} {pos : Pos}
theorem fin_bl {pins : List (Addr × Obj)} {σ : St} {H : Hp} {s : Shared} {Q : VK} {k k' : Bool} (I : Inv X pins σ H s) (q : Q (.bl k) H) (e : k = k') : EP X pins σ Q (.bool k') s := by
  subst e
  exact ⟨.bl k, H, I, rfl, q⟩
theorem op_eq : OpR X (compareOp .Eq) rEq := by
  intro pins s σ H x y v u Q I rx ry h
  obtain ⟨hs, q⟩ := h
  cases x with
  | non =>
    cases rx
    cases y with
    | non => cases ry; exact PySem.EqNone.eq_none_none (fin_bl I q (by simp))
    | bl j => cases ry; exact PySem.EqNone.eq_none_bool (fin_bl I q (by simp))
    | int j => obtain ⟨t', rfl⟩ := ry; exact PySem.EqNone.eq_none_int (fin_bl I q (by simp))
    | str j => obtain ⟨t', rfl⟩ := ry; exact PySem.EqNone.eq_none_str (fin_bl I q (by simp))
    | _ => exact absurd (show false = true from hs) Bool.false_ne_true
  | bl i =>
    cases rx
    cases y with
    | non => cases ry; exact PySem.EqNone.eq_bool_none (fin_bl I q (by simp))
    | bl j => cases ry; exact eq_bool (fin_bl I q dec_bl)
    | str j => obtain ⟨t', rfl⟩ := ry; exact PySem.EqMixed.eq_bool_str (fin_bl I q (by simp))
    | _ => exact absurd (show false = true from hs) Bool.false_ne_true
  | int i =>
    obtain ⟨t, rfl⟩ := rx
    cases y with
    | non => cases ry; exact PySem.EqNone.eq_int_none (fin_bl I q (by simp))
    | int j => obtain ⟨t', rfl⟩ := ry; exact eq_int (fin_bl I q dec_int)
    | str j => obtain ⟨t', rfl⟩ := ry; exact PySem.EqMixed.eq_int_str (fin_bl I q (by simp))
    | _ => exact absurd (show false = true from hs) Bool.false_ne_true
  | str i =>
    obtain ⟨t, rfl⟩ := rx
    cases y with
    | non => cases ry; exact PySem.EqNone.eq_str_none (fin_bl I q (by simp))
    | bl j => cases ry; exact PySem.EqMixed.eq_str_bool (fin_bl I q (by simp))
    | int j => obtain ⟨t', rfl⟩ := ry; exact PySem.EqMixed.eq_str_int (fin_bl I q (by simp))
    | str j => obtain ⟨t', rfl⟩ := ry; exact eq_str (fin_bl I q dec_str)
    | _ => exact absurd (show false = true from hs) Bool.false_ne_true
  | byt i =>
    obtain ⟨t, rfl⟩ := rx
    cases y with
    | byt j => obtain ⟨t', rfl⟩ := ry; exact PySem.W.eq_bytes (fin_bl I q dec_byt)
    | _ => exact absurd (show false = true from hs) Bool.false_ne_true
  | _ => cases y <;> exact absurd (show false = true from hs) Bool.false_ne_true
theorem op_ne : OpR X (compareOp .NotEq) rNe := by
  intro pins s σ H x y v u Q I rx ry h
  obtain ⟨hs, q⟩ := h
  cases x with
  | non =>
    cases rx
    cases y with
    | non => cases ry; exact PySem.EqNone.ne_none_none (fin_bl I q (by simp))
    | bl j => cases ry; exact PySem.EqNone.ne_none_bool (fin_bl I q (by simp))
    | int j => obtain ⟨t', rfl⟩ := ry; exact PySem.EqNone.ne_none_int (fin_bl I q (by simp))
    | str j => obtain ⟨t', rfl⟩ := ry; exact PySem.EqNone.ne_none_str (fin_bl I q (by simp))
    | _ => exact absurd (show false = true from hs) Bool.false_ne_true
  | bl i =>
    cases rx
    cases y with
    | non => cases ry; exact PySem.EqNone.ne_bool_none (fin_bl I q (by simp))
    | bl j => cases ry; exact ne_bool (fin_bl I q (congrArg not dec_bl))
    | str j => obtain ⟨t', rfl⟩ := ry; exact PySem.EqMixed.ne_bool_str (fin_bl I q (by simp))
    | _ => exact absurd (show false = true from hs) Bool.false_ne_true
  | int i =>
    obtain ⟨t, rfl⟩ := rx
    cases y with
    | non => cases ry; exact PySem.EqNone.ne_int_none (fin_bl I q (by simp))
    | int j => obtain ⟨t', rfl⟩ := ry; exact ne_int (fin_bl I q (congrArg not dec_int))
    | str j => obtain ⟨t', rfl⟩ := ry; exact PySem.EqMixed.ne_int_str (fin_bl I q (by simp))
    | _ => exact absurd (show false = true from hs) Bool.false_ne_true
  | str i =>
    obtain ⟨t, rfl⟩ := rx
    cases y with
    | non => cases ry; exact PySem.EqNone.ne_str_none (fin_bl I q (by simp))
    | bl j => cases ry; exact PySem.EqMixed.ne_str_bool (fin_bl I q (by simp))
    | int j => obtain ⟨t', rfl⟩ := ry; exact PySem.EqMixed.ne_str_int (fin_bl I q (by simp))
    | str j => obtain ⟨t', rfl⟩ := ry; exact ne_str (fin_bl I q (congrArg not dec_str))
    | _ => exact absurd (show false = true from hs) Bool.false_ne_true
  | byt i =>
    obtain ⟨t, rfl⟩ := rx
    cases y with
    | byt j => obtain ⟨t', rfl⟩ := ry; exact PySem.W.ne_bytes (fin_bl I q (congrArg not dec_byt))
    | _ => exact absurd (show false = true from hs) Bool.false_ne_true
  | _ => cases y <;> exact absurd (show false = true from hs) Bool.false_ne_true

theorem op_lt : OpR X (compareOp .Lt) (rI0 fun i j => .bl (decide (i < j))) := opB0 fun _ _ _ _ _ _ _ q => lt_int q
theorem op_le : OpR X (compareOp .LtE) (rI0 fun i j => .bl (decide (i ≤ j))) := opB0 fun _ _ _ _ _ _ _ q => le_int q
theorem op_gt : OpR X (compareOp .Gt) (rI0 fun i j => .bl (decide (j < i))) := opB0 fun _ _ _ _ _ _ _ q => gt_int q
theorem op_ge : OpR X (compareOp .GtE) (rI0 fun i j => .bl (decide (j ≤ i))) := opB0 fun _ _ _ _ _ _ _ q => ge_int q
theorem nomark (b : Expr) {op : CmpOp} (h : op ≠ .In := by decide) (h2 : op ≠ .NotIn := by decide) : behindInMarks op b = false := by
  have e1 : (op == CmpOp.In) = false := by cases op <;> first | rfl | exact absurd rfl h
  have e2 : (op == CmpOp.NotIn) = false := by cases op <;> first | rfl | exact absurd rfl h2
  cases b <;> simp [behindInMarks, e1, e2]
theorem pe_cmpR {op : CmpOp} {r : R2} (ho : OpR X (compareOp op) r) (ha : PE X a ta) (hb : PE X b tb) (hm : behindInMarks op b = false) : PE X (.Compare a [op] [b] pos) (tOp r ta tb) := by
  intro pins s σ H Q I h
  exact wpAny_Compare1 (binT ha hb I h fun v u s2 x y H2 I2 rx ry q => ho pins s2 σ H2 x y v u Q I2 rx ry q) hm
def tTest (t : TE) : TT := fun σ H Q => t σ H fun x H' => ∃ k, x = .bl k ∧ Q k H'
theorem pt_cmpR {op : CmpOp} {r : R2} (ho : OpR X (compareOp op) r) (ha : PE X a ta) (hb : PE X b tb) (hm : behindInMarks op b = false) : PT X (.Compare a [op] [b] pos) (tTest (tOp r ta tb)) := by
  intro pins s σ H Q I h
  refine wpAny_isTrue_Compare1 (thn (ha pins s σ H _ I h) fun v s1 ⟨x, H1, I1, r1, q1⟩ => thn (hb pins s1 σ H1 _ I1 q1) fun u s2 ⟨y, H2, I2, r2, q2⟩ =>
    thn (ho pins s2 σ H2 x y v u _ I2 r1 r2 q2) fun c s3 ⟨z, H3, I3, r3, k, e, q3⟩ => ?_) hm
  subst e
  cases r3
  exact wpAny_truthy_bool ⟨H3, I3, q3⟩
def tChain (r r' : R2) (ta tb tc : TE) : TE := fun σ H Q => ta σ H fun x H1 => tb σ H1 fun y H2 => r x y H2 fun z H3 => ∃ k, z = .bl k ∧
  (if k = true then tc σ H3 fun w' H4 => r' y w' H4 Q else Q (.bl false) H3)
theorem pe_chain {op op' : CmpOp} {r r' : R2} (ho : OpR X (compareOp op) r) (ho' : OpR X (compareOp op') r') (ha : PE X a ta) (hb : PE X b tb) (hc : PE X c tc)
    (hm : lastMarks [op, op'] [b, c] = false := by with_unfolding_all rfl) : PE X (.Compare a [op, op'] [b, c] pos) (tChain r r' ta tb tc) := by
  intro pins s σ H Q I h
  refine Compare_chain (thn (ha pins s σ H _ I h) fun v s1 ⟨x, H1, I1, r1, q1⟩ => chain_link (thn (hb pins s1 σ H1 _ I1 q1) fun u s2 ⟨y, H2, I2, r2, q2⟩ =>
    thn (ho pins s2 σ H2 x y v u _ I2 r1 r2 q2) fun d s3 ⟨z, H3, I3, r3, k, e, q3⟩ => ?_)) hm
  subst e
  cases r3
  refine wpAny_truthy_bool ?_
  cases k with
  | false => exact ite_ff ⟨.bl false, H3, I3, rfl, q3⟩
  | true => exact ite_tt (chain_last (thn (hc pins s3 σ H3 _ I3 q3) fun w' s4 ⟨z', H4, I4, r4, q4⟩ => ho' pins s4 σ H4 y z' u w' Q I4 r2 r4 q4))
theorem pt_chain {op op' : CmpOp} {r r' : R2} (ho : OpR X (compareOp op) r) (ho' : OpR X (compareOp op') r') (ha : PE X a ta) (hb : PE X b tb) (hc : PE X c tc)
    (hm : lastMarks [op, op'] [b, c] = false := by with_unfolding_all rfl) : PT X (.Compare a [op, op'] [b, c] pos) (tTest (tChain r r' ta tb tc)) := by
  intro pins s σ H Q I h
  refine isTrue_chain (thn (ha pins s σ H _ I h) fun v s1 ⟨x, H1, I1, r1, q1⟩ => test_link (thn (hb pins s1 σ H1 _ I1 q1) fun u s2 ⟨y, H2, I2, r2, q2⟩ =>
    thn (ho pins s2 σ H2 x y v u _ I2 r1 r2 q2) fun d s3 ⟨z, H3, I3, r3, k, e, q3⟩ => ?_)) hm
  subst e
  cases r3
  refine wpAny_truthy_bool ?_
  cases k with
  | false =>
    obtain ⟨k', e', q'⟩ := q3
    cases e'
    exact ite_ff ⟨H3, I3, q'⟩
  | true =>
    refine ite_tt (test_last (thn (hc pins s3 σ H3 _ I3 q3) fun w' s4 ⟨z', H4, I4, r4, q4⟩ => thn (ho' pins s4 σ H4 y z' u w' _ I4 r2 r4 q4) fun d' s5 ⟨z2, H5, I5, r5, k2, e2, q5⟩ => ?_))
    subst e2
    cases r5
    exact wpAny_truthy_bool ⟨H5, I5, q5⟩

def TruV (K : PySem.W.Frag) (x : V) (H : Hp) (k : Bool) : Prop :=
  match x with
  | .non => k = false
  | .bl b => k = b
  | .int i => k = (i != 0)
  | .str y => y.length ≤ sizeLine ∧ k = ((y.length : Int) != 0)
  | .byt y => y.size ≤ sizeLine ∧ k = ((y.size : Int) != 0)
  | .ref p => (∃ xs, SqL K H p xs ∧ k = !xs.isEmpty) ∨ (∃ xs, SqT K H p xs ∧ k = !xs.isEmpty) ∨ ∃ kvs, H p = some (.dK kvs) ∧ k = !kvs.isEmpty
  | _ => False
theorem isEmpty_kv {κ : Type} {kvs : List (κ × V)} {vs : List (κ × Value)} (r : KV kvs vs) : (!vs.isEmpty) = !kvs.isEmpty := by
  cases r <;> rfl
theorem isEmpty_of {xs : List V} {its : List Value} (r : Vals xs its) : (!its.toArray.isEmpty) = !xs.isEmpty := by
  cases r <;> simp
theorem line63 : (sizeLine : Nat) < 2 ^ 63 := by rw [sizeLine_eq]; decide
theorem tru_ok : TruR X (fun x H Q => ∃ k, TruV X.K x H k ∧ Q k H) := by
  intro pins s σ H x v Q I rx h
  obtain ⟨k, e, q⟩ := h
  have hl := line63
  have hs : sizeLine = 16777216 := sizeLine_eq
  cases x with
  | non =>
    cases rx
    have e' : k = false := e
    subst e'
    exact truthy_none ⟨H, I, q⟩
  | bl b =>
    cases rx
    have e' : k = b := e
    subst e'
    exact wpAny_truthy_bool ⟨H, I, q⟩
  | int i =>
    obtain ⟨t, rfl⟩ := rx
    have e' : k = (i != 0) := e
    subst e'
    exact PySem.P.truthy_int ⟨H, I, q⟩
  | str y =>
    obtain ⟨t, rfl⟩ := rx
    obtain ⟨hy, e'⟩ : y.length ≤ sizeLine ∧ k = ((y.length : Int) != 0) := e
    subst e'
    exact PySem.P.truthy_str (by omega) ⟨H, I.tok _, q⟩
  | byt y =>
    obtain ⟨t, rfl⟩ := rx
    obtain ⟨hy, e'⟩ : y.size ≤ sizeLine ∧ k = ((y.size : Int) != 0) := e
    subst e'
    exact PySem.W.truthy_bytes (by omega) ⟨H, I.tok _, q⟩
  | ref p =>
    cases rx
    have e' : (∃ xs, SqL X.K H p xs ∧ k = !xs.isEmpty) ∨ (∃ xs, SqT X.K H p xs ∧ k = !xs.isEmpty) ∨ ∃ kvs, H p = some (.dK kvs) ∧ k = !kvs.isEmpty := e
    rcases e' with ⟨xs, hx, e'⟩ | ⟨xs, hx, e'⟩ | ⟨kvs, hx, e'⟩
    · subst e'
      obtain ⟨its, r, pl, hz⟩ := I.list hx
      have hlen := r.length
      exact wpAny_truthy_list pl.isList (by simp only [List.size_toArray]; omega) ⟨H, I.tok _, by rw [isEmpty_of r]; exact q⟩
    · subst e'
      obtain ⟨its, r, pl, hz⟩ := I.tuple hx
      have hlen := r.length
      exact truthy_tuple pl (by simp only [List.size_toArray]; omega) ⟨H, I.tok _, by rw [isEmpty_of r]; exact q⟩
    · subst e'
      obtain ⟨hz, hS, vs, r, m⟩ : kvs.length ≤ sizeLine ∧ (p == sysModules) = false ∧ ∃ vs, KV kvs vs ∧ s.heap.DictOf (mixKind X.prog X.w) p vs := I.hok p _ hx
      have hlen : kvs.length = vs.length := Paired.length r
      exact wpAny_truthy_dict hS m (by omega) ⟨H, I.tok _, by rw [isEmpty_kv r]; exact q⟩
  | _ => exact (show False from e).elim
theorem pt_truth (ha : PE X a ta) (he : ∀ whole, isTrue a X.env whole = (do let v ← whole; standAt a.pos; holding [v] (truthy v))) :
    PT X a (fun σ H Q => ta σ H fun x H' => ∃ k, TruV X.K x H' k ∧ Q k H') := by
  intro pins s σ H Q I h
  exact isTrue_plain (thn (ha pins s σ H _ I h) fun v s1 ⟨x, H1, I1, r1, q1⟩ => tru_ok pins s1 σ H1 x v Q I1 r1 q1) (he _)

theorem vals1 {x : V} {us : List Value} (r : Vals [x] us) : ∃ u, us = [u] ∧ RelV x u := by
  cases r with
  | cons r1 r2 => cases r2; exact ⟨_, rfl, r1⟩
end
end L2

namespace L2
open PySem PySem.Spec PyProof.Rows

structure ObjM (h : Heap) (x dx C : Addr) (mA : Str → Option Value) : Prop where
  obj : h.get? x = some (PySem.W.instObj C dx)
  ns : h.Ns1 dx mA
  ne : dx ≠ x

theorem lookIn_ns {h : Heap} {dx : Addr} {mA : Str → Option Value} (n : h.Ns1 dx mA) : ∃ od, h.get? dx = some od ∧ ∀ name, PySem.W.lookIn name od = some (mA name) := by
  obtain ⟨o, es, ep, ho, hd, hk, _, hm⟩ := n
  refine ⟨o, ho, fun name => ?_⟩
  have e := hm name
  unfold nsFind findBy at e
  rw [← Array.find?_toList] at e
  unfold PySem.W.lookIn
  rw [hd]
  dsimp only
  split
  · rename_i y q
    rw [q] at e
    exact congrArg some e
  · rename_i q
    rw [q] at e
    have a : es.toList.any (·.refKey) = false := by
      rw [List.any_eq_false]
      intro y hy
      obtain ⟨z, t, hkey⟩ := hk y (Array.mem_toList_iff.mp hy)
      simp [DictEntry.refKey, hkey]
    have a' : ¬ es.toList.any (·.refKey) = true := by rw [a]; exact Bool.false_ne_true
    rw [if_neg a']
    exact congrArg some e

theorem ObjM.look {h : Heap} {x dx C : Addr} {mA : Str → Option Value} (I : ObjM h x dx C mA) : ∃ od, PySem.W.InstAt h x (PySem.W.instObj C dx) C (some od) ∧ ∀ name, PySem.W.lookIn name od = some (mA name) :=
  let ⟨od, ho, hl⟩ := lookIn_ns I.ns
  ⟨od, ⟨I.obj, rfl, rfl, ho⟩, hl⟩

section
variable {prog : Program} {w : World} {A : Around} {E : Value → Shared → Prop} {s : Shared} {K : PySem.W.Frag} {x dx C f : Addr} {mA : Str → Option Value} {name : Str} {v : Value}

theorem get_map {expr : Bool} {Q : Value → Shared → Prop} (X : K.In s.heap) (I : ObjM s.heap x dx C mA) (hg : PySem.W.plainGet K C name = true) (hh : PySem.W.hasDictIn K C = true)
    (ha : PySem.W.findIn K (.ref C) name = some none) (hv : mA name = some v) (hv' : PySem.W.handedIn v = true) (h : Q v { s with toks := s.toks + 1 }) :
    wpAny (model prog w) A (getAttr (.ref x) name expr) Q E s := by
  obtain ⟨od, J, hl⟩ := I.look
  exact PySem.W.get_value X J (PySem.W.plainGet_of hg).1 (PySem.W.findObj_own hh ha rfl (by rw [hl, hv])) hv' h

theorem get_meth {pl : Sem Bool} {Q : Value × List Value → Shared → Prop} (X : K.In s.heap) (I : ObjM s.heap x dx C mA) (hg : PySem.W.plainGet K C name = true)
    (hf : PySem.W.findIn K (.ref C) name = some (some (.ref f))) (ht : PySem.W.isFn K (.ref f) = true) (hv : mA name = none) (h : Q (.ref f, [.ref x]) s) :
    wpAny (model prog w) A (getMethod (.ref x) name pl) Q E s := by
  obtain ⟨od, J, hl⟩ := I.look
  exact PySem.W.method_fn X J (PySem.W.plainGet_of hg).1 (PySem.W.plainGet_of hg).2 hf (beq_iff_eq.mp ht) (by show (PySem.W.lookIn name od).map (·.isSome) = some false; rw [hl, hv]; rfl) h

theorem set_map {ns : List Str} {Q : Unit → Shared → Prop} (X : K.In s.heap) (I : ObjM s.heap x dx C mA)
    (hs : PySem.W.findIn K (.ref C) "__setattr__" = some (some (.builtin "object.__setattr__"))) (hp : PySem.W.plainOver K C = true) (ht : PySem.W.takerIn K C name = some none) (hh : PySem.W.hasDictIn K C = true)
    (hw : PySem.Within mA ns) (hsz : ns.length ≤ sizeLine)
    (h : ∀ h', ObjM h' x dx C (fun y => if y = name then some v else mA y) → Heap.SameBut dx s.heap h' → Q () { s with heap := h', toks := s.toks + 2 }) :
    wpAny (model prog w) A (setAttr (.ref x) name v) Q E s := by
  obtain ⟨od, J, hl⟩ := I.look
  refine PySem.W.set_plain X J hs (PySem.W.osa_open (s := { s with toks := s.toks + 1 }) (r := none) X J hp ht fun b => ?_)
  obtain ⟨cd, hc, hd'⟩ := PySem.W.any_some hh
  have hx : s.heap.get? x = some ⟨.ref C, some dx, .plain, #[]⟩ := I.obj
  refine wpAny_bind (wpAny_pure (wpAny_bind (wpAny_bind (wpAny_loadPart hx (wpAny_bind (PySem.W.Looks.here (s := { s with toks := s.toks + 1 }) (PySem.W.looks_clsIn X hc) ?_))))))
  rw [hd']
  refine wpAny_pure (a := some dx) (wpAny_bind (wpAny_pure (wpAny_bind ?_)))
  refine wpAny_nsSet1 (s := { s with toks := s.toks + 1 }) I.ns fun h' hn2 hs2 => ?_
  obtain ⟨oD, esD, epD, hoD, hdD, hcD⟩ := hn2.count (PySem.Within.cons name v hw)
  refine wpAny_bind (wpAny_lookBehind hoD (by rw [hdD]; exact pastItsLine_dict (Nat.le_trans hcD (by rw [List.length_cons]; omega))) ?_)
  exact wpAny_pure (h _ ⟨(hs2.2 _ (Ne.symm I.ne)).trans I.obj, hn2, I.ne⟩ hs2)

theorem make_map {R : Result → Shared → Prop} {vs : List Value} {kw : List (Str × Value)} (X : K.In s.heap) (hm : PySem.W.makesIn K C = true)
    (hi : PySem.W.findIn K (.ref C) "__init__" = some (some (.ref f))) (hf : PySem.W.typeIn K (.ref f) = some (.type "function"))
    (h : codeAny (model prog w) (A.under (.builtin "type.__call__" ⟨.ref C :: vs, kw⟩)) (.call (.ref f) ⟨.ref (s.heap.objs.size + 1) :: vs, kw⟩) (PySem.W.InitBack (s.heap.objs.size + 1) R)
      { s with heap := (s.heap.push PySem.W.emptyDict).push (PySem.W.instObj C s.heap.objs.size) }) :
    codeAny (model prog w) A (.call (.ref C) ⟨vs, kw⟩) R s := by
  obtain ⟨hh, g, d, t, os⟩ := s
  exact PySem.W.make_core (PySem.W.makes_of X hm) (PySem.W.looks_findIn X hi) (fun self => PySem.W.bind_fn X self hf) (.inl rfl) h
end

def putF (f : Str) (v : V) : List (Str × V) → List (Str × V)
  | [] => [(f, v)]
  | (g, x) :: r => if g = f then (g, v) :: r else (g, x) :: putF f v r
theorem lookup_putF (f g : Str) (v : V) : ∀ fs : List (Str × V), (putF f v fs).lookup g = if g = f then some v else fs.lookup g
  | [] => by
    show List.lookup g [(f, v)] = _
    by_cases h : g = f
    · have hb : (g == f) = true := beq_iff_eq.mpr h
      simp only [List.lookup, hb, if_pos h]
    · have hb : (g == f) = false := beq_eq_false_iff_ne.mpr h
      simp only [List.lookup, hb, if_neg h]
  | (k, x) :: r => by
    have ih := lookup_putF f g v r
    rw [show putF f v ((k, x) :: r) = (if k = f then (k, v) :: r else (k, x) :: putF f v r) from rfl]
    by_cases hk : k = f
    · rw [if_pos hk]
      by_cases h : g = k
      · have hb : (g == k) = true := beq_iff_eq.mpr h
        simp only [List.lookup, hb, if_pos (h.trans hk)]
      · have hb : (g == k) = false := beq_eq_false_iff_ne.mpr h
        simp only [List.lookup, hb, if_neg (fun e : g = f => h (e.trans hk.symm))]
    · rw [if_neg hk]
      by_cases h : g = k
      · have hb : (g == k) = true := beq_iff_eq.mpr h
        simp only [List.lookup, hb, if_neg (fun e : g = f => hk (h.symm.trans e))]
      · have hb : (g == k) = false := beq_eq_false_iff_ne.mpr h
        simp only [List.lookup, hb]
        exact ih
theorem keys_putF (f : Str) (v : V) : ∀ fs : List (Str × V), f ∈ (putF f v fs).map (·.1) ∧ ∀ g, g ∈ fs.map (·.1) → g ∈ (putF f v fs).map (·.1)
  | [] => ⟨by simp [putF], fun g h => by simp at h⟩
  | (k, x) :: r => by
    obtain ⟨i1, i2⟩ := keys_putF f v r
    rw [show putF f v ((k, x) :: r) = (if k = f then (k, v) :: r else (k, x) :: putF f v r) from rfl]
    by_cases hk : k = f
    · rw [if_pos hk]
      subst hk
      exact ⟨by simp, fun g h => by simpa using h⟩
    · rw [if_neg hk]
      refine ⟨?_, fun g h => ?_⟩
      · rw [List.map_cons]
        exact List.mem_cons_of_mem _ i1
      · rw [List.map_cons] at h ⊢
        rcases List.mem_cons.mp h with e | e
        · exact List.mem_cons.mpr (.inl e)
        · exact List.mem_cons_of_mem _ (i2 g e)
theorem length_putF (f : Str) (v : V) : ∀ fs : List (Str × V), (putF f v fs).length ≤ fs.length + 1
  | [] => by simp [putF]
  | (k, x) :: r => by
    have ih := length_putF f v r
    rw [show putF f v ((k, x) :: r) = (if k = f then (k, v) :: r else (k, x) :: putF f v r) from rfl]
    by_cases hk : k = f
    · rw [if_pos hk, List.length_cons, List.length_cons]; omega
    · rw [if_neg hk, List.length_cons, List.length_cons]; omega

theorem RelO.some_of {v : V} {o : Option Value} (r : RelO (some v) o) : ∃ u, o = some u ∧ RelV v u := by
  cases o with
  | none => exact (show False from r).elim
  | some u => exact ⟨u, rfl, r⟩
theorem RelO.none_of {o : Option Value} (r : RelO none o) : o = none := by
  cases o with
  | none => rfl
  | some u => exact (show False from r).elim
theorem handed_of {v : V} {u : Value} (r : RelV v u) : PySem.W.handedIn u = true := by
  cases v with
  | non => cases (show u = Value.none from r); rfl
  | bl b => cases (show u = Value.bool b from r); rfl
  | int i => obtain ⟨t, e⟩ := (show ∃ t, u = Value.int i t from r); cases e; rfl
  | str x => obtain ⟨t, e⟩ := (show ∃ t, u = Value.str x t from r); cases e; rfl
  | byt b => obtain ⟨t, e⟩ := (show ∃ t, u = Value.bytes b t from r); cases e; rfl
  | flt b => obtain ⟨t, e⟩ := (show ∃ t, u = Value.float b t from r); cases e; rfl
  | ref a => cases (show u = Value.ref a from r); rfl
  | ty n => cases (show u = Value.type n from r); rfl

section
variable {P : Program} {w : World} {H H' : Hp} {h h' : Heap} {a C dx : Addr} {fs fs' : List (Str × V)}
theorem ins_get (hok : HOk P w H h) (e : H a = some (.ins C dx fs)) : ∃ mA, ObjM h a dx C mA ∧ (∀ f, RelO (fs.lookup f) (mA f)) ∧ PySem.Within mA (fs.map (·.1)) ∧ fs.length ≤ 1000 ∧ H dx = some (.own a) := by
  obtain ⟨d, z, ne, ob, mA, n, r, q⟩ := (show ObjOk P w H h a (.ins C dx fs) from hok a _ e)
  exact ⟨mA, ⟨ob, n, ne⟩, r, q, z, d⟩
end

structure Cls (K : PySem.W.Frag) (C : Addr) : Prop where
  pg : PySem.W.plainGet K C Str.empty = true
  hd : PySem.W.hasDictIn K C = true
  po : PySem.W.plainOver K C = true
  sa : PySem.W.findIn K (.ref C) "__setattr__" = some (some (.builtin "object.__setattr__"))
theorem Cls.get {K : PySem.W.Frag} {C : Addr} (c : Cls K C) (f : Str) : PySem.W.plainGet K C f = true := c.pg
def NoAttr (K : PySem.W.Frag) (C : Addr) (f : Str) : Prop := PySem.W.findIn K (.ref C) f = some none
theorem NoAttr.taker {K : PySem.W.Frag} {C : Addr} {f : Str} (n : NoAttr K C f) : PySem.W.takerIn K C f = some none := by
  unfold PySem.W.takerIn
  rw [show PySem.W.findIn K (.ref C) f = some none from n]
  rfl
structure Meth (K : PySem.W.Frag) (C : Addr) (m : Str) (f : Addr) : Prop where
  at_ : PySem.W.findIn K (.ref C) m = some (some (.ref f))
  fn : PySem.W.isFn K (.ref f) = true
  kp : PySem.W.keepIn K (.ref f) = true

section
variable {X : Cx} {pins : List (Addr × Obj)} {σ : St} {H : Hp} {s : Shared} {a C dx : Addr} {fs : List (Str × V)} {f : Str} {v : V} {A : Around} {E : Value → Shared → Prop}

theorem getattr_ok {b : Bool} {Q : Value → Shared → Prop} (I : Inv X pins σ H s) (e : H a = some (.ins C dx fs)) (c : Cls X.K C) (n : NoAttr X.K C f) (l : fs.lookup f = some v)
    (h : ∀ u s', Inv X pins σ H s' → RelV v u → Q u s') : wpAny (model X.prog X.w) A (getAttr (.ref a) f b) Q E s := by
  obtain ⟨mA, O, r, _, _, _⟩ := ins_get I.hok e
  obtain ⟨u, hu, ru⟩ := RelO.some_of (v := v) (o := mA f) (by rw [← l]; exact r f)
  exact get_map I.kIn O (c.get f) c.hd n hu (handed_of ru) (h u _ (I.tok _) ru)

theorem getmeth_ok {m : Str} {g : Addr} {pl : Sem Bool} {Q : Value × List Value → Shared → Prop} (I : Inv X pins σ H s) (e : H a = some (.ins C dx fs)) (c : Cls X.K C) (k : Meth X.K C m g) (l : fs.lookup m = none)
    (h : Q (.ref g, [.ref a]) s) : wpAny (model X.prog X.w) A (getMethod (.ref a) m pl) Q E s := by
  obtain ⟨mA, O, r, _, _, _⟩ := ins_get I.hok e
  have hn : mA m = none := RelO.none_of (by rw [← l]; exact r m)
  exact get_meth I.kIn O (c.get m) k.at_ k.fn hn h

theorem setattr_ok {y : V} {u : Value} {Q : Unit → Shared → Prop} (I : Inv X pins σ H s) (e : H a = some (.ins C dx fs)) (c : Cls X.K C) (n : NoAttr X.K C f) (hl : fs.length < 1000) (ry : RelV y u)
    (h : ∀ s', Inv X pins σ (upd H a (.ins C dx (putF f y fs))) s' → Q () s') : wpAny (model X.prog X.w) A (setAttr (.ref a) f u) Q E s := by
  obtain ⟨mA, O, r, wi, _, ho⟩ := ins_get I.hok e
  have hz : (fs.map (·.1)).length ≤ sizeLine := by rw [List.length_map, sizeLine_eq]; omega
  refine set_map I.kIn O c.sa c.po n.taker c.hd wi hz fun h' O' sb => h _ ?_
  have hd : ∃ o, h'.get? dx = some o := let ⟨o, _, _, e', _⟩ := O'.ns; ⟨o, e'⟩
  refine I.write (x := a) (e := dx) (by rw [e]; exact True.intro) (.inr ho) (fun b q hb z => (sb.2 b hb).trans z) hd ?_
  refine ⟨by rw [upd_ne O.ne]; exact ho, ?_, O.ne, O'.obj, _, O'.ns, fun g => ?_, fun g hg => ?_⟩
  · have := length_putF f y fs; omega
  · show RelO ((putF f y fs).lookup g) (if g = f then some u else mA g)
    rw [lookup_putF]
    by_cases q : g = f
    · rw [if_pos q, if_pos q]; exact ry
    · rw [if_neg q, if_neg q]; exact r g
  · by_cases q : g = f
    · rw [q]; exact (keys_putF f y fs).1
    · refine (keys_putF f y fs).2 g (wi g fun z => hg ?_)
      show (if g = f then some u else mA g) = none
      rw [if_neg q]; exact z

theorem Inv.made (I : Inv X pins σ H s) : Inv X pins σ (upd (upd H s.heap.objs.size (.own (s.heap.objs.size + 1))) (s.heap.objs.size + 1) (.ins C s.heap.objs.size []))
    { s with heap := (s.heap.push PySem.W.emptyDict).push (PySem.W.instObj C s.heap.objs.size) } := by
  have e1 : (s.heap.push PySem.W.emptyDict).get? s.heap.objs.size = some PySem.W.emptyDict := Heap.get?_push_size s.heap rfl
  have e2 : ((s.heap.push PySem.W.emptyDict).push (PySem.W.instObj C s.heap.objs.size)).get? (s.heap.objs.size + 1) = some (PySem.W.instObj C s.heap.objs.size) := by
    have := Heap.get?_push_size (s.heap.push PySem.W.emptyDict) (o := PySem.W.instObj C s.heap.objs.size) rfl
    rwa [Heap.size_push] at this
  have e3 : (s.heap.push PySem.W.emptyDict).Ns s.heap.objs.size (fun _ => none) := ⟨PySem.W.emptyDict, #[], _, e1, rfl, (fun e he => absurd he (by simp)), fun _ => rfl⟩
  have I1 := I.laid (a := s.heap.objs.size) (o := .own (s.heap.objs.size + 1)) (h' := s.heap.push PySem.W.emptyDict) (t' := s.toks) (fun b u q => Heap.get?_push_of_some _ q) (Nat.le_refl _) ⟨_, e1⟩
  refine I1.laid (a := s.heap.objs.size + 1) (o := .ins C s.heap.objs.size []) (t' := s.toks) (fun b u q => Heap.get?_push_of_some _ q) (Nat.le_of_eq (Heap.size_push _ _)) ?_
  have ne : s.heap.objs.size ≠ s.heap.objs.size + 1 := Nat.ne_of_lt (Nat.lt_succ_self _)
  refine ⟨by rw [upd_ne ne, upd_same], Nat.zero_le _, ne, e2, fun _ => none, (Heap.Ns1.of_empty e3).at fun o q => Heap.get?_push_of_some _ q, fun _ => True.intro, fun y hy => absurd rfl hy⟩

theorem attr_of {prog : Program} {w : World} {env : Env} {e : Expr} {f : Str} {pos : Pos} {s : Shared} {Q : Value → Shared → Prop} (hb : attributeBase e f env (eval e env) = eval e env)
    (h : wpAny (model prog w) A (eval e env) (fun o s₁ => wpAny (model prog w) A (getAttr o f true) Q E s₁) E s) : wpAny (model prog w) A (eval (.Attribute e f pos) env) Q E s :=
  Attribute_any_ h (by rw [arm_eval_Attribute, hb])
end

def tFld (K : PySem.W.Frag) (ta : TE) (f : Str) : TE := fun σ H Q => ta σ H fun x H1 => ∃ a C dx fs v, x = .ref a ∧ H1 a = some (.ins C dx fs) ∧ Cls K C ∧ NoAttr K C f ∧ fs.lookup f = some v ∧ Q v H1
def sFld (K : PySem.W.Frag) (ta tv : TE) (f : Str) : TS := fun D σ H => tv σ H fun y H1 => ta σ H1 fun x H2 => ∃ a C dx fs, x = .ref a ∧ H2 a = some (.ins C dx fs) ∧ Cls K C ∧ NoAttr K C f ∧ fs.length < 1000 ∧
  D.nx σ (upd H2 a (.ins C dx (putF f y fs)))
def InOp (X : Cx) (op : Operator) (rd : V → V → Hp → VK → Prop) : Prop :=
  ∀ (pins : List (Addr × Obj)) (s : Shared) (σ : St) (H : Hp) (x y : V) (u v : Value) (Q : VK), Inv X pins σ H s → RelV x u → RelV y v → rd x y H Q → wpAny (model X.prog X.w) X.A (inplaceOp op u v) (EP X pins σ Q) X.xe s
def sFldAug (K : PySem.W.Frag) (ta tv : TE) (rd : V → V → Hp → VK → Prop) (f : Str) : TS := fun D σ H => ta σ H fun x H1 => ∃ a C dx fs v, x = .ref a ∧ H1 a = some (.ins C dx fs) ∧ Cls K C ∧ NoAttr K C f ∧ fs.lookup f = some v ∧
  tv σ H1 fun y H2 => rd v y H2 fun z H3 => ∃ dx' fs', H3 a = some (.ins C dx' fs') ∧ fs'.length < 1000 ∧ D.nx σ (upd H3 a (.ins C dx' (putF f z fs')))

section
variable {X : Cx} {o e value : Expr} {f : Str} {pos pos' tpos : Pos} {ta tv : TE}
theorem pe_fld (he : PE X e ta) (hb : attributeBase e f X.env (eval e X.env) = eval e X.env) : PE X (.Attribute e f pos) (tFld X.K ta f) := by
  intro pins s σ H Q I h
  refine attr_of hb (thn (he pins s σ H _ I h) fun u s1 ⟨x, H1, I1, rx, a, C, dx, fs, v, ex, ea, c, n, l, q⟩ => ?_)
  subst ex
  obtain rfl : u = Value.ref a := rx
  exact getattr_ok I1 ea c n l fun u' s2 I2 ru => ⟨v, H1, I2, ru, q⟩
theorem ps_fld (ha : PE X o ta) (hv : PE X value tv) (hs : swapsWith value (some (.Attribute o f pos')) pos.line X.env = pure false) : PS X (.Assign [.Attribute o f pos'] value pos) (sFld X.K ta tv f) := by
  intro pins s σ H D I h
  refine plainObj_wpAny_Assign_Attribute (thn (hv pins s σ H _ I h) fun u s1 ⟨y, H1, I1, ry, q⟩ => thn (ha pins s1 σ H1 _ I1 q) fun ov s2 ⟨x, H2, I2, rx, a, C, dx, fs, ex, ea, c, n, l, q2⟩ => ?_) hs
  subst ex
  obtain rfl : ov = Value.ref a := rx
  exact setattr_ok I2 ea c n l ry fun s3 I3 => ⟨σ, _, I3, q2⟩
theorem ps_fldaug {op : Operator} {rd : V → V → Hp → VK → Prop} (ha : PE X o ta) (hv : PE X value tv) (hop : InOp X op rd) : PS X (.AugAssign (.Attribute o f tpos) op value pos) (sFldAug X.K ta tv rd f) := by
  intro pins s σ H D I h
  refine wpAny_AugAssign_AttributeAny (thn (ha pins s σ H _ I h) fun ov s1 ⟨x, H1, I1, rx, a, C, dx, fs, v, ex, ea, c, n, l, q⟩ => ?_)
  subst ex
  obtain rfl : ov = Value.ref a := rx
  refine getattr_ok I1 ea c n l fun u s2 I2 ru => thn (hv pins s2 σ H1 _ I2 q) fun w3 s3 ⟨y, H2, I3, ry, q3⟩ => thn (hop pins s3 σ H2 v y u w3 _ I3 ru ry q3) fun w4 s4 ⟨z, H3, I4, rz, dx', fs', ea', l', q4⟩ => ?_
  exact setattr_ok I4 ea' c n l' rz fun s5 I5 => ⟨σ, _, I5, q4⟩
def rAdd : V → V → Hp → VK → Prop := fun x y H Q => ∃ i j, x = .int i ∧ y = .int j ∧ Q (.int (i + j)) H
theorem in_add : InOp X .Add rAdd := by
  rintro pins s σ H x y u v Q I rx ry ⟨i, j, rfl, rfl, q⟩
  obtain ⟨t, rfl⟩ := (show ∃ t, u = Value.int i t from rx)
  obtain ⟨t', rfl⟩ := (show ∃ t', v = Value.int j t' from ry)
  exact PyProof.Rows.iadd_int ⟨.int (i + j), H, I.tok _, ⟨_, rfl⟩, q⟩
theorem methcall_of {pl : Sem Bool} {m : Str} {apos : Pos} {args : List Expr} {pins : List (Addr × Obj)} {s : Shared} {σ : St} {H : Hp} {Q : Value → Shared → Prop} {te : TE} (he : PE X e te) (I : Inv X pins σ H s)
    (h : te σ H fun x H1 => ∃ a C dx fs g, x = .ref a ∧ H1 a = some (.ins C dx fs) ∧ Cls X.K C ∧ Meth X.K C m g ∧ fs.lookup m = none ∧
      ∀ s1, Inv X pins σ H1 s1 → wpAny (model X.prog X.w) X.A (callWith pos (.ref g) [.ref a] (backTo pos (starEach args X.env)) (backToKw pos (keywordEach [] X.env))) Q X.xe s1)
    (ht : eval (.Call (.Attribute e m apos) args [] pos) X.env = (do
      let ov ← eval e X.env
      standAt apos.atName
      let (f, first) ← holding [ov] (getMethod ov m pl)
      callWith pos f first (backTo pos (starEach args X.env)) (backToKw pos (keywordEach [] X.env)))) :
    wpAny (model X.prog X.w) X.A (eval (.Call (.Attribute e m apos) args [] pos) X.env) Q X.xe s := by
  refine PySem.W.methodCall_KW (pl := pl) (thn (he pins s σ H _ I h) fun u s1 ⟨x, H1, I1, rx, a, C, dx, fs, g, ex, ea, c, k, l, q⟩ => ?_) ht
  subst ex
  obtain rfl : u = Value.ref a := rx
  exact getmeth_ok I1 ea c k l (q s1 I1)
end

section
variable {X : Cx} {pins : List (Addr × Obj)} {σ : St} {H : Hp} {s : Shared} {A : Around} {E : Value → Shared → Prop} {Q : Value → Shared → Prop} {c : Value} {b : Bool}
end
end L2

namespace L2
open PySem PySem.Spec PyProof.Rows

structure Room (k : Nat) (A : Around) : Prop where
  hd : A.handled = none
  dp : A.depth + 3 * k + 5 < recursionLimit
  un : A.units + 16 * k + 200 < cLine
theorem Room.mono {j k : Nat} {A : Around} (r : Room k A) (h : j ≤ k) : Room j A := ⟨r.hd, by have := r.dp; omega, by have := r.un; omega⟩
theorem Room.deeper {k : Nat} {A : Around} (r : Room (k + 1) A) (env : Env) : Room k (A.deeper env) :=
  ⟨r.hd, by have := r.dp; show A.depth + 1 + 3 * k + 5 < _; omega, by have := r.un; show A.units + 3 + 16 * k + 200 < _; omega⟩
theorem make_depth {A : Around} {C : Addr} {us : List Value} {kw : List (Str × Value)} : (A.under (.builtin "type.__call__" ⟨.ref C :: us, kw⟩)).depth = A.depth + 1 := by
  first | rfl | simp [Around.under, Code.weight, Code.isCreation, Code.isGuard, Code.isCaller, Code.frames, Code.isFrame, guardIds]
theorem make_units {A : Around} {C : Addr} {us : List Value} {kw : List (Str × Value)} : (A.under (.builtin "type.__call__" ⟨.ref C :: us, kw⟩)).units = A.units + 1 := by
  first | rfl | simp [Around.under, Code.cUnits, Code.frames, Code.isFrame]
theorem Room.make {k : Nat} {A : Around} (r : Room (k + 1) A) (C : Addr) (us : List Value) (kw : List (Str × Value)) : Room k (A.under (.builtin "type.__call__" ⟨.ref C :: us, kw⟩)) :=
  ⟨r.hd, by have := r.dp; rw [make_depth]; omega, by have := r.un; rw [make_units]; omega⟩
theorem Room.depth {k : Nat} {A : Around} (r : Room k A) : A.depth < recursionLimit := by have := r.dp; omega
theorem Room.units {k : Nat} {A : Around} (r : Room k A) : A.units + 64 < cLine := by have := r.un; omega
def tNil : TA := fun _ H Q => Q [] H
def tCons (ta : TE) (tr : TA) : TA := fun σ H Q => ta σ H fun x H1 => tr σ H1 fun xs H2 => Q (x :: xs) H2
section
variable {X : Cx} {e : Expr} {es : List Expr} {te : TE} {t : TA} {pos : Pos}
theorem pa_nil : PA X [] tNil := fun _ _ _ _ H Q I h => Calls.spliced_nil ⟨[], H, I, .nil, h⟩
theorem pa_cons (ha : PE X e te) (hr : PA X es t) (hs : starEach (e :: es) X.env = (false, eval e X.env) :: starEach es X.env := by rfl) : PA X (e :: es) (tCons te t) := by
  intro pos pins s σ H Q I h
  rw [hs]
  show wpAny _ _ (spliced ((false, eval e X.env) :: backTo pos (starEach es X.env))) _ _ s
  refine Calls.spliced_cons (thn (ha pins s σ H _ I h) fun u s1 ⟨x, H1, I1, r1, q1⟩ => ?_)
  exact thn (hr pos pins s1 σ H1 _ I1 q1) fun us s2 ⟨xs, H2, I2, r2, q2⟩ => ⟨x :: xs, H2, I2, .cons r1 r2, q2⟩

def tTup (t : TA) : TE := fun σ H Q => t σ H fun xs H1 => xs.length ≤ sizeLine ∧ ∀ p, H1 p = none → Q (.ref p) (upd H1 p (.tup xs))
def tLst (t : TA) : TE := fun σ H Q => t σ H fun xs H1 => xs.length ≤ sizeLine ∧ ∀ p, H1 p = none → Q (.ref p) (upd H1 p (.lst xs))
theorem pe_tup {x1} (h : PA X es t) : PE X (.Tuple es x1 pos) (tTup t) := by
  intro pins s σ H Q I hq
  refine wpAny_Tuple_spliced (thn (h pos pins s σ H _ I hq) fun us s1 ⟨xs, H1, I1, r, z, q⟩ => ⟨by rw [← r.length]; exact z, ?_⟩)
  have hf : H1 s1.heap.objs.size = none := I1.hok.fresh (Nat.le_refl _)
  refine ⟨.ref s1.heap.objs.size, upd H1 s1.heap.objs.size (.tup xs), I1.laid (t' := s1.toks) (fun b u e => Heap.get?_push_of_some _ e) (Nat.le_refl _) ?_, rfl, q _ hf⟩
  exact ⟨z, us, r, ⟨_, Heap.get?_push_size _ rfl, rfl, _, rfl⟩⟩
theorem pe_lst (h : PA X es t) : PE X (.List es pos) (tLst t) := by
  intro pins s σ H Q I hq
  refine wpAny_List_spliced (thn (h pos pins s σ H _ I hq) fun us s1 ⟨xs, H1, I1, r, z, q⟩ => ⟨by rw [← r.length]; exact z, ?_⟩)
  have hf : H1 s1.heap.objs.size = none := I1.hok.fresh (Nat.le_refl _)
  refine ⟨.ref s1.heap.objs.size, upd H1 s1.heap.objs.size (.lst xs), I1.laid (t' := s1.toks) (fun b u e => Heap.get?_push_of_some _ e) (Nat.le_refl _) ?_, rfl, q _ hf⟩
  exact ⟨z, us, 0, r, Heap.get?_push_size _ rfl⟩
end

abbrev Sp := List V → Hp → VK → XK → Prop
abbrev CXT := List Env → Hp → Shared → XK → Value → Shared → Prop

structure Env0 (P : Program) (w : World) (K : PySem.W.Frag) (mg : Str → Option Value) (base : Heap) (A : Around) (outer : List Env) (s : Shared) (H : Hp) : Prop where
  frames : A.frames = some outer
  mod : Mod K mg base
  bs : ∀ b o, base.get? b = some o → s.heap.get? b = some o ∧ H b = none
  bsz : base.objs.size ≤ s.heap.objs.size
  funs : s.heap.FunFrames base outer
  frf : ∀ b ∈ frs outer, H b = none
  hok : HOk P w H s.heap
  bare : AllBare s.gens
def CE (outer : List Env) (P : Program) (w : World) (H : Hp) (s : Shared) (Q : VK) (u : Value) (s' : Shared) : Prop :=
  ∃ v H', s'.os = s.os ∧ AllBare s'.gens ∧ Un (frs outer) [] H H' s.heap s'.heap ∧ HOk P w H' s'.heap ∧ RelV v u ∧ Q v H'
def CR (CX : CXT) (outer : List Env) (P : Program) (w : World) (H : Hp) (s : Shared) (Q : VK) (E : XK) (r : Result) (s' : Shared) : Prop :=
  match r with
  | .ok (.ret u) => CE outer P w H s Q u s'
  | .ok _ => False
  | .error e => CX outer H s E e s'
structure FnOk (P : Program) (w : World) (K : PySem.W.Frag) (mg : Str → Option Value) (base : Heap) (CX : CXT) (k : Nat) (f : Addr) (fd : FuncData) (ps : List Str) (sp : Sp) : Prop where
  len : ∀ vs H Q E, sp vs H Q E → vs.length = ps.length
  run : ∀ (A : Around) (outer : List Env) (s : Shared) (H : Hp) (args : Args) (us : List Value) (vs : List V) (Q : VK) (E : XK), Room k A → Env0 P w K mg base A outer s H → BindsTo s fd args (ps.zip us) → Vals vs us → sp vs H Q E →
    codeAny (model P w) A (.call (.ref f) args) (CR CX outer P w H s Q E) s
theorem Env0.make {P : Program} {w : World} {K : PySem.W.Frag} {mg : Str → Option Value} {base : Heap} {A : Around} {outer : List Env} {s : Shared} {H : Hp} (e : Env0 P w K mg base A outer s H) (C : Addr) (us : List Value) (kw : List (Str × Value)) :
    Env0 P w K mg base (A.under (.builtin "type.__call__" ⟨.ref C :: us, kw⟩)) outer s H := ⟨by first | exact e.frames | (simpa [Around.under, Code.envs, Code.isFrame, pushEnvs] using e.frames), e.mod, e.bs, e.bsz, e.funs, e.frf, e.hok, e.bare⟩
section
variable {X : Cx} {pins : List (Addr × Obj)} {σ : St} {H : Hp} {s s' : Shared}
theorem Inv.env0 (I : Inv X pins σ H s) : Env0 X.prog X.w X.K X.mg X.base X.A X.stack s H :=
  ⟨I.ok.frames, I.ok.mod, I.bs, Nat.le_trans I.ok.bsz I.sz, I.stack, I.stkFree, I.hok, I.bare⟩
theorem Inv.after {Q : VK} {u : Value} (I : Inv X pins σ H s) (h : CE X.stack X.prog X.w H s Q u s') : EP X pins σ Q u s' := by
  obtain ⟨v, H', os, bare, un, hok, r, q⟩ := h
  obtain ⟨hh, g, d, t, os'⟩ := s'
  obtain rfl : os' = s.os := os
  exact ⟨v, H', I.call (h' := hh) (g' := g) (d' := d) (t' := t) (ch := []) un hok bare (fun b z => absurd z (by simp)), r, q⟩
end

def tCall (sp : Sp) (dvs : List V) (E : XK) (t : TA) : TE := fun σ H Q => t σ H fun vs H1 => sp (vs ++ dvs) H1 Q E
def tMeth (C : Addr) (m : Str) (sp : Sp) (dvs : List V) (E : XK) (ta : TE) (t : TA) : TE := fun σ H Q => ta σ H fun x H1 => ∃ a dx fs, x = .ref a ∧ H1 a = some (.ins C dx fs) ∧ fs.lookup m = none ∧
  t σ H1 fun vs H2 => sp (x :: (vs ++ dvs)) H2 Q E
def tMake (C : Addr) (sp : Sp) (dvs : List V) (E : XK) (t : TA) : TE := fun σ H Q => t σ H fun vs H1 => ∀ x dx, H1 x = none → H1 dx = none → dx ≠ x →
  sp (.ref x :: (vs ++ dvs)) (upd (upd H1 dx (.own x)) x (.ins C dx [])) (fun v H2 => v = .non ∧ Q (.ref x) H2) E

def Binds (K : PySem.W.Frag) (fd : FuncData) (ps : List Str) (ds : List Value) : Prop :=
  ∀ (s : Shared) (us : List Value), K.In s.heap → (us ++ ds).length = ps.length → BindsTo s fd ⟨us, []⟩ (ps.zip (us ++ ds))
theorem Binds.all {K : PySem.W.Frag} {fd : FuncData} {ps : List Str} (h : ∀ us : List Value, us.length = ps.length → bindArgs fd ⟨us, []⟩ = pure (ps.zip us)) : Binds K fd ps [] := fun s us _ hl => by
  rw [List.append_nil] at hl ⊢
  exact .of_eq (h us hl)

def Passes (CX : CXT) (X : Cx) (E : XK) : Prop := ∀ (pins : List (Addr × Obj)) (σ : St) (H : Hp) (s : Shared) (e : Value) (s' : Shared), Inv X pins σ H s → CX X.stack H s E e s' → X.xe e s'

section
variable {X : Cx} {CX : CXT} {k : Nat} {f C : Addr} {fd : FuncData} {ps : List Str} {sp : Sp} {dvs : List V} {ds : List Value} {E : XK} {x m : Str} {p pos apos : Pos} {e o : Expr} {es : List Expr} {ta : TE} {t : TA}

theorem run_fn {pins : List (Addr × Obj)} {σ : St} {H : Hp} {s : Shared} {Q : VK} {us : List Value} {vs : List V} (F : FnOk X.prog X.w X.K X.mg X.base CX k f fd ps sp) (hr : Room k X.A) (hb : Binds X.K fd ps ds) (hd : Vals dvs ds) (hx : Passes CX X E)
    (I : Inv X pins σ H s) (r : Vals vs us) (h : sp (vs ++ dvs) H Q E) : wpAny (model X.prog X.w) X.A (call (.ref f) us) (EP X pins σ Q) X.xe s := by
  have r2 : Vals (vs ++ dvs) (us ++ ds) := r.append hd
  have hl : (us ++ ds).length = ps.length := by rw [← r2.length]; exact F.len _ _ _ _ h
  refine wpAny_call (codeAny_mono (F.run X.A X.stack s H ⟨us, []⟩ (us ++ ds) (vs ++ dvs) Q E hr I.env0 (hb s us I.kIn hl) r2 h) fun r s' hq => ?_)
  cases r with
  | error e => exact hx pins σ H s e s' I hq
  | ok fl =>
    cases fl with
    | ret u => exact I.after hq
    | next => exact False.elim hq
    | brk => exact False.elim hq
    | cont => exact False.elim hq

theorem pe_call (F : FnOk X.prog X.w X.K X.mg X.base CX k f fd ps sp) (hr : Room k X.A) (hg : Gl X x) (hm : X.mg x = some (.ref f)) (hk : PySem.W.keepIn X.K (.ref f) = true) (hb : Binds X.K fd ps ds) (hd : Vals dvs ds) (hx : Passes CX X E)
    (ha : PA X (e :: es) t) (hdb : (x == ("__debug__" : Str)) = false := by decide) (he : starEach (e :: es) X.env = (false, eval e X.env) :: starEach es X.env := by rfl) (hpl : (backTo pos (starEach es X.env)).any (·.1) = false := by rfl) :
    PE X (.Call (.Name x p) (e :: es) [] pos) (tCall sp dvs E t) := by
  intro pins s σ H Q I h
  refine wpAny_Call_Name_kw (ld_glob I hg hm ?_ hdb)
  refine PySem.W.callWith_K (h₀ := X.base) I.ok.mod.kin hk (thn (ha pos pins s σ H _ I h) fun us s1 ⟨vs, H1, I1, r, q⟩ => ⟨I1.kIn, ?_⟩) he hpl
  exact run_fn F hr hb hd hx I1 r q
theorem pe_meth {pl : Sem Bool} (he : PE X o ta) (c : Cls X.K C) (hm : Meth X.K C m f) (F : FnOk X.prog X.w X.K X.mg X.base CX k f fd ps sp) (hr : Room k X.A) (hb : Binds X.K fd ps ds) (hd : Vals dvs ds) (hx : Passes CX X E) (ha : PA X (e :: es) t)
    (hst : starEach (e :: es) X.env = (false, eval e X.env) :: starEach es X.env := by rfl) (hpl : (backTo pos (starEach es X.env)).any (·.1) = false := by rfl)
    (ht : eval (.Call (.Attribute o m apos) (e :: es) [] pos) X.env = (do
      let ov ← eval o X.env
      standAt apos.atName
      let (f, first) ← holding [ov] (getMethod ov m pl)
      callWith pos f first (backTo pos (starEach (e :: es) X.env)) (backToKw pos (keywordEach [] X.env))) := by rfl) :
    PE X (.Call (.Attribute o m apos) (e :: es) [] pos) (tMeth C m sp dvs E ta t) := by
  intro pins s σ H Q I h
  refine PySem.W.methodCall_KW (pl := pl) (thn (he pins s σ H _ I h) fun u s1 ⟨x, H1, I1, rx, a, dx, fs, ex, ea, l, q⟩ => ?_) ht
  subst ex
  obtain rfl : u = Value.ref a := rx
  refine getmeth_ok I1 ea c hm l ?_
  refine PySem.W.callWith_K (first := [.ref a]) (h₀ := X.base) I.ok.mod.kin hm.kp (thn (ha pos pins s1 σ H1 _ I1 q) fun us s2 ⟨vs, H2, I2, r, q2⟩ => ⟨I2.kIn, ?_⟩) hst hpl
  exact run_fn (us := .ref a :: us) (vs := .ref a :: vs) F hr hb hd hx I2 (.cons rfl r) q2
theorem pe_meth0 {pl : Sem Bool} (he : PE X o ta) (c : Cls X.K C) (hm : Meth X.K C m f) (F : FnOk X.prog X.w X.K X.mg X.base CX k f fd ps sp) (hr : Room k X.A) (hb : Binds X.K fd ps ds) (hd : Vals dvs ds) (hx : Passes CX X E)
    (ht : eval (.Call (.Attribute o m apos) [] [] pos) X.env = (do
      let ov ← eval o X.env
      standAt apos.atName
      let (f, first) ← holding [ov] (getMethod ov m pl)
      callWith pos f first (backTo pos (starEach [] X.env)) (backToKw pos (keywordEach [] X.env))) := by rfl) :
    PE X (.Call (.Attribute o m apos) [] [] pos) (tMeth C m sp dvs E ta tNil) := by
  intro pins s σ H Q I h
  refine PySem.W.methodCall_KW (pl := pl) (thn (he pins s σ H _ I h) fun u s1 ⟨x, H1, I1, rx, a, dx, fs, ex, ea, l, q⟩ => ?_) ht
  subst ex
  obtain rfl : u = Value.ref a := rx
  refine getmeth_ok I1 ea c hm l ?_
  exact PySem.W.callWith_K0 (first := [.ref a]) I1.kIn hm.kp (run_fn (us := [.ref a]) (vs := [.ref a]) F hr hb hd hx I1 (.cons rfl .nil) q)

structure Mk (K : PySem.W.Frag) (C f : Addr) : Prop where
  makes : PySem.W.makesIn K C = true
  init : PySem.W.findIn K (.ref C) "__init__" = some (some (.ref f))
  fn : PySem.W.isFn K (.ref f) = true
  kp : PySem.W.keepIn K (.ref C) = true

theorem run_make {pins : List (Addr × Obj)} {σ : St} {H : Hp} {s : Shared} {Q : VK} {us : List Value} {vs : List V} (M : Mk X.K C f) (F : FnOk X.prog X.w X.K X.mg X.base CX k f fd ps sp) (hr : Room (k + 1) X.A) (hb : Binds X.K fd ps ds) (hd : Vals dvs ds)
    (hx : Passes CX X E) (I : Inv X pins σ H s) (r : Vals vs us)
    (h : ∀ x dx, H x = none → H dx = none → dx ≠ x → sp (.ref x :: (vs ++ dvs)) (upd (upd H dx (.own x)) x (.ins C dx [])) (fun v H2 => v = .non ∧ Q (.ref x) H2) E) :
    wpAny (model X.prog X.w) X.A (call (.ref C) us) (EP X pins σ Q) X.xe s := by
  have hq := h (s.heap.objs.size + 1) s.heap.objs.size (I.hok.fresh (Nat.le_succ _)) (I.hok.fresh (Nat.le_refl _)) (Nat.ne_of_lt (Nat.lt_succ_self _))
  have I2 := Inv.made (C := C) I
  have r2 : Vals (V.ref (s.heap.objs.size + 1) :: (vs ++ dvs)) (Value.ref (s.heap.objs.size + 1) :: (us ++ ds)) := .cons rfl (r.append hd)
  have hl : (Value.ref (s.heap.objs.size + 1) :: us ++ ds).length = ps.length := by
    have e := r2.length
    rw [F.len _ _ _ _ hq] at e
    exact e.symm
  refine wpAny_call (make_map (f := f) I.kIn M.makes M.init (beq_iff_eq.mp M.fn) (codeAny_mono (F.run _ X.stack _ _ ⟨Value.ref (s.heap.objs.size + 1) :: us, []⟩ (Value.ref (s.heap.objs.size + 1) :: (us ++ ds)) _ _ E (hr.make C us [])
    (I2.env0.make C us []) (hb _ (Value.ref (s.heap.objs.size + 1) :: us) I2.kIn hl) r2 hq) fun r s' hq' => ?_))
  cases r with
  | error e => exact hx pins σ _ _ e s' I2 hq'
  | ok fl =>
    cases fl with
    | ret u =>
      obtain ⟨v, H', I3, rv, ev, q3⟩ := I2.after hq'
      subst ev
      exact ⟨rv, ⟨V.ref (s.heap.objs.size + 1), H', I3, rfl, q3⟩⟩
    | next => exact False.elim hq'
    | brk => exact False.elim hq'
    | cont => exact False.elim hq'
theorem pe_make (M : Mk X.K C f) (F : FnOk X.prog X.w X.K X.mg X.base CX k f fd ps sp) (hr : Room (k + 1) X.A) (hg : Gl X x) (hm : X.mg x = some (.ref C)) (hb : Binds X.K fd ps ds) (hd : Vals dvs ds) (hx : Passes CX X E)
    (ha : PA X (e :: es) t) (hdb : (x == ("__debug__" : Str)) = false := by decide) (he : starEach (e :: es) X.env = (false, eval e X.env) :: starEach es X.env := by rfl) (hpl : (backTo pos (starEach es X.env)).any (·.1) = false := by rfl) :
    PE X (.Call (.Name x p) (e :: es) [] pos) (tMake C sp dvs E t) := by
  intro pins s σ H Q I h
  refine wpAny_Call_Name_kw (ld_glob I hg hm ?_ hdb)
  refine PySem.W.callWith_K (h₀ := X.base) I.ok.mod.kin M.kp (thn (ha pos pins s σ H _ I h) fun us s1 ⟨vs, H1, I1, r, q⟩ => ⟨I1.kIn, ?_⟩) he hpl
  exact run_make M F hr hb hd hx I1 r q
theorem pe_make0 (M : Mk X.K C f) (F : FnOk X.prog X.w X.K X.mg X.base CX k f fd ps sp) (hr : Room (k + 1) X.A) (hg : Gl X x) (hm : X.mg x = some (.ref C)) (hb : Binds X.K fd ps ds) (hd : Vals dvs ds) (hx : Passes CX X E)
    (hdb : (x == ("__debug__" : Str)) = false := by decide) : PE X (.Call (.Name x p) [] [] pos) (tMake C sp dvs E tNil) := by
  intro pins s σ H Q I h
  refine wpAny_Call_Name_kw (ld_glob I hg hm ?_ hdb)
  exact PySem.W.callWith_K0 I.kIn M.kp (run_make (us := []) M F hr hb hd hx I .nil h)
end

def PK (X : Cx) (kws : List Keyword) (t : TA) : Prop :=
  ∀ (pos : Pos) (pins : List (Addr × Obj)) (s : Shared) (σ : St) (H : Hp) (Q : List V → Hp → Prop), Inv X pins σ H s → t σ H Q → wpAny (model X.prog X.w) X.A (evalAll ((backToKw pos (keywordEach kws X.env)).map (·.2))) (AP X pins σ Q) X.xe s
section
variable {X : Cx} {CX : CXT} {k : Nat} {f C : Addr} {fd : FuncData} {ps ks : List Str} {sp : Sp} {E : XK} {x m : Str} {p pos apos kpos : Pos} {e o : Expr} {es : List Expr} {kws : List Keyword} {te ta : TE} {t tk : TA} {nm : Option Str}
theorem pk_nil : PK X [] tNil := fun _ _ _ _ H Q I h => wpAny_evalAll_nil ⟨[], H, I, .nil, h⟩
theorem pk_cons (ha : PE X e te) (hr : PK X kws t) : PK X (⟨nm, e, kpos⟩ :: kws) (tCons te t) := by
  intro pos pins s σ H Q I h
  show wpAny _ _ (evalAll ((do let v ← eval e X.env; standAt pos; pure v) :: (backToKw pos (keywordEach kws X.env)).map (·.2))) _ _ s
  refine wpAny_evalAll_cons (wpAny_bind (thn (ha pins s σ H _ I h) fun u s1 ⟨x, H1, I1, r1, q1⟩ => wpAny_bind (wpAny_standAt (wpAny_pure ?_))))
  exact thn (hr pos pins s1 σ H1 _ I1 q1) fun us s2 ⟨xs, H2, I2, r2, q2⟩ => ⟨x :: xs, H2, I2, .cons r1 r2, q2⟩

variable {g : List Value → List Value → List Value} {gV : List V → List V → List V}
end

structure FnScope (N P : List Str) (sc : Scope) : Prop where
  kind : sc.kind = .function
  co : sc.isCoroutine = false
  gen : sc.isGenerator = false
  nd : N.Nodup
  pre : N.take P.length = P
  par : ∀ x ∈ P, sc.names.lookup x = some .local ∨ sc.names.lookup x = some .cell
  nofree : ∀ y ∈ sc.names, y.2 ≠ .free

theorem bindL_out {kindOf : Str → Option NameKind} {x : Str} : ∀ {binds : List (Str × Value)} {m : Str → Option Value}, (∀ v, (x, v) ∉ binds) → bindL kindOf binds m x = m x
  | [], _, _ => rfl
  | (n, v) :: r, m, h => by
    unfold bindL
    rw [bindL_out fun w hw => h w (List.mem_cons_of_mem _ hw)]
    split
    · have : x ≠ n := by rintro rfl; exact h v List.mem_cons_self
      simp [this]
    · rfl
theorem bindC_out {kindOf : Str → Option NameKind} {x : Str} : ∀ {binds : List (Str × Value)} {m : Str → Option Value}, (∀ v, (x, v) ∉ binds) → bindC kindOf binds m x = m x
  | [], _, _ => rfl
  | (n, v) :: r, m, h => by
    unfold bindC
    rw [bindC_out fun w hw => h w (List.mem_cons_of_mem _ hw)]
    split
    · rfl
    · have : x ≠ n := by rintro rfl; exact h v List.mem_cons_self
      simp [this]
theorem bindL_get {kindOf : Str → Option NameKind} {x : Str} {v : Value} : ∀ {P : List Str} {vs : List Value} {i : Nat} {m : Str → Option Value}, P.Nodup → P[i]? = some x → vs[i]? = some v → kindOf x = some .local →
    bindL kindOf (P.zip vs) m x = some v
  | [], _, _, _, _, h, _, _ => by simp at h
  | _ :: _, [], _, _, _, _, h, _ => by simp at h
  | p :: P, w :: vs, 0, m, nd, h1, h2, hk => by
    simp at h1 h2; subst h1; subst h2
    show bindL kindOf ((p, w) :: P.zip vs) m p = _
    unfold bindL
    rw [bindL_out fun v hv => (List.nodup_cons.mp nd).1 (List.of_mem_zip hv).1, if_pos hk]
    simp
  | p :: P, w :: vs, i + 1, m, nd, h1, h2, hk => by
    show bindL kindOf ((p, w) :: P.zip vs) m x = _
    unfold bindL
    exact bindL_get (i := i) (List.nodup_cons.mp nd).2 (by simpa using h1) (by simpa using h2) hk
theorem bindC_get {kindOf : Str → Option NameKind} {x : Str} {v : Value} : ∀ {P : List Str} {vs : List Value} {i : Nat} {m : Str → Option Value}, P.Nodup → P[i]? = some x → vs[i]? = some v → kindOf x ≠ some .local →
    bindC kindOf (P.zip vs) m x = some v
  | [], _, _, _, _, h, _, _ => by simp at h
  | _ :: _, [], _, _, _, _, h, _ => by simp at h
  | p :: P, w :: vs, 0, m, nd, h1, h2, hk => by
    simp at h1 h2; subst h1; subst h2
    show bindC kindOf ((p, w) :: P.zip vs) m p = _
    unfold bindC
    rw [bindC_out fun v hv => (List.nodup_cons.mp nd).1 (List.of_mem_zip hv).1, if_neg hk]
    simp
  | p :: P, w :: vs, i + 1, m, nd, h1, h2, hk => by
    show bindC kindOf ((p, w) :: P.zip vs) m x = _
    unfold bindC
    exact bindC_get (i := i) (List.nodup_cons.mp nd).2 (by simpa using h1) (by simpa using h2) hk

def start (N : List Str) (vs : List V) : St := vs.map some ++ List.replicate (N.length - vs.length) none

def cxOf (CX : CXT) (P : Program) (w : World) (K : PySem.W.Frag) (mg : Str → Option Value) (base : Heap) (N : List Str) (qual : Str) (scope : Scope) (f : Addr) (cd : Value) (A : Around) (outer : List Env) (s : Shared) (H : Hp) (E : XK) : Cx where
  prog := P
  w := w
  K := K
  mg := mg
  base := base
  A := A.deeper (envOfC qual scope s.heap.objs.size f cd)
  N := N
  s_0 := s
  H_0 := H
  env := envOfC qual scope s.heap.objs.size f cd
  outer := outer
  stack := envOfC qual scope s.heap.objs.size f cd :: outer
  ex := []
  calm := true
  fn := fun _ => true
  pn := []
  xe := fun e s' => wpAny (model P w) (A.deeper (envOfC qual scope s.heap.objs.size f cd)) (leaving (envOfC qual scope s.heap.objs.size f cd) e) (fun _ s'' => CX outer H s E e s'') (fun e' s'' => CX outer H s E e' s'') s'

theorem cell_has {sc : Scope} {n : Nat} {x : Str} (h : sc.names.lookup x = some .cell) : ∃ c, (cellsFrom n sc.names []).lookup x = some c := by
  have q := PySem.W.cellsFrom_some sc.names n [] (.inl h)
  exact Option.isSome_iff_exists.mp q

theorem inv_start {CX : CXT} {P : Program} {w : World} {K : PySem.W.Frag} {mg : Str → Option Value} {base : Heap} {N ps : List Str} {qual : Str} {scope : Scope} {f : Addr} {cd : Value} {A : Around} {outer : List Env} {s s1 : Shared} {H : Hp} {E : XK} {us : List Value} {vs : List V}
    (S : FnScope N ps scope) (hd : A.handled = none) (e0 : Env0 P w K mg base A outer s H) (hl : vs.length = ps.length) (r : Vals vs us)
    (x : InCallC s s.heap.objs.size (bindL (envOfC qual scope s.heap.objs.size f cd).kindOf (ps.zip us) fun _ => none) (cellsFrom (s.heap.objs.size + 1) scope.names []) (bindC (envOfC qual scope s.heap.objs.size f cd).kindOf (ps.zip us) fun _ => none) s1) :
    Inv (cxOf CX P w K mg base N qual scope f cd A outer s H E) [] (start N vs) H s1 := by
  have hpl : ps.length ≤ N.length := by have := congrArg List.length S.pre; rw [List.length_take] at this; omega
  obtain ⟨h1, tk, rfl, hk⟩ := x.done
  have noA : ∀ b : Addr, b ∉ (cxOf CX P w K mg base N qual scope f cd A outer s H E).ex := fun b z => absurd (show b ∈ ([] : List Addr) from z) (by simp)
  refine ⟨⟨e0.mod, S.kind, rfl, rfl, Nat.le_refl _, fun y z c h1 h2 => ?_, fun y hy => ?_, fun y c _ h => ?_, fun _ => hd, Around.frames_deeper e0.frames, .inr ⟨rfl, rfl⟩, fun b z => absurd z (noA b), e0.bs, e0.bsz, fun b _ _ => noA b, fun b z => absurd z (noA b), e0.funs, e0.frf⟩,
    rfl, e0.bare, Un.kept hk, ⟨_, x.toInCall.ns, fun i y v h1 h2 h3 => ?_⟩, fun y c h => ⟨_, x.cell y c h⟩, e0.hok.fresh (Nat.le_refl _), fun y c h => ?_, fun p hp => absurd (show p ∈ ([] : List (Addr × Obj)) from hp) (by simp), e0.hok.kept hk, ?_⟩
  · exact name_of_addr x.apart (PySem.mem_of_lookup h1) (PySem.mem_of_lookup h2)
  · have hy : scope.names.lookup y = some .cell ∨ scope.names.lookup y = some .free := hy
    rcases hy with hy | hy
    · exact cell_has hy
    · exact absurd rfl (S.nofree _ (PySem.mem_of_lookup hy))
  · exact Nat.le_of_lt (x.above y c (PySem.mem_of_lookup h))
  · have hi : i < vs.length := by
      unfold start at h2
      by_cases hi : i < vs.length
      · exact hi
      · rw [List.getElem?_append_right (by simpa using hi)] at h2
        rw [List.getElem?_replicate] at h2
        split at h2 <;> cases h2
    have ha : vs[i]? = some v := by
      unfold start at h2
      rw [List.getElem?_append_left (by simpa using hi), List.getElem?_map] at h2
      cases e : vs[i]? with
      | none => rw [e] at h2; cases h2
      | some a => rw [e] at h2; cases h2; rfl
    obtain ⟨u, hu, rv⟩ := r.get ha
    have hp : ps[i]? = some y := by
      rw [← S.pre, List.getElem?_take_of_lt (by omega)]; exact h1
    have ndP : ps.Nodup := by rw [← S.pre]; exact S.nd.sublist (List.take_sublist _ _)
    refine ⟨u, rv, ?_⟩
    rcases S.par y (List.mem_of_getElem? hp) with k | k
    · exact .inl ⟨k, bindL_get ndP hp hu k⟩
    · obtain ⟨c, e⟩ := cell_has (n := s.heap.objs.size + 1) k
      refine .inr ⟨.inl k, c, e, ?_⟩
      have q := x.cell y c e
      rw [bindC_get ndP hp hu (by show scope.names.lookup y ≠ _; rw [k]; decide)] at q
      exact q
  · exact e0.hok.fresh (Nat.le_of_lt (x.above y c (PySem.mem_of_lookup h)))
  · unfold start
    show _ = N.length
    rw [List.length_append, List.length_map, List.length_replicate]
    omega

theorem fn_of {CX : CXT} {P : Program} {w : World} {K : PySem.W.Frag} {mg : Str → Option Value} {base : Heap} {k : Nat} {f : Addr} {name qual : Str} {params : Arguments} {body : List Stmt} {scope : Scope} {dV kV doc pm cdv ct oc : Value} {an od : Option Addr}
    {osl : Array (Option Value)} {N ps : List Str} {sp : Sp} (lk : K.lookup f = some ⟨oc, od, .func (PySem.W.fnOf name qual params body scope dV kV doc pm an cdv ct), osl⟩) (hcd : PySem.W.codeIn K cdv qual = true) (S : FnScope N ps scope)
    (len : ∀ vs H Q E, sp vs H Q E → vs.length = ps.length)
    (hbody : ∀ (A : Around) (outer : List Env) (s : Shared) (H : Hp) (vs : List V) (Q : VK) (E : XK), Room k (A.deeper (envOfC qual scope s.heap.objs.size f cdv)) → sp vs H Q E →
      ∃ t, PSs (cxOf CX P w K mg base N qual scope f cdv A outer s H E) body t ∧ t { nx := fun _ H' => Q .non H', rt := Q } (start N vs) H) :
    FnOk P w K mg base CX (k + 1) f (PySem.W.fnOf name qual params body scope dV kV doc pm an cdv ct) ps sp := by
  refine ⟨len, fun A outer s H args us vs Q E hr e0 hb r hsp => ?_⟩
  have hl := len _ _ _ _ hsp
  have KX : K.In s.heap := e0.mod.kin.keeps fun b o e => (e0.bs b o e).1
  have lim : s.heap.NoLimit := e0.mod.nolimit.keeps fun b o e => (e0.bs b o e).1
  have hkind : ∀ y ∈ ps.zip us, scope.names.lookup y.1 = some .local ∨ (scope.names.lookup y.1 = some .cell ∧ ((cellsFrom (s.heap.objs.size + 1) scope.names []).lookup y.1).isSome = true) := fun ⟨n, v⟩ hy => by
    rcases S.par n (List.of_mem_zip hy).1 with q | q
    · exact .inl q
    · exact .inr ⟨q, PySem.W.cellsFrom_some _ _ _ (.inl q)⟩
  refine codeAny_call_function hr.depth (KX _ _ lk) rfl S.co S.gen rfl (PySem.W.codeRec_of KX hcd) (hb _ _ _ _ ?_)
  refine wpAny_newFunctionEnv_cells S.kind hkind fun env he s1 x => ?_
  subst he
  refine ⟨lim.keeps x.toInCall.keep, codeAny_func ?_⟩
  obtain ⟨t, ht, hq⟩ := hbody A outer s H vs Q E (hr.deeper _) hsp
  have I : Inv (cxOf CX P w K mg base N qual scope f cdv A outer s H E) [] (start N vs) H s1 := inv_start S hr.hd e0 hl r x
  refine wpAny_mono (ht [] s1 (start N vs) H _ I hq) (fun fl s' hs => ?_) fun e s' hs => hs
  have fin : ∀ {σ' : St} {H' : Hp} {v : V} {u : Value}, Inv (cxOf CX P w K mg base N qual scope f cdv A outer s H E) [] σ' H' s' → RelV v u → Q v H' → CE outer P w H s Q u s' :=
    fun {σ' H' v u} J rv q => ⟨v, H', J.os, J.bare, J.base, J.hok, rv, q⟩
  cases fl with
  | ret u =>
    obtain ⟨v, σ', H', J, rv, q⟩ := hs
    exact fin J rv q
  | next =>
    obtain ⟨σ', H', J, q⟩ := hs
    exact fin (v := V.non) (u := Value.none) J rfl q
  | brk =>
    obtain ⟨_, _, _, q⟩ := hs
    exact False.elim q
  | cont =>
    obtain ⟨_, _, _, q⟩ := hs
    exact False.elim q
end L2

namespace L2
open PySem PySem.Spec PyProof.Rows
section
variable {X : Cx} {x : Str} {p pos : Pos} {e : Expr} {es : List Expr} {t : TA} {id T : String} {r : List V → Hp → VK → Prop}

def tCB (r : List V → Hp → VK → Prop) (t : TA) : TE := fun σ H Q => t σ H fun vs H1 => r vs H1 Q
theorem pe_callB (hc : CallR X (.builtin id) r) (hg : Gl X x) (hm : X.mg x = none) (hv : bootBuiltins x = some (.builtin id)) (ha : PA X (e :: es) t) (hn : x ≠ "__name__" := by decide) (hdb : (x == ("__debug__" : Str)) = false := by decide)
    (he : starEach (e :: es) X.env = (false, eval e X.env) :: starEach es X.env := by rfl) (hpl : (backTo pos (starEach es X.env)).any (·.1) = false := by rfl) : PE X (.Call (.Name x p) (e :: es) [] pos) (tCB r t) := by
  intro pins s σ H Q I h
  refine wpAny_Call_Name_kw (ld_blt I hg hm hv ?_ hn hdb)
  exact PyProof.Rows.callWith_builtin1 (thn (ha pos pins s σ H _ I h) fun us s1 ⟨vs, H1, I1, r1, q1⟩ => hc pins s1 σ H1 vs us Q I1 r1 q1) he hpl
theorem pe_callTy (hc : CallR X (.type T) r) (hg : Gl X x) (hm : X.mg x = none) (hv : bootBuiltins x = some (.type T)) (ha : PA X (e :: es) t) (hn : x ≠ "__name__" := by decide) (hdb : (x == ("__debug__" : Str)) = false := by decide)
    (he : starEach (e :: es) X.env = (false, eval e X.env) :: starEach es X.env := by rfl) (hpl : (backTo pos (starEach es X.env)).any (·.1) = false := by rfl) : PE X (.Call (.Name x p) (e :: es) [] pos) (tCB r t) := by
  intro pins s σ H Q I h
  refine wpAny_Call_Name_kw (ld_blt I hg hm hv ?_ hn hdb)
  exact PyProof.Rows.callWith_type1 (thn (ha pos pins s σ H _ I h) fun us s1 ⟨vs, H1, I1, r1, q1⟩ => hc pins s1 σ H1 vs us Q I1 r1 q1) he hpl
end
end L2

namespace HT
open PySem PyProof.Rows

section
open PySem.SeqAt
open PySem.AutoSeq1 (wpAny_loadPart')
open PySem.MeetsSeq PySem.MeetsSeq2 PySem.MeetsSeq3

end

section
variable {prog : Program} {w : World} {A : Around} {E : Value → Shared → Prop} {s : Shared}

def sIx (n d : Nat) : Option Int → Nat
  | none => d
  | some v => if v < 0 then (v + (n : Int)).toNat else min v.toNat n
theorem sIx_none (n d : Nat) : sIx n d none = d := rfl
theorem sIx_nat (n d k : Nat) : sIx n d (some (k : Int)) = min k n := by
  show (if (k : Int) < 0 then ((k : Int) + (n : Int)).toNat else min (k : Int).toNat n) = min k n
  rw [if_neg (by omega), Int.toNat_natCast]
end
end HT

namespace L2
open PySem PySem.Spec PyProof.Rows

abbrev TO := St → Hp → (Option Int → Hp → Prop) → Prop
def PO (X : Cx) (e : Option Expr) (t : TO) : Prop :=
  ∀ (pins : List (Addr × Obj)) (s : Shared) (σ : St) (H : Hp) (Q : Option Int → Hp → Prop), Inv X pins σ H s → t σ H Q →
    wpAny (model X.prog X.w) X.A (evalPart e X.env) (fun u s' => ∃ o H', Inv X pins σ H' s' ∧ IsPart u o ∧ Q o H') X.xe s
def tNoPart : TO := fun _ H Q => Q none H
def tPart (t : TE) : TO := fun σ H Q => t σ H fun x H1 => ∃ i, x = .int i ∧ Q (some i) H1

section
variable {X : Cx} {e : Expr} {te : TE} {lo hi : Option Expr} {tl th : TO} {pos p2 : Pos}

theorem po_none : PO X none tNoPart := by
  intro pins s σ H Q I h
  rw [evalPart_none]
  exact wpAny_pure ⟨none, H, I, .none, h⟩
theorem po_some (h : PE X e te) : PO X (some e) (tPart te) := by
  intro pins s σ H Q I hw
  rw [evalPart_some]
  refine thn (h pins s σ H _ I hw) fun u s1 ⟨x, H1, I1, r1, q1⟩ => ?_
  obtain ⟨i, rfl, q⟩ := q1
  obtain ⟨t, rfl⟩ := r1
  exact ⟨some i, H1, I1, .int i t, q⟩

def SlR (X : Cx) (r : V → Option Int → Option Int → Hp → VK → Prop) : Prop :=
  ∀ (pins : List (Addr × Obj)) (s : Shared) (σ : St) (H : Hp) (x : V) (v vl vu : Value) (lo hi : Option Int) (sl : Addr) (Q : VK), Inv X pins σ H s → RelV x v → s.heap.IsSliceOf sl vl vu .none → IsPart vl lo → IsPart vu hi → r x lo hi H Q →
    ∃ T id, typeLookup (.type T) "__getitem__" = pure (some (.builtin id)) ∧ s.TypeIs v T ∧ wpAny (model X.prog X.w) X.A (getItem v (.ref sl)) (EP X pins σ Q) X.xe s
def tSl (r : V → Option Int → Option Int → Hp → VK → Prop) (te : TE) (tl th : TO) : TE := fun σ H Q => te σ H fun x H1 => tl σ H1 fun l H2 => th σ H2 fun u H3 => r x l u H3 Q
theorem pe_slice {r : V → Option Int → Option Int → Hp → VK → Prop} (hr : SlR X r) (he : PE X e te) (hl : PO X lo tl) (hu : PO X hi th) : PE X (.Subscript e (.Slice lo hi none p2) pos) (tSl r te tl th) := by
  intro pins s σ H Q I h
  refine Subscript_ (thn (he pins s σ H _ I h) fun v s1 ⟨x, H1, I1, r1, q1⟩ => ?_)
  refine wpAny_Slice (thn (hl pins s1 σ H1 _ I1 q1) fun vl s2 ⟨l, H2, I2, pl, q2⟩ => thn (hu pins s2 σ H2 _ I2 q2) fun vu s3 ⟨u, H3, I3, pu, q3⟩ => ?_)
  rw [evalPart_none]
  refine wpAny_pure ?_
  have I4 : Inv X pins σ H3 { s3 with heap := s3.heap.push { cls := .type "slice", data := .fields #[vl, vu, .none] } } := I3.kept (t' := s3.toks) fun b ob q => Heap.get?_push_of_some _ q
  obtain ⟨T, id, hT, ht, hg⟩ := hr pins { s3 with heap := s3.heap.push { cls := .type "slice", data := .fields #[vl, vu, .none] } } σ H3 x v vl vu l u s3.heap.objs.size Q I4 r1 (Heap.IsSliceOf.new ..) pl pu q3
  show wpAny (model X.prog X.w) X.A (subscriptTail e (.Slice lo hi none p2) v (.ref s3.heap.objs.size)) (EP X pins σ Q) X.xe { s3 with heap := s3.heap.push { cls := .type "slice", data := .fields #[vl, vu, .none] } }
  exact tail_any (ops := [.ref s3.heap.objs.size, v]) ht hT hg (by with_unfolding_all rfl)

def cutV (xs : List V) (lo hi : Option Int) : List V := (xs.drop (HT.sIx xs.length 0 lo)).take (HT.sIx xs.length xs.length hi - HT.sIx xs.length 0 lo)
theorem cutV_length (xs : List V) (lo hi : Option Int) : (cutV xs lo hi).length ≤ xs.length := by
  unfold cutV
  rw [List.length_take, List.length_drop]
  omega
end
end L2

namespace L2
open PySem PySem.Spec PyProof.Rows

def ixN (n : Nat) (i : Int) : Option Nat := if 0 ≤ i then (if i < n then some i.toNat else none) else if -(n : Int) ≤ i then some (i + n).toNat else none
def atI {α : Type} (xs : List α) (i : Int) : Option α := (ixN xs.length i).bind fun j => xs[j]?
theorem ixN_seq {n : Nat} {i : Int} {j : Nat} (h : ixN n i = some j) : seqIndex? i n = some j ∧ j < n ∧ -(n : Int) ≤ i ∧ i < n := by
  unfold ixN at h
  by_cases h0 : 0 ≤ i
  · rw [if_pos h0] at h
    by_cases h1 : i < n
    · rw [if_pos h1] at h
      have e : i.toNat = j := Option.some.inj h
      exact ⟨by rw [seqIndex_of h0 h1, e], by omega, by omega, h1⟩
    · rw [if_neg h1] at h; cases h
  · rw [if_neg h0] at h
    by_cases h1 : -(n : Int) ≤ i
    · rw [if_pos h1] at h
      have e : (i + n).toNat = j := Option.some.inj h
      exact ⟨by rw [seqIndex_neg (by omega) h1, e], by omega, h1, by omega⟩
    · rw [if_neg h1] at h; cases h
theorem atI_get {α : Type} {xs : List α} {i : Int} {v : α} (h : atI xs i = some v) : ∃ j, seqIndex? i xs.length = some j ∧ xs[j]? = some v ∧ j < xs.length ∧ -(xs.length : Int) ≤ i ∧ i < xs.length := by
  unfold atI at h
  cases e : ixN xs.length i with
  | none => rw [e] at h; cases h
  | some j =>
    rw [e] at h
    obtain ⟨h1, h2, h3, h4⟩ := ixN_seq e
    exact ⟨j, h1, h, h2, h3, h4⟩
theorem atI_nat {α : Type} {xs : List α} {j : Nat} {v : α} (h : xs[j]? = some v) : atI xs (j : Int) = some v := by
  have hj : j < xs.length := (List.getElem?_eq_some_iff.mp h).1
  have e : ixN xs.length (j : Int) = some j := by
    unfold ixN
    rw [if_pos (by omega), if_pos (by omega)]; simp
  unfold atI; rw [e]; exact h
def PlainIx (b : Expr) : Prop := ∀ o i, subscripted b false o i = operate [o, i] (getItem o i)
def IxR (X : Cx) (r : R2) : Prop :=
  ∀ (value slice : Expr) (pins : List (Addr × Obj)) (s : Shared) (σ : St) (H : Hp) (x y : V) (v u : Value) (Q : VK), Inv X pins σ H s → RelV x v → RelV y u → r x y H Q →
    subscripted slice false v u = operate [v, u] (getItem v u) → wpAny (model X.prog X.w) X.A (subscriptTail value slice v u) (EP X pins σ Q) X.xe s
def MtR (X : Cx) (id : String) (r : V → List V → Hp → VK → Prop) : Prop :=
  ∀ (pins : List (Addr × Obj)) (s : Shared) (σ : St) (H : Hp) (x : V) (xs : List V) (v : Value) (us : List Value) (Q : VK), Inv X pins σ H s → RelV x v → Vals xs us → r x xs H Q →
    wpAny (model X.prog X.w) X.A (call (.builtin id) (v :: us)) (EP X pins σ Q) X.xe s
section
variable {X : Cx} {a b : Expr} {ta tb : TE} {pos : Pos}
theorem pe_ix {r : R2} (hr : IxR X r) (ha : PE X a ta) (hb : PE X b tb) (hs : PlainIx b) : PE X (.Subscript a b pos) (tOp r ta tb) := by
  intro pins s σ H Q I h
  exact Subscript_ (binT ha hb I h fun v u s2 x y H2 I2 rx ry q => hr a b pins s2 σ H2 x y v u Q I2 rx ry q (hs _ _))

def rIxL (K : PySem.W.Frag) : R2 := fun x y H Q => ∃ p xs i v, x = .ref p ∧ y = .int i ∧ SqL K H p xs ∧ atI xs i = some v ∧ Q v H
def rIxT (K : PySem.W.Frag) : R2 := fun x y H Q => ∃ p xs i v, x = .ref p ∧ y = .int i ∧ SqT K H p xs ∧ atI xs i = some v ∧ Q v H
theorem ix_list : IxR X (rIxL X.K) := by
  intro value slice pins s σ H x y v u Q I rx ry h hs
  obtain ⟨p, xs, i, z, rfl, rfl, hq, he, q⟩ := h
  cases rx
  obtain ⟨t, rfl⟩ := ry
  obtain ⟨its, r, pl, hz⟩ := I.list hq
  obtain ⟨j, h1, h2, h3, h4, h5⟩ := atI_get he
  obtain ⟨w, ew, rw'⟩ := r.get h2
  have hl := r.length
  have hn := line63
  have fin : EP X pins σ Q w s := ⟨z, H, I, rw', q⟩
  by_cases h0 : 0 ≤ i
  · have hj : i.toNat = j := by
      rw [seqIndex_of h0 h5] at h1
      exact Option.some.inj h1
    exact item_listR pl.isList h0 (by omega) (by rw [hj]; simpa using ew) fin hs
  · have hj : (i + (its.toArray.size : Int)).toNat = j := by
      rw [seqIndex_neg (by omega) h4] at h1
      rw [List.size_toArray, ← hl]
      exact Option.some.inj h1
    exact subscriptTail_builtinR (x := w) pl.isList.typeIs slot_list_getitem.lookup
      (wpAny_getItem_list_neg (Q := fun r s' => r = w ∧ EP X pins σ Q r s') pl.isList (by omega) (by rw [List.size_toArray] <;> omega) (by omega) (by rw [hj]; simpa using ew) ⟨rfl, fin⟩) hs
theorem ix_tup : IxR X (rIxT X.K) := by
  intro value slice pins s σ H x y v u Q I rx ry h hs
  obtain ⟨p, xs, i, z, rfl, rfl, hq, he, q⟩ := h
  cases rx
  obtain ⟨t, rfl⟩ := ry
  obtain ⟨its, r, pl, hz⟩ := I.tuple hq
  obtain ⟨j, h1, h2, h3, h4, h5⟩ := atI_get he
  obtain ⟨w, ew, rw'⟩ := r.get h2
  have hl := r.length
  have hn := line63
  have fin : EP X pins σ Q w s := ⟨z, H, I, rw', q⟩
  exact subscriptTail_builtinR (x := w) pl.typeIs slot_tuple_getitem.lookup
    (getItem_tuple (j := j) (Q := fun r s' => r = w ∧ EP X pins σ Q r s') pl (by omega) (by omega) (by rw [List.size_toArray, ← hl]; exact h1) (by simpa using ew) ⟨rfl, fin⟩) hs
theorem slice_bounds (lo hi : Option Int) (n : Nat) : (sliceBounds lo hi none n).1 = ((HT.sIx n 0 lo : Nat) : Int) ∧ (sliceBounds lo hi none n).2.1 = ((HT.sIx n n hi : Nat) : Int) ∧ (sliceBounds lo hi none n).2.2 = 1 := by
  refine ⟨?_, ?_, rfl⟩
  · cases lo with
    | none => simp [sliceBounds, HT.sIx]
    | some i =>
      simp only [sliceBounds, HT.sIx, Option.getD_none, show (1 : Int) > 0 by decide, if_true]
      by_cases h : i < 0
      · simp only [h, if_true] <;> omega
      · simp only [h, if_false] <;> omega
  · cases hi with
    | none => simp [sliceBounds, HT.sIx]
    | some i =>
      simp only [sliceBounds, HT.sIx, Option.getD_none, show (1 : Int) > 0 by decide, if_true]
      by_cases h : i < 0
      · simp only [h, if_true] <;> omega
      · simp only [h, if_false] <;> omega
theorem slicePick_cut (its : List Value) (lo hi : Option Int) : slicePick its.toArray lo hi none = ((its.drop (HT.sIx its.length 0 lo)).take (HT.sIx its.length its.length hi - HT.sIx its.length 0 lo)).toArray := by
  obtain ⟨h1, h2, h3⟩ := slice_bounds lo hi its.toArray.size
  unfold slicePick
  rw [h1, h2, h3]
  simp only [sliceRange_one, pick_run, List.size_toArray] <;> rfl
def rSlL (K : PySem.W.Frag) : V → Option Int → Option Int → Hp → VK → Prop := fun x lo hi H Q => ∃ a xs, x = .ref a ∧ SqL K H a xs ∧ ∀ p, H p = none → Q (.ref p) (upd H p (.lst (cutV xs lo hi)))
theorem sl_list : SlR X (rSlL X.K) := by
  intro pins s σ H x v vl vu lo hi sl Q I rx hs pl pu h
  obtain ⟨a, xs, rfl, hx, q⟩ := h
  cases rx
  obtain ⟨its, r, ht, hz⟩ := I.list hx
  have hlen := r.length
  refine ⟨"list", _, slot_list_getitem.lookup, ht.isList.typeIs, ?_⟩
  refine wpAny_getItem_list_slice ht.isList hs pl pu .none (by simp) ?_ (by rw [List.size_toArray] <;> omega)
  rw [slicePick_cut, ← hlen]
  refine ⟨.ref s.heap.objs.size, _, I.laid (t' := s.toks) (o := .lst (cutV xs lo hi)) (fun b ob q => Heap.get?_push_of_some _ q) (Nat.le_refl _) ?_, rfl, q _ (I.hok.fresh (Nat.le_refl _))⟩
  exact ⟨Nat.le_trans (cutV_length xs lo hi) hz, _, 0, (r.drop (HT.sIx xs.length 0 lo)).take (HT.sIx xs.length xs.length hi - HT.sIx xs.length 0 lo), Heap.get?_push_size _ rfl⟩

theorem call_len_seq : CallR X (.builtin "len") (fun xs H Q => ∃ p ys, xs = [.ref p] ∧ (SqL X.K H p ys ∨ SqT X.K H p ys) ∧ Q (.int ys.length) H) := by
  intro pins s σ H xs us Q I r h
  obtain ⟨p, ys, rfl, hq, q⟩ := h
  obtain ⟨u, rfl, rx⟩ := vals1 r
  cases rx
  have hn := line63
  rcases hq with hq | hq
  · obtain ⟨its, r', pl, hz⟩ := I.list hq
    have hlen := r'.length
    exact Calls.call_len_list pl.isList (by simp only [List.size_toArray] <;> omega) ⟨.int ys.length, H, I.tok _, ⟨s.toks + 1, by rw [List.size_toArray, hlen]⟩, q⟩
  · obtain ⟨its, r', pl, hz⟩ := I.tuple hq
    have hlen := r'.length
    exact len_tuple pl (by simp only [List.size_toArray] <;> omega) ⟨.int ys.length, H, I.tok _, ⟨s.toks + 1, by rw [List.size_toArray, hlen]⟩, q⟩
def tyV (K : PySem.W.Frag) (T : String) (x : V) (H : Hp) : Prop := match x with
  | .str _ => T = "str"
  | .int _ => T = "int"
  | .ref p => (T = "list" ∧ ∃ xs, SqL K H p xs) ∨ (T = "tuple" ∧ ∃ o, K.lookup p = some o ∧ o.cls = .type "tuple" ∧ o.dict = none) ∨
      (T = "dict" ∧ ((∃ kvs, H p = some (.dK kvs)) ∨ ∃ kvs, H p = some (.dT kvs))) ∨ (T = "set" ∧ ∃ S n, H p = some (.set S n))
  | _ => False
theorem tyV_is {pins : List (Addr × Obj)} {σ : St} {H : Hp} {s : Shared} {T : String} {x : V} {v : Value} (I : Inv X pins σ H s) (r : RelV x v) (ty : tyV X.K T x H) :
    s.TypeIs v T ∧ ∀ a, v = .ref a → ∃ ob, s.heap.get? a = some ob ∧ ob.dict = none := by
  cases x with
  | str z =>
    obtain ⟨t, rfl⟩ := r
    cases (show T = "str" from ty)
    exact ⟨typeIs_str s z t, fun _ e => nomatch e⟩
  | int i =>
    obtain ⟨t, rfl⟩ := r
    cases (show T = "int" from ty)
    exact ⟨typeIs_int s i t, fun _ e => nomatch e⟩
  | ref p =>
    cases r
    rcases ty with ⟨rfl, xs, hq⟩ | ⟨rfl, o, hk, hc, hd⟩ | ⟨rfl, hk⟩ | ⟨rfl, S, n, hk⟩
    · obtain ⟨its, _, pl, _⟩ := I.list hq
      refine ⟨pl.isList.typeIs, fun a e => ?_⟩
      cases e
      obtain ⟨o, n, e, c, hd, _⟩ := pl
      exact ⟨o, e, hd⟩
    · refine ⟨⟨o, I.kIn p o hk, hc⟩, fun a e => ?_⟩
      cases e
      exact ⟨o, I.kIn _ o hk, hd⟩
    · have z : ∃ o, s.heap.get? p = some o ∧ o.ExactDict := by
        rcases hk with ⟨kvs, hk⟩ | ⟨kvs, hk⟩
        · obtain ⟨_, _, _, _, o, _, _, e, ex, _⟩ := I.hok p _ hk
          exact ⟨o, e, ex⟩
        · obtain ⟨_, _, _, _, o, _, _, e, ex, _⟩ := I.hok p _ hk
          exact ⟨o, e, ex⟩
      obtain ⟨o, e, ex⟩ := z
      refine ⟨⟨o, e, ex.1⟩, fun a e2 => ?_⟩
      cases e2
      exact ⟨o, e, ex.2.1⟩
    · obtain ⟨o, _, _, _, e, ex, _⟩ := I.hok p _ hk
      refine ⟨⟨o, e, ex.1⟩, fun a e2 => ?_⟩
      cases e2
      exact ⟨o, e, ex.2.1⟩
  | _ => exact False.elim ty
def tBM (K : PySem.W.Frag) (T : String) (r : V → List V → Hp → VK → Prop) (to : TE) (t : TA) : TE := fun σ H Q => to σ H fun x H1 => tyV K T x H1 ∧ t σ H1 fun xs H2 => r x xs H2 Q
variable {o e : Expr} {es : List Expr} {to : TE} {t : TA} {name : Str} {apos cpos : Pos} {T id : String} {r : V → List V → Hp → VK → Prop}
theorem pe_bm (pa : PlainAttrs T) (slot : Slot T name id) (hty : typeOf (.builtin id) = pure (.type "method_descriptor")) (hm : MtR X id r) (ho : PE X o to) (ha : PA X (e :: es) t)
    (hbase : attributeBase o name X.env (eval o X.env) = eval o X.env := by rfl)
    (hfew : ((backTo cpos (starEach (e :: es) X.env)).all (fun x => !x.1) && (backToKw cpos (keywordEach [] X.env)).all (fun x => x.1.isSome)
      && decide ((e :: es).length + ([] : List Keyword).length + (if ([] : List Keyword).isEmpty then 0 else 1) < 30)) = true := by rfl)
    (hline : (apos.endLine == cpos.line) = true := by rfl) (hs : starEach (e :: es) X.env = (false, eval e X.env) :: starEach es X.env := by rfl) (hplain : (backTo cpos (starEach es X.env)).any (·.1) = false := by rfl) :
    PE X (.Call (.Attribute o name apos) (e :: es) [] cpos) (tBM X.K T r to t) := by
  intro pins s σ H Q I h
  refine wpAny_Call_method_late hbase hfew hline rfl (thn (ho pins s σ H _ I h) fun v s1 ⟨x, H1, I1, r1, ty, q1⟩ => ?_)
  obtain ⟨h1, h2⟩ := tyV_is I1 r1 ty
  refine ⟨T, id, pa, slot, hty, h1, h2, ?_⟩
  have hA := ha cpos pins s1 σ H1 _ I1 q1
  rw [hs] at hA ⊢
  refine Calls.callWith_builtin (by show (false || (backTo cpos (starEach es X.env)).any (·.1)) = false; rw [hplain] <;> rfl) (Calls.evalArgs_plain ?_)
  exact thn hA fun us s2 ⟨vs, H2, I2, r2, q2⟩ => hm pins s2 σ H2 x vs v us Q I2 r1 r2 q2
end
end L2

namespace L2
open PySem PySem.Spec PyProof.Rows

def MtM (X : Cx) (id : String) (r : V → List V → Hp → VK → Prop) : Prop :=
  ∀ (pins : List (Addr × Obj)) (s : Shared) (σ : St) (H : Hp) (x : V) (xs : List V) (v : Value) (us : List Value) (Q : VK), Inv X pins σ H s → RelV x v → Vals xs us → r x xs H Q →
    wpAny (model X.prog X.w) X.A (call (.builtin id) (v :: us)) (EP X pins σ Q) X.xe s

theorem Vals.one : ∀ {x : V} {us : List Value}, Vals [x] us → ∃ u, us = [u] ∧ RelV x u
  | _, _, .cons r .nil => ⟨_, rfl, r⟩
section
variable {X : Cx} {pins : List (Addr × Obj)} {σ : St} {H : Hp} {s : Shared} {l b : Addr} {xs ys zs : List V}

theorem Inv.lset {its its' : List Value} {n : Nat} {f : Array Value → Array Value} {t' : Nat} (I : Inv X pins σ H s) (hH : H l = some (.lst xs))
    (e : s.heap.get? l = some { cls := .type "list", data := .seq its.toArray n }) (hf : f its.toArray = its'.toArray) (hv : Vals ys its') (hz : ys.length ≤ sizeLine) :
    Inv X pins σ (upd H l (.lst ys)) { s with heap := s.heap.update l (Obj.mapSeq f), toks := t' } := by
  have q := PySem.IsL.update e f
  rw [hf] at q
  refine I.write (x := l) (e := l) (by rw [hH]; exact trivial) (.inl rfl) (fun b' u hb hu => (Heap.get?_update_other s.heap (Obj.mapSeq f) (Ne.symm hb)).trans hu) ⟨_, q⟩ ?_
  exact ⟨hz, its', _, hv, q⟩
theorem Inv.lnew {its : List Value} {t' : Nat} (I : Inv X pins σ H s) (hv : Vals ys its) (hz : ys.length ≤ sizeLine) :
    Inv X pins σ (upd H s.heap.objs.size (.lst ys)) { s with heap := s.heap.push { cls := .type "list", data := .seq its.toArray }, toks := t' } :=
  I.laid (fun _ _ q => Heap.get?_push_of_some _ q) (Nat.le_refl _) ⟨hz, its, 0, hv, Heap.get?_push_size _ rfl⟩
theorem Inv.fresh (I : Inv X pins σ H s) : H s.heap.objs.size = none := I.hok.fresh (Nat.le_refl _)
theorem Inv.lstM (I : Inv X pins σ H s) (hH : H l = some (.lst xs)) : xs.length ≤ sizeLine ∧ ∃ (its : List Value) (n : Nat), Vals xs its ∧ xs.length = its.length ∧ s.heap.get? l = some { cls := .type "list", data := .seq its.toArray n } := by
  obtain ⟨z, its, n, r, e⟩ := I.hok l _ hH
  exact ⟨z, its, n, r, r.length, e⟩

theorem notLongL {n : Nat} (h : n ≤ sizeLine) : Builtin.List.listTooLong n = false := by
  unfold Builtin.List.listTooLong
  exact decide_eq_false (by omega)
end

section
variable {X : Cx}

def rAppend : V → List V → Hp → VK → Prop := fun x vs H Q => ∃ l xs y, x = .ref l ∧ vs = [y] ∧ H l = some (.lst xs) ∧ xs.length < sizeLine ∧ Q .non (upd H l (.lst (xs ++ [y])))
theorem mt_append : MtM X "list.append" rAppend := by
  intro pins s σ H x vs v us Q I rx rv h
  obtain ⟨l, xs, y, rfl, rfl, hH, hz, q⟩ := h
  cases rx
  obtain ⟨u, rfl, ru⟩ := rv.one
  obtain ⟨z, its, n, r, hl, e⟩ := I.lstM hH
  refine call_meets F.slot_list_append ⟨_, e, rfl⟩ F.entry_list_append (F.args_list_append_2 _ _) (PySem.list_append l its.toArray n u (by rw [List.size_toArray]; omega)) ⟨e, ?_⟩
  refine ⟨.non, _, I.lset (its' := its ++ [u]) hH e (by simp) (r.append (.cons ru .nil)) ?_, rfl, q⟩
  rw [List.length_append, List.length_singleton]
  omega

def rExtend : V → List V → Hp → VK → Prop := fun x vs H Q => ∃ l b xs zs, x = .ref l ∧ vs = [.ref b] ∧ H l = some (.lst xs) ∧ H b = some (.lst zs) ∧ xs.length + zs.length ≤ sizeLine ∧ Q .non (upd H l (.lst (xs ++ zs)))
theorem mt_extend : MtM X "list.extend" rExtend := by
  intro pins s σ H x vs v us Q I rx rv h
  obtain ⟨l, b, xs, zs, rfl, rfl, hH, hB, hz, q⟩ := h
  cases rx
  obtain ⟨u, rfl, ru⟩ := rv.one
  cases ru
  obtain ⟨z, its, n, r, hl, e⟩ := I.lstM hH
  obtain ⟨z2, its2, n2, r2, hl2, e2⟩ := I.lstM hB
  have hsz : its.toArray.size + its2.toArray.size ≤ sizeLine := by rw [List.size_toArray, List.size_toArray]; omega
  have hlong : ¬ (!its.toArray.isEmpty && Builtin.List.listTooLong (its.toArray.size + its2.toArray.size)) = true := by
    rw [notLongL hsz, Bool.and_false]
    exact Bool.false_ne_true
  refine call_meets F.slot_list_extend ⟨_, e, rfl⟩ F.entry_list_extend (F.args_list_extend_2 _ _)
    (AutoSeq1.list_extend_list_list_0 l its.toArray n b its2.toArray n2 hlong (by rw [List.size_toArray]; omega) (by omega)) ⟨e, e2, ?_⟩
  refine ⟨.non, _, I.lset (its' := its ++ its2) hH e (by simp) (r.append r2) ?_, rfl, q⟩
  rw [List.length_append]
  omega

def rCat : R2 := fun x y H Q => ∃ l b xs zs, x = .ref l ∧ y = .ref b ∧ H l = some (.lst xs) ∧ H b = some (.lst zs) ∧ xs.length + zs.length ≤ sizeLine ∧ ∀ p, H p = none → Q (.ref p) (upd H p (.lst (xs ++ zs)))
theorem op_cat : OpR X (binaryOp .Add) rCat := by
  intro pins s σ H x y v u Q I rx ry h
  obtain ⟨l, b, xs, zs, rfl, rfl, hH, hB, hz, q⟩ := h
  cases rx
  cases ry
  obtain ⟨z, its, n, r, hl, e⟩ := I.lstM hH
  obtain ⟨z2, its2, n2, r2, hl2, e2⟩ := I.lstM hB
  refine PySem.P.add_list e e2 ?_ (by rw [List.size_toArray, List.size_toArray]; omega)
  have ea : its.toArray ++ its2.toArray = (its ++ its2).toArray := by simp
  rw [ea]
  exact ⟨.ref _, _, I.lnew (t' := s.toks) (r.append r2) (by rw [List.length_append]; omega), rfl, q _ I.fresh⟩
end

section
variable {prog : Program} {w : World} {A : Around} {E : Value → Shared → Prop} {s : Shared}
set_option maxRecDepth 100000 in
end

section
variable {X : Cx}
end
end L2

namespace L2
open PySem PySem.Spec PyProof.Rows

theorem vals_of_ints : ∀ {us : List Value} {ns : List Int}, IntsAre us ns → Vals (ns.map V.int) us
  | _, _, .nil => by rw [List.map_nil]; exact Paired.nil
  | _, _, .cons n t h => by rw [List.map_cons]; exact Paired.cons (show RelV (V.int n) (Value.int n t) from ⟨t, rfl⟩) (vals_of_ints h)
section
variable {prog : Program} {w : World} {A : Around} {E : Value → Shared → Prop} {s : Shared} {l : Addr} {its : List Value} {ns : List Int} {Q : Value → Shared → Prop}
end

section
variable {X : Cx}
end

section
variable {X : Cx}
end

section
variable {X : Cx}
end

section
variable {X : Cx}
end

section
variable {X : Cx} {pins : List (Addr × Obj)} {σ : St} {H : Hp} {s : Shared}
end
section
variable {X : Cx}
end
end L2

namespace L2
open PySem PySem.Spec PyProof.Rows
section
variable {X : Cx} {pins : List (Addr × Obj)} {σ : St} {H : Hp} {s : Shared}
end

section
variable {X : Cx}
end

end L2

namespace L2
open PySem PySem.Spec PyProof.Rows

section
variable {prog : Program} {w : World} {A : Around} {R : Result → Shared → Prop} {s : Shared} {elt t0 i0 t1 i1 : Expr} {ifs0 ifs1 : List Expr} {scope : Scope} {pos : Pos} {it acc : Value} {env : Env}
end

section
variable {X : Cx}
end
end L2

namespace L2
open PySem PySem.Spec PyProof.Rows

section
variable {κ : Type} [DecidableEq κ]
def valV (kvs : List (κ × V)) (k : κ) : Option V := (kvs.find? fun kv => decide (kv.1 = k)).map (·.2)
def putK (kvs : List (κ × V)) (k : κ) (v : V) : List (κ × V) :=
  if (kvs.any fun kv => decide (kv.1 = k)) = true then kvs.map (fun kv => if kv.1 = k then (kv.1, v) else kv) else kvs ++ [(k, v)]
def dropK (kvs : List (κ × V)) (k : κ) : List (κ × V) := kvs.filter fun kv => decide (kv.1 ≠ k)

theorem valV_pos {p : κ × V} {r : List (κ × V)} {k : κ} (e : p.1 = k) : valV (p :: r) k = some p.2 := by simp [valV, List.find?_cons, e]
theorem valV_neg {p : κ × V} {r : List (κ × V)} {k : κ} (e : ¬ p.1 = k) : valV (p :: r) k = valV r k := by simp [valV, List.find?_cons, e]
theorem valV_any (k : κ) : ∀ kvs : List (κ × V), (kvs.any fun kv => decide (kv.1 = k)) = (valV kvs k).isSome
  | [] => rfl
  | p :: r => by
    rw [List.any_cons]
    by_cases e : p.1 = k
    · simp only [valV_pos e, decide_eq_true e, Bool.true_or, Option.isSome_some]
    · rw [valV_neg e, decide_eq_false e, Bool.false_or]; exact valV_any k r
theorem length_putK (kvs : List (κ × V)) (k : κ) (v : V) : (putK kvs k v).length ≤ kvs.length + 1 := by
  unfold putK
  split
  · rw [List.length_map]; omega
  · rw [List.length_append, List.length_cons, List.length_nil]; omega
theorem putK_new {kvs : List (κ × V)} {k : κ} (v : V) (h : valV kvs k = none) : putK kvs k v = kvs ++ [(k, v)] := by
  unfold putK
  rw [valV_any, h]
  exact if_neg (by decide)

theorem RelO.isSome_eq {o : Option V} {u : Option Value} (r : RelO o u) : o.isSome = u.isSome := by
  cases o with
  | none => cases u with
    | none => rfl
    | some _ => exact (show False from r).elim
  | some _ => cases u with
    | none => exact (show False from r).elim
    | some _ => rfl
theorem RelO.getD {o : Option V} {u : Option Value} {d : V} {d' : Value} (r : RelO o u) (rd : RelV d d') : RelV (o.getD d) (u.getD d') := by
  cases o with
  | none => cases u with
    | none => exact rd
    | some _ => exact (show False from r).elim
  | some _ => cases u with
    | none => exact (show False from r).elim
    | some _ => exact r

theorem KV.val {kvs : List (κ × V)} {vs : List (κ × Value)} (r : KV kvs vs) (k : κ) : RelO (valV kvs k) (valueAt vs k) := by
  unfold KV at r
  induction r with
  | nil => exact True.intro
  | @cons p q ps qs h t ih =>
    obtain ⟨h1, h2⟩ := h
    by_cases e : p.1 = k
    · have e' : q.1 = k := h1.symm.trans e
      have b : valueAt (q :: qs) k = some q.2 := by simp [valueAt, List.find?_cons, e']
      rw [valV_pos e, b]; exact h2
    · have e' : ¬ q.1 = k := fun z => e (h1.trans z)
      have b : valueAt (q :: qs) k = valueAt qs k := by simp [valueAt, List.find?_cons, e']
      rw [valV_neg e, b]; exact ih
theorem KV.any {kvs : List (κ × V)} {vs : List (κ × Value)} (r : KV kvs vs) (k : κ) : (kvs.any fun kv => decide (kv.1 = k)) = vs.any fun kv => decide (kv.1 = k) := by
  unfold KV at r
  induction r with
  | nil => rfl
  | cons h t ih => rw [List.any_cons, List.any_cons, ih, h.1]
theorem KV.repl {kvs : List (κ × V)} {vs : List (κ × Value)} (r : KV kvs vs) (k : κ) {y : V} {u : Value} (ry : RelV y u) :
    KV (kvs.map fun kv => if kv.1 = k then (kv.1, y) else kv) (vs.map fun kv => if kv.1 = k then (kv.1, u) else kv) := by
  unfold KV at r ⊢
  induction r with
  | nil => exact .nil
  | @cons p q ps qs h t ih =>
    rw [List.map_cons, List.map_cons]
    refine .cons ?_ ih
    obtain ⟨h1, h2⟩ := h
    by_cases e : p.1 = k
    · rw [if_pos e, if_pos (h1.symm.trans e)]; exact ⟨h1, ry⟩
    · rw [if_neg e, if_neg (fun z => e (h1.trans z))]; exact ⟨h1, h2⟩
theorem KV.put {kvs : List (κ × V)} {vs : List (κ × Value)} (r : KV kvs vs) (k : κ) {y : V} {u : Value} (ry : RelV y u) : KV (putK kvs k y) (stored vs k u) := by
  unfold putK stored
  rw [r.any k]
  by_cases e : (vs.any fun kv => decide (kv.1 = k)) = true
  · rw [if_pos e, if_pos e]; exact r.repl k ry
  · rw [if_neg e, if_neg e]; exact Paired.snoc r ⟨rfl, ry⟩
theorem KV.drop {kvs : List (κ × V)} {vs : List (κ × Value)} (r : KV kvs vs) (k : κ) : KV (dropK kvs k) (without vs k) := by
  unfold KV at r ⊢
  unfold dropK without
  induction r with
  | nil => exact .nil
  | @cons p q ps qs h t ih =>
    obtain ⟨h1, h2⟩ := h
    rw [List.filter_cons, List.filter_cons]
    by_cases e : p.1 = k
    · have a : ¬ decide (p.1 ≠ k) = true := by simp [e]
      have b : ¬ decide (q.1 ≠ k) = true := by simp [h1.symm.trans e]
      rw [if_neg a, if_neg b]; exact ih
    · have e' : ¬ q.1 = k := fun z => e (h1.trans z)
      have a : decide (p.1 ≠ k) = true := by simp [e]
      have b : decide (q.1 ≠ k) = true := by simp [e']
      rw [if_pos a, if_pos b]; exact .cons ⟨h1, h2⟩ ih
theorem KV.keys {kvs : List (κ × V)} {vs : List (κ × Value)} (r : KV kvs vs) : kvs.map (·.1) = vs.map (·.1) := by
  unfold KV at r
  induction r with
  | nil => rfl
  | cons h t ih => rw [List.map_cons, List.map_cons, ih, h.1]
theorem KV.length {kvs : List (κ × V)} {vs : List (κ × Value)} (r : KV kvs vs) : kvs.length = vs.length := Paired.length r
theorem dropK_le (kvs : List (κ × V)) (k : κ) : (dropK kvs k).length ≤ kvs.length := List.length_filter_le _ _
end


theorem kV_is {P : Program} {w : World} {k : Key} {u : Value} (r : RelV (kV k) u) : (mixKind P w).is k u = true := by
  cases k with
  | inl i => obtain ⟨t, e⟩ := (show ∃ t, u = Value.int i t from r); subst e; exact mixKind_int P w i t
  | inr x => obtain ⟨t, e⟩ := (show ∃ t, u = Value.str x t from r); subst e; exact mixKind_str P w x t
theorem items_are {P : Program} {w : World} : ∀ {ks : List Key} {us : List Value}, Vals (ks.map kV) us → ItemsAre (mixKind P w) ks us
  | [], _, r => by rw [List.map_nil] at r; cases r; exact .nil
  | k :: ks, _, r => by
    rw [List.map_cons] at r
    cases r with
    | cons h t => exact .cons (kV_is h) (items_are t)

abbrev KT (H : Hp) : List (List Key × V) → List (List Key × Addr × Value) → Prop := Paired fun p q => p.1 = q.1 ∧ H q.2.1 = some (.tup (p.1.map kV)) ∧ RelV p.2 q.2.2
theorem KT.val {H : Hp} {kvs : List (List Key × V)} {xs : List (List Key × Addr × Value)} (r : KT H kvs xs) (k : List Key) : RelO (valV kvs k) ((atKey xs k).map (·.2)) := by
  induction r with
  | nil => exact True.intro
  | @cons p q ps qs h t ih =>
    obtain ⟨h1, _, h2⟩ := h
    by_cases e : p.1 = k
    · have e' : q.1 = k := h1.symm.trans e
      have b : atKey (q :: qs) k = some q.2 := by simp [atKey, List.find?_cons, e']
      rw [valV_pos e, b]; exact h2
    · have e' : ¬ q.1 = k := fun z => e (h1.trans z)
      have b : atKey (q :: qs) k = atKey qs k := by simp [atKey, List.find?_cons, e']
      rw [valV_neg e, b]; exact ih
theorem KT.repl {H : Hp} {kvs : List (List Key × V)} {xs : List (List Key × Addr × Value)} (r : KT H kvs xs) (k : List Key) {y : V} {u : Value} (ry : RelV y u) :
    KT H (kvs.map fun kv => if kv.1 = k then (kv.1, y) else kv) (xs.map (putAt k u)) := by
  induction r with
  | nil => exact .nil
  | @cons p q ps qs h t ih =>
    rw [List.map_cons, List.map_cons]
    refine .cons ?_ ih
    obtain ⟨h1, h2, h3⟩ := h
    unfold putAt
    by_cases e : p.1 = k
    · rw [if_pos e, if_pos (h1.symm.trans e)]; exact ⟨h1, h2, ry⟩
    · rw [if_neg e, if_neg (fun z => e (h1.trans z))]; exact ⟨h1, h2, h3⟩
theorem KT.put {H : Hp} {kvs : List (List Key × V)} {xs : List (List Key × Addr × Value)} (r : KT H kvs xs) (k : List Key) {b : Addr} {y : V} {u : Value} (hb : H b = some (.tup (k.map kV))) (ry : RelV y u) :
    KT H (putK kvs k y) (storedH xs k b u) := by
  have e : (kvs.any fun kv => decide (kv.1 = k)) = (atKey xs k).isSome := by
    rw [valV_any, (r.val k).isSome_eq, Option.isSome_map]
  unfold putK storedH
  rw [e]
  by_cases q : (atKey xs k).isSome = true
  · rw [if_pos q, if_pos q]; exact r.repl k ry
  · rw [if_neg q, if_neg q]; exact Paired.snoc r ⟨rfl, hb, ry⟩
theorem KT.keeps {H H' : Hp} {kvs : List (List Key × V)} {xs : List (List Key × Addr × Value)} (r : KT H kvs xs) (ht : ∀ b ys, H b = some (.tup ys) → H' b = some (.tup ys)) : KT H' kvs xs :=
  Paired.mapP r fun _ _ z => ⟨z.1, ht _ _ z.2.1, z.2.2⟩

section
variable {P : Program} {w : World} {H : Hp} {h : Heap} {a : Addr}
theorem rd_of {u : HO} (ok : HOk P w H h) (e : Rd H a u) : ObjOk P w H h a u := e.ok ok
theorem dk_rd {kvs : List (Key × V)} (ok : HOk P w H h) (e : Rd H a (.dK kvs)) : kvs.length ≤ sizeLine ∧ (a == sysModules) = false ∧ ∃ vs, KV kvs vs ∧ h.DictOf (mixKind P w) a vs :=
  show ObjOk P w H h a (.dK kvs) from rd_of ok e
theorem dk_of {kvs : List (Key × V)} (ok : HOk P w H h) (e : H a = some (.dK kvs)) : kvs.length ≤ sizeLine ∧ (a == sysModules) = false ∧ ∃ vs, KV kvs vs ∧ h.DictOf (mixKind P w) a vs := dk_rd ok (.inl e)
theorem key_of {ks : List Key} (ok : HOk P w H h) (e : H a = some (.tup (ks.map kV))) : (tupleKind (mixKind P w)).is h ks a := by
  obtain ⟨_, its, r, o, h1, h2, n, h3⟩ := (show ObjOk P w H h a (.tup (ks.map kV)) from ok a _ e)
  exact ⟨o, its.toArray, n, h1, h2, h3, by simpa using items_are r⟩
theorem dt_rd {kvs : List (List Key × V)} (ok : HOk P w H h) (e : Rd H a (.dT kvs)) : kvs.length ≤ sizeLine ∧ (a == sysModules) = false ∧
    ∃ xs, KT H kvs xs ∧ h.DictOfH (tupleKind (mixKind P w)) a xs := by
  obtain ⟨z, y, xs, r, o, es, ep, h1, h2, h3, h4, h5⟩ := (show ObjOk P w H h a (.dT kvs) from rd_of ok e)
  refine ⟨z, y, xs, r, o, es, ep, h1, h2, h3, h4, fun x hx => ?_, h5⟩
  have all : ∀ {l : List (List Key × V)} {m : List (List Key × Addr × Value)}, KT H l m → ∀ x ∈ m, (tupleKind (mixKind P w)).is h x.1 x.2.1 := by
    intro l m q
    induction q with
    | nil => intro x hx; exact nomatch hx
    | @cons p q ps qs hq t ih =>
      intro x hx
      rcases List.mem_cons.mp hx with e | hx
      · subst e
        exact key_of ok (by rw [← hq.1]; exact hq.2.1)
      · exact ih x hx
  exact all r x hx
theorem dt_of {kvs : List (List Key × V)} (ok : HOk P w H h) (e : H a = some (.dT kvs)) : kvs.length ≤ sizeLine ∧ (a == sysModules) = false ∧
    ∃ xs, KT H kvs xs ∧ h.DictOfH (tupleKind (mixKind P w)) a xs := dt_rd ok (.inl e)
end

def DGet (H : Hp) (a : Addr) (y : V) (r : Option V) : Prop :=
  (∃ kvs k, Rd H a (.dK kvs) ∧ y = kV k ∧ r = valV kvs k) ∨ ∃ kvs k b, Rd H a (.dT kvs) ∧ y = .ref b ∧ H b = some (.tup (k.map kV)) ∧ r = valV kvs k
def DPut (H : Hp) (a : Addr) (y v : V) (H' : Hp) : Prop :=
  (∃ kvs k, H a = some (.dK kvs) ∧ y = kV k ∧ kvs.length < sizeLine ∧ H' = upd H a (.dK (putK kvs k v))) ∨
  ∃ kvs k b, H a = some (.dT kvs) ∧ y = .ref b ∧ H b = some (.tup (k.map kV)) ∧ kvs.length < sizeLine ∧ H' = upd H a (.dT (putK kvs k v))
theorem DGet.k {H : Hp} {a : Addr} {kvs : List (Key × V)} {k : Key} (e : H a = some (.dK kvs)) : DGet H a (kV k) (valV kvs k) := .inl ⟨kvs, k, .inl e, rfl, rfl⟩
theorem DPut.k {H : Hp} {a : Addr} {kvs : List (Key × V)} {k : Key} {v : V} (e : H a = some (.dK kvs)) (hl : kvs.length < sizeLine) : DPut H a (kV k) v (upd H a (.dK (putK kvs k v))) := .inl ⟨kvs, k, e, rfl, hl, rfl⟩
section
variable {X : Cx} {pins : List (Addr × Obj)} {σ : St} {H : Hp} {s : Shared} {a : Addr} {y v : V} {u r : Value} {o : Option V} {A : Around} {E : Value → Shared → Prop}

theorem Inv.big (I : Inv X pins σ H s) : sysModules < s.heap.objs.size := by
  have h : mainGlobals < s.heap.objs.size := (I.mod.glob.keeps I.bk).lt
  exact Nat.lt_trans (by decide) h

theorem d_getItem {Q : Value → Shared → Prop} (hu : A.units + 1 < cLine) (I : Inv X pins σ H s) (g : DGet H a y (some v)) (ry : RelV y u) (h : ∀ w' s', Inv X pins σ H s' → RelV v w' → Q w' s') :
    wpAny (model X.prog X.w) A (getItem (.ref a) u) Q E s := by
  rcases g with ⟨kvs, k, e, ey, l⟩ | ⟨kvs, k, b, e, ey, eb, l⟩
  · subst ey
    obtain ⟨z, hd, vs, rel, dd⟩ := dk_rd I.hok e
    obtain ⟨w', hw, rw'⟩ := RelO.some_of (v := v) (o := valueAt vs k) (by rw [l]; exact rel.val k)
    exact wpAny_getItem_of (kV_is ry) dd.mapOf hw (h w' _ (I.tok _) rw')
  · subst ey
    cases (show u = Value.ref b from ry)
    obtain ⟨z, hd, xs, rel, dd⟩ := dt_rd I.hok e
    obtain ⟨w', hw, rw'⟩ := RelO.some_of (v := v) (o := (atKey xs k).map (·.2)) (by rw [l]; exact rel.val k)
    obtain ⟨p, hp, hp2⟩ := Option.map_eq_some_iff.mp hw
    refine wpAny_getItem_heap (tupleKind_room_in1 hu) (key_of I.hok eb) dd hp ?_
    rw [hp2]
    exact h w' _ (I.tok _) rw'
theorem d_in {Q : Value → Shared → Prop} (hu : A.units + 1 < cLine) (I : Inv X pins σ H s) (g : DGet H a y o) (ry : RelV y u) (h : ∀ s', Inv X pins σ H s' → Q (.bool o.isSome) s') :
    wpAny (model X.prog X.w) A (compareOp .In u (.ref a)) Q E s := by
  rcases g with ⟨kvs, k, e, ey, l⟩ | ⟨kvs, k, b, e, ey, eb, l⟩
  · subst ey
    obtain ⟨z, hd, vs, rel, dd⟩ := dk_rd I.hok e
    refine wpAny_in_of (kV_is ry) hd dd.mapOf ?_
    rw [← (rel.val k).isSome_eq, ← l]
    exact h _ (I.tok _)
  · subst ey
    cases (show u = Value.ref b from ry)
    obtain ⟨z, hd, xs, rel, dd⟩ := dt_rd I.hok e
    refine wpAny_in_heap (tupleKind_room_in1 hu) (key_of I.hok eb) hd dd ?_
    have q := (rel.val k).isSome_eq
    rw [Option.isSome_map] at q
    rw [← q, ← l]
    exact h _ (I.tok _)
theorem d_notIn {Q : Value → Shared → Prop} (hu : A.units + 1 < cLine) (I : Inv X pins σ H s) (g : DGet H a y o) (ry : RelV y u) (h : ∀ s', Inv X pins σ H s' → Q (.bool (!o.isSome)) s') :
    wpAny (model X.prog X.w) A (compareOp .NotIn u (.ref a)) Q E s := by
  rcases g with ⟨kvs, k, e, ey, l⟩ | ⟨kvs, k, b, e, ey, eb, l⟩
  · subst ey
    obtain ⟨z, hd, vs, rel, dd⟩ := dk_rd I.hok e
    refine wpAny_notIn_of (kV_is ry) hd dd.mapOf ?_
    rw [← (rel.val k).isSome_eq, ← l]
    exact h _ (I.tok _)
  · subst ey
    cases (show u = Value.ref b from ry)
    obtain ⟨z, hd, xs, rel, dd⟩ := dt_rd I.hok e
    refine wpAny_notIn_heap (tupleKind_room_in1 hu) (key_of I.hok eb) hd dd ?_
    have q := (rel.val k).isSome_eq
    rw [Option.isSome_map] at q
    rw [← q, ← l]
    exact h _ (I.tok _)
theorem d_write {h' : Heap} {t' : Nat} {ob : HO} (I : Inv X pins σ H s) (mu : Mut (H a)) (hs : Heap.SameBut a s.heap h') (he : ∃ q, h'.get? a = some q) (new : ObjOk X.prog X.w (upd H a ob) h' a ob) :
    Inv X pins σ (upd H a ob) { s with heap := h', toks := t' } :=
  I.write (x := a) (e := a) mu (.inl rfl) (fun b q hb z => (hs.2 b hb).trans z) he new
theorem dk_new {P : Program} {w : World} {H' : Hp} {h' : Heap} {kvs : List (Key × V)} {vs : List (Key × Value)} (z : kvs.length ≤ sizeLine) (hd : (a == sysModules) = false) (rel : KV kvs vs) (dd : h'.DictOf (mixKind P w) a vs) :
    ObjOk P w H' h' a (.dK kvs) := ⟨z, hd, vs, rel, dd⟩
theorem d_setItem {H' : Hp} {Q : Unit → Shared → Prop} (hu : A.units + 1 < cLine) (I : Inv X pins σ H s) (g : DPut H a y v H') (ry : RelV y u) (rv : RelV v r) (h : ∀ s', Inv X pins σ H' s' → Q () s') :
    wpAny (model X.prog X.w) A (setItem (.ref a) u r) Q E s := by
  rcases g with ⟨kvs, k, e, ey, l, eH⟩ | ⟨kvs, k, b, e, ey, eb, l, eH⟩
  · subst ey eH
    obtain ⟨z, hd, vs, rel, dd⟩ := dk_of I.hok e
    have hz : vs.length ≤ sizeLine := by rw [← rel.length]; exact z
    have hl : (putK kvs k v).length ≤ sizeLine := by have := length_putK kvs k v; omega
    refine wpAny_setItem_pairs (hsz := hz) (kV_is ry) dd fun h' dd' hs => h _ ?_
    have he : ∃ q, h'.get? a = some q := let ⟨q, _, _, hq, _⟩ := dd'; ⟨q, hq⟩
    exact d_write I (by rw [e]; exact True.intro) hs he (dk_new hl hd (rel.put k rv) dd')
  · subst ey eH
    cases (show u = Value.ref b from ry)
    obtain ⟨z, hd, xs, rel, dd⟩ := dt_of I.hok e
    have hz : xs.length ≤ sizeLine := by rw [← Paired.length rel]; exact z
    have hl : (putK kvs k v).length ≤ sizeLine := by have := length_putK kvs k v; omega
    refine wpAny_setItem_heap (hsz := hz) (tupleKind_room_in1 hu) (key_of I.hok eb) dd fun h' dd' hs => h _ ?_
    obtain ⟨q, es, ep, hq, h2, h3, h4, _, h5⟩ := dd'
    refine d_write I (by rw [e]; exact True.intro) hs ⟨q, hq⟩ ⟨hl, hd, _, (rel.put k eb rv).keeps fun c ys ec => ?_, q, es, ep, hq, h2, h3, h4, h5⟩
    rw [upd_ne (ne_of ec e (fun z => nomatch z))]
    exact ec
end

section
variable {X : Cx} {pins : List (Addr × Obj)} {σ : St} {H : Hp} {s : Shared} {a : Addr} {kvs : List (Key × V)} {k : Key} {u : Value} {A : Around} {E : Value → Shared → Prop}
theorem d_delItem {Q : Unit → Shared → Prop} (I : Inv X pins σ H s) (e : H a = some (.dK kvs)) (ry : RelV (kV k) u) (l : (valV kvs k).isSome = true) (h : ∀ s', Inv X pins σ (upd H a (.dK (dropK kvs k))) s' → Q () s') :
    wpAny (model X.prog X.w) A (delItem (.ref a) u) Q E s := by
  obtain ⟨z, hd, vs, rel, dd⟩ := dk_of I.hok e
  refine wpAny_delItem_slot dd.typeIs (by decide) PySem.F.slot_dict_delitem
    (call_meetsIn PySem.F.slot_dict_delitem dd.typeIs PySem.F.entry_dict_delitem (PySem.F.args_dict_delitem_2 _ _) (meets_dict_delitem_pairs (mixKind X.prog X.w) a (kV_is ry)) ⟨vs, dd, by rw [← rel.length]; exact z, by rw [← (rel.val k).isSome_eq]; exact l, fun h' dd' hs => h _ ?_⟩)
  have he : ∃ q, h'.get? a = some q := let ⟨q, _, _, hq, _⟩ := dd'; ⟨q, hq⟩
  exact d_write I (by rw [e]; exact True.intro) hs he (dk_new (Nat.le_trans (dropK_le kvs k) z) hd (rel.drop k) dd')
theorem d_pop {v : V} {more : List Value} {Q : Value → Shared → Prop} (I : Inv X pins σ H s) (e : H a = some (.dK kvs)) (ry : RelV (kV k) u) (l : valV kvs k = some v) (hm : more = [] ∨ ∃ x, more = [x])
    (h : ∀ w' s', Inv X pins σ (upd H a (.dK (dropK kvs k))) s' → RelV v w' → Q w' s') : wpAny (model X.prog X.w) A (call (.builtin "dict.pop") (.ref a :: u :: more)) Q E s := by
  obtain ⟨z, hd, vs, rel, dd⟩ := dk_of I.hok e
  obtain ⟨w', hw, rw'⟩ := RelO.some_of (v := v) (o := valueAt vs k) (by rw [← l]; exact rel.val k)
  have hp : (keyPart u).isSome = true := by
    cases k with
    | inl i => obtain ⟨t, q⟩ := (show ∃ t, u = Value.int i t from ry); subst q; rfl
    | inr x => obtain ⟨t, q⟩ := (show ∃ t, u = Value.str x t from ry); subst q; rfl
  have ha : argsOk "dict.pop" ⟨.ref a :: u :: more, []⟩ := by
    rcases hm with q | ⟨x, q⟩
    · subst q; exact PySem.F.args_dict_pop_2 _ _
    · subst q; exact PySem.F.args_dict_pop_3 _ _ _
  refine call_meetsIn PySem.F.slot_dict_pop dd.typeIs PySem.F.entry_dict_pop ha (meets_dict_pop_there (mixKind X.prog X.w) a (kV_is ry) more hm hp)
    ⟨vs, w', dd, by rw [← rel.length]; exact z, hw, fun h' dd' hs => h w' _ ?_ rw'⟩
  have he : ∃ q, h'.get? a = some q := let ⟨q, _, _, hq, _⟩ := dd'; ⟨q, hq⟩
  exact d_write I (by rw [e]; exact True.intro) hs he (dk_new (Nat.le_trans (dropK_le kvs k) z) hd (rel.drop k) dd')
theorem d_len {Q : Value → Shared → Prop} (I : Inv X pins σ H s) (e : Rd H a (.dK kvs)) (h : ∀ t s', Inv X pins σ H s' → Q (.int kvs.length t) s') : wpAny (model X.prog X.w) A (call (.builtin "len") [.ref a]) Q E s := by
  obtain ⟨z, hd, vs, rel, dd⟩ := dk_rd I.hok e
  refine call_len_dict hd dd (by rw [← rel.length]; rw [sizeLine_eq] at z; omega) ?_
  rw [← rel.length]
  exact h _ _ (I.tok _)
end


def NoSl (i : Expr) : Prop := ∀ ov iv, subscripted i false ov iv = operate [ov, iv] (getItem ov iv)
theorem subD_of {prog : Program} {w : World} {A : Around} {E : Value → Shared → Prop} {s : Shared} {env : Env} {value slice : Expr} {pos : Pos} {T id : String} {Q : Value → Shared → Prop}
    (hl : typeLookup (.type T) "__getitem__" = pure (some (.builtin id))) (hs : NoSl slice)
    (h : wpAny (model prog w) A (eval value env) (fun o s₁ => wpAny (model prog w) A (eval slice env) (fun i s₂ => s₂.TypeIs o T ∧ wpAny (model prog w) A (getItem o i) Q E s₂) E s₁) E s) :
    wpAny (model prog w) A (eval (.Subscript value slice pos) env) Q E s := by
  refine Subscript_ (wpAny_mono h (fun o s₁ h₁ => wpAny_mono h₁ (fun i s₂ h₂ => ?_) fun _ _ x => x) fun _ _ x => x)
  obtain ⟨hT, h₂⟩ := h₂
  unfold subscriptTail
  refine wpAny_bind ?_
  rw [getitemInPython_of_ne hT.not_modules]
  refine wpAny_bind (wpAny_specialOf hT hl ?_)
  have fin : wpAny (model prog w) A (subscripted slice false o i) (fun r s₃ => wpAny (model prog w) A (letTemporaryGo value o r >>= fun _ => pure r) Q E s₃) E s₂ := by
    rw [hs o i]
    exact wpAny_operating (wpAny_mono h₂ (fun r s₃ h₃ => wpAny_bind (wpAny_letTemporaryGo (wpAny_pure h₃))) fun _ _ x => x)
  first
    | exact wpAny_pure (wpAny_bind fin)
    | exact wpAny_bind (wpAny_pure (wpAny_bind fin))
    | exact wpAny_bind fin

theorem dict_typeIs {X : Cx} {pins : List (Addr × Obj)} {σ : St} {H : Hp} {s : Shared} {a : Addr} {y : V} {o : Option V} (I : Inv X pins σ H s) (g : DGet H a y o) : s.TypeIs (.ref a) "dict" := by
  rcases g with ⟨kvs, k, e, _, _⟩ | ⟨kvs, k, b, e, _, _, _⟩
  · obtain ⟨_, _, vs, _, dd⟩ := dk_rd I.hok e
    exact dd.typeIs
  · obtain ⟨_, _, xs, _, dd⟩ := dt_rd I.hok e
    exact dd.typeIs
def tDGet (td ty : TE) : TE := fun σ H Q => td σ H fun x H1 => ty σ H1 fun y H2 => ∃ a v, x = .ref a ∧ DGet H2 a y (some v) ∧ Q v H2
def tDIn (ty td : TE) : TE := fun σ H Q => ty σ H fun y H1 => td σ H1 fun x H2 => ∃ a o, x = .ref a ∧ DGet H2 a y o ∧ Q (.bl o.isSome) H2
def tDNotIn (ty td : TE) : TE := fun σ H Q => ty σ H fun y H1 => td σ H1 fun x H2 => ∃ a o, x = .ref a ∧ DGet H2 a y o ∧ Q (.bl (!o.isSome)) H2
def sDPut (td ty tv : TE) : TS := fun D σ H => tv σ H fun v H1 => td σ H1 fun x H2 => ty σ H2 fun y H3 => ∃ a H4, x = .ref a ∧ DPut H3 a y v H4 ∧ D.nx σ H4
section
variable {X : Cx} {o i e value : Expr} {pos pos' tpos : Pos} {td ty tv : TE}
theorem pe_dget (hu : X.A.units + 1 < cLine) (ho : PE X o td) (hi : PE X i ty) (hs : NoSl i) : PE X (.Subscript o i pos) (tDGet td ty) := by
  intro pins s σ H Q I h
  refine subD_of PySem.F.slot_dict_getitem.lookup hs (thn (ho pins s σ H _ I h) fun u s1 ⟨x, H1, I1, rx, q1⟩ => thn (hi pins s1 σ H1 _ I1 q1) fun iv s2 ⟨y, H2, I2, ry, a, v, ex, g, q2⟩ => ?_)
  subst ex
  obtain rfl : u = Value.ref a := rx
  exact ⟨dict_typeIs I2 g, d_getItem hu I2 g ry fun w' s3 I3 rw' => ⟨v, H2, I3, rw', q2⟩⟩
theorem pc_din (hu : X.A.units + 1 < cLine) (hi : PE X i ty) (ho : PE X o td) : PC X .In i o (tDIn ty td) := by
  intro pins s σ H Q I h
  refine thn (hi pins s σ H _ I h) fun iv s1 ⟨y, H1, I1, ry, q1⟩ => thn (ho pins s1 σ H1 _ I1 q1) fun u s2 ⟨x, H2, I2, rx, a, ov, ex, g, q2⟩ => ?_
  subst ex
  obtain rfl : u = Value.ref a := rx
  exact d_in hu I2 g ry fun s3 I3 => ⟨.bl ov.isSome, H2, I3, rfl, q2⟩
theorem pc_dnotin (hu : X.A.units + 1 < cLine) (hi : PE X i ty) (ho : PE X o td) : PC X .NotIn i o (tDNotIn ty td) := by
  intro pins s σ H Q I h
  refine thn (hi pins s σ H _ I h) fun iv s1 ⟨y, H1, I1, ry, q1⟩ => thn (ho pins s1 σ H1 _ I1 q1) fun u s2 ⟨x, H2, I2, rx, a, ov, ex, g, q2⟩ => ?_
  subst ex
  obtain rfl : u = Value.ref a := rx
  exact d_notIn hu I2 g ry fun s3 I3 => ⟨.bl (!ov.isSome), H2, I3, rfl, q2⟩
theorem ps_dput (hu : X.A.units + 1 < cLine) (ho : PE X o td) (hi : PE X i ty) (hv : PE X value tv) (hs : swapsWith value (some (.Subscript o i pos')) pos.line X.env = pure false) :
    PS X (.Assign [.Subscript o i pos'] value pos) (sDPut td ty tv) := by
  intro pins s σ H D I h
  refine wpAny_Assign_Subscript (thn (hv pins s σ H _ I h) fun r s1 ⟨v, H1, I1, rv, q1⟩ => thn (ho pins s1 σ H1 _ I1 q1) fun u s2 ⟨x, H2, I2, rx, q2⟩ => thn (hi pins s2 σ H2 _ I2 q2) fun iv s3 ⟨y, H3, I3, ry, a, H4, ex, g, q3⟩ => ?_) hs
  subst ex
  obtain rfl : u = Value.ref a := rx
  exact d_setItem hu I3 g ry rv fun s4 I4 => ⟨σ, H4, I4, q3⟩
end


theorem dk_empty {P : Program} {w : World} {H : Hp} (h : Heap) (hb : sysModules < h.objs.size) : ObjOk P w H (h.push { cls := .type "dict", data := .dict #[] }) h.objs.size (.dK []) :=
  ⟨Nat.zero_le _, beq_eq_false_iff_ne.mpr (Ne.symm (Nat.ne_of_lt hb)), [], .nil, Heap.DictOf.new h⟩
def tDNewK : TE := fun _ H Q => ∀ p, H p = none → Q (.ref p) (upd H p (.dK []))
section
variable {X : Cx} {pos : Pos}
theorem pe_dnewK : PE X (.Dict [] [] pos) tDNewK := fun pins s σ H Q I h =>
  wpAny_Dict_empty ⟨.ref s.heap.objs.size, _, I.laid (a := s.heap.objs.size) (o := .dK []) (t' := s.toks) (fun _ _ q => Heap.get?_push_of_some _ q) (Nat.le_refl _) (dk_empty s.heap I.big), rfl, h _ (I.hok.fresh (Nat.le_refl _))⟩
end

structure M1 (X : Cx) (o : Expr) (m : Str) (apos : Pos) (e : Expr) (cpos : Pos) : Prop where
  base : attributeBase o m X.env (eval o X.env) = eval o X.env
  few : ((backTo cpos (starEach [e] X.env)).all (fun x => !x.1) && (backToKw cpos (keywordEach [] X.env)).all (fun x => x.1.isSome)
    && decide (([e] : List Expr).length + ([] : List Keyword).length + (if ([] : List Keyword).isEmpty then 0 else 1) < 30)) = true
  line : (apos.endLine == cpos.line) = true
  trees : backTo cpos (starEach [e] X.env) = [(false, eval e X.env)]
def IsD (H : Hp) (a : Addr) : Prop := (∃ kvs, Rd H a (.dK kvs)) ∨ ∃ kvs, Rd H a (.dT kvs)
theorem isD_at {X : Cx} {pins : List (Addr × Obj)} {σ : St} {H : Hp} {s : Shared} {a : Addr} (I : Inv X pins σ H s) (d : IsD H a) :
    s.TypeIs (.ref a) "dict" ∧ (∀ b, Value.ref a = .ref b → ∃ ob, s.heap.get? b = some ob ∧ ob.dict = none) ∧ (a == sysModules) = false := by
  rcases d with ⟨kvs, e⟩ | ⟨kvs, e⟩
  · obtain ⟨_, hd, vs, _, dd⟩ := dk_rd I.hok e
    refine ⟨dd.typeIs, fun b q => ?_, hd⟩
    cases q
    obtain ⟨ob, _, _, h1, h2, _⟩ := dd
    exact ⟨ob, h1, h2.2.1⟩
  · obtain ⟨_, hd, xs, _, dd⟩ := dt_rd I.hok e
    refine ⟨dd.typeIs, fun b q => ?_, hd⟩
    cases q
    obtain ⟨ob, _, _, h1, h2, _⟩ := dd
    exact ⟨ob, h1, h2.2.1⟩

section
variable {X : Cx} {pins : List (Addr × Obj)} {σ : St} {H : Hp} {s : Shared} {a : Addr} {y d : V} {u r : Value} {o : Option V} {A : Around} {E : Value → Shared → Prop}
theorem d_get1 {Q : Value → Shared → Prop} (hu : A.units + 1 < cLine) (I : Inv X pins σ H s) (g : DGet H a y o) (ry : RelV y u) (h : ∀ w' s', Inv X pins σ H s' → RelV (o.getD .non) w' → Q w' s') :
    wpAny (model X.prog X.w) A (call (.builtin "dict.get") [.ref a, u]) Q E s := by
  rcases g with ⟨kvs, k, e, ey, l⟩ | ⟨kvs, k, b, e, ey, eb, l⟩
  · subst ey
    obtain ⟨z, hd, vs, rel, dd⟩ := dk_rd I.hok e
    refine call_meetsIn PySem.F.slot_dict_get dd.typeIs PySem.F.entry_dict_get (PySem.F.args_dict_get_2 _ _) (meets_dict_get (mixKind X.prog X.w) a (kV_is ry) hd) ⟨_, dd.mapOf, h _ _ (I.tok _) ?_⟩
    rw [l]
    exact (rel.val k).getD rfl
  · subst ey
    cases (show u = Value.ref b from ry)
    obtain ⟨z, hd, xs, rel, dd⟩ := dt_rd I.hok e
    refine call_meetsIn PySem.F.slot_dict_get dd.typeIs PySem.F.entry_dict_get (PySem.F.args_dict_get_2 _ _) (meetsH_dict_get (tupleKind (mixKind X.prog X.w)) a b hd) ⟨tupleKind_room_in1 hu, k, xs, key_of I.hok eb, dd, h _ _ (I.tok _) ?_⟩
    rw [l]
    exact (rel.val k).getD rfl
end

def tDGet1 (td ty : TE) : TE := fun σ H Q => td σ H fun x H1 => ∃ a, x = .ref a ∧ IsD H1 a ∧ ty σ H1 fun y H2 => ∃ o, DGet H2 a y o ∧ Q (o.getD .non) H2
def tDPop1 (td ty : TE) : TE := fun σ H Q => td σ H fun x H1 => ∃ a, x = .ref a ∧ IsD H1 a ∧ ty σ H1 fun y H2 => ∃ kvs k v, H2 a = some (.dK kvs) ∧ y = kV k ∧ valV kvs k = some v ∧ Q v (upd H2 a (.dK (dropK kvs k)))
section
variable {X : Cx} {o e f : Expr} {apos cpos : Pos} {td ty tx : TE}
theorem pe_dget1 (hu : X.A.units + 1 < cLine) (ho : PE X o td) (he : PE X e ty) (m : M1 X o "get" apos e cpos) : PE X (.Call (.Attribute o "get" apos) [e] [] cpos) (tDGet1 td ty) := by
  intro pins s σ H Q I h
  refine wpAny_Call_method m.base m.few m.line PySem.F.plainAttrs_dict PySem.F.slot_dict_get PySem.F.type_dict_get (thn (ho pins s σ H _ I h) fun u s1 ⟨x, H1, I1, rx, a, ex, d, q1⟩ => ?_)
  subst ex
  obtain rfl : u = Value.ref a := rx
  obtain ⟨t1, t2, _⟩ := isD_at I1 d
  refine ⟨t1, t2, ?_⟩
  rw [m.trees]
  refine Calls.callWith_builtin rfl (Calls.evalArgs_plain (Calls.spliced_cons (thn (he pins s1 σ H1 _ I1 q1) fun iv s2 ⟨y, H2, I2, ry, ov, g, q2⟩ => Calls.spliced_nil ?_)))
  exact d_get1 hu I2 g ry fun w' s3 I3 rw' => ⟨_, H2, I3, rw', q2⟩
theorem pe_dpop1 (ho : PE X o td) (he : PE X e ty) (m : M1 X o "pop" apos e cpos) : PE X (.Call (.Attribute o "pop" apos) [e] [] cpos) (tDPop1 td ty) := by
  intro pins s σ H Q I h
  refine wpAny_Call_method m.base m.few m.line PySem.F.plainAttrs_dict PySem.F.slot_dict_pop PySem.F.type_dict_pop (thn (ho pins s σ H _ I h) fun u s1 ⟨x, H1, I1, rx, a, ex, d, q1⟩ => ?_)
  subst ex
  obtain rfl : u = Value.ref a := rx
  obtain ⟨t1, t2, _⟩ := isD_at I1 d
  refine ⟨t1, t2, ?_⟩
  rw [m.trees]
  refine Calls.callWith_builtin rfl (Calls.evalArgs_plain (Calls.spliced_cons (thn (he pins s1 σ H1 _ I1 q1) fun iv s2 ⟨y, H2, I2, ry, kvs, k, v, ea, ey, l, q2⟩ => Calls.spliced_nil ?_)))
  subst ey
  exact d_pop I2 ea ry l (.inl rfl) fun w' s3 I3 rw' => ⟨v, _, I3, rw', q2⟩
end

section
variable {X : Cx} {pins : List (Addr × Obj)} {σ : St} {H : Hp} {s : Shared} {a : Addr} {kvs : List (Key × V)} {A : Around} {E : Value → Shared → Prop}
end


section
variable {X : Cx} {pins : List (Addr × Obj)} {σ : St} {H : Hp} {s : Shared} {a : Addr} {y : V} {u : Value} {A : Around} {E : Value → Shared → Prop}
end
end L2

namespace L2
open PySem PySem.Spec PyProof.Rows

section
variable {prog : Program} {w : World} {A : Around} {E : Value → Shared → Prop}
end

section
variable {X : Cx}
end
end L2

namespace L2
open PySem PySem.Spec PyProof.Rows

section
variable {X : Cx} {pins : List (Addr × Obj)} {σ : St} {H : Hp} {s : Shared} {h' : Heap}
theorem Inv.turnedNew {t' : Nat} {ch : List Addr} {T : Addr} {ob : HO} (I : Inv X pins σ H s) (k : ∀ b o, b ∉ ch → s.heap.get? b = some o → h'.get? b = some o) (hf : ∀ b ∈ ch, FpOk X pins H b) (hT : s.heap.objs.size ≤ T)
    (new : ObjOk X.prog X.w (upd H T ob) h' T ob) : Inv X pins σ (upd H T ob) { s with heap := h', toks := t' } := by
  have hn : H T = none := I.hok.fresh hT
  have nit : ∀ b u, H b = some u → b ∉ ch := fun b u e z => by
    have q := (hf b z).1
    rw [q] at e; cases e
  refine I.step (g' := s.gens) (d' := s.drawn) (ch := ch) (fun b hb => ⟨(hf b hb).2.2.2.1, (hf b hb).2.1, (hf b hb).2.2.2.2.1, (hf b hb).2.2.2.2.2⟩) (fun b o _ _ hc e _ => k b o hc e) (fun b o _ _ hc e _ => ⟨o.slots, k b o hc e⟩)
    (fun b o _ e n => ?_) (fun b o hc e => ⟨o, k b o hc e⟩) (fun b xs e => ?_) (fun b o u e => ?_) (fun b ps e => ⟨#[], ?_⟩) (fun m hm => ?_) (fun b u e => ?_) I.bare
  · rw [upd_ne (Nat.ne_of_lt (Nat.lt_of_lt_of_le (Heap.lt_size e) hT))]; exact n
  · rw [upd_ne (ne_of_none e hn)]; exact e
  · rw [upd_ne (ne_of_none e hn)]; exact e
  · rw [upd_ne (ne_of_none e hn), e]; simp
  · obtain ⟨o, es, ep, ho, r⟩ := hm
    exact ⟨o, es, ep, k _ o (fun z => (hf _ z).2.1 rfl) ho, r⟩
  · by_cases hb : b = T
    · subst hb
      rw [upd_same] at e
      cases e
      exact new
    · rw [upd_ne hb] at e
      refine (I.hok b u e).stay (fun c v hc q => k c v ?_ q) (fun c q => by rw [upd_ne (ne_of_none q hn)]; exact q) fun c xs q => by rw [upd_ne (ne_of_none q hn)]; exact q
      rcases hc with z | z
      · rw [z]; exact nit b u e
      · exact nit c _ z

theorem Inv.lock {d : Addr} {u : HO} (I : Inv X pins σ H s) (h : H d = some u) (mu : Mut (some u)) : ∃ od, Inv X pins σ (upd H d (.frz od u)) s := by
  have x := I.hok d u h
  have ex : ∃ od, s.heap.get? d = some od := by
    cases u with
    | lst xs => obtain ⟨_, _, _, _, e⟩ := x; exact ⟨_, e⟩
    | dK kvs => obtain ⟨_, _, _, _, o, _, _, e, _⟩ := x; exact ⟨o, e⟩
    | dT kvs => obtain ⟨_, _, _, _, o, _, _, e, _⟩ := x; exact ⟨o, e⟩
    | set S n => obtain ⟨o, _, _, _, e, _⟩ := x; exact ⟨o, e⟩
    | ins C dx fs => obtain ⟨_, _, _, e, _⟩ := x; exact ⟨_, e⟩
    | ext φ => obtain ⟨_, ⟨_, e⟩, _⟩ := x; exact ⟨_, e⟩
    | _ => exact False.elim mu
  obtain ⟨od, e⟩ := ex
  have new : ObjOk X.prog X.w (upd H d (.frz od u)) s.heap d (.frz od u) := by
    refine ⟨e, x.stay (fun b v _ q => q) (fun b q => ?_) fun b xs q => ?_⟩
    · rw [upd_ne (fun z => by rw [z, h] at q; cases q; exact mu)]; exact q
    · rw [upd_ne (fun z => by rw [z, h] at q; cases q; exact mu)]; exact q
  exact ⟨od, I.write (x := d) (e := d) (t' := s.toks) (h' := s.heap) (by rw [h]; exact mu) (.inl rfl) (fun b v _ q => q) ⟨od, e⟩ new⟩
theorem Inv.nofrz {d : Addr} {u : HO} (I : Inv X pins σ H s) (h : H d = some u) (mu : Mut (some u)) : ∀ o' u', X.H_0 d ≠ some (.frz o' u') := fun o' u' e => by
  have q := I.base.frzs d o' u' e
  rw [h] at q
  cases q
  exact mu
theorem Inv.unlock {d : Addr} {od : Obj} {u : HO} (I : Inv X pins σ H s) (h : H d = some (.frz od u)) (hn : ∀ o' u', X.H_0 d ≠ some (.frz o' u')) : Inv X pins σ (upd H d u) s := by
  have neH : ∀ b o, H b = some o → (∀ o' u', o ≠ .frz o' u') → b ≠ d := fun b o e hne z => by
    rw [z, h] at e
    cases e
    exact hne _ _ rfl
  have neN : ∀ b, H b = none → b ≠ d := fun b e z => by rw [z, h] at e; cases e
  refine ⟨I.ok, I.os, I.bare, ⟨I.base.keep, I.base.slot, fun b o e n hx => ?_, I.base.there, fun b xs e => ?_, fun b o x e => ?_, fun b ps e => ?_⟩, I.loc, I.cell, ?_, fun x c e => ?_, fun p hp => ?_, fun b o e => ?_, I.len⟩
  · rw [upd_ne (neN b (I.base.free b o e n hx))]; exact I.base.free b o e n hx
  · have q := I.base.tups b xs e
    rw [upd_ne (neH b _ q (fun _ _ z => nomatch z))]; exact q
  · have q := I.base.frzs b o x e
    rw [upd_ne (fun z => by rw [z] at e; exact hn _ _ e)]; exact q
  · obtain ⟨m, q⟩ := I.base.tbls b ps e
    exact ⟨m, by rw [upd_ne (neH b _ q (fun _ _ z => nomatch z))]; exact q⟩
  · rw [upd_ne (neN _ I.free)]; exact I.free
  · rw [upd_ne (neN c (I.freeC x c e))]; exact I.freeC x c e
  · obtain ⟨e, n, r⟩ := I.pin p hp
    exact ⟨e, by rw [upd_ne (neN _ n)]; exact n, r⟩
  · by_cases hb : b = d
    · rw [hb, upd_same] at e
      cases e
      rw [hb]
      obtain ⟨_, x⟩ := I.hok d _ h
      exact x.stay (fun c v _ q => q) (fun c q => by rw [upd_ne (neH c _ q (fun _ _ z => nomatch z))]; exact q) fun c xs q => by rw [upd_ne (neH c _ q (fun _ _ z => nomatch z))]; exact q
    · rw [upd_ne hb] at e
      exact (I.hok b o e).stay (fun c v _ q => q) (fun c q => by rw [upd_ne (neH c _ q (fun _ _ z => nomatch z))]; exact q) fun c xs q => by rw [upd_ne (neH c _ q (fun _ _ z => nomatch z))]; exact q
end
def tLock (t : TS) : TS := fun D σ H => ∃ d u, H d = some u ∧ Mut (some u) ∧ ∀ od, t ⟨fun σ' H' => H' d = some (.frz od u) ∧ D.nx σ' (upd H' d u), fun v H' => H' d = some (.frz od u) ∧ D.rt v (upd H' d u), fun σ' H' => H' d = some (.frz od u) ∧ D.bk σ' (upd H' d u), fun σ' H' => H' d = some (.frz od u) ∧ D.ct σ' (upd H' d u)⟩ σ (upd H d (.frz od u))
section
variable {X : Cx}
theorem ps_lock {st : Stmt} {t : TS} (h : PS X st t) : PS X st (tLock t) := by
  intro pins s σ H D I hw
  obtain ⟨d, u, hd, mu, hw⟩ := hw
  obtain ⟨od, I1⟩ := I.lock hd mu
  refine thn (h pins s σ _ _ I1 (hw od)) fun f s1 q => ?_
  cases f with
  | next => obtain ⟨σ', H', I2, e, q⟩ := q; exact ⟨σ', _, I2.unlock e (I.nofrz hd mu), q⟩
  | brk => obtain ⟨σ', H', I2, e, q⟩ := q; exact ⟨σ', _, I2.unlock e (I.nofrz hd mu), q⟩
  | cont => obtain ⟨σ', H', I2, e, q⟩ := q; exact ⟨σ', _, I2.unlock e (I.nofrz hd mu), q⟩
  | ret v => obtain ⟨x, σ', H', I2, r, e, q⟩ := q; exact ⟨x, σ', _, I2.unlock e (I.nofrz hd mu), r, q⟩
theorem pi_one {tg : Expr} {pins : List (Addr × Obj)} {σ : St} {H : Hp} {s : Shared} {R : It → Hp → Prop} {J : It} {tn : Nat → Heap → Prop} {tk : Nat} (I : Inv X pins σ H s) (o : Obj)
    (T : Turn X.prog X.w X.K tg J [s.heap.objs.size] s.heap.objs.size tn) (st : tn 0 (s.heap.push o)) (q : R J H) : PIE X pins σ tg R (.ref s.heap.objs.size) { s with heap := s.heap.push o, toks := tk } := by
  refine ⟨s.heap.objs.size, [s.heap.objs.size], tn, J, H, rfl, I.kept fun b ob e => Heap.get?_push_of_some _ e, T, st, fun b hb => ?_, q⟩
  have e : b = s.heap.objs.size := by simpa using hb
  subst e
  exact I.fpOk (Nat.le_refl _) (I.hok.fresh (Nat.le_refl _))
end

def Itc (lo c : Int) (n : Nat) : It := ⟨fun i _ => i < n, fun i H x H' => H' = H ∧ x = .int (lo + (i : Nat) * c), fun i _ => n ≤ i⟩
theorem turn_rangeC {P : Program} {w : World} {K : PySem.W.Frag} {tg : Expr} (it : Addr) (lo c : Int) (n : Nat) : Turn P w K tg (Itc lo c n) [it] it (fun i h => IsRangeIter h it (lo + (i : Nat) * c) ((n : Int) - (i : Nat)) c) where
  mem := by simp
  obj := fun i h st b hb => by
    have e : b = it := by simpa using hb
    subst e
    exact ⟨_, st, fun v z => nomatch z⟩
  keep := fun i h h' st k => k it (by simp) _ st
  item := by
    intro X hP hw hK hc i pins s σ H E I hf st hg
    subst hP hw hK
    obtain ⟨f0, f1, f2, f3, f4, f5⟩ := hf it (by simp)
    have W := Walks.range (prog := X.prog) (w := X.w) (I.ok.hd hc) it lo c n
    refine W.item i s _ _ hg st fun v h' tk hv st' kk => ?_
    obtain ⟨t, rfl⟩ := hv
    have I1 : Inv X pins σ H { s with heap := h', toks := tk } := I.turned (fun b o hb e => kk b o (by simpa using hb) e) f0 f1 f3 f4 f5
    exact ⟨_, rfl, go_of (s := { s with heap := h', toks := tk }) (n := "range_iterator") st' rfl rfl (by decide) ⟨.int (lo + (i : Nat) * c), H, I1, ⟨t, rfl⟩, ⟨rfl, rfl⟩, st', fun b hb => (hf b hb).1⟩⟩
  done := by
    intro X hP hw hK hc i pins s σ H E I hf st hg
    subst hP hw hK
    obtain ⟨f0, f1, f2, f3, f4, f5⟩ := hf it (by simp)
    exact wpAny_pyNext_range_end (I.ok.hd hc) st (by have : n ≤ i := hg; omega) fun h' eb => ⟨rfl, I.turned (t' := s.toks) (fun b o hb e => eb b o hb e) f0 f1 f3 f4 f5⟩
  self := fun A i s Q E st h => wpAny_pyIter_rangeiter st h
def RgC (i j c : Int) (n : Nat) : Prop := c ≠ 0 ∧ c.natAbs < 1073741824 ∧ Builtin.Range.small i j c = true ∧ Builtin.Range.rangeSize i j c = n
def iRng3 (ta : TA) : TI := fun σ H R => ta σ H fun vs H1 => ∃ (i j c : Int) (n : Nat), vs = [.int i, .int j, .int c] ∧ RgC i j c n ∧ R (Itc i c n) H1
section
variable {X : Cx} {tg : Expr}
theorem pi_range3 {a b c : Expr} {ta : TA} {p pos : Pos} (hg : Gl X "range") (hm : X.mg "range" = none) (ha : PA X [a, b, c] ta)
    (hs : starEach [a, b, c] X.env = (false, eval a X.env) :: starEach [b, c] X.env := by rfl) (hpl : (backTo pos (starEach [b, c] X.env)).any (·.1) = false := by rfl) :
    PI X tg (.Call (.Name "range" p) [a, b, c] [] pos) (iRng3 ta) := by
  intro pins s σ H R I h
  refine Call_ (ld_blt I hg hm boot_range (PyProof.Rows.callWith_type1 (thn (ha pos pins s σ H _ I h) fun us s1 ⟨vs, H1, I1, r1, q1⟩ => ?_) hs hpl))
  obtain ⟨i, j, k, n, e, ⟨c0, c1, c2, c3⟩, q⟩ := q1
  subst e
  cases r1 with
  | cons r rr =>
    cases rr with
    | cons r' rr =>
      cases rr with
      | cons r'' rr =>
        cases rr
        obtain ⟨t, rfl⟩ := r
        obtain ⟨t', rfl⟩ := r'
        obtain ⟨t'', rfl⟩ := r''
        refine call_range_3 c0 ?_ (.inl (PyProof.noPylong_small c1))
        refine wpAny_pyIter_range (IsRange.new ..) c2 ?_
        have I2 : Inv X pins σ H1 { s1 with heap := s1.heap.push { cls := .type "range", data := .fields #[.int i t, .int j t', .int k t''] } } := I1.kept (t' := s1.toks) fun b o e => Heap.get?_push_of_some _ e
        refine pi_one (tk := s1.toks) I2 _ (turn_rangeC _ i k n) ?_ q
        have e1 : i + ((0 : Nat) : Int) * k = i := by simp
        have e2 : (n : Int) - ((0 : Nat) : Int) = Builtin.Range.rangeSize i j k := by rw [c3]; simp
        show IsRangeIter _ _ (i + ((0 : Nat) : Int) * k) ((n : Int) - ((0 : Nat) : Int)) k
        rw [e1, e2]
        exact Heap.get?_push_size _ rfl
end
theorem for_rangeC {lo c : Int} {n : Nat} {g : TG} {tb : TS} {D : Ends} {σ : St} {H : Hp} (Pv : Nat → St → Hp → Prop) (h0 : Pv 0 σ H)
    (hs : ∀ i σ H, i < n → Pv i σ H → g (.int (lo + (i : Nat) * c)) σ H fun σ2 H2 => tb { D with nx := Pv (i + 1), ct := Pv (i + 1), bk := D.nx } σ2 H2) (hd : ∀ σ H, Pv n σ H → D.nx σ H) :
    ∃ W : Nat → Nat → St → Hp → Prop, (∃ m, W 0 m σ H) ∧ ∀ i m σ H, W i m σ H →
      ((Itc lo c n).stop i H ∧ D.nx σ H) ∨ ((Itc lo c n).go i H ∧ ∃ N : St → Hp → Prop, (∀ σ' H', N σ' H' → ∃ m', m' < m ∧ W (i + 1) m' σ' H') ∧ ∀ x H', (Itc lo c n).yld i H x H' → g x σ H' fun σ2 H2 => tb { D with nx := N, ct := N, bk := D.nx } σ2 H2) := by
  refine ⟨fun i m σ H => m = n - i ∧ i ≤ n ∧ Pv i σ H, ⟨n, by simp, Nat.zero_le _, h0⟩, ?_⟩
  rintro i m σ H ⟨rfl, hi, p⟩
  by_cases hlt : i < n
  · refine .inr ⟨hlt, Pv (i + 1), fun σ' H' p' => ⟨n - (i + 1), by omega, rfl, hlt, p'⟩, fun x H' y => ?_⟩
    obtain ⟨e, y⟩ := y
    subst e y
    exact hs i σ _ hlt p
  · have e : i = n := by omega
    subst e
    exact .inl ⟨Nat.le_refl _, hd σ H p⟩

section
variable {X : Cx} {tg : Expr}
end

section
variable {prog : Program} {w : World} {A : Around} {E : Value → Shared → Prop} {s : Shared}
theorem iter_keys {d : Addr} {o : Obj} {es : Array DictEntry} {ep : Nat} {Q : Value → Shared → Prop} (hd : (d == sysModules) = false) (ho : s.heap.get? d = some o) (hc : o.ExactDict) (hdat : o.data = .dict es ep)
    (hQ : Q (.ref s.heap.objs.size) { s with heap := s.heap.push { cls := .type "dict_keyiterator", data := .fields #[.ref d, .int 0 0, .int es.size 0, .int ep 0] } }) :
    wpAny (model prog w) A (pyIter (.ref d)) Q E s := by
  have hT : s.TypeIs (.ref d) "dict" := ⟨o, ho, hc.1⟩
  refine wpAny_pyIter_slot hT F.slot_dict_iter (wpAny_call_entry F.slot_dict_iter hT F.entry_dict_iter ?_ (F.args_dict_iter_1 _))
  unfold Builtin.«dict.__iter__»
  refine wpAny_bind ?_
  unfold Builtin.Dict.dictSlotNone
  refine wpAny_bind (wpAny_notOrdered_dict hT ?_)
  show wpAny _ _ (pure (Value.ref d)) _ _ s
  refine wpAny_pure ?_
  show wpAny _ _ (Builtin.Dict.showsAll d >>= _) _ _ s
  unfold Builtin.Dict.showsAll
  rw [if_neg (by rw [hd]; exact Bool.false_ne_true)]
  refine wpAny_bind (wpAny_pure ?_)
  refine wpAny_bind (wpAny_dictEntries ho hdat ?_)
  refine wpAny_bind (wpAny_dictEpoch ho hdat ?_)
  refine wpAny_bind (wpAny_newObj_type (wpAny_pure ⟨_, rfl, "dict_keyiterator", _, ⟨_, Heap.get?_push_size _ rfl, rfl⟩, F.slot_dict_keyiterator_next.lookup, ?_⟩))
  simpa [rawInt] using hQ
theorem next_key_item {it d : Addr} {i n ep : Nat} {od : Obj} {es : Array DictEntry} {en : DictEntry} {Q : Option Value → Shared → Prop} (hit : s.heap.IsKeyIter it d i n ep) (hod : s.heap.get? d = some od) (hdd : od.data = .dict es ep)
    (hsz : es.size = n) (hx : es[i]? = some en) (hQ : ∀ h', h'.IsKeyIter it d (i + 1) n ep → Heap.SameBut it s.heap h' → Q (some en.key) { s with heap := h' }) : wpAny (model prog w) A (pyNext (.ref it)) Q E s := by
  obtain ⟨o, ho, hc, hd⟩ := id hit
  unfold pyNext
  refine wpAny_bind (wpAny_attempt (wpAny_callSpecial?_slot (name := Str.ofString "__next__") hit.typeIs F.slot_dict_keyiterator_next
    (wpAny_call_entry F.slot_dict_keyiterator_next hit.typeIs F.entry_dict_keyiterator_next ?_ (F.args_dict_keyiterator_next_1 _))))
  refine wpAny_bind (wpAny_pure ?_)
  refine wpAny_bind ?_
  refine wpAny_bind ?_
  first | refine wpAny_bind (wpAny_typeNameOfWhole_keyiter hit.typeIs (wpAny_pure ?_)) | refine wpAny_bind (wpAny_typeNameOf_keyiter hit.typeIs (wpAny_pure ?_))
  refine wpAny_bind (wpAny_fieldsOf ho hd ?_)
  have hown : Builtin.Dict_items.ownsTuple "dict_keyiterator" = false := by decide
  simp only [hown, Bool.false_eq_true, if_false]
  show wpAny _ _ (if (Value.ref d == Value.none) = true then _ else _) _ _ s
  rw [if_neg (show ¬ ((Value.ref d == Value.none) = true) from Bool.false_ne_true)]
  refine wpAny_bind (wpAny_pure ?_)
  refine wpAny_bind (wpAny_dictEntries hod hdd ?_)
  rw [if_neg (by rw [hsz]; simp)]
  refine wpAny_bind (wpAny_pure ?_)
  refine wpAny_bind (wpAny_dictEpoch hod hdd ?_)
  rw [if_neg (by simp)]
  refine wpAny_pure ?_
  obtain ⟨hlt', hen⟩ := Array.getElem?_eq_some_iff.mp hx
  simp only [show ¬ ((i : Int) < 0) from by omega, if_false, Int.toNat_natCast, Array.getElem?_eq_getElem hlt']
  refine wpAny_bind ?_
  first | refine wpAny_bind (wpAny_typeNameOfWhole_keyiter hit.typeIs (wpAny_pure ?_)) | refine wpAny_bind (wpAny_typeNameOf_keyiter hit.typeIs (wpAny_pure ?_))
  refine wpAny_bind (wpAny_isOneOf_keyiter hit.typeIs ?_)
  show wpAny _ _ (setField (.ref it) 1 (rawInt ((i : Int) + 1)) >>= _) _ _ s
  refine wpAny_bind (wpAny_setField ho hd (by simp) ?_)
  have hit' : (s.heap.update it (Obj.mapFields (·.setIfInBounds 1 (rawInt ((i : Int) + 1))))).IsKeyIter it d (i + 1) n ep :=
    ⟨_, Heap.get?_update_self _ ho (Obj.isFreed_of_fields (Obj.data_mapFields hd _)), (Obj.cls_mapFields ..).trans hc, by rw [Obj.data_mapFields hd]; simp [rawInt]⟩
  refine wpAny_bind (wpAny_holding ?_)
  refine wpAny_bind (wpAny_isOneOf_keyiter (s := { s with heap := s.heap.update it (Obj.mapFields (·.setIfInBounds 1 (rawInt ((i : Int) + 1)))) }) hit'.typeIs ?_)
  show wpAny _ _ (pure es[i].key) _ _ _
  rw [hen]
  exact wpAny_pure (wpAny_pure ⟨_, rfl, wpAny_pure (hQ _ hit' (Heap.SameBut.update ..))⟩)
theorem next_key_end {it d : Addr} {i n ep : Nat} {od : Obj} {es : Array DictEntry} {Q : Option Value → Shared → Prop} (hh : A.handled = none) (hit : s.heap.IsKeyIter it d i n ep) (hod : s.heap.get? d = some od) (hdd : od.data = .dict es ep)
    (hsz : es.size = n) (hge : n ≤ i) (hQ : ∀ h', Heap.ExtBut it s.heap h' → Q none { s with heap := h' }) : wpAny (model prog w) A (pyNext (.ref it)) Q E s := by
  obtain ⟨o, ho, hc, hd⟩ := id hit
  unfold pyNext
  refine wpAny_bind (wpAny_attempt (wpAny_callSpecial?_slot (name := Str.ofString "__next__") hit.typeIs F.slot_dict_keyiterator_next
    (wpAny_call_entry F.slot_dict_keyiterator_next hit.typeIs F.entry_dict_keyiterator_next ?_ (F.args_dict_keyiterator_next_1 _))))
  refine wpAny_bind (wpAny_pure ?_)
  refine wpAny_bind ?_
  refine wpAny_bind ?_
  first | refine wpAny_bind (wpAny_typeNameOfWhole_keyiter hit.typeIs (wpAny_pure ?_)) | refine wpAny_bind (wpAny_typeNameOf_keyiter hit.typeIs (wpAny_pure ?_))
  refine wpAny_bind (wpAny_fieldsOf ho hd ?_)
  have hown : Builtin.Dict_items.ownsTuple "dict_keyiterator" = false := by decide
  simp only [hown, Bool.false_eq_true, if_false]
  show wpAny _ _ (if (Value.ref d == Value.none) = true then _ else _) _ _ s
  rw [if_neg (show ¬ ((Value.ref d == Value.none) = true) from Bool.false_ne_true)]
  refine wpAny_bind (wpAny_pure ?_)
  refine wpAny_bind (wpAny_dictEntries hod hdd ?_)
  rw [if_neg (by rw [hsz]; simp)]
  refine wpAny_bind (wpAny_pure ?_)
  refine wpAny_bind (wpAny_dictEpoch hod hdd ?_)
  rw [if_neg (by simp)]
  refine wpAny_pure ?_
  have hge' : es.size ≤ i := by rw [hsz]; exact hge
  simp only [show ¬ ((i : Int) < 0) from by omega, if_false, Int.toNat_natCast, Array.getElem?_eq_none hge']
  refine wpAny_bind ?_
  first | refine wpAny_bind (wpAny_typeNameOfWhole_keyiter hit.typeIs (wpAny_pure ?_)) | refine wpAny_bind (wpAny_typeNameOf_keyiter hit.typeIs (wpAny_pure ?_))
  show wpAny _ _ (setField (.ref it) 0 .none >>= _) _ _ s
  refine wpAny_bind (wpAny_setField ho hd (by simp) ?_)
  show wpAny _ _ (newExc (.type "StopIteration") [] >>= _) _ _ _
  refine wpAny_bind ?_
  simp only [newExc, newTuple]
  refine wpAny_bind (wpAny_newObj_type ?_ (by size_fits))
  refine wpAny_bind (m := firstArgMember _ _) (wpAny_of_eq (a := Value.none) (by first | rfl | (simp only [firstArgMember]; rfl)) ?_)
  refine wpAny_newObj_type ?_ (by size_fits)
  simp only [raiseNew]
  refine wpAny_bind (wpAny_handled ?_)
  rw [show A.in1.handled = none from hh]
  refine wpAny_bind (wpAny_pure (wpAny_throw ?_))
  refine wpAny_bind (wpAny_isInstance (T := "StopIteration") (b := true) ⟨_, Heap.get?_push_size _ rfl, rfl⟩ isSubtype_stop ?_)
  exact wpAny_pure (hQ _ (((Heap.SameBut.update ..).extBut.push _).push _))
end

theorem kv_get {κ : Type} {kvs : List (κ × V)} {vs : List (κ × Value)} (h : KV kvs vs) : ∀ {i : Nat} {k : κ} {v : V}, kvs[i]? = some (k, v) → ∃ u, vs[i]? = some (k, u) ∧ RelV v u := by
  unfold KV at h
  induction h with
  | nil => intro i k v e; simp at e
  | @cons a b l₁ l₂ r t ih =>
    intro i k v e
    cases i with
    | zero =>
      simp only [List.getElem?_cons_zero, Option.some.injEq] at e
      subst e
      refine ⟨b.2, ?_, r.2⟩
      simp only [List.getElem?_cons_zero]
      exact congrArg some (Prod.ext r.1.symm rfl)
    | succ j =>
      simp only [List.getElem?_cons_succ] at e ⊢
      exact ih e
theorem paired_get {α β : Type} {G : α → β → Prop} {l₁ : List α} {l₂ : List β} (h : Paired G l₁ l₂) : ∀ {i : Nat} {a : α}, l₁[i]? = some a → ∃ b, l₂[i]? = some b ∧ G a b := by
  induction h with
  | nil => intro i a e; simp at e
  | @cons a b l₁ l₂ r t ih =>
    intro i a' e
    cases i with
    | zero =>
      simp only [List.getElem?_cons_zero, Option.some.injEq] at e
      subst e
      exact ⟨b, rfl, r⟩
    | succ j =>
      simp only [List.getElem?_cons_succ] at e ⊢
      exact ih e
theorem relV_key {k : Key} {u : Value} (h : keyIs k u = true) : RelV (kV k) u := by
  rcases keyIs_shape h with ⟨i, t, rfl, rfl⟩ | ⟨x, t, rfl, rfl⟩
  · exact ⟨t, rfl⟩
  · exact ⟨t, rfl⟩
section
variable {X : Cx} {pins : List (Addr × Obj)} {σ : St} {H : Hp} {s : Shared} {d : Addr} {o : Obj}
theorem Inv.frzK {kvs : List (Key × V)} (I : Inv X pins σ H s) (h : H d = some (.frz o (.dK kvs))) :
    (d == sysModules) = false ∧ s.heap.get? d = some o ∧ o.ExactDict ∧ ∃ (es : Array DictEntry) (ep : Nat) (vs : List (Key × Value)), o.data = .dict es ep ∧ es.size = kvs.length ∧ KV kvs vs ∧ s.heap.DictAt (mixKind X.prog X.w) d vs ep := by
  obtain ⟨hd, z, hs, vs, kv, o', es, ep, ho, hx, hdt, r⟩ := I.hok d _ h
  rw [hd] at ho
  cases ho
  refine ⟨hs, hd, hx, es, ep, vs, hdt, ?_, kv, o, es, hd, hx, hdt, r⟩
  have l1 := r.2.1.length
  have l2 : kvs.length = vs.length := Paired.length kv
  rw [Array.length_toList] at l1
  omega
theorem Inv.frzT {kvs : List (List Key × V)} (I : Inv X pins σ H s) (h : H d = some (.frz o (.dT kvs))) :
    (d == sysModules) = false ∧ s.heap.get? d = some o ∧ o.ExactDict ∧ ∃ (es : Array DictEntry) (ep : Nat), o.data = .dict es ep ∧ es.size = kvs.length ∧
      ∀ (i : Nat) (k : List Key) (v : V), kvs[i]? = some (k, v) → ∃ (en : DictEntry) (q : Addr), es[i]? = some en ∧ en.key = .ref q ∧ H q = some (.tup (k.map kV)) := by
  obtain ⟨hd, z, hs, xs, pr, o', es, ep, ho, hx, hdt, he, _⟩ := I.hok d _ h
  rw [hd] at ho
  cases ho
  refine ⟨hs, hd, hx, es, ep, hdt, ?_, fun i k v e => ?_⟩
  · have l1 : es.size = xs.length := size_of_entries he
    have l2 : kvs.length = xs.length := Paired.length pr
    omega
  · obtain ⟨b, hb, e1, e2, _⟩ := paired_get pr e
    have q := entry_at he i
    rw [hb] at q
    exact ⟨_, b.2.1, q, rfl, e2⟩
end

def Itk (d : Addr) (o : Obj) (kvs : List (Key × V)) : It :=
  ⟨fun i H => H d = some (.frz o (.dK kvs)) ∧ i < kvs.length, fun i H x H' => H' = H ∧ ∃ k v, kvs[i]? = some (k, v) ∧ x = kV k, fun i H => H d = some (.frz o (.dK kvs)) ∧ kvs.length ≤ i⟩
def Itkt (d : Addr) (o : Obj) (kvs : List (List Key × V)) : It :=
  ⟨fun i H => H d = some (.frz o (.dT kvs)) ∧ i < kvs.length, fun i H x H' => H' = H ∧ ∃ (k : List Key) (v : V) (q : Addr), kvs[i]? = some (k, v) ∧ x = .ref q ∧ H q = some (.tup (k.map kV)), fun i H => H d = some (.frz o (.dT kvs)) ∧ kvs.length ≤ i⟩
def Itd (d : Addr) (o : Obj) (kvs : List (Key × V)) : It :=
  ⟨fun i H => H d = some (.frz o (.dK kvs)) ∧ i < kvs.length, fun i H x H' => H' = H ∧ ∃ k, kvs[i]? = some (k, x), fun i H => H d = some (.frz o (.dK kvs)) ∧ kvs.length ≤ i⟩
def Iti (d : Addr) (o : Obj) (kvs : List (Key × V)) : It :=
  ⟨fun i H => H d = some (.frz o (.dK kvs)) ∧ i < kvs.length, fun i H x H' => ∃ T k v, kvs[i]? = some (k, v) ∧ x = .ref T ∧ H T = none ∧ H' = upd H T (.tup [kV k, v]), fun i H => H d = some (.frz o (.dK kvs)) ∧ kvs.length ≤ i⟩
theorem dict_ep {o : Obj} {es es' : Array DictEntry} {ep ep' : Nat} (h : o.data = .dict es ep) (h' : o.data = .dict es' ep') : es' = es ∧ ep' = ep := by
  rw [h] at h'
  cases h'
  exact ⟨rfl, rfl⟩
section
variable {P : Program} {w : World} {K : PySem.W.Frag} {tg : Expr} {d : Addr} {o : Obj} {es : Array DictEntry} {ep : Nat}
theorem turn_keys {kvs : List (Key × V)} (it : Addr) (hod : o.data = .dict es ep) : Turn P w K tg (Itk d o kvs) [it] it (fun i h => h.IsKeyIter it d i kvs.length ep) where
  mem := by simp
  obj := fun i h st b hb => by
    have e : b = it := by simpa using hb
    subst e
    obtain ⟨oi, e, c, dd⟩ := st
    exact ⟨oi, e, fun v z => by rw [dd] at z; cases z⟩
  keep := fun i h h' st k => st.at fun oi e => k it (by simp) oi e
  item := by
    intro X hP hw hK hc i pins s σ H E I hf st hg
    subst hP hw hK
    obtain ⟨hd, hi⟩ := hg
    obtain ⟨f0, f1, f2, f3, f4, f5⟩ := hf it (by simp)
    obtain ⟨hs, hgd, hx, es', ep', vs, hdt, hsz, kv, hm⟩ := I.frzK hd
    obtain ⟨rfl, rfl⟩ := dict_ep hod hdt
    obtain ⟨⟨k, v⟩, hkv⟩ : ∃ p, kvs[i]? = some p := ⟨kvs[i], List.getElem?_eq_getElem hi⟩
    obtain ⟨u, hu, ru⟩ := kv_get kv hkv
    have hl : kvs.length = vs.length := Paired.length kv
    rw [hl] at st
    refine wpAny_pyNext_dict_item st hm hu fun key h' hkey st' sb => ?_
    have I1 : Inv X pins σ H { s with heap := h' } := I.turned (t' := s.toks) (fun b ob hb e => (sb.2 b hb).trans e) f0 f1 f3 f4 f5
    obtain ⟨oi, e, c, dd⟩ := id st'
    refine ⟨key, rfl, go_of (s := { s with heap := h' }) e c dd (by decide) ⟨kV k, H, I1, relV_key (show keyIs k key = true from hkey), ⟨rfl, k, v, hkv, rfl⟩, ?_, fun b hb => (hf b hb).1⟩⟩
    show h'.IsKeyIter it d (i + 1) kvs.length _
    rw [hl]
    exact st'
  done := by
    intro X hP hw hK hc i pins s σ H E I hf st hg
    subst hP hw hK
    obtain ⟨hd, hi⟩ := hg
    obtain ⟨f0, f1, f2, f3, f4, f5⟩ := hf it (by simp)
    obtain ⟨hs, hgd, hx, es', ep', vs, hdt, hsz, kv, hm⟩ := I.frzK hd
    obtain ⟨rfl, rfl⟩ := dict_ep hod hdt
    exact next_key_end (I.ok.hd hc) st hgd hdt hsz hi fun h' eb => ⟨rfl, I.turned (t' := s.toks) (fun b ob hb e => eb b ob hb e) f0 f1 f3 f4 f5⟩
  self := fun A i s Q E st h => wpAny_pyIter_keyiter st h
theorem turn_keysT {kvs : List (List Key × V)} (it : Addr) (hod : o.data = .dict es ep) : Turn P w K tg (Itkt d o kvs) [it] it (fun i h => h.IsKeyIter it d i kvs.length ep) where
  mem := by simp
  obj := fun i h st b hb => by
    have e : b = it := by simpa using hb
    subst e
    obtain ⟨oi, e, c, dd⟩ := st
    exact ⟨oi, e, fun v z => by rw [dd] at z; cases z⟩
  keep := fun i h h' st k => st.at fun oi e => k it (by simp) oi e
  item := by
    intro X hP hw hK hc i pins s σ H E I hf st hg
    subst hP hw hK
    obtain ⟨hd, hi⟩ := hg
    obtain ⟨f0, f1, f2, f3, f4, f5⟩ := hf it (by simp)
    obtain ⟨hs, hgd, hx, es', ep', hdt, hsz, ent⟩ := I.frzT hd
    obtain ⟨rfl, rfl⟩ := dict_ep hod hdt
    obtain ⟨⟨k, v⟩, hkv⟩ : ∃ p, kvs[i]? = some p := ⟨kvs[i], List.getElem?_eq_getElem hi⟩
    obtain ⟨en, q, hen, hkey, hq⟩ := ent i k v hkv
    refine next_key_item st hgd hdt hsz hen fun h' st' sb => ?_
    have I1 : Inv X pins σ H { s with heap := h' } := I.turned (t' := s.toks) (fun b ob hb e => (sb.2 b hb).trans e) f0 f1 f3 f4 f5
    obtain ⟨oi, e, c, dd⟩ := id st'
    exact ⟨en.key, rfl, go_of (s := { s with heap := h' }) e c dd (by decide) ⟨.ref q, H, I1, hkey, ⟨rfl, k, v, q, hkv, rfl, hq⟩, st', fun b hb => (hf b hb).1⟩⟩
  done := by
    intro X hP hw hK hc i pins s σ H E I hf st hg
    subst hP hw hK
    obtain ⟨hd, hi⟩ := hg
    obtain ⟨f0, f1, f2, f3, f4, f5⟩ := hf it (by simp)
    obtain ⟨hs, hgd, hx, es', ep', hdt, hsz, ent⟩ := I.frzT hd
    obtain ⟨rfl, rfl⟩ := dict_ep hod hdt
    exact next_key_end (I.ok.hd hc) st hgd hdt hsz hi fun h' eb => ⟨rfl, I.turned (t' := s.toks) (fun b ob hb e => eb b ob hb e) f0 f1 f3 f4 f5⟩
  self := fun A i s Q E st h => by
    refine wpAny_pyIter_slot st.typeIs F.slot_dict_keyiterator_iter (wpAny_call_entry F.slot_dict_keyiterator_iter st.typeIs F.entry_dict_keyiterator_iter ?_ (F.args_dict_keyiterator_iter_1 _))
    show wpAny _ _ (ret (.ref it)) _ _ s
    exact wpAny_pure ⟨_, rfl, "dict_keyiterator", _, st.typeIs, F.slot_dict_keyiterator_next.lookup, h⟩
theorem turn_vals {kvs : List (Key × V)} (it : Addr) (hod : o.data = .dict es ep) : Turn P w K tg (Itd d o kvs) [it] it (fun i h => h.IsValIter it d i kvs.length ep) where
  mem := by simp
  obj := fun i h st b hb => by
    have e : b = it := by simpa using hb
    subst e
    obtain ⟨oi, e, c, dd⟩ := st
    exact ⟨oi, e, fun v z => by rw [dd] at z; cases z⟩
  keep := fun i h h' st k => st.at fun oi e => k it (by simp) oi e
  item := by
    intro X hP hw hK hc i pins s σ H E I hf st hg
    subst hP hw hK
    obtain ⟨hd, hi⟩ := hg
    obtain ⟨f0, f1, f2, f3, f4, f5⟩ := hf it (by simp)
    obtain ⟨hs, hgd, hx, es', ep', vs, hdt, hsz, kv, hm⟩ := I.frzK hd
    obtain ⟨rfl, rfl⟩ := dict_ep hod hdt
    obtain ⟨⟨k, v⟩, hkv⟩ : ∃ p, kvs[i]? = some p := ⟨kvs[i], List.getElem?_eq_getElem hi⟩
    obtain ⟨u, hu, ru⟩ := kv_get kv hkv
    have hl : kvs.length = vs.length := Paired.length kv
    rw [hl] at st
    refine wpAny_pyNext_values_item st hm hu fun h' st' sb => ?_
    have I1 : Inv X pins σ H { s with heap := h' } := I.turned (t' := s.toks) (fun b ob hb e => (sb.2 b hb).trans e) f0 f1 f3 f4 f5
    obtain ⟨oi, e, c, dd⟩ := id st'
    refine ⟨u, rfl, go_of (s := { s with heap := h' }) e c dd (by decide) ⟨v, H, I1, ru, ⟨rfl, k, hkv⟩, ?_, fun b hb => (hf b hb).1⟩⟩
    show h'.IsValIter it d (i + 1) kvs.length _
    rw [hl]
    exact st'
  done := by
    intro X hP hw hK hc i pins s σ H E I hf st hg
    subst hP hw hK
    obtain ⟨hd, hi⟩ := hg
    obtain ⟨f0, f1, f2, f3, f4, f5⟩ := hf it (by simp)
    obtain ⟨hs, hgd, hx, es', ep', vs, hdt, hsz, kv, hm⟩ := I.frzK hd
    obtain ⟨rfl, rfl⟩ := dict_ep hod hdt
    have hl : kvs.length = vs.length := Paired.length kv
    rw [hl] at st
    exact wpAny_pyNext_values_end (I.ok.hd hc) st hm (List.getElem?_eq_none (by omega)) fun h' eb => ⟨rfl, I.turned (t' := s.toks) (fun b ob hb e => eb b ob hb e) f0 f1 f3 f4 f5⟩
  self := fun A i s Q E st h => wpAny_pyIter_valiter st h
theorem turn_items {kvs : List (Key × V)} {elts : List Expr} {kk : Nat} {tpos : Pos} (it : Addr) (hod : o.data = .dict es ep) :
    Turn P w K (.Tuple elts kk tpos) (Iti d o kvs) [it] it (fun i h => ∃ ok ov, IsItemIter h it d i kvs.length ep ok ov) where
  mem := by simp
  obj := fun i h st b hb => by
    have e : b = it := by simpa using hb
    subst e
    obtain ⟨ok, ov, e⟩ := st
    exact ⟨_, e, fun v z => nomatch z⟩
  keep := fun i h h' st k => let ⟨ok, ov, e⟩ := st; ⟨ok, ov, k it (by simp) _ e⟩
  item := by
    intro X hP hw hK hc i pins s σ H E I hf st hg
    subst hP hw hK
    obtain ⟨hd, hi⟩ := hg
    obtain ⟨hs, hgd, hx, es', ep', vs, hdt, hsz, kv, hm⟩ := I.frzK hd
    obtain ⟨rfl, rfl⟩ := dict_ep hod hdt
    obtain ⟨⟨k, v⟩, hkv⟩ : ∃ p, kvs[i]? = some p := ⟨kvs[i], List.getElem?_eq_getElem hi⟩
    obtain ⟨u, hu, ru⟩ := kv_get kv hkv
    have hl : kvs.length = vs.length := Paired.length kv
    obtain ⟨ok, ov, he⟩ := st
    rw [hl] at he
    have hlt : it < s.heap.objs.size := Heap.lt_size he
    refine wpAny_pyNext_items_item he hm hu fun key h' hkey ho hT hz hk => ?_
    refine ⟨_, rfl, wpAny_letOwnedTupleGo_items (s := { s with heap := h' }) ho fun h'' he' sb => ?_⟩
    have hT2 : h''.get? s.heap.objs.size = some { cls := .type "tuple", data := .seq #[key, u] } := (sb.2 _ (Nat.ne_of_gt hlt)).trans hT
    have new : ObjOk X.prog X.w (upd H s.heap.objs.size (.tup [kV k, v])) h'' s.heap.objs.size (.tup [kV k, v]) :=
      ⟨by show 2 ≤ sizeLine; decide, [key, u], .cons (relV_key (show keyIs k key = true from hkey)) (.cons ru .nil), ⟨_, hT2, rfl, _, rfl⟩⟩
    have I1 : Inv X pins σ (upd H s.heap.objs.size (.tup [kV k, v])) { s with heap := h'' } :=
      I.turnedNew (t' := s.toks) (ch := [it]) (fun b ob hb e => (sb.2 b (by simpa using hb)).trans (hk b ob (by simpa using hb) e)) hf (Nat.le_refl _) new
    refine ⟨.ref s.heap.objs.size, _, I1, rfl, ⟨_, k, v, hkv, rfl, I.hok.fresh (Nat.le_refl _), rfl⟩, ⟨key, u, ?_⟩, fun b hb => ?_⟩
    · rw [hl]; exact he'
    · have e : b = it := by simpa using hb
      rw [e, upd_ne (Nat.ne_of_lt hlt)]
      exact (hf it (by simp)).1
  done := by
    intro X hP hw hK hc i pins s σ H E I hf st hg
    subst hP hw hK
    obtain ⟨hd, hi⟩ := hg
    obtain ⟨f0, f1, f2, f3, f4, f5⟩ := hf it (by simp)
    obtain ⟨hs, hgd, hx, es', ep', vs, hdt, hsz, kv, hm⟩ := I.frzK hd
    obtain ⟨rfl, rfl⟩ := dict_ep hod hdt
    have hl : kvs.length = vs.length := Paired.length kv
    obtain ⟨ok, ov, he⟩ := st
    rw [hl] at he
    exact wpAny_pyNext_items_end (I.ok.hd hc) he hm (List.getElem?_eq_none (by omega)) fun h' eb => ⟨rfl, I.turned (t' := s.toks) (fun b ob hb e => eb b ob hb e) f0 f1 f3 f4 f5⟩
  self := fun A i s Q E st h => let ⟨_, _, e⟩ := st; PySem.W.kcp_self e h
end

def iKeys (td : TE) : TI := fun σ H R => td σ H fun x H1 => ∃ d o, x = .ref d ∧ ((∃ kvs, H1 d = some (.frz o (.dK kvs)) ∧ R (Itk d o kvs) H1) ∨ ∃ kvs, H1 d = some (.frz o (.dT kvs)) ∧ R (Itkt d o kvs) H1)
def iVals (td : TE) : TI := fun σ H R => td σ H fun x H1 => ∃ d o kvs, x = .ref d ∧ H1 d = some (.frz o (.dK kvs)) ∧ R (Itd d o kvs) H1
def iItems (td : TE) : TI := fun σ H R => td σ H fun x H1 => ∃ d o kvs, x = .ref d ∧ H1 d = some (.frz o (.dK kvs)) ∧ R (Iti d o kvs) H1
section
variable {X : Cx} {tg e : Expr} {td : TE} {apos cpos : Pos}
theorem pi_keys (he : PE X e td) : PI X tg e (iKeys td) := by
  intro pins s σ H R I h
  refine thn (he pins s σ H _ I h) fun u s1 ⟨x, H1, I1, rx, d, o, ex, q⟩ => ?_
  subst ex
  obtain rfl : u = Value.ref d := rx
  rcases q with ⟨kvs, hd, q⟩ | ⟨kvs, hd, q⟩
  · obtain ⟨hs, hgd, hx, es, ep, vs, hdt, hsz, kv, hm⟩ := I1.frzK hd
    refine iter_keys hs hgd hx hdt (pi_one (tk := s1.toks) I1 _ (turn_keys _ hdt) ⟨_, Heap.get?_push_size _ rfl, rfl, ?_⟩ q)
    rw [hsz] <;> rfl
  · obtain ⟨hs, hgd, hx, es, ep, hdt, hsz, ent⟩ := I1.frzT hd
    refine iter_keys hs hgd hx hdt (pi_one (tk := s1.toks) I1 _ (turn_keysT _ hdt) ⟨_, Heap.get?_push_size _ rfl, rfl, ?_⟩ q)
    rw [hsz] <;> rfl
theorem pi_values (he : PE X e td) (hbase : attributeBase e "values" X.env (eval e X.env) = eval e X.env := by rfl) (hline : (apos.endLine == cpos.line) = true := by rfl) : PI X tg (.Call (.Attribute e "values" apos) [] [] cpos) (iVals td) := by
  intro pins s σ H R I h
  refine wpAny_Call_method (T := "dict") (id := "dict.values") hbase rfl hline F.plainAttrs_dict F.slot_dict_values F.type_dict_values (thn (he pins s σ H _ I h) fun u s1 ⟨x, H1, I1, rx, d, o, kvs, ex, hd, q⟩ => ?_)
  subst ex
  obtain rfl : u = Value.ref d := rx
  obtain ⟨hs, hgd, hx, es, ep, vs, hdt, hsz, kv, hm⟩ := I1.frzK hd
  have hl : kvs.length = vs.length := Paired.length kv
  refine ⟨hm.dictOf.typeIs, hm.dictOf.mapOf.noDict, ?_⟩
  have I2 : Inv X pins σ H1 { s1 with heap := s1.heap.push { cls := .type "dict_values", data := .fields #[.ref d] } } := I1.kept (t' := s1.toks) fun b ob q => Heap.get?_push_of_some _ q
  have fin : wpAny (model X.prog X.w) X.A (pyIter (.ref s1.heap.objs.size)) (PIE X pins σ tg R) X.xe { s1 with heap := s1.heap.push { cls := .type "dict_values", data := .fields #[.ref d] } } := by
    refine wpAny_pyIter_values (d := d) (knd := mixKind X.prog X.w) ⟨_, Heap.get?_push_size _ rfl, rfl, rfl⟩ (hm.push _) (pi_one (tk := s1.toks) I2 _ (turn_vals _ hdt) ⟨_, Heap.get?_push_size _ rfl, rfl, ?_⟩ q)
    rw [hl] <;> rfl
  show wpAny _ _ (callWith cpos (.builtin "dict.values") [.ref d] [] []) _ X.xe s1
  exact method_meetsIn F.slot_dict_values F.entry_dict_values rfl (PySem.evalArgs_none ⟨rfl, hm.dictOf.typeIs, F.args_dict_values_1 _, _, meets_dict_values (mixKind X.prog X.w) d hs, ⟨vs, hm.dictOf⟩, fin⟩)
theorem pi_items {elts : List Expr} {kk : Nat} {tpos : Pos} (he : PE X e td) (hbase : attributeBase e "items" X.env (eval e X.env) = eval e X.env := by rfl) (hline : (apos.endLine == cpos.line) = true := by rfl) :
    PI X (.Tuple elts kk tpos) (.Call (.Attribute e "items" apos) [] [] cpos) (iItems td) := by
  intro pins s σ H R I h
  refine wpAny_Call_method (T := "dict") (id := "dict.items") hbase rfl hline F.plainAttrs_dict F.slot_dict_items F.type_dict_items (thn (he pins s σ H _ I h) fun u s1 ⟨x, H1, I1, rx, d, o, kvs, ex, hd, q⟩ => ?_)
  subst ex
  obtain rfl : u = Value.ref d := rx
  obtain ⟨hs, hgd, hx, es, ep, vs, hdt, hsz, kv, hm⟩ := I1.frzK hd
  have hl : kvs.length = vs.length := Paired.length kv
  refine ⟨hm.dictOf.typeIs, hm.dictOf.mapOf.noDict, ?_⟩
  have I2 : Inv X pins σ H1 { s1 with heap := s1.heap.push { cls := .type "dict_items", data := .fields #[.ref d] } } := I1.kept (t' := s1.toks) fun b ob q => Heap.get?_push_of_some _ q
  have fin : wpAny (model X.prog X.w) X.A (pyIter (.ref s1.heap.objs.size)) (PIE X pins σ (.Tuple elts kk tpos) R) X.xe { s1 with heap := s1.heap.push { cls := .type "dict_items", data := .fields #[.ref d] } } := by
    refine wpAny_pyIter_items (d := d) (knd := mixKind X.prog X.w) ⟨_, Heap.get?_push_size _ rfl, rfl, rfl⟩ (hm.push _) (pi_one (tk := s1.toks) I2 _ (turn_items _ hdt) ⟨.none, .none, ?_⟩ q)
    rw [hl]
    exact Heap.get?_push_size _ rfl
  show wpAny _ _ (callWith cpos (.builtin "dict.items") [.ref d] [] []) _ X.xe s1
  exact method_meetsIn F.slot_dict_items F.entry_dict_items rfl (PySem.evalArgs_none ⟨rfl, hm.dictOf.typeIs, F.args_dict_items_1 _, _, meets_dict_items (mixKind X.prog X.w) d hs, ⟨vs, hm.dictOf⟩, fin⟩)
end

end L2

section 
namespace Bits
open PySem PyProof.Rows

end Bits
end 

section 
namespace TL
open PySem PySem.Builtin PySem.Builtin.Str PySem.StrLaws

end TL
end 

namespace L2
open PySem PySem.Spec PyProof.Rows

section
variable {X : Cx} {pins : List (Addr × Obj)} {σ : St} {H : Hp} {s : Shared} {Q : VK}
end

section
variable {X : Cx}

end

section
variable {X : Cx} {o e : Expr} {to te : TE}
end
end L2

namespace L2
open PySem PySem.Spec PyProof.Rows

section
variable {X : Cx}
end

end L2

namespace Att
open PySem PySem.W PySem.Calls PyProof.Rows

section
variable {prog : Program} {w : World} {A : Around} {E : Value → Shared → Prop} {s : Shared} {K : Frag}

end
end Att

namespace L2
open PySem PySem.Spec PyProof.Rows

end L2

namespace L2
open PySem PySem.Spec PyProof.Rows

abbrev KOf {K : PySem.W.Frag} {h : Heap} (_ : K.In h) : PySem.W.Frag := K

end L2

namespace L2
open PySem PySem.Spec PyProof.Rows

def inClass (s : Stmt) (j : Nat) : Stmt := match s with
  | .ClassDef _ _ _ body _ _ _ _ _ _ _ => body.getD j (.Pass ⟨0, 0, 0, 0⟩)
  | _ => .Pass ⟨0, 0, 0, 0⟩
def defArgs (s : Stmt) : Arguments := match s with
  | .FunctionDef _ a _ _ _ _ _ _ _ _ => a
  | _ => { posonlyargs := [], args := [], vararg := none, kwonlyargs := [], kw_defaults := [], kwarg := none, defaults := [] }
def defBody (s : Stmt) : List Stmt := match s with
  | .FunctionDef _ _ b _ _ _ _ _ _ _ => b
  | _ => []
def defScope (s : Stmt) : Scope := match s with
  | .FunctionDef _ _ _ _ _ _ sc _ _ _ => sc
  | _ => { kind := .function, names := [], isGenerator := false, isCoroutine := false }

abbrev CX0 : CXT := fun _ _ _ _ _ _ => False
abbrev E0 : XK := fun _ _ _ => False
theorem pass0 {X : Cx} : Passes CX0 X E0 := fun _ _ _ _ _ _ _ h => h.elim

structure Fun (K : PySem.W.Frag) (x qual : Str) (st : Stmt) (f : Addr) (fd : FuncData) : Prop where
  ex : ∃ (oc : Value) (od : Option Addr) (kV doc pm : Value) (an : Option Addr) (cdv ct : Value) (osl : Array (Option Value)),
    fd = PySem.W.fnOf x qual (defArgs st) (defBody st) (defScope st) .none kV doc pm an cdv ct ∧ K.lookup f = some ⟨oc, od, .func fd, osl⟩ ∧ PySem.W.codeIn K cdv qual = true
  kp : PySem.W.keepIn K (.ref f) = true
section
variable {P : Program} {w : World} {K : PySem.W.Frag} {mg : Str → Option Value} {base : Heap}
theorem Fun.ok {x qual : Str} {st : Stmt} {f : Addr} {fd : FuncData} {N ps : List Str} {k : Nat} {sp : Sp} (F : Fun K x qual st f fd) (S : FnScope N ps (defScope st)) (len : ∀ vs H Q E, sp vs H Q E → vs.length = ps.length)
    (hbody : ∀ (cdv : Value) (A : Around) (outer : List Env) (s : Shared) (H : Hp) (vs : List V) (Q : VK) (E : XK), Room k (A.deeper (envOfC qual (defScope st) s.heap.objs.size f cdv)) → sp vs H Q E →
      ∃ t, PSs (cxOf CX0 P w K mg base N qual (defScope st) f cdv A outer s H E).nox (defBody st) t ∧ t { nx := fun _ H' => Q .non H', rt := Q } (start N vs) H) : FnOk P w K mg base CX0 (k + 1) f fd ps sp := by
  obtain ⟨oc, od, kV, doc, pm, an, cdv, ct, osl, rfl, lk, hcd⟩ := F.ex
  refine fn_of lk hcd S len fun A outer s H vs Q E hr hsp => ?_
  obtain ⟨t, h, q⟩ := hbody cdv A outer s H vs Q E hr hsp
  exact ⟨t, h.nox, q⟩
theorem Fun.binds {x qual : Str} {st : Stmt} {f : Addr} {fd : FuncData} {ps : List Str} (F : Fun K x qual st f fd)
    (h : ∀ (kV doc pm : Value) (an : Option Addr) (cdv ct : Value) (us : List Value), us.length = ps.length → bindArgs (PySem.W.fnOf x qual (defArgs st) (defBody st) (defScope st) .none kV doc pm an cdv ct) ⟨us, []⟩ = pure (ps.zip us)) : Binds K fd ps [] := by
  obtain ⟨oc, od, kV, doc, pm, an, cdv, ct, osl, rfl, lk, hcd⟩ := F.ex
  exact .all (h kV doc pm an cdv ct)
theorem fun_mk {x qual : Str} {st : Stmt} {f : Addr} {oc : Value} {od an : Option Addr} {osl : Array (Option Value)} {kV doc pm cdv ct : Value} (l : K.lookup f = some ⟨oc, od, .func (PySem.W.fnOf x qual (defArgs st) (defBody st) (defScope st) .none kV doc pm an cdv ct), osl⟩)
    (c : PySem.W.codeIn K cdv qual = true) (k : PySem.W.keepIn K (.ref f) = true) : Fun K x qual st f (PySem.W.fnOf x qual (defArgs st) (defBody st) (defScope st) .none kV doc pm an cdv ct) := ⟨⟨oc, od, kV, doc, pm, an, cdv, ct, osl, rfl, l, c⟩, k⟩
end
theorem hu_of {A : Around} {k : Nat} (hr : Room k A) : A.units + 1 < cLine := Nat.lt_of_le_of_lt (Nat.add_le_add_left (by decide : 1 ≤ 64) _) hr.units
section
variable {X : Cx}
theorem pv (i : Nat) {x : Str} {pos : Pos} (hN : X.N[i]? = some x := by rfl) (hv : Vis X.env.scope x := by first | exact Or.inl rfl | exact Or.inr (Or.inl rfl) | exact Or.inr (Or.inr rfl)) (hd : (x == ("__debug__" : Str)) = false := by decide)
    (hcd : (x == ("__classdict__" : Str)) = false := by decide) : PE X (.Name x pos) (tVar i) := pe_var hN hv hd hcd
theorem call_lenD : CallR X (.builtin "len") (fun xs H Q => ∃ a kvs, xs = [V.ref a] ∧ H a = some (.dK kvs) ∧ Q (.int kvs.length) H) := by
  intro pins s σ H xs us Q I r h
  obtain ⟨a, kvs, rfl, ha, q⟩ := h
  obtain ⟨u, rfl, ru⟩ := vals1 r
  cases ru
  exact d_len I (.inl ha) fun t s' I' => ⟨.int kvs.length, H, I', ⟨t, rfl⟩, q⟩
end

theorem iteF {A B : Prop} (h : B) : if false = true then A else B := by
  rw [if_neg Bool.false_ne_true]
  exact h
theorem iteT {A B : Prop} (h : A) : if true = true then A else B := by
  rw [if_pos rfl]
  exact h
theorem ite2 {c A B : Prop} [Decidable c] (h1 : c → A) (h2 : ¬ c → B) : if c then A else B := by
  by_cases h : c
  · rw [if_pos h]
    exact h1 h
  · rw [if_neg h]
    exact h2 h
def Same (H H' : Hp) : Prop := ∀ b o, H b = some o → H' b = some o
theorem Same.refl (H : Hp) : Same H H := fun _ _ h => h
theorem Same.trans {H H1 H2 : Hp} (a : Same H H1) (b : Same H1 H2) : Same H H2 := fun c o h => b c o (a c o h)
theorem Same.free {H H' : Hp} (e : Same H H') {l : Addr} (h : H' l = Option.none) : H l = Option.none := by
  cases q : H l with
  | none => rfl
  | some o =>
    rw [e l o q] at h
    cases h
theorem Same.seq {K : PySem.W.Frag} {H H' : Hp} {a : Addr} {xs : List V} (e : Same H H') (h : SqL K H a xs) : SqL K H' a xs := by
  rcases h with (h | ⟨o, h⟩) | h
  · exact .inl (.inl (e _ _ h))
  · exact .inl (.inr ⟨o, e _ _ h⟩)
  · exact .inr h

section
variable {κ : Type} [DecidableEq κ]
theorem nd_snoc : ∀ {l : List κ} {k : κ}, l.Nodup → ¬ k ∈ l → (l ++ [k]).Nodup
  | [], k, _, _ => by simp
  | a :: r, k, h, hk => by
    obtain ⟨h1, h2⟩ := List.nodup_cons.mp h
    show (a :: (r ++ [k])).Nodup
    refine List.nodup_cons.mpr ⟨fun m => ?_, nd_snoc h2 fun m => hk (List.mem_cons.mpr (Or.inr m))⟩
    rcases List.mem_append.mp m with q | q
    · exact h1 q
    · exact hk (List.mem_cons.mpr (Or.inl (List.mem_singleton.mp q).symm))
end
theorem at_of {xs : List V} {z : Int} {j : Nat} {v : V} (e : z = (j : Int)) (h : xs[j]? = some v) : atI xs z = some v := by
  rw [e]
  exact atI_nat h
end L2

section
set_option Elab.async false
set_option linter.all false
set_option maxRecDepth 100000
set_option maxHeartbeats 2000000
namespace L2
open PySem PySem.Spec PyProof.Rows
open PySem.W (WData Codec OpenSpec Well WellAll ReadsW ReadsAllW)
mutual
inductive Dw (K : PySem.W.Frag) (H : Hp) : V → WData → Prop
  | non : Dw K H .non .none
  | bl (b : Bool) : Dw K H (.bl b) (.bool b)
  | int (i : Int) : Dw K H (.int i) (.int i)
  | str (x : Str) : Dw K H (.str x) (.str x)
  | byt (b : Array UInt8) : Dw K H (.byt b) (.bytes b.toList)
  | lst {a : Addr} {xs : List V} {ds : List WData} : SqL K H a xs → DwAll K H xs ds → Dw K H (.ref a) (.list ds)
  | tup {a : Addr} {xs : List V} {ds : List WData} : SqT K H a xs → DwAll K H xs ds → Dw K H (.ref a) (.tuple ds)
inductive DwAll (K : PySem.W.Frag) (H : Hp) : List V → List WData → Prop
  | nil : DwAll K H [] []
  | cons {v : V} {vs : List V} {d : WData} {ds : List WData} : Dw K H v d → DwAll K H vs ds → DwAll K H (v :: vs) (d :: ds)
end
theorem dw_ints {K : PySem.W.Frag} {H : Hp} : ∀ ns : List Int, DwAll K H (ns.map V.int) (ns.map WData.int)
  | [] => .nil
  | n :: r => .cons (.int n) (dw_ints r)
theorem ints_dw {K : PySem.W.Frag} {H : Hp} : ∀ (ns : List Int) (xs : List V), DwAll K H xs (ns.map WData.int) → xs = ns.map V.int
  | [], xs, h => by
    cases h
    rfl
  | n :: r, xs, h => by
    cases h with
    | cons h1 h2 =>
      cases h1
      rw [ints_dw r _ h2] <;> rfl
section
variable {P : Program} {w : World} {K : PySem.W.Frag} {H : Hp} {h : Heap} {R : PySem.W.WRecords} {cl : Str → Option Addr}
theorem sqL_at {a : Addr} {xs : List V} (hok : HOk P w H h) (KX : K.In h) (q : SqL K H a xs) : ∃ (its : List Value) (o : Obj) (n : Nat), Vals xs its ∧ h.get? a = some o ∧ o.cls = .type "list" ∧ o.data = .seq its.toArray n := by
  rcases q with q | ⟨o, its, n, e, hc, _, hd, _, hv⟩
  · obtain ⟨_, its, n, hv, e⟩ := (show ObjOk P w H h a (.lst xs) from q.ok hok)
    exact ⟨its, _, n, hv, e, rfl, rfl⟩
  · exact ⟨its.toList, o, n, hv, KX _ _ e, hc, by simp [hd]⟩
theorem sqT_at {a : Addr} {xs : List V} (hok : HOk P w H h) (KX : K.In h) (q : SqT K H a xs) : ∃ (its : List Value) (o : Obj) (n : Nat), Vals xs its ∧ h.get? a = some o ∧ o.cls = .type "tuple" ∧ o.data = .seq its.toArray n := by
  rcases q with q | ⟨o, its, n, e, hc, hd, _, hv⟩
  · obtain ⟨_, its, hv, o, e, hc, n, hd⟩ := (show ObjOk P w H h a (.tup xs) from q.ok hok)
    exact ⟨its, o, n, hv, e, hc, hd⟩
  · exact ⟨its.toList, o, n, hv, KX _ _ e, hc, by simp [hd]⟩
mutual
theorem Dw.reads (hok : HOk P w H h) (KX : K.In h) : ∀ (d : WData) (v : V) (u : Value), Dw K H v d → RelV v u → ∃ as, ReadsW R cl h u d as
  | .none, _, _, x, r => by
    cases x
    cases r
    exact ⟨_, ReadsW.none⟩
  | .bool b, _, _, x, r => by
    cases x
    cases r
    exact ⟨_, ReadsW.bool b⟩
  | .int i, _, _, x, r => by
    cases x
    obtain ⟨t, rfl⟩ := r
    exact ⟨_, ReadsW.int i t⟩
  | .str s, _, _, x, r => by
    cases x
    obtain ⟨t, rfl⟩ := r
    exact ⟨_, ReadsW.str s t⟩
  | .bytes b, _, _, x, r => by
    cases x
    obtain ⟨t, rfl⟩ := r
    exact ⟨_, ReadsW.bytes _ t⟩
  | .list ds, _, _, x, r => by
    cases x with
    | lst hs ha =>
      cases r
      obtain ⟨its, o, n, rv, ho, hc, hd⟩ := sqL_at hok KX hs
      obtain ⟨as, hr⟩ := Dw.readsAll hok KX ds _ its ha rv
      exact ⟨_, ReadsW.list ho hc hd hr⟩
  | .tuple ds, _, _, x, r => by
    cases x with
    | tup hs ha =>
      cases r
      obtain ⟨its, o, n, rv, ho, hc, hd⟩ := sqT_at hok KX hs
      obtain ⟨as, hr⟩ := Dw.readsAll hok KX ds _ its ha rv
      exact ⟨_, ReadsW.tuple ho hc hd hr⟩
  | .float _, _, _, x, _ => by cases x
  | .dict _, _, _, x, _ => by cases x
  | .bytearray _, _, _, x, _ => by cases x
  | .set _, _, _, x, _ => by cases x
  | .frozenset _, _, _, x, _ => by cases x
  | .obj _ _, _, _, x, _ => by cases x
theorem Dw.readsAll (hok : HOk P w H h) (KX : K.In h) : ∀ (ds : List WData) (vs : List V) (us : List Value), DwAll K H vs ds → Vals vs us → ∃ as, ReadsAllW R cl h us ds as
  | [], _, _, x, r => by
    cases x
    cases r
    exact ⟨_, ReadsAllW.nil⟩
  | d :: ds, _, _, x, r => by
    cases x with
    | cons h1 h2 =>
      cases r with
      | cons r1 r2 =>
        obtain ⟨as, q1⟩ := Dw.reads hok KX d _ _ h1 r1
        obtain ⟨bs, q2⟩ := Dw.readsAll hok KX ds _ _ h2 r2
        exact ⟨_, ReadsAllW.cons q1 q2⟩
end
end
mutual
def plW : WData → Bool
  | .none => true
  | .bool _ => true
  | .int _ => true
  | .str _ => true
  | .bytes _ => true
  | .list xs => plWs xs
  | .tuple xs => plWs xs
  | _ => false
def plWs : List WData → Bool
  | [] => true
  | x :: r => plW x && plWs r
end
theorem plWs_map {α : Type} {f : α → WData} (h : ∀ a, plW (f a) = true) : ∀ l : List α, plWs (l.map f) = true
  | [] => rfl
  | x :: r => by
    show (plW (f x) && plWs (r.map f)) = true
    rw [h x, plWs_map h r] <;> rfl
theorem pl_enc : ∀ (c : Codec) (a : c.denote), plW (c.enc a) = true
  | .unit, _ => rfl
  | .bool, _ => rfl
  | .int _ _, _ => rfl
  | .nat _ _, _ => rfl
  | .u8, _ => rfl
  | .bytes _ _, _ => rfl
  | .text _ _ _ _, _ => rfl
  | .list _ _ c, a => plWs_map (fun x => pl_enc c x) a
  | .pair c d, a => by
    show (plW (c.enc a.1) && (plW (d.enc a.2) && true)) = true
    rw [pl_enc c a.1, pl_enc d a.2] <;> rfl
  | .triple c d e, a => by
    show (plW (c.enc a.1) && (plW (d.enc a.2.1) && (plW (e.enc a.2.2) && true))) = true
    rw [pl_enc c a.1, pl_enc d a.2.1, pl_enc e a.2.2] <;> rfl
  | .option c, none => rfl
  | .option c, some x => pl_enc c x
theorem pl_encAll : ∀ (cs : List Codec) (a : Codec.denoteAll cs), plWs (Codec.encAll cs a) = true
  | [], _ => rfl
  | c :: cs, a => by
    show (plW (c.enc a.1) && plWs (Codec.encAll cs a.2)) = true
    rw [pl_enc c a.1, pl_encAll cs a.2] <;> rfl
theorem weight_mem : ∀ {xs : List WData} {d : WData}, d ∈ xs → d.weight ≤ WData.weightAll xs
  | [], d, h => absurd h (by simp)
  | x :: r, d, h => by
    show d.weight ≤ x.weight + 1 + WData.weightAll r
    rcases List.mem_cons.mp h with e | m
    · rw [e]
      omega
    · have z := weight_mem m
      omega
def toV : Value → V
  | .none => .non
  | .bool b => .bl b
  | .int i _ => .int i
  | .str x _ => .str x
  | .bytes b _ => .byt b
  | .ref a => .ref a
  | _ => .non
def OkU (A : List Addr) : Value → Prop
  | .none => True
  | .bool _ => True
  | .int _ _ => True
  | .str _ _ => True
  | .bytes _ _ => True
  | .ref a => a ∈ A
  | _ => False
theorem OkU.mono {A B : List Addr} (h : ∀ a ∈ A, a ∈ B) : ∀ {u : Value}, OkU A u → OkU B u := fun {u} x => by
  cases u with
  | ref a => exact h a x
  | none => trivial
  | bool b => trivial
  | int i t => trivial
  | str s t => trivial
  | bytes b t => trivial
  | _ => exact False.elim x
theorem relV_toV {A : List Addr} {u : Value} (x : OkU A u) : RelV (toV u) u := by
  cases u with
  | ref a => rfl
  | none => rfl
  | bool b => rfl
  | int i t => exact ⟨t, rfl⟩
  | str s t => exact ⟨t, rfl⟩
  | bytes b t => exact ⟨t, rfl⟩
  | _ => exact False.elim x
theorem vals_toV {A : List Addr} : ∀ {vs : List Value}, (∀ u ∈ vs, OkU A u) → Vals (vs.map toV) vs
  | [], _ => .nil
  | u :: r, h => .cons (relV_toV (h u (List.mem_cons_self ..))) (vals_toV fun x hx => h x (List.mem_cons_of_mem _ hx))
def ArgOb (h : Heap) (A : List Addr) (a : Addr) : Prop := ∃ vs : List Value, vs.length ≤ sizeLine ∧ (∀ u ∈ vs, OkU A u) ∧
  (h.get? a = some { cls := .type "list", data := .seq vs.toArray } ∨ h.get? a = some { cls := .type "tuple", data := .seq vs.toArray })
theorem ArgOb.mono {h : Heap} {A B : List Addr} {a : Addr} (k : ∀ a ∈ A, a ∈ B) (x : ArgOb h A a) : ArgOb h B a := by
  obtain ⟨vs, h1, h2, h3⟩ := x
  exact ⟨vs, h1, fun u hu => (h2 u hu).mono k, h3⟩
theorem wellAll_len {P : Params} {h : Heap} : ∀ {vs : List Value} {ds : List WData}, WellAll P h vs ds → vs.length = ds.length
  | _, _, .nil => rfl
  | _, _, .cons _ b => by
    show _ + 1 = _ + 1
    rw [wellAll_len b]
theorem well_list {P : Params} {h : Heap} {v : Value} {ds : List WData} (x : Well P h v (.list ds)) : ∃ (a : Addr) (vs : List Value), v = .ref a ∧ h.get? a = some { cls := .type "list", data := .seq vs.toArray } ∧ WellAll P h vs ds := by
  cases x with
  | list ho hall => exact ⟨_, _, rfl, ho, hall⟩
theorem well_tuple {P : Params} {h : Heap} {v : Value} {ds : List WData} (x : Well P h v (.tuple ds)) : ∃ (a : Addr) (vs : List Value), v = .ref a ∧ h.get? a = some { cls := .type "tuple", data := .seq vs.toArray } ∧ WellAll P h vs ds := by
  cases x with
  | tuple ho hall => exact ⟨_, _, rfl, ho, hall⟩
theorem well_cons {P : Params} {h : Heap} {us : List Value} {d : WData} {ds : List WData} (x : WellAll P h us (d :: ds)) : ∃ (v : Value) (vs : List Value), us = v :: vs ∧ Well P h v d ∧ WellAll P h vs ds := by
  cases x with
  | cons a b => exact ⟨_, _, rfl, a, b⟩
theorem line_of {n : Nat} (h : n ≤ 1048576) : n ≤ sizeLine := Nat.le_trans h (by decide)
section
variable {P : Params} {h : Heap}
mutual
theorem area_one : ∀ (d : WData) (v : Value), Well P h v d → plW d = true → d.weight ≤ 1048576 → ∃ A : List Addr, OkU A v ∧ ∀ a ∈ A, ArgOb h A a
  | .none, _, x, _, _ => by
    cases x
    exact ⟨[], trivial, fun a m => absurd m (by simp)⟩
  | .bool b, _, x, _, _ => by
    cases x
    exact ⟨[], trivial, fun a m => absurd m (by simp)⟩
  | .int i, _, x, _, _ => by
    cases x
    exact ⟨[], trivial, fun a m => absurd m (by simp)⟩
  | .str s, _, x, _, _ => by
    cases x
    exact ⟨[], trivial, fun a m => absurd m (by simp)⟩
  | .bytes b, _, x, _, _ => by
    cases x
    exact ⟨[], trivial, fun a m => absurd m (by simp)⟩
  | .list ds, _, x, p, z => by
    obtain ⟨a, vs, rfl, ho, hall⟩ := well_list x
    have z2 : WData.weightAll ds ≤ 1048576 := z
    obtain ⟨A, h1, h2⟩ := area_all ds _ hall p fun d hd => Nat.le_trans (weight_mem hd) z2
    have k : ∀ b ∈ A, b ∈ a :: A := fun b hb => List.mem_cons_of_mem _ hb
    refine ⟨a :: A, List.mem_cons_self .., fun b hb => ?_⟩
    rcases List.mem_cons.mp hb with e | m
    · rw [e]
      exact ⟨vs, line_of (by rw [wellAll_len hall]; exact Nat.le_trans (PySem.W.length_le_weightAllW ds) z2), fun u hu => (h1 u hu).mono k, .inl ho⟩
    · exact (h2 b m).mono k
  | .tuple ds, _, x, p, z => by
    obtain ⟨a, vs, rfl, ho, hall⟩ := well_tuple x
    have z2 : WData.weightAll ds ≤ 1048576 := z
    obtain ⟨A, h1, h2⟩ := area_all ds _ hall p fun d hd => Nat.le_trans (weight_mem hd) z2
    have k : ∀ b ∈ A, b ∈ a :: A := fun b hb => List.mem_cons_of_mem _ hb
    refine ⟨a :: A, List.mem_cons_self .., fun b hb => ?_⟩
    rcases List.mem_cons.mp hb with e | m
    · rw [e]
      exact ⟨vs, line_of (by rw [wellAll_len hall]; exact Nat.le_trans (PySem.W.length_le_weightAllW ds) z2), fun u hu => (h1 u hu).mono k, .inr ho⟩
    · exact (h2 b m).mono k
  | .float _, _, _, p, _ => Bool.noConfusion (show false = true from p)
  | .dict _, _, _, p, _ => Bool.noConfusion (show false = true from p)
  | .bytearray _, _, _, p, _ => Bool.noConfusion (show false = true from p)
  | .set _, _, _, p, _ => Bool.noConfusion (show false = true from p)
  | .frozenset _, _, _, p, _ => Bool.noConfusion (show false = true from p)
  | .obj _ _, _, _, p, _ => Bool.noConfusion (show false = true from p)
theorem area_all : ∀ (ds : List WData) (vs : List Value), WellAll P h vs ds → plWs ds = true → (∀ d ∈ ds, d.weight ≤ 1048576) → ∃ A : List Addr, (∀ u ∈ vs, OkU A u) ∧ ∀ a ∈ A, ArgOb h A a
  | [], _, x, _, _ => by
    cases x
    exact ⟨[], fun u m => absurd m (by simp), fun a m => absurd m (by simp)⟩
  | d :: ds, _, x, p, z => by
    obtain ⟨v, vs, rfl, x1, x2⟩ := well_cons x
    have q : plW d = true ∧ plWs ds = true := Bool.and_eq_true_iff.mp p
    obtain ⟨A, a1, a2⟩ := area_one d v x1 q.1 (z d (List.mem_cons_self ..))
    obtain ⟨B, b1, b2⟩ := area_all ds vs x2 q.2 fun e he => z e (List.mem_cons_of_mem _ he)
    have kA : ∀ b ∈ A, b ∈ A ++ B := fun b hb => List.mem_append.mpr (.inl hb)
    have kB : ∀ b ∈ B, b ∈ A ++ B := fun b hb => List.mem_append.mpr (.inr hb)
    refine ⟨A ++ B, fun u hu => ?_, fun b hb => ?_⟩
    · rcases List.mem_cons.mp hu with e | m
      · rw [e]
        exact a1.mono kA
      · exact (b1 u m).mono kB
    · rcases List.mem_append.mp hb with m | m
      · exact (a2 b m).mono kA
      · exact (b2 b m).mono kB
end
end
def hoOf (o : Obj) : Option HO := match o.data with
  | .seq vs _ => if (o.cls == Value.type "list") = true then some (.frz o (.lst (vs.toList.map toV))) else some (.frz o (.tup (vs.toList.map toV)))
  | _ => none
def argH (K : PySem.W.Frag) (h : Heap) (A : List Addr) : Hp := fun b => if b ∈ A then (if (K.lookup b).isNone = true then (h.get? b).bind hoOf else none) else none
def OnlyF (H : Hp) : Prop := ∀ b, H b = none ∨ ∃ o u, H b = some (.frz o u)
theorem hoOf_lst (vs : List Value) : hoOf { cls := .type "list", data := .seq vs.toArray } = some (.frz { cls := .type "list", data := .seq vs.toArray } (.lst (vs.map toV))) := by
  show (if (Value.type "list" == Value.type "list") = true then some (HO.frz { cls := .type "list", data := .seq vs.toArray } (.lst (vs.toArray.toList.map toV))) else some (HO.frz { cls := .type "list", data := .seq vs.toArray } (.tup (vs.toArray.toList.map toV)))) = _
  rw [if_pos (beq_self_eq_true _)]
theorem hoOf_tup (vs : List Value) : hoOf { cls := .type "tuple", data := .seq vs.toArray } = some (.frz { cls := .type "tuple", data := .seq vs.toArray } (.tup (vs.map toV))) := by
  show (if (Value.type "tuple" == Value.type "list") = true then some (HO.frz { cls := .type "tuple", data := .seq vs.toArray } (.lst (vs.toArray.toList.map toV))) else some (HO.frz { cls := .type "tuple", data := .seq vs.toArray } (.tup (vs.toArray.toList.map toV)))) = _
  rw [if_neg (by decide)]
section
variable {P : Program} {w : World} {K : PySem.W.Frag} {h : Heap} {A : List Addr}
theorem argH_at {b : Addr} {o : Obj} (hb : b ∈ A) (hk : K.lookup b = none) (e : h.get? b = some o) : argH K h A b = hoOf o := by
  unfold argH
  rw [if_pos hb, hk, if_pos (show (none : Option Obj).isNone = true from rfl), e] <;> rfl
theorem of_argH {b : Addr} {u : HO} (q : argH K h A b = some u) : b ∈ A ∧ K.lookup b = none := by
  unfold argH at q
  by_cases hb : b ∈ A
  · rw [if_pos hb] at q
    cases hk : K.lookup b with
    | none => exact ⟨hb, rfl⟩
    | some o =>
      rw [hk, if_neg (by simp)] at q
      cases q
  · rw [if_neg hb] at q
    cases q
theorem argH_is (ar : ∀ a ∈ A, ArgOb h A a) {b : Addr} {u : HO} (q : argH K h A b = some u) : K.lookup b = none ∧ ∃ vs : List Value, vs.length ≤ sizeLine ∧ (∀ u ∈ vs, OkU A u) ∧
    ((h.get? b = some { cls := .type "list", data := .seq vs.toArray } ∧ u = .frz { cls := .type "list", data := .seq vs.toArray } (.lst (vs.map toV))) ∨
     (h.get? b = some { cls := .type "tuple", data := .seq vs.toArray } ∧ u = .frz { cls := .type "tuple", data := .seq vs.toArray } (.tup (vs.map toV)))) := by
  obtain ⟨hb, hk⟩ := of_argH q
  obtain ⟨vs, h1, h2, h3⟩ := ar b hb
  refine ⟨hk, vs, h1, h2, ?_⟩
  rcases h3 with e | e
  · rw [argH_at hb hk e, hoOf_lst] at q
    exact .inl ⟨e, (Option.some.inj q).symm⟩
  · rw [argH_at hb hk e, hoOf_tup] at q
    exact .inr ⟨e, (Option.some.inj q).symm⟩
theorem argH_only (ar : ∀ a ∈ A, ArgOb h A a) : OnlyF (argH K h A) := fun b => by
  cases q : argH K h A b with
  | none => exact .inl rfl
  | some u =>
    obtain ⟨_, vs, _, _, ⟨_, e⟩ | ⟨_, e⟩⟩ := argH_is ar q
    · exact .inr ⟨_, _, by rw [e]⟩
    · exact .inr ⟨_, _, by rw [e]⟩
theorem argH_ok (ar : ∀ a ∈ A, ArgOb h A a) : HOk P w (argH K h A) h := fun b u q => by
  obtain ⟨_, vs, h1, h2, ⟨e, rfl⟩ | ⟨e, rfl⟩⟩ := argH_is ar q
  · exact ⟨e, by rw [List.length_map]; exact h1, vs, _, vals_toV h2, e⟩
  · exact ⟨e, by rw [List.length_map]; exact h1, vs, vals_toV h2, _, e, rfl, _, rfl⟩
theorem seq_inj {c c' : Value} {vs us : List Value} (e : (some { cls := c, data := .seq vs.toArray } : Option Obj) = some { cls := c', data := .seq us.toArray }) : c = c' ∧ vs = us := by
  have e1 := Option.some.inj e
  have e2 : c = c' := congrArg Obj.cls e1
  have e3 : Data.seq vs.toArray = Data.seq us.toArray := congrArg Obj.data e1
  injection e3 with e4
  refine ⟨e2, ?_⟩
  have e5 := congrArg Array.toList e4
  simpa using e5
theorem argL (KX : K.In h) (ar : ∀ a ∈ A, ArgOb h A a) {a : Addr} {vs : List Value} (ha : a ∈ A) (e : h.get? a = some { cls := .type "list", data := .seq vs.toArray }) : (∀ u ∈ vs, OkU A u) ∧ SqL K (argH K h A) a (vs.map toV) := by
  obtain ⟨us, h1, h2, h3⟩ := ar a ha
  have hu : us = vs := by
    rcases h3 with q | q
    · rw [e] at q
      exact (seq_inj q).2.symm
    · rw [e] at q
      exact absurd (Value.type.inj (seq_inj q).1) (by decide)
  subst hu
  refine ⟨h2, ?_⟩
  cases hk : K.lookup a with
  | none => exact .inl (.inr ⟨_, by rw [argH_at ha hk e, hoOf_lst]⟩)
  | some o =>
    have e2 := KX a o hk
    rw [e] at e2
    obtain rfl := Option.some.inj e2
    exact .inr ⟨_, us.toArray, _, hk, rfl, rfl, rfl, by rw [List.size_toArray]; exact h1, by simpa using vals_toV h2⟩
theorem argT (KX : K.In h) (ar : ∀ a ∈ A, ArgOb h A a) {a : Addr} {vs : List Value} (ha : a ∈ A) (e : h.get? a = some { cls := .type "tuple", data := .seq vs.toArray }) : (∀ u ∈ vs, OkU A u) ∧ SqT K (argH K h A) a (vs.map toV) := by
  obtain ⟨us, h1, h2, h3⟩ := ar a ha
  have hu : us = vs := by
    rcases h3 with q | q
    · rw [e] at q
      exact absurd (Value.type.inj (seq_inj q).1) (by decide)
    · rw [e] at q
      exact (seq_inj q).2.symm
  subst hu
  refine ⟨h2, ?_⟩
  cases hk : K.lookup a with
  | none => exact .inl (.inr ⟨_, by rw [argH_at ha hk e, hoOf_tup]⟩)
  | some o =>
    have e2 := KX a o hk
    rw [e] at e2
    obtain rfl := Option.some.inj e2
    exact .inr ⟨_, us.toArray, _, hk, rfl, rfl, by rw [List.size_toArray]; exact h1, by simpa using vals_toV h2⟩
mutual
theorem dw_one {Pm : Params} (KX : K.In h) (ar : ∀ a ∈ A, ArgOb h A a) : ∀ (d : WData) (v : Value), Well Pm h v d → plW d = true → OkU A v → Dw K (argH K h A) (toV v) d
  | .none, _, x, _, _ => by
    cases x
    exact .non
  | .bool b, _, x, _, _ => by
    cases x
    exact .bl b
  | .int i, _, x, _, _ => by
    cases x
    exact .int i
  | .str s, _, x, _, _ => by
    cases x
    exact .str s
  | .bytes b, _, x, _, _ => by
    cases x
    have z := Dw.byt (K := K) (H := argH K h A) b.toArray
    exact z
  | .list ds, _, x, p, hu => by
    obtain ⟨a, vs, rfl, ho, hall⟩ := well_list x
    obtain ⟨h2, hs⟩ := argL KX ar hu ho
    exact .lst hs (dw_all KX ar ds _ hall p h2)
  | .tuple ds, _, x, p, hu => by
    obtain ⟨a, vs, rfl, ho, hall⟩ := well_tuple x
    obtain ⟨h2, hs⟩ := argT KX ar hu ho
    exact .tup hs (dw_all KX ar ds _ hall p h2)
  | .float _, _, _, p, _ => Bool.noConfusion (show false = true from p)
  | .dict _, _, _, p, _ => Bool.noConfusion (show false = true from p)
  | .bytearray _, _, _, p, _ => Bool.noConfusion (show false = true from p)
  | .set _, _, _, p, _ => Bool.noConfusion (show false = true from p)
  | .frozenset _, _, _, p, _ => Bool.noConfusion (show false = true from p)
  | .obj _ _, _, _, p, _ => Bool.noConfusion (show false = true from p)
theorem dw_all {Pm : Params} (KX : K.In h) (ar : ∀ a ∈ A, ArgOb h A a) : ∀ (ds : List WData) (vs : List Value), WellAll Pm h vs ds → plWs ds = true → (∀ u ∈ vs, OkU A u) → DwAll K (argH K h A) (vs.map toV) ds
  | [], _, x, _, _ => by
    cases x
    exact .nil
  | d :: ds, _, x, p, hu => by
    obtain ⟨v, vs, rfl, x1, x2⟩ := well_cons x
    have q : plW d = true ∧ plWs ds = true := Bool.and_eq_true_iff.mp p
    exact .cons (dw_one KX ar d v x1 q.1 (hu _ (List.mem_cons_self ..))) (dw_all KX ar ds vs x2 q.2 fun u m => hu u (List.mem_cons_of_mem _ m))
end
end
theorem spec_call {P : Program} {w : World} {K : PySem.W.Frag} {mg mb : Str → Option Value} {CX : CXT} {k : Nat} {fa : Addr} {fd : FuncData} {ps : List Str} {sp : Sp} {s₁ : Shared} {vals : List Value} {ds : List WData} {R : PySem.W.WRecords} {cl : Str → Option Addr} {d0 : WData}
    (KX : K.In s₁.heap) (hns : s₁.heap.Ns mainGlobals mg) (hb : s₁.heap.Ns builtinsNs mb) (hbb : ∀ x : Str, x ≠ "__name__" → mb x = bootBuiltins x) (hlim : s₁.heap.NoLimit) (hg : s₁.gens = #[])
    (hwl : WellAll w.params s₁.heap vals ds) (hpl : plWs ds = true) (hwt : ∀ d ∈ ds, d.weight ≤ 1048576) (hr : Room k callerA)
    (F : ∀ base : Heap, K.In base → base.Ns mainGlobals mg → FnOk P w K mg base CX k fa fd ps sp) (hbind : ∀ (s : Shared) (us : List Value), us.length = ps.length → BindsTo s fd ⟨us, []⟩ (ps.zip us)) (hlen : ds.length = ps.length)
    (hsp : ∀ (H : Hp) (xs : List V), OnlyF H → DwAll K H xs ds → sp xs H (fun v H' => Dw K H' v d0) fun _ _ _ => False)
    (hCX : ∀ H e s', CX [] H s₁ (fun _ _ _ => False) e s' → False) :
    codeAny (model P w) callerA (.call (.ref fa) ⟨vals, []⟩) (fun r s' => ∃ u as, r = .ok (.ret u) ∧ ReadsW R cl s'.heap u d0 as ∧ OldK s₁.heap s'.heap ∧ s'.os = s₁.os ∧ AllBare s'.gens) s₁ := by
  obtain ⟨A, ho, ar⟩ := area_all ds vals hwl hpl hwt
  have hO : OnlyF (argH K s₁.heap A) := argH_only ar
  have hok : HOk P w (argH K s₁.heap A) s₁.heap := argH_ok ar
  have hS := dw_all KX ar ds vals hwl hpl ho
  have hV := vals_toV ho
  have hK : ∀ b u, argH K s₁.heap A b = some u → K.lookup b = none := fun b u q => (argH_is ar q).1
  have noA : ∀ {b : Addr} {o : Obj} {es : Array DictEntry} {ep : Nat}, s₁.heap.get? b = some o → o.data = .dict es ep → argH K s₁.heap A b = none := fun {b o es ep} e d => by
    cases q : argH K s₁.heap A b with
    | none => rfl
    | some u =>
      obtain ⟨_, vs, _, _, ⟨e2, _⟩ | ⟨e2, _⟩⟩ := argH_is ar q
      · rw [e2] at e
        cases e
        have d' : Data.seq vs.toArray _ = Data.dict es ep := d
        cases d'
      · rw [e2] at e
        cases e
        have d' : Data.seq vs.toArray _ = Data.dict es ep := d
        cases d'
  generalize argH K s₁.heap A = H at hO hok hS hK noA
  have base_of : ∀ {b : Addr} {o : Obj}, s₁.heap.get? b = some o → H b = none → (hidT s₁.heap H).get? b = some o := fun e n => hidT_get e n
  have nsK : ∀ {b : Addr} {m : Str → Option Value}, s₁.heap.Ns b m → (hidT s₁.heap H).Ns b m := fun {b m} ⟨o, es, ep, e, d, r⟩ => ⟨o, es, ep, base_of e (noA e d), d, r⟩
  have nK : ∀ b o, K.lookup b = some o → H b = none := fun b o e => by
    cases q : H b with
    | none => rfl
    | some u =>
      rw [hK b u q] at e
      cases e
  have hKb : K.In (hidT s₁.heap H) := fun b o e => base_of (KX b o e) (nK b o e)
  have hM : Mod K mg (hidT s₁.heap H) := ⟨hKb, nsK hns, ⟨mb, nsK hb, hbb⟩, let ⟨mc, h1, h2⟩ := hlim; ⟨mc, nsK h1, h2⟩⟩
  have e0 : Env0 P w K mg (hidT s₁.heap H) callerA [] s₁ H := ⟨rfl, hM, fun b o e => of_hidT e, Nat.le_of_eq (hidT_size _ _), trivial, fun b hb => absurd (show b ∈ ([] : List Addr) from hb) (by simp), hok, .of_eq hg⟩
  have hl : vals.length = ps.length := by rw [wellAll_len hwl]; exact hlen
  refine codeAny_mono ((F _ hKb (nsK hns)).run callerA [] s₁ H ⟨vals, []⟩ vals (vals.map toV) _ _ hr e0 (hbind s₁ vals hl) hV (hsp H _ hO hS)) fun r s' x => ?_
  cases r with
  | error e => exact (hCX H e s' x).elim
  | ok fl =>
    cases fl with
    | next => exact False.elim x
    | brk => exact False.elim x
    | cont => exact False.elim x
    | ret u =>
      obtain ⟨v, H', os, bare, un, hok', r', q⟩ := x
      have kept : ∀ b o, s₁.heap.get? b = some o → s'.heap.get? b = some o := fun b o e => by
        cases q2 : H b with
        | none => exact un.keep b o e q2 (by intro z; exact absurd (show b ∈ ([] : List Addr) from z) (by simp)) (by simp)
        | some u2 =>
          rcases hO b with z | ⟨ob, u3, z⟩
          · rw [q2] at z
            cases z
          · have z2 := un.frzs b ob _ z
            obtain ⟨e1, _⟩ := hok b _ z
            obtain ⟨e2, _⟩ := hok' b _ z2
            rw [e] at e1
            cases e1
            exact e2
      have KX' : K.In s'.heap := fun b o e => kept b o (KX b o e)
      obtain ⟨as, hrd⟩ := Dw.reads (R := R) (cl := cl) hok' KX' d0 v u q r'
      exact ⟨u, as, rfl, hrd, OldK.of_keep kept, os, bare⟩
theorem layable_weight {ds : List WData} (h : WData.layableAll ds = true) : ∀ d ∈ ds, d.weight ≤ 1048576 := fun d hd =>
  (PySem.W.layableW_iff.mp (List.all_eq_true.mp h d hd)).2.2
theorem encAll_len : ∀ (cs : List Codec) (a : Codec.denoteAll cs), (Codec.encAll cs a).length = cs.length
  | [], _ => rfl
  | c :: cs, a => by
    show (Codec.encAll cs a.2).length + 1 = cs.length + 1
    rw [encAll_len cs a.2]
theorem walk_spec {r : OpenSpec} {k : Nat} {q : Program} {loose : List Str} {XP : (Str → Option Value) → Heap → Prop} {YP : World → Heap → Prop} {d : DefRec} {K : Params → PySem.W.Frag} {CX : World → CXT} {ps : List Str} {sp : World → Sp}
    (hwell : r.wellSaid = true) (hdf : d.params.defaults = []) (hlen : r.args.length = ps.length) (hr : Room k callerA)
    (hY : ∀ (w : World) (h : Heap), YP w h → (K w.params).In h)
    (F : ∀ (w : World) (mg : Str → Option Value) (fa : Addr) (h : Heap), YP w h → (K w.params).In h → h.Ns mainGlobals mg → mg d.name = some (.ref fa) →
      ∃ fd : FuncData, (∀ (s : Shared) (us : List Value), us.length = ps.length → BindsTo s fd ⟨us, []⟩ (ps.zip us)) ∧
        ∀ base : Heap, (K w.params).In base → base.Ns mainGlobals mg → FnOk r.prog w (K w.params) mg base (CX w) k fa fd ps (sp w))
    (hsp : ∀ (w : World) (H : Hp) (xs : List V) (a : Codec.denoteAll r.args), OnlyF H → Codec.withinAll r.args a = true → Codec.app r.args r.asked a = true → DwAll (K w.params) H xs (Codec.encAll r.args a) →
      sp w xs H (fun v H' => Dw (K w.params) H' v (r.ret.enc (Codec.app r.args r.f a))) fun _ _ _ => False)
    (hCX : ∀ (w : World) (H : Hp) (s : Shared) (e : Value) (s' : Shared), CX w [] H s (fun _ _ _ => False) e s' → False) :
    PySem.W.WalkOS q loose XP YP r d [] (fun f vs => PySem.call f vs) := by
  intro w s_0 s₁ mg mb G Y fa o pm cd doc dV kV ho hd hcd hD hmg hg args vals as hpre hlay hrd hwl hlo
  obtain ⟨a, e1, e2⟩ := PySem.W.os_pre_some hpre
  obtain ⟨e3, hwi⟩ := Codec.encAll_of_decAll r.args args a e1
  subst e3
  have KX := hY w _ Y
  obtain ⟨fd, hb, hF⟩ := F w mg fa _ Y KX G.T.g hmg
  refine PySem.W.enter_call (codeAny_mono (spec_call (R := []) (cl := classAt s_0.heap) (d0 := r.ret.enc (Codec.app r.args r.f a)) KX G.T.g G.T.b G.T.builtins G.T.nolimit hg hwl (pl_encAll _ _) (layable_weight hlay) hr hF hb (by rw [encAll_len]; exact hlen)
    (fun H xs hO hS => hsp w H xs a hO hwi e2 hS) fun H e s' => hCX w H s₁ e s') fun r' s' hq => ?_)
  obtain ⟨u, as', rfl, h1, h2, h3, h4⟩ := hq
  exact ⟨.inl ⟨u, _, as', rfl, fun _ => rfl, h1, (OpenSpec.post_iff hwell hwi _ _).mpr rfl, fun z => Bool.noConfusion (show false = true from z)⟩, h2, h3, h4⟩
theorem walk_specK {r : OpenSpec} {k : Nat} {q : Program} {loose : List Str} {XP : (Str → Option Value) → Heap → Prop} {YP : World → Heap → Prop} {d : DefRec} {K : Params → PySem.W.Frag} {CX : CXT} {ps : List Str} {sp : PySem.W.Frag → Sp}
    (hwell : r.wellSaid = true) (hdf : d.params.defaults = []) (hlen : r.args.length = ps.length) (hr : Room k callerA)
    (hY : ∀ (w : World) (h : Heap), YP w h → (K w.params).In h)
    (F : ∀ (w : World) (mg : Str → Option Value) (fa : Addr) (h : Heap), YP w h → (K w.params).In h → h.Ns mainGlobals mg → mg d.name = some (.ref fa) →
      ∃ fd : FuncData, (∀ (s : Shared) (us : List Value), us.length = ps.length → BindsTo s fd ⟨us, []⟩ (ps.zip us)) ∧
        ∀ base : Heap, (K w.params).In base → base.Ns mainGlobals mg → FnOk r.prog w (K w.params) mg base CX k fa fd ps (sp (K w.params)))
    (hsp : ∀ (K : PySem.W.Frag) (H : Hp) (xs : List V) (a : Codec.denoteAll r.args), OnlyF H → Codec.withinAll r.args a = true → Codec.app r.args r.asked a = true → DwAll K H xs (Codec.encAll r.args a) →
      sp K xs H (fun v H' => Dw K H' v (r.ret.enc (Codec.app r.args r.f a))) fun _ _ _ => False)
    (hCX : ∀ (H : Hp) (s : Shared) (e : Value) (s' : Shared), CX [] H s (fun _ _ _ => False) e s' → False) :
    PySem.W.WalkOS q loose XP YP r d [] (fun f vs => PySem.call f vs) :=
  walk_spec (K := K) (CX := fun _ => CX) (sp := fun w => sp (K w.params)) hwell hdf hlen hr hY F (fun w H xs a h1 h2 h3 h4 => hsp (K w.params) H xs a h1 h2 h3 h4) fun _ H s e s' => hCX H s e s'
end L2
end


end
section
set_option autoImplicit true
set_option maxHeartbeats 1000000
namespace TxM
open Tx
section
variable {α : Type}
def Srt (l : List (Nat × α)) : Prop := l.Pairwise (fun a b => a.1 < b.1)
def gget : List (Nat × α) → Nat → Option α
  | [], _ => none
  | x :: r, k => if x.1 = k then some x.2 else gget r k
def gput (k : Nat) (v : α) : List (Nat × α) → List (Nat × α)
  | [] => [(k, v)]
  | x :: r => if k < x.1 then (k, v) :: x :: r else if k = x.1 then (k, v) :: r else x :: gput k v r
theorem gget_none {k : Nat} : ∀ {l : List (Nat × α)}, (∀ p ∈ l, p.1 ≠ k) → gget l k = none
  | [], _ => rfl
  | x :: r, h => by
    show (if x.1 = k then some x.2 else gget r k) = none
    rw [if_neg (h x (List.mem_cons_self ..))]
    exact gget_none fun p hp => h p (List.mem_cons_of_mem _ hp)
theorem gget_lt {l : List (Nat × α)} {k : Nat} (h : ∀ p ∈ l, k < p.1) : gget l k = none :=
  gget_none fun p hp e => by have := h p hp; omega
theorem mem_of_gget {k : Nat} {v : α} : ∀ {l : List (Nat × α)}, gget l k = some v → (k, v) ∈ l
  | [], h => by cases h
  | x :: r, h => by
    by_cases e : x.1 = k
    · have h' : (if x.1 = k then some x.2 else gget r k) = some v := h
      rw [if_pos e] at h'
      injection h' with h'
      subst e h'
      exact List.mem_cons_self ..
    · have h' : (if x.1 = k then some x.2 else gget r k) = some v := h
      rw [if_neg e] at h'
      exact List.mem_cons_of_mem _ (mem_of_gget h')
theorem gget_of_mem : ∀ {l : List (Nat × α)} {p : Nat × α}, Srt l → p ∈ l → gget l p.1 = some p.2
  | [], _, _, h => nomatch h
  | x :: r, p, hs, h => by
    have hs' := List.pairwise_cons.mp hs
    show (if x.1 = p.1 then some x.2 else gget r p.1) = some p.2
    rcases List.mem_cons.mp h with e | h
    · subst e; rw [if_pos rfl]
    · rw [if_neg (by have := hs'.1 p h; omega)]
      exact gget_of_mem hs'.2 h
theorem gget_gput {k j : Nat} {v : α} : ∀ {l : List (Nat × α)}, gget (gput k v l) j = if j = k then some v else gget l j
  | [] => by
    show (if k = j then some v else none) = if j = k then some v else none
    by_cases e : k = j
    · rw [if_pos e, if_pos e.symm]
    · rw [if_neg e, if_neg (fun z => e z.symm)]
  | x :: r => by
    show gget (if k < x.1 then (k, v) :: x :: r else if k = x.1 then (k, v) :: r else x :: gput k v r) j = if j = k then some v else (if x.1 = j then some x.2 else gget r j)
    by_cases h1 : k < x.1
    · rw [if_pos h1]
      show (if k = j then some v else (if x.1 = j then some x.2 else gget r j)) = _
      by_cases e : k = j
      · rw [if_pos e, if_pos e.symm]
      · rw [if_neg e, if_neg (show ¬ j = k from fun z => e z.symm)]
    · rw [if_neg h1]
      by_cases h2 : k = x.1
      · rw [if_pos h2]
        show (if k = j then some v else gget r j) = _
        by_cases e : k = j
        · rw [if_pos e, if_pos e.symm]
        · rw [if_neg e, if_neg (show ¬ j = k from fun z => e z.symm), if_neg (show ¬ x.1 = j from fun z => e (h2.trans z))]
      · rw [if_neg h2]
        show (if x.1 = j then some x.2 else gget (gput k v r) j) = _
        rw [gget_gput]
        by_cases e : x.1 = j
        · rw [if_pos e, if_pos e, if_neg (fun z => h2 (z.symm.trans e.symm))]
        · rw [if_neg e, if_neg e]
theorem mem_gput {k : Nat} {v : α} {p : Nat × α} : ∀ {l : List (Nat × α)}, p ∈ gput k v l → p = (k, v) ∨ p ∈ l
  | [], h => .inl (by simpa [gput] using h)
  | x :: r, h => by
    have h' : p ∈ (if k < x.1 then (k, v) :: x :: r else if k = x.1 then (k, v) :: r else x :: gput k v r) := h
    by_cases h1 : k < x.1
    · rw [if_pos h1] at h'
      rcases List.mem_cons.mp h' with e | e
      · exact .inl e
      · exact .inr e
    · rw [if_neg h1] at h'
      by_cases h2 : k = x.1
      · rw [if_pos h2] at h'
        rcases List.mem_cons.mp h' with e | e
        · exact .inl e
        · exact .inr (List.mem_cons_of_mem _ e)
      · rw [if_neg h2] at h'
        rcases List.mem_cons.mp h' with e | e
        · exact .inr (by rw [e]; exact List.mem_cons_self ..)
        · rcases mem_gput e with e | e
          · exact .inl e
          · exact .inr (List.mem_cons_of_mem _ e)
theorem srt_gput {k : Nat} {v : α} : ∀ {l : List (Nat × α)}, Srt l → Srt (gput k v l)
  | [], _ => List.pairwise_singleton ..
  | x :: r, hs => by
    have hs' := List.pairwise_cons.mp hs
    show Srt (if k < x.1 then (k, v) :: x :: r else if k = x.1 then (k, v) :: r else x :: gput k v r)
    by_cases h1 : k < x.1
    · rw [if_pos h1]
      refine List.pairwise_cons.mpr ⟨fun p hp => ?_, hs⟩
      rcases List.mem_cons.mp hp with e | e
      · rw [e]; exact h1
      · exact Nat.lt_trans h1 (hs'.1 p e)
    · rw [if_neg h1]
      by_cases h2 : k = x.1
      · rw [if_pos h2]
        exact List.pairwise_cons.mpr ⟨fun p hp => by have := hs'.1 p hp; show k < p.1; omega, hs'.2⟩
      · rw [if_neg h2]
        refine List.pairwise_cons.mpr ⟨fun p hp => ?_, srt_gput hs'.2⟩
        rcases mem_gput hp with e | e
        · rw [e]; show x.1 < k; omega
        · exact hs'.1 p e
theorem gget_filter {f : Nat → Bool} {j : Nat} : ∀ {l : List (Nat × α)}, gget (l.filter fun p => f p.1) j = if f j = true then gget l j else none
  | [] => by show none = if f j = true then none else none; split <;> rfl
  | x :: r => by
    rw [List.filter_cons]
    show _ = if f j = true then (if x.1 = j then some x.2 else gget r j) else none
    by_cases e : x.1 = j
    · by_cases hf : f j = true
      · rw [if_pos (by rw [e]; exact hf), if_pos hf, if_pos e]
        show (if x.1 = j then some x.2 else _) = _
        rw [if_pos e]
      · rw [if_neg (by rw [e]; exact hf), if_neg hf, gget_filter, if_neg hf]
    · rw [if_neg e]
      by_cases hx : f x.1 = true
      · rw [if_pos hx]
        show (if x.1 = j then some x.2 else gget (r.filter _) j) = _
        rw [if_neg e, gget_filter]
      · rw [if_neg hx, gget_filter]
theorem srt_filter {f : Nat × α → Bool} {l : List (Nat × α)} (h : Srt l) : Srt (l.filter f) := List.Pairwise.filter _ h
theorem srt_ext : ∀ {a b : List (Nat × α)}, Srt a → Srt b → (∀ k, gget a k = gget b k) → a = b
  | [], [], _, _, _ => rfl
  | [], y :: s, _, _, h => by
    have := h y.1
    have e : gget (y :: s) y.1 = some y.2 := if_pos rfl
    rw [e] at this; cases this
  | x :: r, [], _, _, h => by
    have := h x.1
    have e : gget (x :: r) x.1 = some x.2 := if_pos rfl
    rw [e] at this; cases this
  | x :: r, y :: s, ha, hb, h => by
    have ha' := List.pairwise_cons.mp ha
    have hb' := List.pairwise_cons.mp hb
    have ex : gget (x :: r) x.1 = some x.2 := if_pos rfl
    have ey : gget (y :: s) y.1 = some y.2 := if_pos rfl
    have e1 : x.1 = y.1 := by
      have m1 : (x.1, x.2) ∈ y :: s := mem_of_gget ((h x.1).symm.trans ex)
      have m2 : (y.1, y.2) ∈ x :: r := mem_of_gget ((h y.1).trans ey)
      rcases List.mem_cons.mp m1 with q1 | q1
      · rw [← q1]
      · rcases List.mem_cons.mp m2 with q2 | q2
        · rw [← q2]
        · have a1 := hb'.1 _ q1
          have a2 := ha'.1 _ q2
          have a1 : y.1 < x.1 := a1
          have a2 : x.1 < y.1 := a2
          omega
    have e2 : x.2 = y.2 := by
      have q := h x.1
      rw [ex, e1, ey] at q
      injection q
    have exy : x = y := Prod.ext e1 e2
    subst exy
    rw [srt_ext ha'.2 hb'.2 fun k => ?_]
    have q := h k
    by_cases e : x.1 = k
    · subst e
      rw [gget_lt ha'.1, gget_lt hb'.1]
    · have q' : (if x.1 = k then some x.2 else gget r k) = (if x.1 = k then some x.2 else gget s k) := q
      rw [if_neg e, if_neg e] at q'
      exact q'
end
theorem get_eq : ∀ (s : Store) (k : Nat), Tx.get s k = gget s k
  | [], _ => rfl
  | x :: r, k => by
    show (if x.1 = k then some x.2 else Tx.get r k) = if x.1 = k then some x.2 else gget r k
    rw [get_eq]
theorem noted_eq : ∀ (s : Writes) (k : Nat), Tx.noted s k = gget s k
  | [], _ => rfl
  | x :: r, k => by
    show (if x.1 = k then some x.2 else Tx.noted r k) = if x.1 = k then some x.2 else gget r k
    rw [noted_eq]
theorem put_eq (k v : Nat) : ∀ (s : Store), Tx.put k v s = gput k v s
  | [] => rfl
  | x :: r => by
    show (if k < x.1 then (k, v) :: x :: r else if k = x.1 then (k, v) :: r else x :: Tx.put k v r) = _
    rw [put_eq k v r]
    rfl
theorem note_eq (k : Nat) (v : Option Nat) : ∀ (s : Writes), Tx.note k v s = gput k v s
  | [] => rfl
  | x :: r => by
    show (if k < x.1 then (k, v) :: x :: r else if k = x.1 then (k, v) :: r else x :: Tx.note k v r) = _
    rw [note_eq k v r]
    rfl
/-- one write done in a store -/
def did (t : Store) (x : Nat × Option Nat) : Store := match x.2 with
  | some v => Tx.put x.1 v t
  | none => Tx.drop x.1 t
theorem applied_eq (s : Store) (w : Writes) : Tx.applied s w = w.foldl did s := rfl
theorem gget_did (t : Store) (x : Nat × Option Nat) (j : Nat) : gget (did t x) j = if j = x.1 then x.2 else gget t j := by
  obtain ⟨k, o⟩ := x
  cases o with
  | some v =>
    show gget (Tx.put k v t) j = if j = k then some v else gget t j
    rw [put_eq, gget_gput]
  | none =>
    show gget (t.filter fun x => x.1 != k) j = if j = k then none else gget t j
    rw [gget_filter (f := fun n => n != k)]
    by_cases e : j = k
    · subst e; simp
    · simp [e]
theorem srt_did {t : Store} (h : Srt t) (x : Nat × Option Nat) : Srt (did t x) := by
  obtain ⟨k, o⟩ := x
  cases o with
  | some v => show Srt (Tx.put k v t); rw [put_eq]; exact srt_gput h
  | none => exact srt_filter h
theorem srt_applied : ∀ {w : Writes} {s : Store}, Srt s → Srt (Tx.applied s w)
  | [], _, h => h
  | x :: r, s, h => srt_applied (w := r) (s := did s x) (srt_did h x)
theorem gget_applied : ∀ {w : Writes} {s : Store}, Srt w → ∀ k, gget (Tx.applied s w) k = match gget w k with | some o => o | none => gget s k
  | [], _, _, _ => rfl
  | x :: r, s, h, k => by
    have h' := List.pairwise_cons.mp h
    show gget (Tx.applied (did s x) r) k = match (if x.1 = k then some x.2 else gget r k) with | some o => o | none => gget s k
    rw [gget_applied h'.2 k, gget_did]
    by_cases e : x.1 = k
    · rw [if_pos e, if_pos e.symm, gget_lt (by rw [← e]; exact h'.1)]
    · rw [if_neg e, if_neg (fun z => e z.symm)]
def Bd {α : Type} (l : List (Nat × α)) : Prop := ∀ p ∈ l, p.1 < 256
theorem Bd.get {α : Type} {l : List (Nat × α)} (h : Bd l) {k : Nat} (hk : 256 ≤ k) : gget l k = none :=
  gget_none fun p hp e => by have := h p hp; omega
theorem bd_gput {α : Type} {k : Nat} {v : α} {l : List (Nat × α)} (h : Bd l) (hk : k < 256) : Bd (gput k v l) := fun p hp => by
  rcases mem_gput hp with e | e
  · rw [e]; exact hk
  · exact h p e
theorem bd_did {t : Store} (h : Bd t) (x : Nat × Option Nat) (hx : x.1 < 256) : Bd (did t x) := by
  obtain ⟨k, o⟩ := x
  cases o with
  | some v => show Bd (Tx.put k v t); rw [put_eq]; exact bd_gput h hx
  | none => exact fun p hp => h p (List.mem_filter.mp hp).1
theorem bd_applied : ∀ {w : Writes} {s : Store}, Bd s → Bd w → Bd (Tx.applied s w)
  | [], _, h, _ => h
  | x :: r, s, h, hw => bd_applied (w := r) (s := did s x) (bd_did h x (hw x (List.mem_cons_self ..))) fun p hp => hw p (List.mem_cons_of_mem _ hp)
theorem len_bd {α : Type} {l : List (Nat × α)} (hs : Srt l) (hb : Bd l) : l.length ≤ 256 := by
  have nd : (l.map (·.1)).Nodup := by
    refine List.pairwise_map.mpr (List.Pairwise.imp (fun h => ?_) hs)
    exact Nat.ne_of_lt h
  have := List.Nodup.length_le_of_subset (l₂ := List.range 256) nd (fun k hk => by
    obtain ⟨p, hp, e⟩ := List.mem_map.mp hk
    rw [← e]; exact List.mem_range.mpr (hb p hp))
  simpa using this
end TxM

end
section
set_option autoImplicit true
set_option maxHeartbeats 1000000
namespace TxM
open Tx
section
variable {α : Type}
theorem gget_append {j : Nat} : ∀ {a b : List (Nat × α)}, gget (a ++ b) j = match gget a j with | some v => some v | none => gget b j
  | [], b => rfl
  | x :: r, b => by
    show (if x.1 = j then some x.2 else gget (r ++ b) j) = match (if x.1 = j then some x.2 else gget r j) with | some v => some v | none => gget b j
    by_cases e : x.1 = j
    · rw [if_pos e, if_pos e]
    · rw [if_neg e, if_neg e, gget_append]
/-- the pairs that f has of the keys from lo on, n of them -/
def fw (f : Nat → Option α) (lo n : Nat) : List (Nat × α) := (List.range' lo n).filterMap fun k => (f k).map fun v => (k, v)
def oneOf (k : Nat) : Option α → List (Nat × α)
  | some v => [(k, v)]
  | none => []
theorem fw_succ (f : Nat → Option α) (lo n : Nat) : fw f lo (n + 1) = fw f lo n ++ oneOf (lo + n) (f (lo + n)) := by
  unfold fw
  rw [List.range'_concat, List.filterMap_append, Nat.one_mul]
  congr 1
  cases h : f (lo + n) with
  | none => simp [h, oneOf]
  | some v => simp [h, oneOf]
theorem mem_fw {f : Nat → Option α} {lo n : Nat} {p : Nat × α} (h : p ∈ fw f lo n) : lo ≤ p.1 ∧ p.1 < lo + n ∧ f p.1 = some p.2 := by
  obtain ⟨k, hk, e⟩ := List.mem_filterMap.mp h
  have hk' := List.mem_range'_1.mp hk
  obtain ⟨v, hv, e⟩ := Option.map_eq_some_iff.mp e
  subst e
  exact ⟨hk'.1, hk'.2, hv⟩
theorem srt_fw (f : Nat → Option α) (lo : Nat) : ∀ n, Srt (fw f lo n)
  | 0 => List.Pairwise.nil
  | n + 1 => by
    rw [fw_succ]
    refine List.pairwise_append.mpr ⟨srt_fw f lo n, ?_, fun a ha b hb => ?_⟩
    · cases f (lo + n) with
      | none => exact List.Pairwise.nil
      | some v => exact List.pairwise_singleton ..
    · have := (mem_fw ha).2.1
      cases h : f (lo + n) with
      | none => rw [h] at hb; exact nomatch hb
      | some v =>
        rw [h] at hb
        have e : b = (lo + n, v) := by simpa [oneOf] using hb
        rw [e]; exact this
theorem gget_fw (f : Nat → Option α) (lo j : Nat) : ∀ n, gget (fw f lo n) j = if lo ≤ j ∧ j < lo + n then f j else none
  | 0 => by
    rw [if_neg (by omega)]; rfl
  | n + 1 => by
    rw [fw_succ, gget_append, gget_fw f lo j n]
    by_cases h : lo ≤ j ∧ j < lo + n
    · rw [if_pos h, if_pos (by omega)]
      cases f j with
      | some v => rfl
      | none =>
        show gget (oneOf (lo + n) (f (lo + n))) j = none
        refine gget_none fun p hp => ?_
        cases h2 : f (lo + n) with
        | none => rw [h2] at hp; exact nomatch hp
        | some v =>
          rw [h2] at hp
          have e : p = (lo + n, v) := by simpa [oneOf] using hp
          rw [e]; show lo + n ≠ j; omega
    · rw [if_neg h]
      show gget (oneOf (lo + n) (f (lo + n))) j = _
      by_cases e : j = lo + n
      · subst e
        rw [if_pos (by omega)]
        cases f (lo + n) with
        | none => rfl
        | some v => exact if_pos rfl
      · rw [if_neg (by omega)]
        refine gget_none fun p hp => ?_
        cases h2 : f (lo + n) with
        | none => rw [h2] at hp; exact nomatch hp
        | some v =>
          rw [h2] at hp
          have e' : p = (lo + n, v) := by simpa [oneOf] using hp
          rw [e']; show lo + n ≠ j; omega
theorem fw_all {l : List (Nat × α)} (hs : Srt l) (hb : Bd l) : fw (gget l) 0 256 = l := by
  refine srt_ext (srt_fw ..) hs fun k => ?_
  rw [gget_fw]
  by_cases h : k < 256
  · rw [if_pos (by omega)]
  · rw [if_neg (by omega), hb.get (by omega)]
end
theorem fw_between {s : Store} (hs : Srt s) (lo hi : Nat) : fw (gget s) lo (hi + 1 - lo) = Tx.between s lo hi := by
  refine srt_ext (srt_fw ..) (srt_filter hs) fun k => ?_
  rw [gget_fw]
  show _ = gget (s.filter fun x => decide (lo ≤ x.1) && decide (x.1 ≤ hi)) k
  rw [gget_filter (f := fun n => decide (lo ≤ n) && decide (n ≤ hi))]
  by_cases h : lo ≤ k ∧ k < lo + (hi + 1 - lo)
  · rw [if_pos h, if_pos (by simp; omega)]
  · rw [if_neg h, if_neg (by simp; omega)]
theorem between_all {s : Store} (hs : Srt s) (hb : Bd s) : Tx.between s 0 255 = s := by
  rw [← fw_between hs]; exact fw_all hs hb
theorem differ_eq (a b : Store) : Tx.differ a b = fw (fun k => if gget a k = gget b k then none else some (gget b k)) 0 256 := by
  unfold Tx.differ fw
  rw [List.range_eq_range']
  show List.filterMap _ (List.range' 0 256) = _
  congr 1
  funext k
  rw [get_eq, get_eq]
  by_cases h : gget a k = gget b k
  · simp [h]
  · simp [h]
theorem storeList_append (a b : Store) : storeList (a ++ b) = storeList a ++ storeList b := List.flatMap_append ..
theorem writesList_append (a b : Writes) : writesList (a ++ b) = writesList a ++ writesList b := List.flatMap_append ..
theorem storeList_len : ∀ s : Store, (storeList s).length = 2 * s.length
  | [] => rfl
  | x :: r => by
    show (x.1 :: x.2 :: storeList r).length = 2 * (r.length + 1)
    rw [List.length_cons, List.length_cons, storeList_len r]; omega
/-- a write told -/
def tell1 (x : Nat × Option Nat) : List Nat := match x.2 with
  | some v => [x.1, 1, v]
  | none => [x.1, 0, 0]
theorem writesList_cons (x : Nat × Option Nat) (r : Writes) : writesList (x :: r) = tell1 x ++ writesList r := rfl
theorem tell1_len (x : Nat × Option Nat) : (tell1 x).length = 3 := by
  obtain ⟨k, o⟩ := x
  cases o <;> rfl
theorem writesList_len : ∀ s : Writes, (writesList s).length = 3 * s.length
  | [] => rfl
  | x :: r => by
    rw [writesList_cons, List.length_append, tell1_len, writesList_len r, List.length_cons]; omega
theorem take_succ' {β : Type} {l : List β} {i : Nat} {x : β} (h : l[i]? = some x) : l.take (i + 1) = l.take i ++ [x] := by
  rw [List.take_add_one, h]; rfl
theorem writesList_take {w : Writes} {i : Nat} {x : Nat × Option Nat} (h : w[i]? = some x) : writesList (w.take (i + 1)) = writesList (w.take i) ++ tell1 x := by
  rw [take_succ' h, writesList_append]
  congr 1
  rw [writesList_cons]; exact List.append_nil _
/-! checks -/
def chk1 (c x : Nat) : Nat := (31 * c + x + 1) % 4294967296
theorem check_nil (c : Nat) : check c [] = c := rfl
theorem check_cons (c x : Nat) (l : List Nat) : check c (x :: l) = check (chk1 c x) l := by
  show check ((c * 31 + x + 1) % MOD) l = _
  rw [Nat.mul_comm c 31]; rfl
theorem check_append (a b : List Nat) : ∀ c, check c (a ++ b) = check (check c a) b := fun _ => List.foldl_append ..
theorem check_lt : ∀ (l : List Nat) {c : Nat}, c < 4294967296 → check c l < 4294967296
  | [], c, h => h
  | x :: l, c, h => by
    rw [check_cons]
    exact check_lt l (Nat.mod_lt _ (by decide))
theorem check_take {l : List Nat} {i x c : Nat} (h : l[i]? = some x) : check c (l.take (i + 1)) = chk1 (check c (l.take i)) x := by
  rw [take_succ' h, check_append, check_cons, check_nil]
/-! the log -/
def endCheck (c : Nat) (l : List Writes) : Nat := l.foldl (fun c w => check c (w.length :: writesList w)) c
theorem records_append : ∀ (a : List Writes) (w : Writes) (c : Nat), recordsFrom c (a ++ [w]) = recordsFrom c a ++ (w.length :: writesList w ++ [check (endCheck c a) (w.length :: writesList w)])
  | [], w, c => by
    show sealed c w.length (writesList w) ++ [] = _
    rw [List.append_nil]; rfl
  | x :: r, w, c => by
    show sealed c x.length (writesList x) ++ recordsFrom (check c (x.length :: writesList x)) (r ++ [w]) = _
    rw [records_append r w]
    show _ = (sealed c x.length (writesList x) ++ recordsFrom (check c (x.length :: writesList x)) r) ++ _
    rw [List.append_assoc]; rfl
theorem endCheck_append (a : List Writes) (w : Writes) (c : Nat) : endCheck c (a ++ [w]) = check (endCheck c a) (w.length :: writesList w) := by
  unfold endCheck; rw [List.foldl_append]; rfl
def headOf (b : Book) : List Nat := b.base :: b.first.length :: storeList b.first
theorem log_eq (b : Book) : b.log = headOf b ++ [check 0 (headOf b)] ++ recordsFrom (check 0 (headOf b)) b.commits := by
  show b.base :: sealed (check 0 [b.base]) b.first.length (storeList b.first) ++ recordsFrom (check (check 0 [b.base]) (b.first.length :: storeList b.first)) b.commits = _
  have e : check (check 0 [b.base]) (b.first.length :: storeList b.first) = check 0 (headOf b) := by
    rw [← check_append]; rfl
  rw [e]
  show b.base :: ((b.first.length :: storeList b.first) ++ [check (check 0 [b.base]) (b.first.length :: storeList b.first)]) ++ _ = _
  rw [e]; rfl
/-- how long a book's records are -/
def recLen (l : List Writes) : Nat := (l.map fun w => 3 * w.length + 2).sum
theorem recLen_append (a b : List Writes) : recLen (a ++ b) = recLen a + recLen b := by
  unfold recLen; rw [List.map_append, List.sum_append]
theorem recLen_one (w : Writes) : recLen [w] = 3 * w.length + 2 := by
  unfold recLen; simp
theorem records_len : ∀ (l : List Writes) (c : Nat), (recordsFrom c l).length = recLen l
  | [], _ => rfl
  | w :: r, c => by
    show (sealed c w.length (writesList w) ++ recordsFrom _ r).length = _
    rw [List.length_append, records_len r]
    show ((w.length :: writesList w) ++ [_]).length + recLen r = _
    rw [List.length_append, List.length_cons, writesList_len]
    show 3 * w.length + 1 + 1 + recLen r = recLen ([w] ++ r)
    rw [recLen_append, recLen_one]
theorem log_len (b : Book) : b.log.length = 2 * b.first.length + 3 + recLen b.commits := by
  rw [log_eq, List.length_append, List.length_append, records_len]
  show (storeList b.first).length + 1 + 1 + 1 + _ = _
  rw [storeList_len]
end TxM

end
section
set_option autoImplicit true
set_option maxHeartbeats 1000000
namespace TxM
open Tx
/-! logs read -/
def sf : Int → List Nat → Option Store
  | _, [] => some []
  | b, k :: v :: r => if (k : Int) ≤ b ∨ 255 < k ∨ 4294967295 < v then none else (sf k r).map fun s => (k, v) :: s
  | _, [_] => none
def up : Int → List Nat → Bool
  | _, [] => true
  | b, k :: r => decide (b < k) && up k r
theorem up_rising : ∀ (l : List Nat) (a : Nat), up a l = rising (a :: l)
  | [], _ => rfl
  | b :: r, a => by
    show (decide ((a : Int) < b) && up b r) = (decide (a < b) && rising (b :: r))
    rw [up_rising r b]
    congr 1
    by_cases h : a < b
    · rw [decide_eq_true h, decide_eq_true (by omega)]
    · rw [decide_eq_false h, decide_eq_false (by omega)]
theorem up_neg : ∀ l : List Nat, up (-1) l = rising l
  | [] => rfl
  | k :: r => by
    show (decide ((-1 : Int) < k) && up k r) = _
    rw [decide_eq_true (by omega), Bool.true_and]; exact up_rising r k
theorem storeIn_zero (l : List Nat) : storeIn 0 l = some ([], l) := by cases l <;> rfl
theorem writesIn_zero (l : List Nat) : writesIn 0 l = some ([], l) := by cases l <;> rfl
theorem storeIn_cons (n k v : Nat) (r : List Nat) : storeIn (n + 1) (k :: v :: r) = if KEYS ≤ k ∨ VALUES ≤ v then none else (storeIn n r).map fun x => ((k, v) :: x.1, x.2) := by
  show (if KEYS ≤ k ∨ VALUES ≤ v then none else match storeIn n r with | some (s, q) => some ((k, v) :: s, q) | none => none) = _
  cases storeIn n r <;> rfl
theorem writesIn_cons (n k f v : Nat) (r : List Nat) : writesIn (n + 1) (k :: f :: v :: r) = if KEYS ≤ k ∨ VALUES ≤ v ∨ 1 < f ∨ (f = 0 ∧ v ≠ 0) then none else (writesIn n r).map fun x => ((k, if f = 1 then some v else none) :: x.1, x.2) := by
  show (if KEYS ≤ k ∨ VALUES ≤ v ∨ 1 < f ∨ (f = 0 ∧ v ≠ 0) then none else match writesIn n r with | some (s, q) => some ((k, if f = 1 then some v else none) :: s, q) | none => none) = _
  cases writesIn n r <;> rfl
theorem storeIn_short : ∀ (n : Nat) (r : List Nat), r.length < 2 * n → storeIn n r = none
  | 0, _, h => by omega
  | n + 1, [], _ => rfl
  | n + 1, [_], _ => rfl
  | n + 1, k :: v :: r, h => by
    rw [storeIn_cons, storeIn_short n r (by simp only [List.length_cons] at h; omega)]
    split <;> rfl
theorem writesIn_short : ∀ (n : Nat) (r : List Nat), r.length < 3 * n → writesIn n r = none
  | 0, _, h => by omega
  | n + 1, [], _ => rfl
  | n + 1, [_], _ => rfl
  | n + 1, [_, _], _ => rfl
  | n + 1, k :: f :: v :: r, h => by
    rw [writesIn_cons, writesIn_short n r (by simp only [List.length_cons] at h; omega)]
    split <;> rfl
theorem storeIn_rest : ∀ (n : Nat) (r : List Nat) {s : Store} {q : List Nat}, storeIn n r = some (s, q) → q = r.drop (2 * n) ∧ storeList s = r.take (2 * n) ∧ s.length = n
  | 0, r, s, q, h => by
    rw [storeIn_zero] at h
    injection h with h
    injection h with h1 h2
    subst h1 h2
    exact ⟨rfl, rfl, rfl⟩
  | n + 1, [], _, _, h => by cases h
  | n + 1, [_], _, _, h => by cases h
  | n + 1, k :: v :: r, s, q, h => by
    rw [storeIn_cons] at h
    split at h
    · cases h
    · obtain ⟨⟨s', q'⟩, h1, h2⟩ := Option.map_eq_some_iff.mp h
      obtain ⟨e1, e2, e3⟩ := storeIn_rest n r h1
      injection h2 with h2 h3
      subst h2 h3
      refine ⟨?_, ?_, ?_⟩
      · rw [show 2 * (n + 1) = 2 * n + 1 + 1 by omega]; exact e1
      · rw [show 2 * (n + 1) = 2 * n + 1 + 1 by omega]
        show k :: v :: storeList s' = k :: v :: r.take (2 * n)
        rw [e2]
      · rw [List.length_cons, e3]
theorem writesIn_rest : ∀ (n : Nat) (r : List Nat) {s : Writes} {q : List Nat}, writesIn n r = some (s, q) → q = r.drop (3 * n) ∧ writesList s = r.take (3 * n) ∧ s.length = n
  | 0, r, s, q, h => by
    rw [writesIn_zero] at h
    injection h with h
    injection h with h1 h2
    subst h1 h2
    exact ⟨rfl, rfl, rfl⟩
  | n + 1, [], _, _, h => by cases h
  | n + 1, [_], _, _, h => by cases h
  | n + 1, [_, _], _, _, h => by cases h
  | n + 1, k :: f :: v :: r, s, q, h => by
    rw [writesIn_cons] at h
    split at h
    · cases h
    · rename_i hc
      obtain ⟨⟨s', q'⟩, h1, h2⟩ := Option.map_eq_some_iff.mp h
      obtain ⟨e1, e2, e3⟩ := writesIn_rest n r h1
      injection h2 with h2 h3
      subst h2 h3
      refine ⟨?_, ?_, ?_⟩
      · rw [show 3 * (n + 1) = 3 * n + 1 + 1 + 1 by omega]; exact e1
      · rw [show 3 * (n + 1) = 3 * n + 1 + 1 + 1 by omega, writesList_cons]
        show tell1 (k, if f = 1 then some v else none) ++ writesList s' = k :: f :: v :: r.take (3 * n)
        rw [e2]
        by_cases hf : f = 1
        · rw [if_pos hf, hf]; rfl
        · rw [if_neg hf]
          have f0 : f = 0 := by omega
          have v0 : v = 0 := by
            by_cases z : v = 0
            · exact z
            · exact (hc (.inr (.inr (.inr ⟨f0, z⟩)))).elim
          rw [f0, v0]; rfl
      · rw [List.length_cons, e3]
theorem sf_eq : ∀ (n : Nat) (b : Int) (r : List Nat), 2 * n ≤ r.length → sf b (r.take (2 * n)) = match storeIn n r with
    | none => none
    | some x => if up b (x.1.map (·.1)) = true then some x.1 else none
  | 0, b, r, _ => by
    rw [storeIn_zero]; rfl
  | n + 1, b, [], h => by simp at h
  | n + 1, b, [_], h => by simp at h; omega
  | n + 1, b, k :: v :: r, h => by
    have hl : 2 * n ≤ r.length := by simp only [List.length_cons] at h; omega
    have ih := sf_eq n k r hl
    rw [show 2 * (n + 1) = 2 * n + 1 + 1 by omega]
    show (if (k : Int) ≤ b ∨ 255 < k ∨ 4294967295 < v then none else (sf k (r.take (2 * n))).map fun s => (k, v) :: s) = _
    rw [storeIn_cons, ih]
    by_cases h1 : KEYS ≤ k ∨ VALUES ≤ v
    · rw [if_pos h1, if_pos (by unfold KEYS VALUES at h1; omega)]
    · rw [if_neg h1]
      unfold KEYS VALUES at h1
      by_cases h2 : (k : Int) ≤ b
      · rw [if_pos (.inl h2)]
        cases storeIn n r with
        | none => rfl
        | some x =>
          show none = if (decide (b < (k : Int)) && up k (x.1.map (·.1))) = true then _ else none
          rw [decide_eq_false (by omega), Bool.false_and]; rfl
      · rw [if_neg (by omega)]
        cases storeIn n r with
        | none => rfl
        | some x =>
          show Option.map _ (if up k (x.1.map (·.1)) = true then some x.1 else none) = if (decide (b < (k : Int)) && up k (x.1.map (·.1))) = true then some ((k, v) :: x.1) else none
          rw [decide_eq_true (show b < (k : Int) by omega), Bool.true_and]
          split <;> rfl
/-- is_write -/
def isW (f v : Nat) : Bool := if f = 1 then decide (v ≤ 4294967295) else decide (f = 0) && decide (v = 0)
def wf : Int → List Nat → Option Writes
  | _, [] => some []
  | b, k :: f :: v :: r => if (k : Int) ≤ b ∨ 255 < k ∨ isW f v = false then none else (wf k r).map fun s => (k, if f = 1 then some v else none) :: s
  | _, [_] => none
  | _, [_, _] => none
theorem isW_no (f v : Nat) : isW f v = false ↔ VALUES ≤ v ∨ 1 < f ∨ (f = 0 ∧ v ≠ 0) := by
  unfold isW VALUES
  by_cases h : f = 1
  · rw [if_pos h]; simp; omega
  · rw [if_neg h]; simp; omega
theorem wf_eq : ∀ (n : Nat) (b : Int) (r : List Nat), 3 * n ≤ r.length → wf b (r.take (3 * n)) = match writesIn n r with
    | none => none
    | some x => if up b (x.1.map (·.1)) = true then some x.1 else none
  | 0, b, r, _ => by
    rw [writesIn_zero]; rfl
  | n + 1, b, [], h => by simp at h
  | n + 1, b, [_], h => by simp at h; omega
  | n + 1, b, [_, _], h => by simp at h; omega
  | n + 1, b, k :: f :: v :: r, h => by
    have hl : 3 * n ≤ r.length := by simp only [List.length_cons] at h; omega
    have ih := wf_eq n k r hl
    rw [show 3 * (n + 1) = 3 * n + 1 + 1 + 1 by omega]
    show (if (k : Int) ≤ b ∨ 255 < k ∨ isW f v = false then none else (wf k (r.take (3 * n))).map fun s => (k, if f = 1 then some v else none) :: s) = _
    rw [writesIn_cons, ih]
    have hw := isW_no f v
    by_cases h1 : KEYS ≤ k ∨ VALUES ≤ v ∨ 1 < f ∨ (f = 0 ∧ v ≠ 0)
    · rw [if_pos h1, if_pos]
      rcases h1 with h1 | h1
      · unfold KEYS at h1; exact .inr (.inl (by omega))
      · exact .inr (.inr (hw.mpr h1))
    · rw [if_neg h1]
      have n1 : ¬ 255 < k := fun z => h1 (.inl (by unfold KEYS; omega))
      have n2 : ¬ isW f v = false := fun z => h1 (.inr (hw.mp z))
      by_cases h2 : (k : Int) ≤ b
      · rw [if_pos (.inl h2)]
        cases writesIn n r with
        | none => rfl
        | some x =>
          show none = if (decide (b < (k : Int)) && up k (x.1.map (·.1))) = true then _ else none
          rw [decide_eq_false (by omega), Bool.false_and]; rfl
      · rw [if_neg (by intro z; rcases z with z | z | z; exact h2 z; exact n1 z; exact n2 z)]
        cases writesIn n r with
        | none => rfl
        | some x =>
          show Option.map _ (if up k (x.1.map (·.1)) = true then some x.1 else none) = if (decide (b < (k : Int)) && up k (x.1.map (·.1))) = true then some ((k, if f = 1 then some v else none) :: x.1) else none
          rw [decide_eq_true (show b < (k : Int) by omega), Bool.true_and]
          by_cases hu : up k (x.1.map (·.1)) = true
          · rw [if_pos hu, if_pos hu]; rfl
          · rw [if_neg hu, if_neg hu]; rfl
theorem sf_good : ∀ (l : List Nat) {b : Int} {s : Store}, sf b l = some s → Srt s ∧ Bd s ∧ ∀ p ∈ s, b < (p.1 : Int)
  | [], b, s, h => by
    injection h with h
    subst h
    exact ⟨List.Pairwise.nil, fun _ hp => (nomatch hp), fun _ hp => (nomatch hp)⟩
  | [_], _, _, h => by cases h
  | k :: v :: r, b, s, h => by
    have h' : (if (k : Int) ≤ b ∨ 255 < k ∨ 4294967295 < v then none else (sf k r).map fun s => (k, v) :: s) = some s := h
    split at h'
    · cases h'
    · rename_i hc
      obtain ⟨s', h1, h2⟩ := Option.map_eq_some_iff.mp h'
      subst h2
      obtain ⟨a1, a2, a3⟩ := sf_good r h1
      refine ⟨List.pairwise_cons.mpr ⟨fun p hp => ?_, a1⟩, fun p hp => ?_, fun p hp => ?_⟩
      · have := a3 p hp; show k < p.1; omega
      · rcases List.mem_cons.mp hp with e | e
        · subst e; show k < 256; omega
        · exact a2 p e
      · rcases List.mem_cons.mp hp with e | e
        · subst e; show b < (k : Int); omega
        · have := a3 p e; omega
theorem wf_good : ∀ (l : List Nat) {b : Int} {s : Writes}, wf b l = some s → Srt s ∧ Bd s ∧ (∀ p ∈ s, b < (p.1 : Int)) ∧ l.length = 3 * s.length
  | [], b, s, h => by
    injection h with h
    subst h
    exact ⟨List.Pairwise.nil, fun _ hp => (nomatch hp), fun _ hp => (nomatch hp), rfl⟩
  | [_], _, _, h => by cases h
  | [_, _], _, _, h => by cases h
  | k :: f :: v :: r, b, s, h => by
    have h' : (if (k : Int) ≤ b ∨ 255 < k ∨ isW f v = false then none else (wf k r).map fun s => (k, if f = 1 then some v else none) :: s) = some s := h
    split at h'
    · cases h'
    · rename_i hc
      obtain ⟨s', h1, h2⟩ := Option.map_eq_some_iff.mp h'
      subst h2
      obtain ⟨a1, a2, a3, a4⟩ := wf_good r h1
      refine ⟨List.pairwise_cons.mpr ⟨fun p hp => ?_, a1⟩, fun p hp => ?_, fun p hp => ?_, ?_⟩
      · have := a3 p hp; show k < p.1; omega
      · rcases List.mem_cons.mp hp with e | e
        · subst e
          show k < 256
          have : ¬ 255 < k := fun z => hc (.inr (.inl z))
          omega
        · exact a2 p e
      · rcases List.mem_cons.mp hp with e | e
        · subst e
          show b < (k : Int)
          have : ¬ (k : Int) ≤ b := fun z => hc (.inl z)
          omega
        · have := a3 p e
          have : ¬ (k : Int) ≤ b := fun z => hc (.inl z)
          omega
      · simp only [List.length_cons]; omega
theorem commitIn_eq (c n : Nat) (r : List Nat) : commitIn c (n :: r) = if n < 1 ∨ 256 < n ∨ r.length ≤ 3 * n then none else match wf (-1) (r.take (3 * n)) with
    | none => none
    | some w => if r[3 * n]? = some (check c (n :: r.take (3 * n))) then some (w, check c (n :: r.take (3 * n)), r.drop (3 * n + 1)) else none := by
  show (if n = 0 ∨ KEYS < n then none else match writesIn n r with
    | none => none
    | some (w, q) => match q with
      | [] => none
      | x :: s => if rising (w.map fun (y : Nat × Option Nat) => y.1) = true ∧ x = check c (n :: writesList w) then some (w, x, s) else none) = _
  by_cases h1 : n = 0 ∨ KEYS < n
  · rw [if_pos h1, if_pos (by unfold KEYS at h1; omega)]
  · rw [if_neg h1]
    unfold KEYS at h1
    by_cases h2 : r.length ≤ 3 * n
    · rw [if_pos (.inr (.inr h2))]
      cases hw : writesIn n r with
      | none => rfl
      | some x =>
        obtain ⟨w, q⟩ := x
        obtain ⟨e1, _, _⟩ := writesIn_rest n r hw
        rw [List.drop_eq_nil_of_le h2] at e1
        subst e1
        rfl
    · rw [if_neg (by omega), wf_eq n (-1) r (by omega)]
      cases hw : writesIn n r with
      | none => rfl
      | some x =>
        obtain ⟨w, q⟩ := x
        obtain ⟨e1, e2, _⟩ := writesIn_rest n r hw
        have hlt : 3 * n < r.length := by omega
        have e3 : q = r[3 * n] :: r.drop (3 * n + 1) := by rw [e1, List.drop_eq_getElem_cons hlt]
        subst e3
        show (if rising (w.map fun (y : Nat × Option Nat) => y.1) = true ∧ r[3 * n] = check c (n :: writesList w) then some (w, r[3 * n], r.drop (3 * n + 1)) else none) = _
        rw [e2, List.getElem?_eq_getElem hlt]
        show _ = match (if up (-1) (w.map fun y => y.1) = true then some w else none) with | none => none | some w => _
        rw [up_neg]
        by_cases h3 : rising (w.map fun y => y.1) = true
        · rw [if_pos h3]
          show _ = if some r[3 * n] = some (check c (n :: r.take (3 * n))) then _ else none
          by_cases h4 : r[3 * n] = check c (n :: r.take (3 * n))
          · rw [if_pos ⟨h3, h4⟩, if_pos (by rw [h4]), h4]
          · rw [if_neg (fun z => h4 z.2), if_neg (fun z => h4 (Option.some.inj z))]
        · rw [if_neg h3, if_neg (fun z => h3 z.1)]
theorem commitIn_some {c : Nat} {l : List Nat} {w : Writes} {x : Nat} {s : List Nat} (h : commitIn c l = some (w, x, s)) : Srt w ∧ Bd w ∧ 1 ≤ w.length ∧ l.length = 3 * w.length + 2 + s.length := by
  cases l with
  | nil => cases h
  | cons n r =>
    rw [commitIn_eq] at h
    split at h
    · cases h
    · rename_i hc
      cases hw : wf (-1) (r.take (3 * n)) with
      | none => rw [hw] at h; cases h
      | some w' =>
        rw [hw] at h
        dsimp only at h
        split at h
        · injection h with h
          injection h with h1 h2
          injection h2 with h2 h3
          subst h1 h2 h3
          obtain ⟨a1, a2, _, a4⟩ := wf_good _ hw
          rw [List.length_take] at a4
          refine ⟨a1, a2, by omega, ?_⟩
          rw [List.length_cons, List.length_drop]; omega
        · cases h
theorem commitsIn_fuel : ∀ (f f' c : Nat) (l : List Nat), l.length ≤ f → l.length ≤ f' → commitsIn f c l = commitsIn f' c l
  | 0, 0, _, _, _, _ => rfl
  | 0, f' + 1, c, l, h, _ => by
    have e : l = [] := List.length_eq_zero_iff.mp (by omega)
    subst e; rfl
  | f + 1, 0, c, l, _, h => by
    have e : l = [] := List.length_eq_zero_iff.mp (by omega)
    subst e; rfl
  | f + 1, f' + 1, c, l, h, h' => by
    show (match commitIn c l with | none => [] | some (w, x, s) => w :: commitsIn f x s) = match commitIn c l with | none => [] | some (w, x, s) => w :: commitsIn f' x s
    cases hc : commitIn c l with
    | none => rfl
    | some y =>
      obtain ⟨w, x, s⟩ := y
      have := (commitIn_some hc).2.2.2
      show w :: commitsIn f x s = w :: commitsIn f' x s
      rw [commitsIn_fuel f f' x s (by omega) (by omega)]
/-- the commits of a log's rest -/
def ci (c : Nat) (l : List Nat) : List Writes := commitsIn l.length c l
theorem ci_eq (c : Nat) (l : List Nat) : ci c l = match commitIn c l with | none => [] | some y => y.1 :: ci y.2.1 y.2.2 := by
  unfold ci
  cases l with
  | nil => rfl
  | cons n r =>
    show (match commitIn c (n :: r) with | none => [] | some (w, x, s) => w :: commitsIn r.length x s) = _
    cases hc : commitIn c (n :: r) with
    | none => rfl
    | some y =>
      obtain ⟨w, x, s⟩ := y
      have := (commitIn_some hc).2.2.2
      rw [List.length_cons] at this
      show w :: commitsIn r.length x s = w :: commitsIn s.length x s
      rw [commitsIn_fuel r.length s.length x s (by omega) (by omega)]
theorem ci_good : ∀ (n c : Nat) (l : List Nat), l.length ≤ n → (∀ w ∈ ci c l, Srt w ∧ Bd w ∧ 1 ≤ w.length) ∧ recLen (ci c l) ≤ l.length
  | 0, c, l, h => by
    have e : l = [] := List.length_eq_zero_iff.mp (by omega)
    subst e
    exact ⟨fun w hw => (nomatch hw), Nat.le_refl _⟩
  | n + 1, c, l, h => by
    rw [ci_eq]
    cases hc : commitIn c l with
    | none => exact ⟨fun w hw => (nomatch hw), Nat.zero_le _⟩
    | some y =>
      obtain ⟨w, x, s⟩ := y
      obtain ⟨a1, a2, a3, a4⟩ := commitIn_some hc
      obtain ⟨b1, b2⟩ := ci_good n x s (by omega)
      refine ⟨fun v hv => ?_, ?_⟩
      · rcases List.mem_cons.mp hv with e | e
        · subst e; exact ⟨a1, a2, a3⟩
        · exact b1 v e
      · show recLen ([w] ++ ci x s) ≤ _
        rw [recLen_append, recLen_one]; omega
theorem bookIn_eq (b n : Nat) (r : List Nat) : bookIn (b :: n :: r) = if 4294967295 < b ∨ 256 < n ∨ r.length ≤ 2 * n then none else match sf (-1) (r.take (2 * n)) with
    | none => none
    | some s => if r[2 * n]? = some (check 0 (b :: n :: r.take (2 * n))) then
      some ⟨b, s, ci (check 0 (b :: n :: r.take (2 * n))) (r.drop (2 * n + 1)), b + (ci (check 0 (b :: n :: r.take (2 * n))) (r.drop (2 * n + 1))).length⟩ else none := by
  show (if LATE ≤ b ∨ KEYS < n then none else match storeIn n r with
    | none => none
    | some (s, q) => match q with
      | [] => none
      | x :: t => if rising (s.map fun (y : Nat × Nat) => y.1) = true ∧ x = check (check 0 [b]) (n :: storeList s) then
          some (Book.mk b s (commitsIn t.length x t) (b + (commitsIn t.length x t).length)) else none) = _
  by_cases h1 : LATE ≤ b ∨ KEYS < n
  · rw [if_pos h1, if_pos (by unfold LATE KEYS at h1; omega)]
  · rw [if_neg h1]
    unfold LATE KEYS at h1
    by_cases h2 : r.length ≤ 2 * n
    · rw [if_pos (.inr (.inr h2))]
      cases hw : storeIn n r with
      | none => rfl
      | some x =>
        obtain ⟨w, q⟩ := x
        obtain ⟨e1, _, _⟩ := storeIn_rest n r hw
        rw [List.drop_eq_nil_of_le h2] at e1
        subst e1
        rfl
    · rw [if_neg (by omega), sf_eq n (-1) r (by omega)]
      cases hw : storeIn n r with
      | none => rfl
      | some x =>
        obtain ⟨w, q⟩ := x
        obtain ⟨e1, e2, _⟩ := storeIn_rest n r hw
        have hlt : 2 * n < r.length := by omega
        have e3 : q = r[2 * n] :: r.drop (2 * n + 1) := by rw [e1, List.drop_eq_getElem_cons hlt]
        subst e3
        show (if rising (w.map fun (y : Nat × Nat) => y.1) = true ∧ r[2 * n] = check (check 0 [b]) (n :: storeList w) then some (Book.mk b w (ci r[2 * n] (r.drop (2 * n + 1))) (b + (ci r[2 * n] (r.drop (2 * n + 1))).length)) else none) = _
        have e4 : check (check 0 [b]) (n :: storeList w) = check 0 (b :: n :: r.take (2 * n)) := by
          rw [e2, ← check_append]; rfl
        rw [e4, List.getElem?_eq_getElem hlt]
        show _ = match (if up (-1) (w.map fun y => y.1) = true then some w else none) with | none => none | some w => _
        rw [up_neg]
        by_cases h3 : rising (w.map fun y => y.1) = true
        · rw [if_pos h3]
          show _ = if some r[2 * n] = some (check 0 (b :: n :: r.take (2 * n))) then _ else none
          by_cases h4 : r[2 * n] = check 0 (b :: n :: r.take (2 * n))
          · rw [if_pos ⟨h3, h4⟩, if_pos (by rw [h4]), h4]
          · rw [if_neg (fun z => h4 z.2), if_neg (fun z => h4 (Option.some.inj z))]
        · rw [if_neg h3, if_neg (fun z => h3 z.1)]
end TxM

end
section
set_option autoImplicit true
set_option maxHeartbeats 1000000
namespace TxM
open Tx
/-! books -/
theorem at_base (b : Book) : b.at_ b.base = b.first := by
  unfold Book.at_; rw [Nat.sub_self]; rfl
theorem at_now (b : Book) : b.at_ b.now = b.commits.foldl applied b.first := by
  unfold Book.at_ Book.now; rw [Nat.add_sub_cancel_left, List.take_length]
theorem at_append (b : Book) (w : Writes) {n : Nat} (h : n ≤ b.now) : Book.at_ { b with commits := b.commits ++ [w] } n = b.at_ n := by
  unfold Book.at_
  show ((b.commits ++ [w]).take (n - b.base)).foldl applied b.first = _
  unfold Book.now at h
  rw [List.take_append_of_le_length (by omega)]
theorem at_append_now (b : Book) (w : Writes) : Book.at_ { b with commits := b.commits ++ [w] } (b.now + 1) = applied (b.at_ b.now) w := by
  have e : b.now + 1 = Book.now { b with commits := b.commits ++ [w] } := by
    unfold Book.now
    show _ = b.base + (b.commits ++ [w]).length
    rw [List.length_append, List.length_singleton]; omega
  rw [e, at_now, at_now]
  show (b.commits ++ [w]).foldl applied b.first = _
  rw [List.foldl_append]; rfl
theorem at_vac (b : Book) {n m sf : Nat} (h1 : b.base ≤ n) (h2 : n ≤ m) : Book.at_ ⟨n, b.at_ n, b.commits.drop (n - b.base), sf⟩ m = b.at_ m := by
  unfold Book.at_
  show ((b.commits.drop (n - b.base)).take (m - n)).foldl applied ((b.commits.take (n - b.base)).foldl applied b.first) = _
  rw [← List.foldl_append, ← List.take_add]
  congr 2
  omega
theorem at_crash (b : Book) {n k : Nat} (h : n - b.base ≤ k) : Book.at_ { b with commits := b.commits.take k } n = b.at_ n := by
  unfold Book.at_
  show ((b.commits.take k).take (n - b.base)).foldl applied b.first = _
  rw [List.take_take, Nat.min_eq_left h]
/-- every store and every commit is in form -/
structure BookOk (b : Book) : Prop where
  fs : Srt b.first
  fb : Bd b.first
  cs : ∀ w ∈ b.commits, Srt w ∧ Bd w
  lo : b.base ≤ b.safe
  hi : b.safe ≤ b.now
theorem at_good_aux : ∀ (l : List Writes) (s : Store), Srt s → Bd s → (∀ w ∈ l, Srt w ∧ Bd w) → Srt (l.foldl applied s) ∧ Bd (l.foldl applied s)
  | [], _, h1, h2, _ => ⟨h1, h2⟩
  | w :: r, _, h1, h2, h3 => at_good_aux r _ (srt_applied h1) (bd_applied h2 (h3 w (List.mem_cons_self ..)).2) fun v hv => h3 v (List.mem_cons_of_mem _ hv)
theorem BookOk.at_ {b : Book} (h : BookOk b) (n : Nat) : Srt (b.at_ n) ∧ Bd (b.at_ n) :=
  at_good_aux _ _ h.fs h.fb fun w hw => h.cs w (List.mem_of_mem_take hw)
theorem at_take_succ (b : Book) {i : Nat} {w : Writes} (h : b.commits[i]? = some w) : (b.commits.take (i + 1)).foldl applied b.first = applied ((b.commits.take i).foldl applied b.first) w := by
  rw [take_succ' h, List.foldl_append]; rfl
/-! clashes -/
def cl (p : Nat → Bool) : Nat → List Writes → Option (Nat × Nat)
  | _, [] => none
  | n, w :: r => match w.find? fun y => p y.1 with
    | some y => some (n, y.1)
    | none => cl p (n + 1) r
theorem zip_drop {β : Type} : ∀ (l : List β) (k i : Nat), (l.zipIdx i).drop k = (l.drop k).zipIdx (i + k)
  | [], k, i => by simp
  | x :: r, 0, i => rfl
  | x :: r, k + 1, i => by
    show (r.zipIdx (i + 1)).drop k = (r.drop k).zipIdx (i + (k + 1))
    rw [zip_drop r k (i + 1), show i + 1 + k = i + (k + 1) by omega]
theorem cl_zip (p : Nat → Bool) (base : Nat) (f : Writes × Nat → Option (Nat × Nat)) (hf : ∀ x, f x = ((x.1.find? fun y => p y.1).map fun y => (base + x.2 + 1, y.1))) : ∀ (l : List Writes) (i : Nat), (l.zipIdx i).findSome? f = cl p (base + i + 1) l
  | [], _ => rfl
  | w :: r, i => by
    rw [List.zipIdx_cons, List.findSome?_cons, hf]
    show _ = (match w.find? fun y => p y.1 with | some y => some (base + i + 1, y.1) | none => cl p (base + i + 1 + 1) r)
    dsimp only
    cases w.find? fun y => p y.1 with
    | some y => rfl
    | none =>
      show List.findSome? _ _ = _
      rw [cl_zip p base f hf r (i + 1), show base + (i + 1) + 1 = base + i + 1 + 1 by omega]
theorem clash_eq (b : Book) (t : Txn) (h : b.base ≤ t.seen) : t.clash b = cl t.minds (t.seen + 1) (b.commits.drop (t.seen - b.base)) := by
  unfold Txn.clash
  rw [zip_drop]
  refine (cl_zip t.minds b.base _ (fun x => ?_) _ _).trans ?_
  · cases x.1.find? fun y => t.minds y.1 <;> rfl
  · congr 1
    omega
theorem cl_step {p : Nat → Bool} {n : Nat} {l : List Writes} {i : Nat} {w : Writes} (h : l[i]? = some w) (hn : (w.find? fun y => p y.1) = none) : cl p n (l.drop i) = cl p (n + 1) (l.drop (i + 1)) := by
  obtain ⟨hi, e⟩ := List.getElem?_eq_some_iff.mp h
  rw [List.drop_eq_getElem_cons hi, e]
  show (match w.find? fun y => p y.1 with | some y => some (n, y.1) | none => cl p (n + 1) (l.drop (i + 1))) = _
  rw [hn]
theorem cl_hit {p : Nat → Bool} {n : Nat} {l : List Writes} {i : Nat} {w : Writes} {y : Nat × Option Nat} (h : l[i]? = some w) (hn : (w.find? fun y => p y.1) = some y) : cl p n (l.drop i) = some (n, y.1) := by
  obtain ⟨hi, e⟩ := List.getElem?_eq_some_iff.mp h
  rw [List.drop_eq_getElem_cons hi, e]
  show (match w.find? fun y => p y.1 with | some y => some (n, y.1) | none => cl p (n + 1) (l.drop (i + 1))) = _
  rw [hn]
theorem find_step {p : Nat → Bool} {w : Writes} {j : Nat} {y : Nat × Option Nat} (h : w[j]? = some y) : ((w.drop j).find? fun y => p y.1) = if p y.1 = true then some y else (w.drop (j + 1)).find? fun y => p y.1 := by
  obtain ⟨hi, e⟩ := List.getElem?_eq_some_iff.mp h
  rw [List.drop_eq_getElem_cons hi, e, List.find?_cons]
  cases p y.1 <;> rfl
/-! lines -/
/-- how many numbers a call has -/
def given : List Nat := [1, 2, 3, 3, 2, 1, 2, 1, 1, 2, 1, 2, 1, 0, 0, 0, 1, 0]
def mk : Nat → List Nat → Option Tx.Call
  | 0, [a] => some (.begin_ a)
  | 1, [a, b] => some (.read a b)
  | 2, [a, b, c] => some (.range a b c)
  | 3, [a, b, c] => some (.write a b c)
  | 4, [a, b] => some (.delete a b)
  | 5, [a] => some (.mark a)
  | 6, [a, b] => some (.back a b)
  | 7, [a] => some (.commit a)
  | 8, [a] => some (.abort a)
  | 9, [a, b] => some (.at_ a b)
  | 10, [a] => some (.all a)
  | 11, [a, b] => some (.changes a b)
  | 12, [a] => some (.vacuum a)
  | 13, [] => some .sync
  | 14, [] => some .crash
  | 15, [] => some .log
  | 16, n :: l => if n = l.length then some (.recover l) else none
  | 17, [] => some .shape
  | _, _ => none
inductive Line : List Nat → List Tx.Call → Prop where
  | nil : Line [] []
  | cons {p : Nat} {g rest : List Nat} {c : Tx.Call} {cs : List Tx.Call} : mk p g = some c → Line rest cs → Line (p :: (g ++ rest)) (c :: cs)
/-- the answers, played -/
def run : Tx.State → List Tx.Call → List Int
  | _, [] => []
  | s, c :: cs => ((TxNeutral.shown (Tx.step s c).2).length : Int) :: TxNeutral.shown (Tx.step s c).2 ++ run (Tx.step s c).1 cs
end TxM

end
section
set_option autoImplicit true
set_option maxHeartbeats 1000000
namespace TxM
open Tx
def ofN (l : List Nat) : List Int := l.map fun (n : Nat) => (n : Int)
theorem ofN_length (l : List Nat) : (ofN l).length = l.length := List.length_map _
theorem ofN_append (a b : List Nat) : ofN (a ++ b) = ofN a ++ ofN b := List.map_append
theorem ofN_take (l : List Nat) (n : Nat) : (ofN l).take n = ofN (l.take n) := by unfold ofN; rw [List.map_take]
theorem ofN_drop (l : List Nat) (n : Nat) : (ofN l).drop n = ofN (l.drop n) := by unfold ofN; rw [List.map_drop]
theorem whole_ofN (l : List Nat) : TxNeutral.whole (ofN l) = true := by
  unfold TxNeutral.whole ofN
  rw [List.all_eq_true]
  intro x hx
  obtain ⟨n, _, e⟩ := List.mem_map.mp hx
  subst e
  simp
theorem nats_ofN : ∀ l : List Nat, TxNeutral.nats (ofN l) = l
  | [] => rfl
  | n :: r => by
    show (n : Int).toNat :: TxNeutral.nats (ofN r) = n :: r
    rw [nats_ofN r]; rfl
theorem call_num {p : Nat} {ns : List Nat} {n : Nat} {c : List (List Int)} {t : List Int} (hs : PyWrtxns.shape (p : Int) = some (n, 0)) (h : PyFlat.call PyWrtxns.shape ((p : Int) :: ofN ns) = some (c, t)) :
    ∃ g rest, ns = g ++ rest ∧ g.length = n ∧ c = [(p : Int) :: ofN g] ∧ t = ofN rest := by
  have h' : (match PyWrtxns.shape (p : Int) with
    | none => none
    | some (n, k) => if (ofN ns).length < n then none else match PyFlat.rows k ((ofN ns).drop n) with
      | none => none
      | some (xs, t) => some (((p : Int) :: (ofN ns).take n) :: xs, t)) = some (c, t) := h
  rw [hs] at h'
  have h2 : (if (ofN ns).length < n then none else some ([(p : Int) :: (ofN ns).take n], (ofN ns).drop n)) = some (c, t) := h'
  split at h2
  · cases h2
  · rename_i hn
    rw [ofN_length] at hn
    injection h2 with h2
    injection h2 with h3 h4
    refine ⟨ns.take n, ns.drop n, (List.take_append_drop n ns).symm, ?_, ?_, ?_⟩
    · rw [List.length_take]; omega
    · rw [← h3, ofN_take]
    · rw [← h4, ofN_drop]
theorem call_row {ns : List Nat} {c : List (List Int)} {t : List Int} (h : PyFlat.call PyWrtxns.shape (((16 : Nat) : Int) :: ofN ns) = some (c, t)) :
    ∃ l rest, ns = l.length :: (l ++ rest) ∧ c = [[16], ofN l] ∧ t = ofN rest := by
  cases ns with
  | nil => cases h
  | cons n r =>
    have h2 : (match (if 0 ≤ (n : Int) ∧ (n : Int).toNat ≤ (ofN r).length then some ((ofN r).take (n : Int).toNat, (ofN r).drop (n : Int).toNat) else none) with
      | none => none
      | some (x, s) => some ([[16], x], s)) = some (c, t) := by
      have e : PyFlat.call PyWrtxns.shape (((16 : Nat) : Int) :: ofN (n :: r)) = (match PyFlat.rows 1 (ofN (n :: r)) with
        | none => none
        | some (xs, t) => some ([16] :: xs, t)) := rfl
      rw [e] at h
      have e2 : PyFlat.rows 1 (ofN (n :: r)) = (match PyFlat.row (ofN (n :: r)) with | none => none | some (x, s) => some ([x], s)) := rfl
      rw [e2] at h
      have e3 : PyFlat.row (ofN (n :: r)) = (if 0 ≤ (n : Int) ∧ (n : Int).toNat ≤ (ofN r).length then some ((ofN r).take (n : Int).toNat, (ofN r).drop (n : Int).toNat) else none) := rfl
      rw [e3] at h
      split at h
      · cases h
      · rename_i xs u hx
        split at hx
        · cases hx
        · rename_i x s hy
          injection hx with hx
          injection hx with hx1 hx2
          subst hx1 hx2
          exact h
    rw [Int.toNat_natCast, ofN_length] at h2
    by_cases hc : 0 ≤ (n : Int) ∧ n ≤ r.length
    · rw [if_pos hc] at h2
      injection h2 with h2
      injection h2 with h3 h4
      refine ⟨r.take n, r.drop n, ?_, ?_, ?_⟩
      · rw [List.take_append_drop, List.length_take, Nat.min_eq_left hc.2]
      · rw [← h3, ofN_take]
      · rw [← h4, ofN_drop]
    · rw [if_neg hc] at h2; cases h2
theorem shape_big {p : Nat} (h : 18 ≤ p) : PyWrtxns.shape (p : Int) = none := by
  unfold PyWrtxns.shape
  repeat rw [if_neg (by omega)]
theorem st1 {s : Tx.State} {c : List (List Int)} {l : List Nat} {x : Tx.Call} (h : TxNeutral.callOf (PyWrtxns.whole c) = if TxNeutral.whole (ofN l) = true then some x else none) :
    TxNeutral.step s (PyWrtxns.whole c) = ((Tx.step s x).1, TxNeutral.shown (Tx.step s x).2) := by
  unfold TxNeutral.step
  rw [h, if_pos (whole_ofN l)]
/-- one call -/
theorem one {p : Nat} {ns : List Nat} {c : List (List Int)} {t : List Int} (h : PyFlat.call PyWrtxns.shape ((p : Int) :: ofN ns) = some (c, t)) :
    ∃ g rest x, ns = g ++ rest ∧ t = ofN rest ∧ mk p g = some x ∧ ∀ s, TxNeutral.step s (PyWrtxns.whole c) = ((Tx.step s x).1, TxNeutral.shown (Tx.step s x).2) := by
  match p, h with
  | 0, h =>
    obtain ⟨g, rest, e, hl, ec, et⟩ := call_num (n := 1) rfl h
    match g, hl with
    | [a], _ =>
      refine ⟨[a], rest, .begin_ a, e, et, rfl, fun s => ?_⟩
      rw [ec]; exact st1 (l := [a]) rfl
  | 1, h =>
    obtain ⟨g, rest, e, hl, ec, et⟩ := call_num (n := 2) rfl h
    match g, hl with
    | [a, b], _ =>
      refine ⟨[a, b], rest, .read a b, e, et, rfl, fun s => ?_⟩
      rw [ec]; exact st1 (l := [a, b]) rfl
  | 2, h =>
    obtain ⟨g, rest, e, hl, ec, et⟩ := call_num (n := 3) rfl h
    match g, hl with
    | [a, b, d], _ =>
      refine ⟨[a, b, d], rest, .range a b d, e, et, rfl, fun s => ?_⟩
      rw [ec]; exact st1 (l := [a, b, d]) rfl
  | 3, h =>
    obtain ⟨g, rest, e, hl, ec, et⟩ := call_num (n := 3) rfl h
    match g, hl with
    | [a, b, d], _ =>
      refine ⟨[a, b, d], rest, .write a b d, e, et, rfl, fun s => ?_⟩
      rw [ec]; exact st1 (l := [a, b, d]) rfl
  | 4, h =>
    obtain ⟨g, rest, e, hl, ec, et⟩ := call_num (n := 2) rfl h
    match g, hl with
    | [a, b], _ =>
      refine ⟨[a, b], rest, .delete a b, e, et, rfl, fun s => ?_⟩
      rw [ec]; exact st1 (l := [a, b]) rfl
  | 5, h =>
    obtain ⟨g, rest, e, hl, ec, et⟩ := call_num (n := 1) rfl h
    match g, hl with
    | [a], _ =>
      refine ⟨[a], rest, .mark a, e, et, rfl, fun s => ?_⟩
      rw [ec]; exact st1 (l := [a]) rfl
  | 6, h =>
    obtain ⟨g, rest, e, hl, ec, et⟩ := call_num (n := 2) rfl h
    match g, hl with
    | [a, b], _ =>
      refine ⟨[a, b], rest, .back a b, e, et, rfl, fun s => ?_⟩
      rw [ec]; exact st1 (l := [a, b]) rfl
  | 7, h =>
    obtain ⟨g, rest, e, hl, ec, et⟩ := call_num (n := 1) rfl h
    match g, hl with
    | [a], _ =>
      refine ⟨[a], rest, .commit a, e, et, rfl, fun s => ?_⟩
      rw [ec]; exact st1 (l := [a]) rfl
  | 8, h =>
    obtain ⟨g, rest, e, hl, ec, et⟩ := call_num (n := 1) rfl h
    match g, hl with
    | [a], _ =>
      refine ⟨[a], rest, .abort a, e, et, rfl, fun s => ?_⟩
      rw [ec]; exact st1 (l := [a]) rfl
  | 9, h =>
    obtain ⟨g, rest, e, hl, ec, et⟩ := call_num (n := 2) rfl h
    match g, hl with
    | [a, b], _ =>
      refine ⟨[a, b], rest, .at_ a b, e, et, rfl, fun s => ?_⟩
      rw [ec]; exact st1 (l := [a, b]) rfl
  | 10, h =>
    obtain ⟨g, rest, e, hl, ec, et⟩ := call_num (n := 1) rfl h
    match g, hl with
    | [a], _ =>
      refine ⟨[a], rest, .all a, e, et, rfl, fun s => ?_⟩
      rw [ec]; exact st1 (l := [a]) rfl
  | 11, h =>
    obtain ⟨g, rest, e, hl, ec, et⟩ := call_num (n := 2) rfl h
    match g, hl with
    | [a, b], _ =>
      refine ⟨[a, b], rest, .changes a b, e, et, rfl, fun s => ?_⟩
      rw [ec]; exact st1 (l := [a, b]) rfl
  | 12, h =>
    obtain ⟨g, rest, e, hl, ec, et⟩ := call_num (n := 1) rfl h
    match g, hl with
    | [a], _ =>
      refine ⟨[a], rest, .vacuum a, e, et, rfl, fun s => ?_⟩
      rw [ec]; exact st1 (l := [a]) rfl
  | 13, h =>
    obtain ⟨g, rest, e, hl, ec, et⟩ := call_num (n := 0) rfl h
    match g, hl with
    | [], _ => exact ⟨[], rest, .sync, e, et, rfl, fun s => by rw [ec]; rfl⟩
  | 14, h =>
    obtain ⟨g, rest, e, hl, ec, et⟩ := call_num (n := 0) rfl h
    match g, hl with
    | [], _ => exact ⟨[], rest, .crash, e, et, rfl, fun s => by rw [ec]; rfl⟩
  | 15, h =>
    obtain ⟨g, rest, e, hl, ec, et⟩ := call_num (n := 0) rfl h
    match g, hl with
    | [], _ => exact ⟨[], rest, .log, e, et, rfl, fun s => by rw [ec]; rfl⟩
  | 16, h =>
    obtain ⟨l, rest, e, ec, et⟩ := call_row h
    refine ⟨l.length :: l, rest, .recover l, e, et, if_pos rfl, fun s => ?_⟩
    rw [ec]
    have e1 : TxNeutral.step s (PyWrtxns.whole [[16], ofN l]) = match (if TxNeutral.whole (ofN l) = true then some (Tx.Call.recover (TxNeutral.nats (ofN l))) else none) with
      | some x => let z := Tx.step s x
        (z.1, TxNeutral.shown z.2)
      | none => (s, []) := rfl
    rw [e1, whole_ofN, nats_ofN]; rfl
  | 17, h =>
    obtain ⟨g, rest, e, hl, ec, et⟩ := call_num (n := 0) rfl h
    match g, hl with
    | [], _ => exact ⟨[], rest, .shape, e, et, rfl, fun s => by rw [ec]; rfl⟩
  | p + 18, h =>
    have h' : (match PyWrtxns.shape ((p + 18 : Nat) : Int) with
      | none => none
      | some (n, k) => if (ofN ns).length < n then none else match PyFlat.rows k ((ofN ns).drop n) with
        | none => none
        | some (xs, t) => some ((((p + 18 : Nat) : Int) :: (ofN ns).take n) :: xs, t)) = some (c, t) := h
    rw [shape_big (by omega)] at h'
    cases h'
theorem many : ∀ (f : Nat) (ns : List Nat) (cs : List (List (List Int))), PyFlat.calls PyWrtxns.shape f (ofN ns) = some cs →
    ∃ tc, Line ns tc ∧ tc.length = cs.length ∧ ∀ s, PyFlat.told (PyFlat.played TxNeutral.step s (cs.map PyWrtxns.whole)) = run s tc
  | f, [], cs, h => by
    have h' : some [] = some cs := by cases f <;> exact h
    injection h' with h'
    subst h'
    exact ⟨[], .nil, rfl, fun _ => rfl⟩
  | 0, p :: ns, cs, h => by cases h
  | f + 1, p :: ns, cs, h => by
    have h' : (match PyFlat.call PyWrtxns.shape ((p : Int) :: ofN ns) with
      | none => none
      | some (c, t) => match PyFlat.calls PyWrtxns.shape f t with
        | none => none
        | some cs => some (c :: cs)) = some cs := h
    cases hc : PyFlat.call PyWrtxns.shape ((p : Int) :: ofN ns) with
    | none => rw [hc] at h'; cases h'
    | some y =>
      obtain ⟨c, t⟩ := y
      rw [hc] at h'
      dsimp only at h'
      obtain ⟨g, rest, x, e, et, hm, hst⟩ := one hc
      subst et
      cases hr : PyFlat.calls PyWrtxns.shape f (ofN rest) with
      | none => rw [hr] at h'; cases h'
      | some cs' =>
        rw [hr] at h'
        injection h' with h'
        subst h'
        obtain ⟨tc, hl, hn, ht⟩ := many f rest cs' hr
        refine ⟨x :: tc, by rw [e]; exact .cons hm hl, by rw [List.length_cons, List.length_cons, hn], fun s => ?_⟩
        show (((TxNeutral.step s (PyWrtxns.whole c)).2.length : Int) :: (TxNeutral.step s (PyWrtxns.whole c)).2) ++ PyFlat.told (PyFlat.played TxNeutral.step (TxNeutral.step s (PyWrtxns.whole c)).1 (cs'.map PyWrtxns.whole)) = _
        rw [ht, hst]; rfl
theorem natural_of {l : List Int} (h : ∀ x ∈ l, 0 ≤ x) : ∃ ns : List Nat, l = ofN ns := by
  refine ⟨l.map Int.toNat, ?_⟩
  unfold ofN
  rw [List.map_map]
  refine (List.map_id l).symm.trans (List.map_congr_left fun x hx => ?_)
  have := h x hx
  show x = ((x.toNat : Nat) : Int)
  omega
/-- what is asked, and what is due -/
theorem due {l : List Int} (h0 : ∀ x ∈ l, 0 ≤ x) (h : PyWrtxns.answers_asked l = true) : ∃ ns tc, l = ofN ns ∧ Line ns tc ∧ tc.length ≤ 200 ∧ PyWrtxns.answers l = run Tx.start tc := by
  obtain ⟨ns, e⟩ := natural_of h0
  subst e
  unfold PyWrtxns.answers_asked PyWrtxns.calls at h
  unfold PyWrtxns.answers PyWrtxns.calls
  cases hc : PyFlat.calls PyWrtxns.shape (ofN ns).length (ofN ns) with
  | none => rw [hc] at h; cases h
  | some cs =>
    rw [hc] at h
    dsimp only at h
    obtain ⟨tc, hl, hn, ht⟩ := many _ ns cs hc
    refine ⟨ns, tc, rfl, hl, ?_, ht _⟩
    rw [Bool.and_eq_true] at h
    have := of_decide_eq_true h.1
    rw [List.length_map] at this
    omega
end TxM

end
section
set_option autoImplicit true
set_option maxHeartbeats 1000000
namespace TxM
open Tx
structure TxnOk (b : Book) (nxt W : Nat) (t : Txn) : Prop where
  idl : t.id < nxt
  lo : b.base ≤ t.seen
  hi : t.seen ≤ b.now
  ws : Srt t.writes
  wb : Bd t.writes
  ms : ∀ m ∈ t.marks, Srt m ∧ Bd m
  wl : t.writes.length ≤ W
  ml : ∀ m ∈ t.marks, m.length ≤ W
  rn : t.reads.length ≤ 64
  mn : t.marks.length ≤ 16
structure G (W K : Nat) (s : State) : Prop where
  book : BookOk s.book
  ids : (s.open_.map (·.id)).Nodup
  len : s.open_.length ≤ 8
  txs : ∀ t ∈ s.open_, TxnOk s.book s.next W t
  rl : recLen s.book.commits ≤ 16000 + K * (3 * W + 2)
theorem TxnOk.mono {b : Book} {n n' W W' : Nat} {t : Txn} (h : TxnOk b n W t) (hn : n ≤ n') (hW : W ≤ W') : TxnOk b n' W' t :=
  ⟨Nat.lt_of_lt_of_le h.idl hn, h.lo, h.hi, h.ws, h.wb, h.ms, Nat.le_trans h.wl hW, fun m hm => Nat.le_trans (h.ml m hm) hW, h.rn, h.mn⟩
theorem kw_mono {K K' W W' : Nat} (h1 : K ≤ K') (h2 : W ≤ W') : K * (3 * W + 2) ≤ K' * (3 * W' + 2) := Nat.mul_le_mul h1 (by omega)
theorem G.mono {W K W' K' : Nat} {s : State} (h : G W K s) (hW : W ≤ W') (hK : K ≤ K') : G W' K' s :=
  ⟨h.book, h.ids, h.len, fun t ht => (h.txs t ht).mono (Nat.le_refl _) hW, Nat.le_trans h.rl (Nat.add_le_add_left (kw_mono hK hW) _)⟩
def Good (c : Nat) (s : State) : Prop := ∃ W K, W + K ≤ c ∧ G W K s
theorem find_mem {s : State} {i : Nat} {t : Txn} (h : s.find i = some t) : t ∈ s.open_ ∧ t.id = i := by
  unfold State.find at h
  exact ⟨List.mem_of_find?_eq_some h, by have := List.find?_some h; simpa using this⟩
theorem with_ids (s : State) (t : Txn) : (s.with_ t).open_.map (·.id) = s.open_.map (·.id) := by
  show (s.open_.map fun x => if x.id = t.id then t else x).map (·.id) = _
  rw [List.map_map]
  refine List.map_congr_left fun x _ => ?_
  show (if x.id = t.id then t else x).id = x.id
  split
  · rename_i h; exact h.symm
  · rfl
theorem with_mem {s : State} {t x : Txn} (h : x ∈ (s.with_ t).open_) : x = t ∨ x ∈ s.open_ := by
  obtain ⟨y, hy, e⟩ := List.mem_map.mp (show x ∈ s.open_.map fun x => if x.id = t.id then t else x from h)
  split at e
  · exact .inl e.symm
  · exact .inr (by rw [← e]; exact hy)
theorem G.with_ {W K : Nat} {s : State} {t : Txn} (h : G W K s) (ht : TxnOk s.book s.next W t) : G W K (s.with_ t) :=
  ⟨h.book, by rw [with_ids]; exact h.ids, by show (s.open_.map _).length ≤ 8; rw [List.length_map]; exact h.len, fun x hx => by
    rcases with_mem hx with e | e
    · rw [e]; exact ht
    · exact h.txs x e, h.rl⟩
theorem G.without {W K : Nat} {s : State} (h : G W K s) (i : Nat) : G W K (s.without i) :=
  ⟨h.book, List.Nodup.sublist (List.Sublist.map _ List.filter_sublist) h.ids, Nat.le_trans (List.length_filter_le ..) h.len, fun t ht => h.txs t (List.mem_filter.mp ht).1, h.rl⟩
theorem recLen_sub {a b : List Writes} (h : List.Sublist a b) : recLen a ≤ recLen b := by
  induction h with
  | slnil => exact Nat.le_refl _
  | cons x _ ih => 
    show _ ≤ recLen ([x] ++ _)
    rw [recLen_append]; omega
  | cons_cons x _ ih => 
    show recLen ([x] ++ _) ≤ recLen ([x] ++ _)
    rw [recLen_append, recLen_append]; omega
theorem len_note (k : Nat) (v : Option Nat) : ∀ w : Writes, (note k v w).length ≤ w.length + 1
  | [] => Nat.le_refl _
  | x :: r => by
    show (if k < x.1 then (k, v) :: x :: r else if k = x.1 then (k, v) :: r else x :: note k v r).length ≤ _
    split
    · simp only [List.length_cons]; omega
    · split
      · simp only [List.length_cons]; omega
      · have := len_note k v r
        simp only [List.length_cons]; omega
theorem book_crash {b : Book} (h : BookOk b) : BookOk { b with commits := b.commits.take (b.safe - b.base) } := by
  have hn : (b.commits.take (b.safe - b.base)).length = b.safe - b.base := by
    rw [List.length_take]
    have := h.hi
    unfold Book.now at this
    omega
  refine ⟨h.fs, h.fb, fun w hw => h.cs w (List.mem_of_mem_take hw), h.lo, ?_⟩
  show b.safe ≤ b.base + (b.commits.take (b.safe - b.base)).length
  have := h.lo
  omega
theorem now_vac {b : Book} {n : Nat} (h1 : b.base ≤ n) (h2 : n ≤ b.now) {sf : Nat} : Book.now ⟨n, b.at_ n, b.commits.drop (n - b.base), sf⟩ = b.now := by
  unfold Book.now at h2 ⊢
  show n + (b.commits.drop (n - b.base)).length = _
  rw [List.length_drop]; omega
theorem bookIn_good {l : List Nat} {b : Book} (h : bookIn l = some b) : BookOk b ∧ recLen b.commits ≤ l.length ∧ b.safe = b.now := by
  match l, h with
  | [], h => cases h
  | [_], h => cases h
  | b0 :: n :: r, h =>
    rw [bookIn_eq] at h
    split at h
    · cases h
    · cases hs : sf (-1) (r.take (2 * n)) with
      | none => rw [hs] at h; cases h
      | some s =>
        rw [hs] at h
        dsimp only at h
        split at h
        · injection h with h
          subst h
          obtain ⟨a1, a2, _⟩ := sf_good _ hs
          obtain ⟨c1, c2⟩ := ci_good _ (check 0 (b0 :: n :: r.take (2 * n))) (r.drop (2 * n + 1)) (Nat.le_refl _)
          refine ⟨⟨a1, a2, fun w hw => ⟨(c1 w hw).1, (c1 w hw).2.1⟩, Nat.le_add_right _ _, Nat.le_refl _⟩, ?_, rfl⟩
          have : (r.drop (2 * n + 1)).length ≤ (b0 :: n :: r).length := by rw [List.length_drop, List.length_cons, List.length_cons]; omega
          exact Nat.le_trans c2 this
        · cases h
theorem on_good {c : Nat} {s : State} {i : Nat} {f : Txn → State × Answer} (h : Good c s) (hf : ∀ t, s.find i = some t → Good c (f t).1) : Good c (on s i f).1 := by
  unfold on
  cases hi : s.find i with
  | none => exact h
  | some t => exact hf t hi
theorem step_good {c : Nat} {s : State} {x : Tx.Call} (h : Good c s) (hx : ∀ l, x = .recover l → l.length ≤ 16000) : Good (c + 1) (Tx.step s x).1 := by
  obtain ⟨W, K, hc, g⟩ := h
  have g0 : Good (c + 1) s := ⟨W, K, by omega, g⟩
  cases x with
  | begin_ w =>
    show Good (c + 1) (if 1 < w then (s, says (-1)) else if OPEN ≤ s.open_.length then (s, says (-6)) else (⟨s.book, s.open_ ++ [⟨s.next, s.book.now, w, [], [], []⟩], s.next + 1⟩, says (s.next : Nat))).1
    split
    · exact g0
    · split
      · exact g0
      · rename_i h1 h2
        unfold OPEN at h2
        refine ⟨W, K, by omega, g.book, ?_, ?_, fun t ht => ?_, g.rl⟩
        · show ((s.open_ ++ [Txn.mk s.next s.book.now w [] [] []]).map (·.id)).Nodup
          rw [List.map_append]
          refine List.nodup_append.mpr ⟨g.ids, by simp, fun a ha b hb => ?_⟩
          obtain ⟨t, ht, e⟩ := List.mem_map.mp ha
          have := (g.txs t ht).idl
          have e2 : b = s.next := by simpa using hb
          omega
        · show (s.open_ ++ [_]).length ≤ 8
          rw [List.length_append, List.length_singleton]; omega
        · rcases List.mem_append.mp ht with ht | ht
          · exact (g.txs t ht).mono (Nat.le_succ _) (Nat.le_refl _)
          · have e : t = ⟨s.next, s.book.now, w, [], [], []⟩ := by simpa using ht
            rw [e]
            exact ⟨Nat.lt_succ_self _, by show s.book.base ≤ s.book.now; unfold Book.now; omega, Nat.le_refl _, List.Pairwise.nil, fun _ hp => (nomatch hp), fun _ hp => (nomatch hp), Nat.zero_le _, fun _ hp => (nomatch hp), Nat.zero_le _, Nat.zero_le _⟩
  | read i k =>
    refine on_good g0 fun t ht => ?_
    obtain ⟨hm, _⟩ := find_mem ht
    have o := g.txs t hm
    split
    · exact g0
    · split
      · exact g0
      · rename_i h2
        dsimp only
        split
        · exact g0
        · rename_i h3
          unfold READS at h2
          refine ⟨W, K, by omega, g.with_ ⟨o.idl, o.lo, o.hi, o.ws, o.wb, o.ms, o.wl, o.ml, ?_, o.mn⟩⟩
          show (t.reads ++ [(k, k)]).length ≤ 64
          rw [List.length_append, List.length_singleton]
          have : ¬ 64 ≤ t.reads.length := fun z => h2 ⟨by simpa using h3, z⟩
          omega
  | range i a b =>
    refine on_good g0 fun t ht => ?_
    obtain ⟨hm, _⟩ := find_mem ht
    have o := g.txs t hm
    split
    · exact g0
    · split
      · exact g0
      · rename_i h2
        unfold READS at h2
        refine ⟨W, K, by omega, g.with_ ⟨o.idl, o.lo, o.hi, o.ws, o.wb, o.ms, o.wl, o.ml, ?_, o.mn⟩⟩
        show (t.reads ++ [(a, b)]).length ≤ 64
        rw [List.length_append, List.length_singleton]
        omega
  | write i k v =>
    refine on_good g0 fun t ht => ?_
    obtain ⟨hm, _⟩ := find_mem ht
    have o := (g.txs t hm).mono (Nat.le_refl _) (Nat.le_succ W)
    split
    · exact g0
    · rename_i h1
      unfold KEYS at h1
      refine ⟨W + 1, K, by omega, (g.mono (Nat.le_succ W) (Nat.le_refl K)).with_ ⟨o.idl, o.lo, o.hi, ?_, ?_, o.ms, ?_, o.ml, o.rn, o.mn⟩⟩
      · show Srt (note k (some v) t.writes); rw [note_eq]; exact srt_gput o.ws
      · show Bd (note k (some v) t.writes); rw [note_eq]; exact bd_gput o.wb (by omega)
      · have := len_note k (some v) t.writes
        have := (g.txs t hm).wl
        show (note k (some v) t.writes).length ≤ W + 1
        omega
  | delete i k =>
    refine on_good g0 fun t ht => ?_
    obtain ⟨hm, _⟩ := find_mem ht
    have o := (g.txs t hm).mono (Nat.le_refl _) (Nat.le_succ W)
    split
    · exact g0
    · rename_i h1
      unfold KEYS at h1
      refine ⟨W + 1, K, by omega, (g.mono (Nat.le_succ W) (Nat.le_refl K)).with_ ⟨o.idl, o.lo, o.hi, ?_, ?_, o.ms, ?_, o.ml, o.rn, o.mn⟩⟩
      · show Srt (note k none t.writes); rw [note_eq]; exact srt_gput o.ws
      · show Bd (note k none t.writes); rw [note_eq]; exact bd_gput o.wb (by omega)
      · have := len_note k none t.writes
        have := (g.txs t hm).wl
        show (note k none t.writes).length ≤ W + 1
        omega
  | mark i =>
    refine on_good g0 fun t ht => ?_
    obtain ⟨hm, _⟩ := find_mem ht
    have o := g.txs t hm
    split
    · exact g0
    · rename_i h1
      unfold MARKS at h1
      refine ⟨W, K, by omega, g.with_ ⟨o.idl, o.lo, o.hi, o.ws, o.wb, fun m hm => ?_, o.wl, fun m hm => ?_, o.rn, ?_⟩⟩
      · rcases List.mem_append.mp hm with e | e
        · exact o.ms m e
        · have e' : m = t.writes := by simpa using e
          rw [e']; exact ⟨o.ws, o.wb⟩
      · rcases List.mem_append.mp hm with e | e
        · exact o.ml m e
        · have e' : m = t.writes := by simpa using e
          rw [e']; exact o.wl
      · show (t.marks ++ [t.writes]).length ≤ 16
        rw [List.length_append, List.length_singleton]; omega
  | back i m =>
    refine on_good g0 fun t ht => ?_
    obtain ⟨hm, _⟩ := find_mem ht
    have o := g.txs t hm
    cases hk : t.marks[m]? with
    | none => exact g0
    | some w =>
      have hw : w ∈ t.marks := List.mem_of_getElem? hk
      refine ⟨W, K, by omega, g.with_ ⟨o.idl, o.lo, o.hi, (o.ms w hw).1, (o.ms w hw).2, fun v hv => o.ms v (List.mem_of_mem_take hv), o.ml w hw, fun v hv => o.ml v (List.mem_of_mem_take hv), o.rn, ?_⟩⟩
      show (t.marks.take (m + 1)).length ≤ 16
      rw [List.length_take]
      have := o.mn
      omega
  | commit i =>
    refine on_good g0 fun t ht => ?_
    obtain ⟨hm, _⟩ := find_mem ht
    have o := g.txs t hm
    have gw : Good (c + 1) (s.without i) := ⟨W, K, by omega, g.without i⟩
    split
    · exact gw
    · cases hk : t.clash s.book with
      | some x => exact gw
      | none =>
        have g1 := g.without i
        have hn : Book.now { s.book with commits := s.book.commits ++ [t.writes] } = s.book.now + 1 := by
          unfold Book.now
          show s.book.base + (s.book.commits ++ [t.writes]).length = _
          rw [List.length_append, List.length_singleton]; omega
        refine ⟨W, K + 1, by omega, ⟨g.book.fs, g.book.fb, fun w hw => ?_, g.book.lo, ?_⟩, g1.ids, g1.len, fun x hx => ?_, ?_⟩
        · rcases List.mem_append.mp hw with e | e
          · exact g.book.cs w e
          · have e' : w = t.writes := by simpa using e
            rw [e']; exact ⟨o.ws, o.wb⟩
        · show s.book.safe ≤ Book.now { s.book with commits := s.book.commits ++ [t.writes] }
          have := g.book.hi
          rw [hn]; omega
        · have q := g1.txs x hx
          refine ⟨q.idl, q.lo, ?_, q.ws, q.wb, q.ms, q.wl, q.ml, q.rn, q.mn⟩
          show x.seen ≤ Book.now { s.book with commits := s.book.commits ++ [t.writes] }
          rw [hn]
          have : x.seen ≤ s.book.now := q.hi
          omega
        · show recLen (s.book.commits ++ [t.writes]) ≤ _
          rw [recLen_append, recLen_one, Nat.add_mul, Nat.one_mul]
          have := g.rl
          have := o.wl
          omega
  | abort i => exact on_good g0 fun t ht => ⟨W, K, by omega, g.without i⟩
  | at_ n k => exact g0
  | all n => exact g0
  | changes a b => exact g0
  | vacuum n =>
    show Good (c + 1) (if isCommit s n = false ∨ s.book.safe < n then (s, says (-7)) else if s.open_.any (fun (t : Txn) => decide (t.seen < n)) = true then (s, says (-3)) else
      (⟨⟨n, s.book.at_ n, s.book.commits.drop (n - s.book.base), s.book.safe⟩, s.open_, s.next⟩, says ((n - s.book.base : Nat) : Int))).1
    split
    · exact g0
    · rename_i h1
      split
      · exact g0
      · rename_i h2
        have hi : isCommit s n = true := by
          cases e : isCommit s n with
          | true => rfl
          | false => exact (h1 (.inl e)).elim
        unfold isCommit at hi
        rw [Bool.and_eq_true] at hi
        have l1 := of_decide_eq_true hi.1
        have l2 := of_decide_eq_true hi.2
        have hs : ∀ t ∈ s.open_, n ≤ t.seen := fun t ht => by
          by_cases z : t.seen < n
          · exact (h2 (List.any_eq_true.mpr ⟨t, ht, decide_eq_true z⟩)).elim
          · omega
        have a := g.book.at_ n
        refine ⟨W, K, by omega, ⟨a.1, a.2, fun w hw => g.book.cs w (List.mem_of_mem_drop hw), ?_, ?_⟩, g.ids, g.len, fun t ht => ?_, ?_⟩
        · show n ≤ s.book.safe
          have : ¬ s.book.safe < n := fun z => h1 (.inr z)
          omega
        · show s.book.safe ≤ Book.now ⟨n, s.book.at_ n, s.book.commits.drop (n - s.book.base), s.book.safe⟩
          rw [now_vac l1 l2]; exact g.book.hi
        · have o := g.txs t ht
          refine ⟨o.idl, hs t ht, ?_, o.ws, o.wb, o.ms, o.wl, o.ml, o.rn, o.mn⟩
          show t.seen ≤ Book.now ⟨n, s.book.at_ n, s.book.commits.drop (n - s.book.base), s.book.safe⟩
          rw [now_vac l1 l2]; exact o.hi
        · exact Nat.le_trans (recLen_sub (List.drop_sublist ..)) g.rl
  | sync =>
    refine ⟨W, K, by omega, ⟨g.book.fs, g.book.fb, g.book.cs, ?_, Nat.le_refl _⟩, g.ids, g.len, fun t ht => ?_, g.rl⟩
    · show s.book.base ≤ s.book.now
      unfold Book.now; omega
    · have o := g.txs t ht
      exact ⟨o.idl, o.lo, o.hi, o.ws, o.wb, o.ms, o.wl, o.ml, o.rn, o.mn⟩
  | crash => exact ⟨W, K, by omega, book_crash g.book, List.nodup_nil, Nat.zero_le _, fun t ht => (nomatch ht), Nat.le_trans (recLen_sub (List.take_sublist ..)) g.rl⟩
  | log => exact g0
  | recover l =>
    show Good (c + 1) (match bookIn l with
    | none => (s, says (-2))
    | some b => (⟨b, [], s.next⟩, says (b.commits.length : Nat))).1
    cases hb : bookIn l with
    | none => exact g0
    | some b =>
      obtain ⟨b1, b2, _⟩ := bookIn_good hb
      refine ⟨W, K, by omega, b1, List.nodup_nil, Nat.zero_le _, fun t ht => (nomatch ht), ?_⟩
      have := hx l rfl
      exact Nat.le_trans b2 (Nat.le_trans this (Nat.le_add_right _ _))
  | shape => exact g0
theorem kw_small : ∀ K : Nat, K ≤ 200 → K * (602 - 3 * K) ≤ 30300 := by decide +kernel
theorem rec_small {c : Nat} {s : State} (h : Good c s) (hc : c ≤ 200) : recLen s.book.commits ≤ 46300 := by
  obtain ⟨W, K, hk, g⟩ := h
  have h1 := kw_small K (by omega)
  have h2 : K * (3 * W + 2) ≤ K * (602 - 3 * K) := Nat.mul_le_mul_left _ (by omega)
  have := g.rl
  omega
theorem log_small {c : Nat} {s : State} (h : Good c s) (hc : c ≤ 200) : s.book.log.length ≤ 46900 := by
  have h1 := rec_small h hc
  obtain ⟨W, K, hk, g⟩ := h
  have h2 := len_bd g.book.fs g.book.fb
  rw [log_len]; omega
theorem start_good : Good 0 Tx.start :=
  ⟨0, 0, Nat.le_refl _, ⟨List.Pairwise.nil, fun _ hp => (nomatch hp), fun _ hp => (nomatch hp), Nat.le_refl _, Nat.le_refl _⟩, List.nodup_nil, Nat.zero_le _, fun _ hp => (nomatch hp), Nat.zero_le _⟩
end TxM

end
section
set_option autoImplicit true
set_option maxHeartbeats 1000000
namespace TxM
open Tx
theorem shown_says (z : Int) : TxNeutral.shown (says z) = [z] := rfl
theorem shown_told (o : Option Nat) : TxNeutral.shown (told o) = match o with | some v => [1, 1, (v : Int)] | none => [0] := by cases o <;> rfl
theorem shown_one (z : Int) (l : List Nat) : TxNeutral.shown ⟨z, [l]⟩ = z :: (l.length : Int) :: ofN l := by
  show z :: ([l].flatMap fun (l : List Nat) => (l.length : Int) :: l.map fun (n : Nat) => (n : Int)) = _
  simp [ofN]
theorem shown_two (z : Int) (l m : List Nat) : TxNeutral.shown ⟨z, [l, m]⟩ = z :: (l.length : Int) :: (ofN l ++ (m.length : Int) :: ofN m) := by
  show z :: ([l, m].flatMap fun (l : List Nat) => (l.length : Int) :: l.map fun (n : Nat) => (n : Int)) = _
  simp [ofN]
theorem told_small (o : Option Nat) : (TxNeutral.shown (told o)).length ≤ 50000 := by
  rw [shown_told]; cases o <;> simp
theorem gives_small {s : Store} (h1 : Srt s) (h2 : Bd s) : (TxNeutral.shown (gives s)).length ≤ 50000 := by
  have := len_bd h1 h2
  show (TxNeutral.shown ⟨_, [storeList s]⟩).length ≤ _
  rw [shown_one, List.length_cons, List.length_cons, ofN_length, storeList_len]; omega
theorem says_small (z : Int) : (TxNeutral.shown (says z)).length ≤ 50000 := by rw [shown_says]; show 1 ≤ 50000; decide
theorem on_small {s : State} {i : Nat} {f : Txn → State × Answer} (hf : ∀ t, s.find i = some t → (TxNeutral.shown (f t).2).length ≤ 50000) : (TxNeutral.shown (on s i f).2).length ≤ 50000 := by
  unfold on
  cases hi : s.find i with
  | none => exact says_small _
  | some t => exact hf t hi
theorem G.view {W K : Nat} {s : State} (g : G W K s) {t : Txn} : Srt (t.view s.book) ∧ (Bd t.writes → Bd (t.view s.book)) :=
  ⟨srt_applied (g.book.at_ _).1, fun h => bd_applied (g.book.at_ _).2 h⟩
theorem bd_differ (a b : Store) : Srt (differ a b) ∧ Bd (differ a b) := by
  rw [differ_eq]
  exact ⟨srt_fw .., fun p hp => by have := (mem_fw hp).2.1; omega⟩
theorem flat6_len : ∀ l : List Txn, (l.flatMap fun (t : Txn) => [t.id, t.seen, t.way, t.writes.length, t.reads.length, t.marks.length]).length = 6 * l.length
  | [] => rfl
  | t :: r => by
    rw [List.flatMap_cons, List.length_append, flat6_len r]
    show 6 + 6 * r.length = 6 * (r.length + 1)
    omega
theorem ans_small {c : Nat} {s : State} {x : Tx.Call} (h : Good c s) (hc : c ≤ 200) : (TxNeutral.shown (Tx.step s x).2).length ≤ 50000 := by
  have hlog := log_small h hc
  obtain ⟨W, K, hk, g⟩ := h
  cases x with
  | begin_ w =>
    show (TxNeutral.shown (if 1 < w then (s, says (-1)) else if OPEN ≤ s.open_.length then (s, says (-6)) else (State.mk s.book (s.open_ ++ [⟨s.next, s.book.now, w, [], [], []⟩]) (s.next + 1), says (s.next : Nat))).2).length ≤ _
    split
    · exact says_small _
    · split
      · exact says_small _
      · exact says_small _
  | read i k =>
    refine on_small fun t ht => ?_
    split
    · exact says_small _
    · split
      · exact says_small _
      · exact told_small _
  | range i a b =>
    refine on_small fun t ht => ?_
    split
    · exact says_small _
    · split
      · exact says_small _
      · have o := g.txs t (find_mem ht).1
        exact gives_small (srt_filter g.view.1) fun p hp => g.view.2 o.wb p (List.mem_filter.mp hp).1
  | write i k v =>
    refine on_small fun t ht => ?_
    split <;> exact says_small _
  | delete i k =>
    refine on_small fun t ht => ?_
    split <;> exact says_small _
  | mark i =>
    refine on_small fun t ht => ?_
    split <;> exact says_small _
  | back i m =>
    refine on_small fun t ht => ?_
    cases t.marks[m]? <;> exact says_small _
  | commit i =>
    refine on_small fun t ht => ?_
    split
    · exact says_small _
    · cases t.clash s.book with
      | some x =>
        show (TxNeutral.shown ⟨-5, [[x.1, x.2]]⟩).length ≤ _
        rw [shown_one]; simp [ofN]
      | none => exact says_small _
  | abort i => exact on_small fun t ht => says_small _
  | at_ n k =>
    show (TxNeutral.shown (if isCommit s n = false then says (-7) else if KEYS ≤ k then says (-1) else told (get (s.book.at_ n) k))).length ≤ _
    split
    · exact says_small _
    · split
      · exact says_small _
      · exact told_small _
  | all n =>
    show (TxNeutral.shown (if isCommit s n = false then says (-7) else gives (s.book.at_ n))).length ≤ _
    split
    · exact says_small _
    · exact gives_small (g.book.at_ n).1 (g.book.at_ n).2
  | changes a b =>
    show (TxNeutral.shown (if isCommit s a = false ∨ isCommit s b = false then says (-7) else Answer.mk ((differ (s.book.at_ a) (s.book.at_ b)).length : Nat) [writesList (differ (s.book.at_ a) (s.book.at_ b))])).length ≤ _
    split
    · exact says_small _
    · have d := bd_differ (s.book.at_ a) (s.book.at_ b)
      have := len_bd d.1 d.2
      rw [shown_one, List.length_cons, List.length_cons, ofN_length, writesList_len]; omega
  | vacuum n =>
    show (TxNeutral.shown (if isCommit s n = false ∨ s.book.safe < n then (s, says (-7)) else if s.open_.any (fun (t : Txn) => decide (t.seen < n)) = true then (s, says (-3)) else
      (State.mk ⟨n, s.book.at_ n, s.book.commits.drop (n - s.book.base), s.book.safe⟩ s.open_ s.next, says ((n - s.book.base : Nat) : Int))).2).length ≤ _
    split
    · exact says_small _
    · split <;> exact says_small _
  | sync => exact says_small _
  | crash => exact says_small _
  | log =>
    show (TxNeutral.shown ⟨_, [s.book.log]⟩).length ≤ _
    rw [shown_one, List.length_cons, List.length_cons, ofN_length]; omega
  | recover l =>
    show (TxNeutral.shown (match bookIn l with
    | none => (s, says (-2))
    | some b => (State.mk b [] s.next, says (b.commits.length : Nat))).2).length ≤ _
    cases bookIn l <;> exact says_small _
  | shape =>
    show (TxNeutral.shown ⟨(s.book.now : Nat), [[s.book.base, s.book.safe], s.open_.flatMap fun (t : Txn) => [t.id, t.seen, t.way, t.writes.length, t.reads.length, t.marks.length]]⟩).length ≤ _
    rw [shown_two, List.length_cons, List.length_cons, List.length_append, List.length_cons, ofN_length, ofN_length, flat6_len]
    have := g.len
    show 2 + (6 * s.open_.length + 1) + 1 + 1 ≤ 50000
    omega
end TxM

end
section
set_option autoImplicit true
set_option linter.all false
set_option maxHeartbeats 1000000
namespace My
open PySem L2 TxM
section
variable {α : Type}
def Nd (l : List (Nat × α)) : Prop := (l.map (·.1)).Nodup
theorem Nd.of_srt {l : List (Nat × α)} (h : Srt l) : Nd l := List.pairwise_map.mpr (List.Pairwise.imp (fun q => Nat.ne_of_lt q) h)
theorem Nd.perm {l s : List (Nat × α)} (h : l.Perm s) (n : Nd s) : Nd l := (h.map _).nodup_iff.mpr n
theorem gget_nd : ∀ {l : List (Nat × α)} {p : Nat × α}, Nd l → p ∈ l → gget l p.1 = some p.2
  | [], _, _, h => nomatch h
  | x :: r, p, n, h => by
    obtain ⟨n1, n2⟩ := List.nodup_cons.mp (show (x.1 :: r.map (·.1)).Nodup from n)
    show (if x.1 = p.1 then some x.2 else gget r p.1) = some p.2
    rcases List.mem_cons.mp h with e | h
    · subst e; rw [if_pos rfl]
    · rw [if_neg fun e => n1 (by rw [e]; exact List.mem_map.mpr ⟨p, h, rfl⟩)]
      exact gget_nd n2 h
theorem gget_perm {l s : List (Nat × α)} (h : l.Perm s) (n : Nd s) (k : Nat) : gget l k = gget s k := by
  cases hs : gget s k with
  | some v => exact gget_nd (p := (k, v)) (n.perm h) (h.mem_iff.mpr (mem_of_gget hs))
  | none =>
    cases hl : gget l k with
    | none => rfl
    | some v =>
      have := gget_nd (p := (k, v)) n (h.mem_iff.mp (mem_of_gget hl))
      rw [hs] at this
      cases this
def enc (e : α → V) (l : List (Nat × α)) : List (Key × V) := l.map fun p => (Sum.inl (p.1 : Int), e p.2)
theorem val_enc (e : α → V) (k : Nat) : ∀ l : List (Nat × α), valV (enc e l) (Sum.inl (k : Int)) = (gget l k).map e
  | [] => rfl
  | x :: r => by
    show valV ((Sum.inl (x.1 : Int), e x.2) :: enc e r) (Sum.inl (k : Int)) = (if x.1 = k then some x.2 else gget r k).map e
    by_cases h : x.1 = k
    · rw [if_pos h, valV_pos (by rw [h])]; rfl
    · rw [if_neg h, valV_neg (fun q => h (by have := Sum.inl.inj q; omega)), val_enc e k r]
theorem any_enc (e : α → V) (k : Nat) (l : List (Nat × α)) : ((enc e l).any fun kv => decide (kv.1 = (Sum.inl (k : Int) : Key))) = (gget l k).isSome := by
  rw [valV_any, val_enc, Option.isSome_map]
/-- the dict kvs holds the pairs s -/
structure D (e : α → V) (kvs : List (Key × V)) (s : List (Nat × α)) : Prop where
  ex : ∃ l, kvs = enc e l ∧ l.Perm s
  srt : Srt s
  bd : Bd s
theorem D.nil {e : α → V} : D e [] [] := ⟨⟨[], rfl, .nil⟩, List.Pairwise.nil, fun _ h => (nomatch h)⟩
theorem D.val {e : α → V} {kvs : List (Key × V)} {s : List (Nat × α)} (d : D e kvs s) (k : Nat) : valV kvs (Sum.inl (k : Int)) = (gget s k).map e := by
  obtain ⟨l, rfl, hp⟩ := d.ex
  rw [val_enc, gget_perm hp (Nd.of_srt d.srt)]
theorem D.len {e : α → V} {kvs : List (Key × V)} {s : List (Nat × α)} (d : D e kvs s) : kvs.length = s.length := by
  obtain ⟨l, rfl, hp⟩ := d.ex
  show (List.map _ l).length = _
  rw [List.length_map, hp.length_eq]
theorem D.small {e : α → V} {kvs : List (Key × V)} {s : List (Nat × α)} (d : D e kvs s) : kvs.length ≤ 256 := by
  rw [d.len]; exact len_bd d.srt d.bd
theorem nd_of {l : List (Nat × α)} (h : Nd l) : l.Nodup := List.Pairwise.imp (fun q z => q (congrArg _ z)) (List.pairwise_map.mp h)
theorem perm_of_get {l s : List (Nat × α)} (nl : Nd l) (ns : Nd s) (h : ∀ k, gget l k = gget s k) : l.Perm s := by
  have nl' : l.Nodup := nd_of nl
  have ns' : s.Nodup := nd_of ns
  refine (List.perm_ext_iff_of_nodup nl' ns').mpr fun p => ⟨fun hp => ?_, fun hp => ?_⟩
  · have := gget_nd nl hp
    rw [h] at this
    exact mem_of_gget this
  · have := gget_nd ns hp
    rw [← h] at this
    exact mem_of_gget this
theorem D.put {e : α → V} {kvs : List (Key × V)} {s : List (Nat × α)} (d : D e kvs s) {k : Nat} (hk : k < 256) (v : α) : D e (putK kvs (Sum.inl (k : Int)) (e v)) (gput k v s) := by
  refine ⟨?_, srt_gput d.srt, bd_gput d.bd hk⟩
  obtain ⟨l, rfl, hp⟩ := d.ex
  have nl := (Nd.of_srt d.srt).perm hp
  have ns := Nd.of_srt (srt_gput (k := k) (v := v) d.srt)
  unfold putK
  rw [any_enc]
  by_cases h : (gget l k).isSome = true
  · rw [if_pos h]
    refine ⟨l.map fun p => if p.1 = k then (p.1, v) else p, ?_, perm_of_get ?_ ns fun j => ?_⟩
    · unfold enc
      rw [List.map_map, List.map_map]
      refine List.map_congr_left fun p _ => ?_
      show (if (Sum.inl (p.1 : Int) : Key) = Sum.inl (k : Int) then _ else _) = _
      by_cases q : p.1 = k
      · rw [if_pos (by rw [q])]; simp [q]
      · rw [if_neg (fun z => q (by have := Sum.inl.inj z; omega))]; simp [q]
    · unfold Nd
      rw [List.map_map]
      have : ((fun p : Nat × α => p.1) ∘ fun p : Nat × α => if p.1 = k then (p.1, v) else p) = fun p => p.1 := by
        funext p; show (if p.1 = k then (p.1, v) else p).1 = p.1; split <;> rfl
      rw [this]; exact nl
    · rw [gget_gput, ← gget_perm hp (Nd.of_srt d.srt)]
      have aux : ∀ l : List (Nat × α), gget (l.map fun p => if p.1 = k then (p.1, v) else p) j = if j = k then (gget l j).map (fun _ => v) else gget l j := by
        intro l
        induction l with
        | nil => show none = if j = k then none else none; split <;> rfl
        | cons x r ih =>
          show gget ((if x.1 = k then (x.1, v) else x) :: r.map _) j = if j = k then (if x.1 = j then some x.2 else gget r j).map (fun _ => v) else (if x.1 = j then some x.2 else gget r j)
          by_cases hx : x.1 = k
          · rw [if_pos hx]
            show (if x.1 = j then some v else gget (r.map _) j) = _
            by_cases hj : x.1 = j
            · rw [if_pos hj, if_pos (hj.symm.trans hx), if_pos hj]; rfl
            · rw [if_neg hj, if_neg hj, ih]
          · rw [if_neg hx]
            show (if x.1 = j then some x.2 else gget (r.map _) j) = _
            by_cases hj : x.1 = j
            · rw [if_pos hj, if_neg (fun z => hx (hj.trans z)), if_pos hj]
            · rw [if_neg hj, if_neg hj, ih]
      rw [aux]
      by_cases hj : j = k
      · rw [if_pos hj, if_pos hj, hj]
        obtain ⟨x, hx⟩ := Option.isSome_iff_exists.mp h
        rw [hx]; rfl
      · rw [if_neg hj, if_neg hj]
  · rw [if_neg h]
    have hn : gget l k = none := by
      cases q : gget l k with
      | none => rfl
      | some x => rw [q] at h; exact (h rfl).elim
    refine ⟨l ++ [(k, v)], ?_, perm_of_get ?_ ns fun j => ?_⟩
    · unfold enc; rw [List.map_append]; rfl
    · unfold Nd
      rw [List.map_append]
      refine nd_snoc nl fun m => ?_
      obtain ⟨p, hp', e'⟩ := List.mem_map.mp m
      have := gget_nd nl hp'
      rw [e', hn] at this
      cases this
    · rw [gget_append, gget_gput, ← gget_perm hp (Nd.of_srt d.srt)]
      by_cases hj : j = k
      · rw [if_pos hj, hj, hn]
        show (if k = k then some v else none) = _
        rw [if_pos rfl]
      · rw [if_neg hj]
        cases gget l j with
        | some x => rfl
        | none =>
          show (if k = j then some v else none) = none
          rw [if_neg fun z => hj z.symm]
theorem D.drop {e : α → V} {kvs : List (Key × V)} {s : List (Nat × α)} (d : D e kvs s) (k : Nat) : D e (dropK kvs (Sum.inl (k : Int))) (s.filter fun p => p.1 != k) := by
  obtain ⟨l, rfl, hp⟩ := d.ex
  refine ⟨⟨l.filter fun p => p.1 != k, ?_, hp.filter _⟩, srt_filter d.srt, fun p hp' => d.bd p (List.mem_filter.mp hp').1⟩
  unfold dropK enc
  rw [List.filter_map]
  congr 1
  refine List.filter_congr fun p _ => ?_
  show decide ((Sum.inl (p.1 : Int) : Key) ≠ Sum.inl (k : Int)) = (p.1 != k)
  by_cases q : p.1 = k
  · simp [q]
  · have : ¬ (Sum.inl (p.1 : Int) : Key) = Sum.inl (k : Int) := fun z => q (by have := Sum.inl.inj z; omega)
    simp [q, this]
theorem enc_get {e : α → V} {l : List (Nat × α)} {i : Nat} {k : Key} {v : V} (h : (enc e l)[i]? = some (k, v)) : ∃ p, l[i]? = some p ∧ k = Sum.inl (p.1 : Int) ∧ v = e p.2 := by
  unfold enc at h
  rw [List.getElem?_map] at h
  obtain ⟨p, h1, h2⟩ := Option.map_eq_some_iff.mp h
  injection h2 with h2 h3
  exact ⟨p, h1, h2.symm, h3.symm⟩
/-- a fold that puts some of the pairs of a list without doubles -/
theorem gget_fold {β : Type} (c : Nat × α → Bool) (g : Nat × α → β) (k : Nat) : ∀ (l : List (Nat × α)) (W : List (Nat × β)), Nd l →
    gget (l.foldl (fun W p => if c p = true then gput p.1 (g p) W else W) W) k = match gget l k with
      | some x => if c (k, x) = true then some (g (k, x)) else gget W k
      | none => gget W k
  | [], _, _ => rfl
  | p :: r, W, n => by
    obtain ⟨n1, n2⟩ := List.nodup_cons.mp (show (p.1 :: r.map (·.1)).Nodup from n)
    show gget (r.foldl _ (if c p = true then gput p.1 (g p) W else W)) k = match (if p.1 = k then some p.2 else gget r k) with
      | some x => if c (k, x) = true then some (g (k, x)) else gget W k
      | none => gget W k
    rw [gget_fold c g k r _ n2]
    by_cases h : p.1 = k
    · have hr : gget r k = none := gget_none fun q hq e => n1 (List.mem_map.mpr ⟨q, hq, e.trans h.symm⟩)
      rw [hr, if_pos h]
      have hp : p = (k, p.2) := by rw [← h]
      show gget (if c p = true then gput p.1 (g p) W else W) k = if c (k, p.2) = true then some (g (k, p.2)) else gget W k
      rw [← hp]
      by_cases hc : c p = true
      · rw [if_pos hc, if_pos hc, gget_gput, if_pos h.symm]
      · rw [if_neg hc, if_neg hc]
    · rw [if_neg h]
      have hW : gget (if c p = true then gput p.1 (g p) W else W) k = gget W k := by
        by_cases hc : c p = true
        · rw [if_pos hc, gget_gput, if_neg fun z => h z.symm]
        · rw [if_neg hc]
      rw [hW]
theorem srt_fold {β : Type} (c : Nat × α → Bool) (g : Nat × α → β) : ∀ (l : List (Nat × α)) (W : List (Nat × β)), Srt W → Srt (l.foldl (fun W p => if c p = true then gput p.1 (g p) W else W) W)
  | [], _, h => h
  | p :: r, W, h => by
    refine srt_fold c g r _ ?_
    show Srt (if c p = true then gput p.1 (g p) W else W)
    split
    · exact srt_gput h
    · exact h
end
theorem gget_did_fold (k : Nat) : ∀ (l : Tx.Writes) (s : Tx.Store), Nd l → gget (l.foldl did s) k = match gget l k with
      | some o => o
      | none => gget s k
  | [], _, _ => rfl
  | p :: r, s, n => by
    obtain ⟨n1, n2⟩ := List.nodup_cons.mp (show (p.1 :: r.map (·.1)).Nodup from n)
    show gget (r.foldl did (did s p)) k = match (if p.1 = k then some p.2 else gget r k) with
      | some o => o
      | none => gget s k
    rw [gget_did_fold k r _ n2]
    by_cases h : p.1 = k
    · have hr : gget r k = none := gget_none fun q hq e => n1 (List.mem_map.mpr ⟨q, hq, e.trans h.symm⟩)
      rw [hr, if_pos h, gget_did, if_pos h.symm]
    · rw [if_neg h, gget_did, if_neg fun z => h z.symm]
theorem srt_did_fold : ∀ (l : Tx.Writes) (s : Tx.Store), Srt s → Srt (l.foldl did s)
  | [], _, h => h
  | p :: r, s, h => srt_did_fold r _ (srt_did h p)
theorem did_perm {l w : Tx.Writes} {s : Tx.Store} (h : l.Perm w) (hs : Srt s) (hw : Srt w) : l.foldl did s = Tx.applied s w := by
  refine srt_ext (srt_did_fold l s hs) (srt_applied hs) fun k => ?_
  rw [gget_did_fold k l s ((Nd.of_srt hw).perm h), gget_applied hw, gget_perm h (Nd.of_srt hw)]
  all_goals (cases gget w k <;> rfl)
/-- a value; a write -/
def eS (v : Nat) : V := .int (v : Int)
def eW : Option Nat → V
  | some v => .int (v : Int)
  | none => .non
abbrev DS := D eS
abbrev DW := D eW
theorem sorted_one : ∀ {a b : List Int}, a.Perm b → a.Pairwise (· ≤ ·) → b.Pairwise (· < ·) → a = b
  | [], b, h, _, _ => (List.Perm.nil_eq h)
  | x :: r, [], h, _, _ => (List.Perm.eq_nil h)
  | x :: r, y :: t, h, ha, hb => by
    have ha' := List.pairwise_cons.mp ha
    have hb' := List.pairwise_cons.mp hb
    have e : x = y := by
      have m1 : x ∈ y :: t := h.mem_iff.mp (List.mem_cons_self ..)
      have m2 : y ∈ x :: r := h.mem_iff.mpr (List.mem_cons_self ..)
      rcases List.mem_cons.mp m1 with q | q
      · exact q
      · rcases List.mem_cons.mp m2 with p | p
        · exact p.symm
        · have := hb'.1 x q
          have := ha'.1 y p
          omega
    subst e
    rw [sorted_one (List.Perm.cons_inv h) ha'.2 hb'.2]
/-- the sorted keys -/
theorem D.sorted {α : Type} {e : α → V} {kvs : List (Key × V)} {s : List (Nat × α)} (d : D e kvs s) {ks : List Int} (hk : kvs.map (·.1) = ks.map Sum.inl) {ns : List Int} (hp : ns.Perm ks) (ho : ns.Pairwise (· ≤ ·)) : ns = s.map fun p => (p.1 : Int) := by
  obtain ⟨l, rfl, hl⟩ := d.ex
  have e1 : ks = l.map fun p => (p.1 : Int) := by
    have h2 : (ks.map Sum.inl : List Key) = (l.map fun p => (p.1 : Int)).map Sum.inl := by
      rw [← hk]; unfold enc; rw [List.map_map, List.map_map]; rfl
    exact (List.map_inj_right (fun a b h => Sum.inl.inj h)).mp h2
  refine sorted_one (hp.trans (by rw [e1]; exact hl.map _)) ho ?_
  refine List.pairwise_map.mpr (List.Pairwise.imp (fun q => ?_) d.srt)
  exact Int.ofNat_lt.mpr q
end My

end
section
set_option linter.all false
set_option maxRecDepth 100000
set_option maxHeartbeats 1000000
namespace EKw
open PySem PySem.Spec PyProof.Rows
open AutoSeq1 (wpAny_loadPart')
abbrev kwS (i : Int) (t : Tok) : List (Str × Value) := [(Str.ofString "start", .int i t)]
theorem ct (a : Value) (i : Int) (t : Tok) : checkTypeCall "enumerate" ⟨[a], kwS i t⟩ = pure () := by kernel_rfl
theorem cn (a : Value) (i : Int) (t : Tok) : checkBuiltinCall "enumerate.__new__" ⟨[.type "enumerate", a], kwS i t⟩ = pure () := by kernel_rfl
theorem ao (a b : Value) (i : Int) (t : Tok) : argsOk "object.__init__" ⟨[a, b], kwS i t⟩ := by unfold argsOk; kernel_rfl
theorem meets_init {T newId : String} {self b : Value} {i : Int} {t : Tok} (hl : typeLookup (.type T) "__init__" = pure (some (.builtin "object.__init__")))
    (hm : Bind.madeBy (.type T) = pure (some newId)) (hne : (some newId != some "object.__new__") = true) :
    Meets (Builtin.«object.__init__» ⟨[self, b], kwS i t⟩) (fun _ R s => s.TypeIs self T ∧ R (.ok (.ret .none)) s) := by
  refine Meets.of_wp fun prog w A R s hs => ?_
  obtain ⟨hT, hq⟩ := hs
  repeat any_goals first | assumption | wp_step
  exact ⟨_, rfl, hq⟩
theorem meets_new (l : Addr) (items : Array Value) (n : Nat) (dct : Option Addr) (sl : Array (Option Value)) (i : Int) (t : Tok) (hi : Builtin.SmallTypes.fitsIndex i = true) :
    Meets (Builtin.«enumerate.__new__» ⟨[.type "enumerate", .ref l], kwS i t⟩) (fun _ R s => s.heap.get? l = some { cls := .type "list", dict := dct, data := .seq items n, slots := sl } ∧
      R (.ok (.ret (.ref (s.heap.push { cls := .type "list_iterator", data := .fields #[.ref l, .int 0 0] }).objs.size)))
        { s with heap := (s.heap.push { cls := .type "list_iterator", data := .fields #[.ref l, .int 0 0] }).push { cls := .type "enumerate", data := .fields #[.none, .bool false, .ref s.heap.objs.size, rawInt i, .none, .none] } }) :=
  .of_wp fun prog w A R s h => by
    obtain ⟨hp, g, d, tk, os⟩ := s; obtain ⟨hl, h⟩ := h
    have hsub := sub_enumerate
    have hL : Heap.IsList (Shared.heap ⟨hp, g, d, tk, os⟩) l items := ⟨_, hl, rfl, n, rfl⟩
    wp_walk using wpAny_loadPart' hl
    refine wpAny_stack_any fun st => wpAny_pure ?_
    have hi' : (!Builtin.SmallTypes.fitsIndex i) = false := by rw [hi]; rfl
    split
    · rename_i c _ _ _ _ _
      cases (c == Value.type "enumerate")
      · wp_walk using wpAny_loadPart' hl, wpAny_pyIter_list hL
        exact ⟨_, rfl, h⟩
      · wp_walk using wpAny_loadPart' hl, wpAny_pyIter_list hL
        exact ⟨_, rfl, h⟩
    · wp_walk using wpAny_loadPart' hl, wpAny_pyIter_list hL
      exact ⟨_, rfl, h⟩
section
variable {prog : Program} {w : World} {A : Around} {E : Value → Shared → Prop} {s : Shared} {env : Env}
/-- enumerate(l, start=i) -/
theorem call_enum {l : Addr} {items : Array Value} {i : Int} {t : Tok} {Q : Value → Shared → Prop} (hi : Builtin.SmallTypes.fitsIndex i = true) (hL : s.heap.IsList l items)
    (h : ∀ h', IsEnum h' (s.heap.objs.size + 1) s.heap.objs.size i .none → h'.IsListIter s.heap.objs.size l 0 → h'.objs.size = s.heap.objs.size + 2 →
      (∀ b o, s.heap.get? b = some o → h'.get? b = some o) → Q (.ref (s.heap.objs.size + 1)) { s with heap := h' }) :
    wpAny (model prog w) A (call (.type "enumerate") [.ref l] (kwS i t)) Q E s := by
  obtain ⟨⟨c, dct, dt, sl⟩, hl, hc, n, hd⟩ := hL
  replace hc : c = .type "list" := hc
  replace hd : dt = .seq items n := hd
  subst hc hd
  have ft := F.called_enumerate
  obtain ⟨c0, tl, hmro⟩ := ft.mro
  have hmade := ft.made
  have hsub := ft.sub
  have hct := ct (.ref l) i t
  refine wpAny_call (codeAny_of_tree ?_)
  show wpAny _ _ (callAny (.type "enumerate") _) _ _ _
  refine wpAny_pure ⟨Code.quiet_builtin _ (by decide +kernel), codeAny_builtin F.entry_type_call ?_⟩
  rw [Around.under_plain (weight_type_call_type "enumerate" [.ref l] (kwS i t)) (units_type_call_type "enumerate" [.ref l] (kwS i t))]
  have h1 := ft.notType
  have h2 := ft.canCreate
  repeat any_goals first | assumption | wp_step
  have hz : (s.heap.push { cls := .type "list_iterator", data := .fields #[.ref l, .int 0 0] }).objs.size = s.heap.objs.size + 1 := Heap.size_push ..
  have he : IsEnum ((s.heap.push { cls := .type "list_iterator", data := .fields #[.ref l, .int 0 0] }).push
      { cls := .type "enumerate", data := .fields #[.none, .bool false, .ref s.heap.objs.size, rawInt i, .none, .none] }) (s.heap.objs.size + 1) s.heap.objs.size i .none := by
    have := Heap.get?_push_size (s.heap.push { cls := .type "list_iterator", data := .fields #[.ref l, .int 0 0] })
      (o := { cls := .type "enumerate", data := .fields #[.none, .bool false, .ref s.heap.objs.size, rawInt i, .none, .none] }) rfl
    rw [hz] at this; exact this
  have hfin := h _ he ⟨_, Heap.get?_push_of_some _ (Heap.get?_push_size _ rfl), rfl, rfl⟩ (by rw [Heap.size_push, hz]) fun b o x => Heap.get?_push_of_some _ (Heap.get?_push_of_some _ x)
  have hS : (fun (_ : Around) (R : Result → Shared → Prop) (s : Shared) => s.heap.get? l = some { cls := .type "list", dict := dct, data := .seq items n, slots := sl } ∧
      R (.ok (.ret (.ref (s.heap.push { cls := .type "list_iterator", data := .fields #[.ref l, .int 0 0] }).objs.size)))
        { s with heap := (s.heap.push { cls := .type "list_iterator", data := .fields #[.ref l, .int 0 0] }).push { cls := .type "enumerate", data := .fields #[.none, .bool false, .ref s.heap.objs.size, rawInt i, .none, .none] } })
      A.in1 (wants (fun obj s₁ => s₁.TypeIs obj "enumerate" ∧ Q obj s₁) E) s := ⟨hl, by
    show _ ∧ _
    rw [hz]
    exact ⟨⟨_, he, rfl⟩, hfin⟩⟩
  refine codeAny_mono (codeAny_call_builtin ft.plain F.entry_enumerate_new (wpAny_of_eq (cn (.ref l) i t) (meets_new l items n dct sl i t hi prog w A.in1 _ s hS))) fun r s₁ hr => ?_
  cases r with
  | error e => exact hr
  | ok fl =>
    cases fl with
    | ret obj =>
      obtain ⟨hT, hq⟩ := hr
      have hli := ft.init.lookup
      have hbi := ft.init.bind obj
      repeat any_goals first | assumption | wp_step
      refine codeAny_mono (codeAny_call_builtin ft.init.plain F.entry_object_init (ft.init.check _ _ _ _ _ _ _ _ hT (ao obj (.ref l) i t) (meets_init ft.init.lookup ft.made (by decide) prog w A.in1 (wants (fun r s₂ => r = .none ∧ Q obj s₂) E) s₁ ⟨hT, rfl, hq⟩))) fun r₂ s₂ hr₂ => ?_
      cases r₂ with
      | error e => exact hr₂
      | ok fl₂ =>
        cases fl₂ with
        | ret r =>
          obtain ⟨rfl, hq⟩ := hr₂
          repeat any_goals first | assumption | wp_step
        | _ => exact hr₂.elim
    | _ => exact hr.elim
theorem callWith_ty {M : Model} {pos : Pos} {T : String} {args : List (Bool × Sem Value)} {keywords : List (Option Str × Sem Value)} {Q : Value → Shared → Prop}
    (hplain : args.any (·.1) = false) (hkw : keywords.any (·.1.isNone) = false)
    (h : wpAny M A (evalArgs (.type T) true args keywords) (fun a s₁ => wpAny M A (call (.type T) a.pos a.kw) Q E s₁) E s) :
    wpAny M A (callWith pos (.type T) [] args keywords) Q E s := by
  unfold callWith
  refine wpAny_bind (wpAny_holding (wpAny_mono h (fun a s₁ h₁ => wpAny_bind (wpAny_standAt ?_)) fun _ _ z => z))
  simp only [hplain, hkw, Bool.or_false]
  refine wpAny_bind (wpAny_pure ?_)
  refine wpAny_bind (wpAny_mono h₁ (fun r s₂ hr => wpAny_bind ?_) fun _ _ z => z)
  exact wpAny_holding (wpAny_point (wpAny_pure hr))
end
end EKw

end
section
set_option linter.all false
set_option maxRecDepth 100000
set_option maxHeartbeats 1000000
namespace EKw
open PySem PySem.Spec PyProof.Rows
section
variable {prog : Program} {w : World} {A : Around} {E : Value → Shared → Prop} {s : Shared}
theorem next_item {en ti l : Addr} {i : Nat} {j : Int} {items : Array Value} {x old : Value} {Q : Value → Shared → Prop}
    (hn : IsEnum s.heap en ti j old) (hit : s.heap.IsListIter ti l i) (hl : s.heap.IsList l items) (hx : items[i]? = some x) (hdf : en ≠ ti)
    (hR : ∀ h', IsEnumOut h' en ti (j + 1) x s.heap.objs.size → h'.IsListIter ti l (i + 1) →
      h'.get? s.heap.objs.size = some { cls := .type "tuple", data := .seq #[.int j s.toks, x] } → h'.objs.size = s.heap.objs.size + 1 →
      (∀ b o, b ≠ en → b ≠ ti → s.heap.get? b = some o → h'.get? b = some o) → Q (.ref s.heap.objs.size) { s with heap := h', toks := s.toks + 1 }) :
    wpAny (model prog w) A (Builtin.«enumerate.__next__» ⟨[.ref en], []⟩) (fun fin s' => ∃ v, fin = .done (.ret v) ∧ Q v s') E s := by
  obtain ⟨hp, g, d, tk, os⟩ := s
  show wpAny _ _ (field (.ref en) 2 >>= _) _ _ _
  refine wpAny_bind (wpAny_field hn rfl (x := .ref ti) rfl ?_)
  refine wpAny_bind (wpAny_nextOf_list_item hit hl hx fun k1 hit₁ hs₁ => ?_)
  replace hs₁ : Heap.SameBut ti hp k1 := hs₁
  have hn₁ : IsEnum k1 en ti j old := (hs₁.2 en hdf).trans hn
  show wpAny _ _ (field (.ref en) 3 >>= _) _ _ ⟨k1, g, d, tk, os⟩
  refine wpAny_bind (wpAny_field hn₁ rfl (x := rawInt j) rfl ?_)
  show wpAny _ _ (field (.ref en) 4 >>= _) _ _ ⟨k1, g, d, tk, os⟩
  refine wpAny_bind (wpAny_field hn₁ rfl (x := .none) rfl ?_)
  show wpAny _ _ (mkInt j >>= _) _ _ ⟨k1, g, d, tk, os⟩
  refine wpAny_bind (wpAny_mkInt ?_)
  show wpAny _ _ (setField (.ref en) 3 (rawInt (j + 1)) >>= _) _ _ ⟨k1, g, d, tk + 1, os⟩
  refine wpAny_bind (wpAny_setField_rec hn₁ (by simp) fun k2 hn₂ hs₂ => ?_)
  replace hs₂ : Heap.SameBut en k1 k2 := hs₂
  replace hn₂ : IsEnum k2 en ti (j + 1) old := hn₂
  show wpAny _ _ (setField (.ref en) 4 .none >>= _) _ _ ⟨k2, g, d, tk + 1, os⟩
  refine wpAny_bind (wpAny_setField_rec hn₂ (by simp) fun k3 hn₃ hs₃ => ?_)
  replace hs₃ : Heap.SameBut en k2 k3 := hs₃
  replace hn₃ : IsEnum k3 en ti (j + 1) old := hn₃
  show wpAny _ _ (newTuple [.int j tk, x] >>= _) _ _ ⟨k3, g, d, tk + 1, os⟩
  refine wpAny_bind (wpAny_newTuple ?_)
  have hn₄ : IsEnum (k3.push { cls := .type "tuple", data := .seq #[.int j tk, x] }) en ti (j + 1) old := Heap.get?_push_of_some _ hn₃
  generalize hk4 : k3.push { cls := .type "tuple", data := .seq #[.int j tk, x] } = k4 at hn₄
  have hsz : k3.objs.size = hp.objs.size := by rw [hs₃.1, hs₂.1, hs₁.1]
  have hnl : en < hp.objs.size := Heap.lt_size hn
  have ht₄ : k4.get? hp.objs.size = some { cls := .type "tuple", data := .seq #[.int j tk, x] } := by rw [← hk4, ← hsz]; exact Heap.get?_push_size _ rfl
  have hz₄ : k4.objs.size = hp.objs.size + 1 := by rw [← hk4, Heap.size_push, hsz]
  have hk₄ : ∀ b o, b ≠ en → b ≠ ti → hp.get? b = some o → k4.get? b = some o := fun b o b1 b2 hb => by
    rw [← hk4]; exact Heap.get?_push_of_some _ (hs₃.extBut b o b1 (hs₂.extBut b o b1 (hs₁.extBut b o b2 hb)))
  have hit₄ : k4.IsListIter ti l (i + 1) := by
    rw [← hk4]; obtain ⟨o, ho, r⟩ := (hit₁.extBut hs₂.extBut (Ne.symm hdf)).extBut hs₃.extBut (Ne.symm hdf); exact ⟨o, Heap.get?_push_of_some _ ho, r⟩
  show wpAny _ _ (Builtin.SmallTypes.ownedTupleIsFree (.ref en) >>= _) _ _ ⟨k4, g, d, tk + 1, os⟩
  rw [hsz]
  clear hk4 hn₃ hs₃ hn₂ hs₂ hn₁ hs₁ hit₁ hsz k3 k2 k1
  refine wpAny_bind ?_
  · unfold Builtin.SmallTypes.ownedTupleIsFree
    refine wpAny_bind (wpAny_field hn₄ rfl (x := .none) rfl (wpAny_pure ?_))
    simp only [if_true]
    refine wpAny_bind (wpAny_rule ?_)
    refine wpAny_bind (wpAny_field hn₄ rfl (x := old) rfl ?_)
    refine wpAny_bind (wpAny_setField_rec hn₄ (by simp) fun k5 hn₅ hs₅ => ?_)
    replace hs₅ : Heap.SameBut en k4 k5 := hs₅
    replace hn₅ : IsEnum k5 en ti (j + 1) x := hn₅
    show wpAny _ _ (Builtin.SmallTypes.ownedTupleHandOut (.ref en) (.ref hp.objs.size) >>= _) _ _ ⟨k5, g, d, tk + 1, os⟩
    refine wpAny_bind ?_
    · unfold Builtin.SmallTypes.ownedTupleHandOut
      refine wpAny_bind (wpAny_setField_rec hn₅ (by simp) fun k6 hn₆ hs₆ => ?_)
      replace hs₆ : Heap.SameBut en k5 k6 := hs₆
      replace hn₆ : IsEnumOut k6 en ti (j + 1) x hp.objs.size := hn₆
      refine wpAny_setField_rec hn₆ (by simp) fun k7 hn₇ hs₇ => ?_
      replace hs₇ : Heap.SameBut en k6 k7 := hs₇
      replace hn₇ : IsEnumOut k7 en ti (j + 1) x hp.objs.size := hn₇
      refine wpAny_bind (wpAny_letGo (wpAny_pure ⟨_, rfl, hR k7 hn₇ ?_ ?_ ?_ ?_⟩))
      · exact ((hit₄.extBut hs₅.extBut (Ne.symm hdf)).extBut hs₆.extBut (Ne.symm hdf)).extBut hs₇.extBut (Ne.symm hdf)
      · exact hs₇.extBut _ _ (Nat.ne_of_gt hnl) (hs₆.extBut _ _ (Nat.ne_of_gt hnl) (hs₅.extBut _ _ (Nat.ne_of_gt hnl) ht₄))
      · rw [hs₇.1, hs₆.1, hs₅.1, hz₄]
      · exact fun b o b1 b2 hb => hs₇.extBut b o b1 (hs₆.extBut b o b1 (hs₅.extBut b o b1 (hk₄ b o b1 b2 hb)))
theorem pyNext_item {en ti l : Addr} {i : Nat} {j : Int} {items : Array Value} {x old : Value} {Q : Option Value → Shared → Prop}
    (hn : IsEnum s.heap en ti j old) (hit : s.heap.IsListIter ti l i) (hl : s.heap.IsList l items) (hx : items[i]? = some x) (hdf : en ≠ ti)
    (hR : ∀ h', IsEnumOut h' en ti (j + 1) x s.heap.objs.size → h'.IsListIter ti l (i + 1) →
      h'.get? s.heap.objs.size = some { cls := .type "tuple", data := .seq #[.int j s.toks, x] } → h'.objs.size = s.heap.objs.size + 1 →
      (∀ b o, b ≠ en → b ≠ ti → s.heap.get? b = some o → h'.get? b = some o) → Q (some (.ref s.heap.objs.size)) { s with heap := h', toks := s.toks + 1 }) :
    wpAny (model prog w) A (pyNext (.ref en)) Q E s := by
  have tyE : s.TypeIs (.ref en) "enumerate" := ⟨_, hn, rfl⟩
  unfold pyNext
  exact wpAny_bind (wpAny_attempt (wpAny_callSpecial?_slot (name := Str.ofString "__next__") tyE F.slot_enumerate_next
    (wpAny_call_entry F.slot_enumerate_next tyE F.entry_enumerate_next
      (next_item hn hit hl hx hdf fun h' a b c d k => wpAny_pure (hR h' a b c d k)) (F.args_enumerate_next_1 _))))

theorem pyNext_end {en ti l : Addr} {i : Nat} {j : Int} {items : Array Value} {old : Value} {Q : Option Value → Shared → Prop} (hh : A.handled = none)
    (hn : IsEnum s.heap en ti j old) (hit : s.heap.IsListIter ti l i) (hl : s.heap.IsList l items) (hx : items[i]? = none)
    (hR : ∀ h', Heap.ExtBut ti s.heap h' → Q none { s with heap := h' }) : wpAny (model prog w) A (pyNext (.ref en)) Q E s := by
  have tyE : s.TypeIs (.ref en) "enumerate" := ⟨_, hn, rfl⟩
  unfold pyNext
  refine wpAny_bind (wpAny_attempt (wpAny_callSpecial?_slot (name := Str.ofString "__next__") tyE F.slot_enumerate_next
    (wpAny_call_entry F.slot_enumerate_next tyE F.entry_enumerate_next ?_ (F.args_enumerate_next_1 _))))
  show wpAny _ _ (field (.ref en) 2 >>= _) _ _ _
  refine wpAny_bind (wpAny_field hn rfl (x := .ref ti) rfl ?_)
  refine wpAny_bind (wpAny_nextOf_list_end hh hit hl hx fun h' x hn' hx' => ?_)
  obtain ⟨o, ho, hc⟩ := hx'
  refine wpAny_bind (wpAny_isInstance (T := "StopIteration") (b := true) ⟨o, ho, hc⟩ isSubtype_stop ?_)
  exact wpAny_pure (hR _ hn')
end
end EKw

end
section
set_option linter.all false
set_option maxRecDepth 100000
set_option maxHeartbeats 1000000
namespace L2
open PySem PySem.Spec PyProof.Rows
section
variable {env : Env} {es : List Expr} {p : Pos}
theorem sE_Name {x} : starEach (.Name x p :: es) env = (false, eval (.Name x p) env) :: starEach es env := rfl
theorem sE_Constant {x y} : starEach (.Constant x y p :: es) env = (false, eval (.Constant x y p) env) :: starEach es env := rfl
theorem sE_Attribute {x y} : starEach (.Attribute x y p :: es) env = (false, eval (.Attribute x y p) env) :: starEach es env := rfl
theorem sE_Call {x y z} : starEach (.Call x y z p :: es) env = (false, eval (.Call x y z p) env) :: starEach es env := rfl
theorem sE_BinOp {x y z} : starEach (.BinOp x y z p :: es) env = (false, eval (.BinOp x y z p) env) :: starEach es env := rfl
theorem sE_Subscript {x y} : starEach (.Subscript x y p :: es) env = (false, eval (.Subscript x y p) env) :: starEach es env := rfl
theorem sE_List {x} : starEach (.List x p :: es) env = (false, eval (.List x p) env) :: starEach es env := rfl
theorem sE_Tuple {x y} : starEach (.Tuple x y p :: es) env = (false, eval (.Tuple x y p) env) :: starEach es env := rfl
theorem sE_Dict {x y} : starEach (.Dict x y p :: es) env = (false, eval (.Dict x y p) env) :: starEach es env := rfl
end
section
variable {X : Cx}
/-- a module's int -/
theorem pe_gint {x : Str} {i : Int} {pos : Pos} (hg : Gl X x) (hm : ∃ t, X.mg x = some (.int i t)) (hd : (x == ("__debug__" : Str)) = false := by decide) : PE X (.Name x pos) (tC (.int i)) := by
  obtain ⟨t, h⟩ := hm
  exact pe_glob hg h ⟨t, rfl⟩ hd
/-- dict(d) -/
theorem call_dictD : CallR X (.type "dict") (fun xs H Q => ∃ a kvs, xs = [V.ref a] ∧ H a = some (.dK kvs) ∧ ∀ p, H p = none → Q (.ref p) (upd H p (.dK kvs))) := by
  intro pins s σ H xs us Q I r h
  obtain ⟨a, kvs, rfl, ha, q⟩ := h
  obtain ⟨u, rfl, ru⟩ := vals1 r
  cases ru
  obtain ⟨z, hd, vs, rel, dd⟩ := dk_of I.hok ha
  refine kt_call_dict (knd := mixKind X.prog X.w) hd dd (by rw [← rel.length]; exact z) fun h' dd' hs => ?_
  refine ⟨.ref s.heap.objs.size, _, I.laid (a := s.heap.objs.size) (o := .dK kvs) (t' := s.toks) (fun b u q => ?_) (Nat.le_refl _) ⟨z, beq_eq_false_iff_ne.mpr (Ne.symm (Nat.ne_of_lt I.big)), vs, rel, dd'⟩, rfl, q _ (I.hok.fresh (Nat.le_refl _))⟩
  exact (hs.2 b (Nat.ne_of_lt (Heap.lt_size q))).trans (Heap.get?_push_of_some _ q)
theorem ints_of_keys {P : Program} {w : World} {ks : List Int} : ∀ {acc : List Value} {n : Nat}, (∀ (j : Nat) (v : Value), acc[j]? = some v → ∃ i, ks[j + n]? = some i ∧ keyIs (Sum.inl i) v = true) → acc.length + n = ks.length → IntsAre acc (ks.drop n)
  | [], n, _, hl => by
    rw [List.drop_eq_nil_of_le (by simp at hl; omega)]; exact .nil
  | v :: r, n, h, hl => by
    obtain ⟨i, hi, hv⟩ := h 0 v rfl
    rw [Nat.zero_add] at hi
    obtain ⟨hlt, e⟩ := List.getElem?_eq_some_iff.mp hi
    rw [List.drop_eq_getElem_cons hlt, e]
    rcases keyIs_shape hv with ⟨i', t, e1, e2⟩ | ⟨x, t, e1, e2⟩
    · cases e1
      rw [e2]
      refine .cons _ _ (ints_of_keys (P := P) (w := w) (acc := r) (n := n + 1) (fun j u hu => ?_) (by rw [List.length_cons] at hl; omega))
      have := h (j + 1) u hu
      rw [show j + (n + 1) = j + 1 + n by omega]; exact this
    · cases e1
/-- sorted(d), its keys ints -/
theorem call_sortedD (hc : X.calm = true) : CallR X (.builtin "sorted") (fun xs H Q => ∃ (a : Addr) (kvs : List (Key × V)) (ks : List Int), xs = [V.ref a] ∧ H a = some (.dK kvs) ∧ kvs.map (·.1) = ks.map Sum.inl ∧
    ∀ (ns : List Int) (p : Addr), ns.Perm ks → ns.Pairwise (· ≤ ·) → H p = none → Q (.ref p) (upd H p (.lst (ns.map V.int)))) := by
  intro pins s σ H xs us Q I r h
  obtain ⟨a, kvs, ks, rfl, ha, hk, q⟩ := h
  obtain ⟨u, rfl, ru⟩ := vals1 r
  cases ru
  obtain ⟨z, hd, vs, rel, dd⟩ := dk_of I.hok ha
  obtain ⟨ep, hat⟩ := dd.dictAt
  have hkl : kvs.length = ks.length := by
    have := congrArg List.length hk
    rw [List.length_map, List.length_map] at this
    exact this
  have hvl : vs.length = ks.length := by rw [← rel.length]; exact hkl
  refine Calls.call_function_entry kind_sorted plain_sorted entry_sorted (args_sorted1 _) ?_
  unfold Builtin.«sorted»
  refine wpAny_bind (m := checkCount "sorted" 1 1 _) (wpAny_pure ?_)
  refine wpAny_bind (PySem.W.kdu_collect (A := X.A.in1) (PySem.W.kdl_dict (knd := mixKind X.prog X.w) (kvs := vs) (ep := ep) hd) (I.ok.hd hc) hat (by rw [hvl, ← hkl]; exact z) fun h' tk acc hkp hacc => ?_)
  have hla : acc.toList.length = ks.length := by rw [Array.length_toList, hacc.1, hvl]
  have hI : IntsAre acc.toList ks := by
    have := ints_of_keys (P := X.prog) (w := X.w) (ks := ks) (acc := acc.toList) (n := 0) (fun j v hv => ?_) (by rw [hla]; rfl)
    · exact this
    · obtain ⟨k, x, hx, hkv⟩ := hacc.2 j v (by rw [← Array.getElem?_toList]; exact hv)
      have h1 : (kvs.map (·.1))[j]? = some k := by rw [rel.keys, List.getElem?_map, hx]; rfl
      rw [hk, List.getElem?_map] at h1
      obtain ⟨i, hi, e⟩ := Option.map_eq_some_iff.mp h1
      subst e
      exact ⟨i, hi, hkv⟩
  have hz : acc.toList.length ≤ sizeLine := by rw [hla, ← hkl]; exact z
  refine wpAny_bind (wpAny_newList ?_ hz)
  have hoL : (h'.push { cls := .type "list", data := .seq acc.toList.toArray }).get? h'.objs.size = some (seqObj "list" acc.toList.toArray 0) := Heap.get?_push_size _ rfl
  refine wpAny_bind (wpAny_holding (wpAny_call_entry slot_list_sort ⟨_, hoL, rfl⟩ entry_list_sort (list_sort_treeAny hoL hI hz fun out ns' h1 h2 h3 => ⟨_, rfl, ?_⟩) (args_list_sort _)))
  refine wpAny_pure ⟨_, rfl, ?_⟩
  obtain ⟨e2, he'⟩ := sortedHeap_at (vs := acc.toList) (out := out) hoL
  have hlen : (ns'.map V.int).length ≤ sizeLine := by rw [List.length_map, h2.length_eq, ← hkl]; exact z
  have I1 : Inv X pins σ H { s with heap := h', toks := tk } := I.kept hkp
  refine ⟨.ref h'.objs.size, upd H h'.objs.size (.lst (ns'.map V.int)), I1.laid (t' := tk) (fun b u hb => ?_) (Nat.le_refl _) ⟨hlen, out.toList, e2, vals_of_ints h1, he'⟩, rfl, q ns' _ h2 h3 (I1.hok.fresh (Nat.le_refl _))⟩
  have hb' : h'.get? b = some u := hb
  rw [sortedHeap_old (Nat.ne_of_lt (Heap.lt_size hb')) (Nat.lt_of_lt_of_le (Heap.lt_size hb') (by rw [Heap.size_push]; exact Nat.le_succ _))]
  exact Heap.get?_push_of_some _ hb'
/-- enumerate(l, start = lo): the list at a as it stands at each turn, each item in a new pair -/
def IteS (K : PySem.W.Frag) (a : Addr) (lo : Int) : It :=
  ⟨fun i H => ∃ (xs : List V) (x : V), SqL K H a xs ∧ xs[i]? = some x, fun i H v H' => ∃ T x, v = .ref T ∧ H T = none ∧ H' = upd H T (.tup [.int (lo + (i : Nat)), x]) ∧ ∀ xs, SqL K H a xs → xs[i]? = some x, fun i H => ∃ xs : List V, SqL K H a xs ∧ xs.length ≤ i⟩
theorem turn_enumS {P : Program} {w : World} {K : PySem.W.Frag} {elts : List Expr} {kk : Nat} {tpos : Pos} (a e it : Addr) (lo : Int) :
    Turn P w K (.Tuple elts kk tpos) (IteS K a lo) [e, it] e (fun i h => (∃ old, IsEnum h e it (lo + (i : Nat)) old) ∧ h.IsListIter it a i ∧ e ≠ it) where
  mem := by simp
  obj := fun i h st b hb => by
    obtain ⟨⟨old, he⟩, ⟨o, ho, hc, hd⟩, _⟩ := st
    have e' : b = e ∨ b = it := by simpa using hb
    rcases e' with z | z
    · rw [z]; exact ⟨_, he, fun v q => nomatch q⟩
    · rw [z]; exact ⟨o, ho, fun v q => by rw [hd] at q; cases q⟩
  keep := fun i h h' st k => let ⟨⟨old, he⟩, hi, hne⟩ := st; ⟨⟨old, k e (by simp) _ he⟩, hi.at fun o q => k it (by simp) o q, hne⟩
  item := by
    intro X hP hw hK hc i pins s σ H E I hf st hg
    subst hP hw hK
    obtain ⟨⟨old, he⟩, hit, hne⟩ := st
    obtain ⟨xs, x, hq, hx⟩ := hg
    obtain ⟨its, rv, p, hz⟩ := I.list hq
    obtain ⟨u, hu, ru⟩ := rv.get hx
    have hel : e < s.heap.objs.size := Heap.lt_size he
    have hil : it < s.heap.objs.size := by obtain ⟨_, q, _⟩ := hit; exact Heap.lt_size q
    refine EKw.pyNext_item he hit p.isList (x := u) (by simpa using hu) hne fun h' ho hit' hT hsz hk => ?_
    refine ⟨_, rfl, wpAny_letOwnedTupleGo_enum (s := { s with heap := h', toks := s.toks + 1 }) ho fun h'' he' sb => ?_⟩
    have hT2 : h''.get? s.heap.objs.size = some { cls := .type "tuple", data := .seq #[.int (lo + (i : Nat)) s.toks, u] } := (sb.2 _ (Nat.ne_of_gt hel)).trans hT
    have new : ObjOk X.prog X.w (upd H s.heap.objs.size (.tup [.int (lo + (i : Nat)), x])) h'' s.heap.objs.size (.tup [.int (lo + (i : Nat)), x]) :=
      ⟨by show 2 ≤ sizeLine; decide, [.int (lo + (i : Nat)) s.toks, u], .cons ⟨_, rfl⟩ (.cons ru .nil), ⟨_, hT2, rfl, _, rfl⟩⟩
    have I1 : Inv X pins σ (upd H s.heap.objs.size (.tup [.int (lo + (i : Nat)), x])) { s with heap := h'', toks := s.toks + 1 } :=
      I.turnedNew (ch := [e, it]) (fun b ob hb q => (sb.2 b (fun z => hb (by simp [z]))).trans (hk b ob (fun z => hb (by simp [z])) (fun z => hb (by simp [z])) q)) hf (Nat.le_refl _) new
    refine ⟨.ref s.heap.objs.size, _, I1, rfl, ⟨_, x, rfl, I.hok.fresh (Nat.le_refl _), rfl, fun ys hy => by rw [I.list_inj hy hq]; exact hx⟩, ⟨⟨u, ?_⟩, hit'.at fun o q => (sb.2 it (Ne.symm hne)).trans q, hne⟩, fun b hb => ?_⟩
    · have e1 : lo + ((i + 1 : Nat) : Int) = lo + (i : Nat) + 1 := by omega
      rw [e1]; exact he'
    · have hb' : b < s.heap.objs.size := by
        have e' : b = e ∨ b = it := by simpa using hb
        rcases e' with z | z
        · rw [z]; exact hel
        · rw [z]; exact hil
      rw [upd_ne (Nat.ne_of_lt hb')]
      exact (hf b hb).1
  done := by
    intro X hP hw hK hc i pins s σ H E I hf st hg
    subst hP hw hK
    obtain ⟨⟨old, he⟩, hit, hne⟩ := st
    obtain ⟨xs, hq, hx⟩ := hg
    obtain ⟨its, rv, p, hz⟩ := I.list hq
    obtain ⟨f0, f1, f2, f3, f4, f5⟩ := hf it (by simp)
    have hl := rv.length
    exact EKw.pyNext_end (I.ok.hd hc) he hit p.isList (by simp; omega) fun h' eb => ⟨rfl, I.turned (t' := s.toks) (fun b o hb q => eb b o hb q) f0 f1 f3 f4 f5⟩
  self := fun A i s Q E st h => let ⟨⟨_, he⟩, _⟩ := st; wpAny_pyIter_enum he h
def iEnumS (K : PySem.W.Frag) (ta tb : TA) : TI := fun σ H R => ta σ H fun vs H1 => tb σ H1 fun zs H2 => ∃ a xs lo, vs = [.ref a] ∧ zs = [.int lo] ∧ -(2 ^ 63) ≤ lo ∧ lo < 2 ^ 63 ∧ SqL K H2 a xs ∧ R (IteS K a lo) H2
theorem pi_enumS {e e2 : Expr} {ta tb : TA} {p pos tpos kp : Pos} {elts : List Expr} {kk : Nat} (hg : Gl X "enumerate") (hm : X.mg "enumerate" = none) (ha : PA X [e] ta) (hb : PK X [⟨some (Str.ofString "start"), e2, kp⟩] tb) (hs : starEach [e] X.env = [(false, eval e X.env)] := by rfl) :
    PI X (.Tuple elts kk tpos) (.Call (.Name "enumerate" p) [e] [⟨some (Str.ofString "start"), e2, kp⟩] pos) (iEnumS X.K ta tb) := by
  intro pins s σ H R I h
  refine wpAny_Call_Name_kw (ld_blt I hg hm boot_enumerate ?_)
  have hA := ha pos pins s σ H _ I h
  rw [hs] at hA ⊢
  refine EKw.callWith_ty rfl rfl (evalArgs_kwB rfl (thn hA fun us s1 ⟨vs, H1, I1, r1, q1⟩ => thn (hb pos pins s1 σ H1 _ I1 q1) fun ws s2 ⟨zs, H2, I2, r2, q2⟩ => ?_))
  obtain ⟨a, xs, lo, rfl, rfl, l1, l2, hq, q⟩ := q2
  obtain ⟨u, rfl, ru⟩ := vals1 r1
  obtain ⟨v, rfl, rv⟩ := vals1 r2
  cases ru
  obtain ⟨t, rfl⟩ := rv
  obtain ⟨its, rv, p', hz⟩ := I2.list hq
  refine EKw.call_enum (i := lo) (t := t) (by unfold Builtin.SmallTypes.fitsIndex; simp; omega) p'.isList fun h' he hit hsz hk => wpAny_pyIter_enum he ?_
  have I3 : Inv X pins σ H2 { s2 with heap := h' } := I2.kept (t' := s2.toks) hk
  refine ⟨s2.heap.objs.size + 1, [s2.heap.objs.size + 1, s2.heap.objs.size], _, _, H2, rfl, I3, turn_enumS a (s2.heap.objs.size + 1) s2.heap.objs.size lo, ⟨⟨.none, by simpa using he⟩, hit, Nat.succ_ne_self _⟩, fun b hb => ?_, q⟩
  have e' : b = s2.heap.objs.size + 1 ∨ b = s2.heap.objs.size := by simpa using hb
  have hle : s2.heap.objs.size ≤ b := by
    rcases e' with z | z
    · rw [z]; exact Nat.le_add_right _ _
    · rw [z]; exact Nat.le_refl _
  exact I2.fpOk hle (I2.hok.fresh hle)
end
end L2

end
section
set_option linter.all false
set_option Elab.async false
set_option maxRecDepth 100000
set_option maxHeartbeats 2000000
namespace My
open PySem PySem.Spec PyProof.Rows L2 TxM
def top (i : Nat) : Stmt := PySem.Challenge.pw_asalone_s01_answers.main.body.getD i (.Pass ⟨0, 0, 0, 0⟩)
abbrev s_put : Stmt := top 3
abbrev s_with_writes : Stmt := top 4
abbrev s_writes_between : Stmt := top 5
abbrev s_pairs_of : Stmt := top 6
abbrev s_numbers_of : Stmt := top 7
abbrev s_value_answer : Stmt := top 8
abbrev s_list_answer : Stmt := top 9
abbrev s_part_answer : Stmt := top 10
abbrev s_check_over : Stmt := top 17
abbrev s_log_of : Stmt := top 18
abbrev s_store_from : Stmt := top 19
abbrev s_is_write : Stmt := top 20
abbrev s_writes_from : Stmt := top 21
abbrev s_commits_from : Stmt := top 22
abbrev s_store_at_H : Stmt := inClass (top 12) 3
abbrev s_now_H : Stmt := inClass (top 12) 1
abbrev s_initHistory : Stmt := inClass (top 12) 0
abbrev s_history_from : Stmt := top 23
abbrev s_tells_H : Stmt := inClass (top 12) 2
abbrev s_value_as_of : Stmt := top 32
abbrev s_store_as_of : Stmt := top 33
abbrev s_changes : Stmt := top 34
abbrev s_sees_below_S : Stmt := inClass (top 58) 5
abbrev s_commits_behind_H : Stmt := inClass (top 12) 4
abbrev s_drop_below_H : Stmt := inClass (top 12) 6
abbrev s_vacuum : Stmt := top 35
abbrev s_not_safe_S : Stmt := inClass (top 58) 6
abbrev s_make_all_safe_S : Stmt := inClass (top 58) 7
abbrev s_sync : Stmt := top 36
abbrev s_drop_above_H : Stmt := inClass (top 12) 7
abbrev s_lose_what_is_not_safe_S : Stmt := inClass (top 58) 8
abbrev s_crash : Stmt := top 37
abbrev s_whole_log : Stmt := top 38
abbrev s_take_up_S : Stmt := inClass (top 58) 9
abbrev s_recover : Stmt := top 39
abbrev s_shape : Stmt := top 40
abbrev s_may_begin_S : Stmt := inClass (top 58) 1
abbrev s_initTransaction : Stmt := inClass (top 55) 0
abbrev s_begin_S : Stmt := inClass (top 58) 2
abbrev s_begin : Stmt := top 43
abbrev s_has_written_T : Stmt := inClass (top 55) 1
abbrev s_note_read_T : Stmt := inClass (top 55) 3
abbrev s_value_at_T : Stmt := inClass (top 55) 4
abbrev s_may_read_T : Stmt := inClass (top 55) 2
abbrev s_read : Stmt := top 44
abbrev s_seen_T : Stmt := inClass (top 55) 5
abbrev s_read_range : Stmt := top 45
abbrev s_write_T : Stmt := inClass (top 55) 6
abbrev s_write : Stmt := top 46
abbrev s_take_out_T : Stmt := inClass (top 55) 7
abbrev s_delete : Stmt := top 47
abbrev s_may_mark_T : Stmt := inClass (top 55) 8
abbrev s_mark_T : Stmt := inClass (top 55) 9
abbrev s_mark : Stmt := top 48
abbrev s_go_back_T : Stmt := inClass (top 55) 11
abbrev s_has_mark_T : Stmt := inClass (top 55) 10
abbrev s_back : Stmt := top 49
abbrev s_end_S : Stmt := inClass (top 58) 3
abbrev s_has_read_T : Stmt := inClass (top 55) 12
abbrev s_minds_T : Stmt := inClass (top 55) 13
abbrev s_clash_of_S : Stmt := inClass (top 58) 4
abbrev s_add_commit_H : Stmt := inClass (top 12) 5
abbrev s_commit : Stmt := top 50
abbrev s_abort : Stmt := top 51
abbrev s_answer_within : Stmt := top 77
abbrev s_answer_of_transaction : Stmt := top 78
abbrev s_answer_of_past : Stmt := top 79
abbrev s_answer : Stmt := top 80
abbrev s_count_given : Stmt := top 81
abbrev s_initState : Stmt := inClass (top 58) 0
abbrev s_answers : Stmt := top 82
theorem sc_put : FnScope ["store", "writes", "key"] ["store", "writes"] (defScope s_put) := ⟨rfl, rfl, rfl, by decide +kernel, rfl, by decide +kernel, by decide +kernel⟩
theorem sc_with_writes : FnScope ["store", "writes", "made"] ["store", "writes"] (defScope s_with_writes) := ⟨rfl, rfl, rfl, by decide +kernel, rfl, by decide +kernel, by decide +kernel⟩
theorem sc_writes_between : FnScope ["before", "behind", "writes", "key"] ["before", "behind"] (defScope s_writes_between) := ⟨rfl, rfl, rfl, by decide +kernel, rfl, by decide +kernel, by decide +kernel⟩
theorem sc_pairs_of : FnScope ["store", "lo", "hi", "pairs", "key"] ["store", "lo", "hi"] (defScope s_pairs_of) := ⟨rfl, rfl, rfl, by decide +kernel, rfl, by decide +kernel, by decide +kernel⟩
theorem sc_numbers_of : FnScope ["writes", "numbers", "key", "value"] ["writes"] (defScope s_numbers_of) := ⟨rfl, rfl, rfl, by decide +kernel, rfl, by decide +kernel, by decide +kernel⟩
theorem sc_value_answer : FnScope ["value"] ["value"] (defScope s_value_answer) := ⟨rfl, rfl, rfl, by decide +kernel, rfl, by decide +kernel, by decide +kernel⟩
theorem sc_list_answer : FnScope ["first", "numbers"] ["first", "numbers"] (defScope s_list_answer) := ⟨rfl, rfl, rfl, by decide +kernel, rfl, by decide +kernel, by decide +kernel⟩
theorem sc_part_answer : FnScope ["store", "lo", "hi", "pairs"] ["store", "lo", "hi"] (defScope s_part_answer) := ⟨rfl, rfl, rfl, by decide +kernel, rfl, by decide +kernel, by decide +kernel⟩
theorem sc_check_over : FnScope ["check", "numbers", "x"] ["check", "numbers"] (defScope s_check_over) := ⟨rfl, rfl, rfl, by decide +kernel, rfl, by decide +kernel, by decide +kernel⟩
theorem sc_log_of : FnScope ["history", "pairs", "told", "check", "writes", "part"] ["history"] (defScope s_log_of) := ⟨rfl, rfl, rfl, by decide +kernel, rfl, by decide +kernel, by decide +kernel⟩
theorem sc_store_from : FnScope ["pairs", "store", "before", "place", "key", "value"] ["pairs"] (defScope s_store_from) := ⟨rfl, rfl, rfl, by decide +kernel, rfl, by decide +kernel, by decide +kernel⟩
theorem sc_is_write : FnScope ["there", "value"] ["there", "value"] (defScope s_is_write) := ⟨rfl, rfl, rfl, by decide +kernel, rfl, by decide +kernel, by decide +kernel⟩
theorem sc_writes_from : FnScope ["numbers", "writes", "before", "place", "key", "there", "value"] ["numbers"] (defScope s_writes_from) := ⟨rfl, rfl, rfl, by decide +kernel, rfl, by decide +kernel, by decide +kernel⟩
theorem sc_commits_from : FnScope ["numbers", "place", "check", "commits", "count", "behind", "writes"] ["numbers", "place", "check"] (defScope s_commits_from) := ⟨rfl, rfl, rfl, by decide +kernel, rfl, by decide +kernel, by decide +kernel⟩
theorem sc_store_at_H : FnScope ["self", "number", "store", "writes"] ["self", "number"] (defScope s_store_at_H) := ⟨rfl, rfl, rfl, by decide +kernel, rfl, by decide +kernel, by decide +kernel⟩
theorem sc_now_H : FnScope ["self"] ["self"] (defScope s_now_H) := ⟨rfl, rfl, rfl, by decide +kernel, rfl, by decide +kernel, by decide +kernel⟩
theorem sc_initHistory : FnScope ["self", "base", "base_store", "commits"] ["self", "base", "base_store", "commits"] (defScope s_initHistory) := ⟨rfl, rfl, rfl, by decide +kernel, rfl, by decide +kernel, by decide +kernel⟩
theorem sc_history_from : FnScope ["numbers", "base", "count", "behind", "store", "check"] ["numbers"] (defScope s_history_from) := ⟨rfl, rfl, rfl, by decide +kernel, rfl, by decide +kernel, by decide +kernel⟩
theorem sc_tells_H : FnScope ["self", "number"] ["self", "number"] (defScope s_tells_H) := ⟨rfl, rfl, rfl, by decide +kernel, rfl, by decide +kernel, by decide +kernel⟩
theorem sc_value_as_of : FnScope ["history", "number", "key"] ["history", "number", "key"] (defScope s_value_as_of) := ⟨rfl, rfl, rfl, by decide +kernel, rfl, by decide +kernel, by decide +kernel⟩
theorem sc_store_as_of : FnScope ["history", "number"] ["history", "number"] (defScope s_store_as_of) := ⟨rfl, rfl, rfl, by decide +kernel, rfl, by decide +kernel, by decide +kernel⟩
theorem sc_changes : FnScope ["history", "one", "other", "writes"] ["history", "one", "other"] (defScope s_changes) := ⟨rfl, rfl, rfl, by decide +kernel, rfl, by decide +kernel, by decide +kernel⟩
theorem sc_sees_below_S : FnScope ["self", "number", "transaction"] ["self", "number"] (defScope s_sees_below_S) := ⟨rfl, rfl, rfl, by decide +kernel, rfl, by decide +kernel, by decide +kernel⟩
theorem sc_commits_behind_H : FnScope ["self", "number"] ["self", "number"] (defScope s_commits_behind_H) := ⟨rfl, rfl, rfl, by decide +kernel, rfl, by decide +kernel, by decide +kernel⟩
theorem sc_drop_below_H : FnScope ["self", "number", "store"] ["self", "number"] (defScope s_drop_below_H) := ⟨rfl, rfl, rfl, by decide +kernel, rfl, by decide +kernel, by decide +kernel⟩
theorem sc_vacuum : FnScope ["state", "number", "base"] ["state", "number"] (defScope s_vacuum) := ⟨rfl, rfl, rfl, by decide +kernel, rfl, by decide +kernel, by decide +kernel⟩
theorem sc_not_safe_S : FnScope ["self"] ["self"] (defScope s_not_safe_S) := ⟨rfl, rfl, rfl, by decide +kernel, rfl, by decide +kernel, by decide +kernel⟩
theorem sc_make_all_safe_S : FnScope ["self"] ["self"] (defScope s_make_all_safe_S) := ⟨rfl, rfl, rfl, by decide +kernel, rfl, by decide +kernel, by decide +kernel⟩
theorem sc_sync : FnScope ["state", "count"] ["state"] (defScope s_sync) := ⟨rfl, rfl, rfl, by decide +kernel, rfl, by decide +kernel, by decide +kernel⟩
theorem sc_drop_above_H : FnScope ["self", "number"] ["self", "number"] (defScope s_drop_above_H) := ⟨rfl, rfl, rfl, by decide +kernel, rfl, by decide +kernel, by decide +kernel⟩
theorem sc_lose_what_is_not_safe_S : FnScope ["self"] ["self"] (defScope s_lose_what_is_not_safe_S) := ⟨rfl, rfl, rfl, by decide +kernel, rfl, by decide +kernel, by decide +kernel⟩
theorem sc_crash : FnScope ["state", "count"] ["state"] (defScope s_crash) := ⟨rfl, rfl, rfl, by decide +kernel, rfl, by decide +kernel, by decide +kernel⟩
theorem sc_whole_log : FnScope ["history", "numbers"] ["history"] (defScope s_whole_log) := ⟨rfl, rfl, rfl, by decide +kernel, rfl, by decide +kernel, by decide +kernel⟩
theorem sc_take_up_S : FnScope ["self", "history"] ["self", "history"] (defScope s_take_up_S) := ⟨rfl, rfl, rfl, by decide +kernel, rfl, by decide +kernel, by decide +kernel⟩
theorem sc_recover : FnScope ["state", "numbers", "history"] ["state", "numbers"] (defScope s_recover) := ⟨rfl, rfl, rfl, by decide +kernel, rfl, by decide +kernel, by decide +kernel⟩
theorem sc_shape : FnScope ["state", "told", "number", "transaction"] ["state"] (defScope s_shape) := ⟨rfl, rfl, rfl, by decide +kernel, rfl, by decide +kernel, by decide +kernel⟩
theorem sc_may_begin_S : FnScope ["self"] ["self"] (defScope s_may_begin_S) := ⟨rfl, rfl, rfl, by decide +kernel, rfl, by decide +kernel, by decide +kernel⟩
theorem sc_initTransaction : FnScope ["self", "way", "sees", "store"] ["self", "way", "sees", "store"] (defScope s_initTransaction) := ⟨rfl, rfl, rfl, by decide +kernel, rfl, by decide +kernel, by decide +kernel⟩
theorem sc_begin_S : FnScope ["self", "way"] ["self", "way"] (defScope s_begin_S) := ⟨rfl, rfl, rfl, by decide +kernel, rfl, by decide +kernel, by decide +kernel⟩
theorem sc_begin : FnScope ["state", "way"] ["state", "way"] (defScope s_begin) := ⟨rfl, rfl, rfl, by decide +kernel, rfl, by decide +kernel, by decide +kernel⟩
theorem sc_has_written_T : FnScope ["self", "key"] ["self", "key"] (defScope s_has_written_T) := ⟨rfl, rfl, rfl, by decide +kernel, rfl, by decide +kernel, by decide +kernel⟩
theorem sc_note_read_T : FnScope ["self", "lo", "hi"] ["self", "lo", "hi"] (defScope s_note_read_T) := ⟨rfl, rfl, rfl, by decide +kernel, rfl, by decide +kernel, by decide +kernel⟩
theorem sc_value_at_T : FnScope ["self", "key"] ["self", "key"] (defScope s_value_at_T) := ⟨rfl, rfl, rfl, by decide +kernel, rfl, by decide +kernel, by decide +kernel⟩
theorem sc_may_read_T : FnScope ["self"] ["self"] (defScope s_may_read_T) := ⟨rfl, rfl, rfl, by decide +kernel, rfl, by decide +kernel, by decide +kernel⟩
theorem sc_read : FnScope ["transaction", "key"] ["transaction", "key"] (defScope s_read) := ⟨rfl, rfl, rfl, by decide +kernel, rfl, by decide +kernel, by decide +kernel⟩
theorem sc_seen_T : FnScope ["self"] ["self"] (defScope s_seen_T) := ⟨rfl, rfl, rfl, by decide +kernel, rfl, by decide +kernel, by decide +kernel⟩
theorem sc_read_range : FnScope ["transaction", "lo", "hi"] ["transaction", "lo", "hi"] (defScope s_read_range) := ⟨rfl, rfl, rfl, by decide +kernel, rfl, by decide +kernel, by decide +kernel⟩
theorem sc_write_T : FnScope ["self", "key", "value"] ["self", "key", "value"] (defScope s_write_T) := ⟨rfl, rfl, rfl, by decide +kernel, rfl, by decide +kernel, by decide +kernel⟩
theorem sc_write : FnScope ["transaction", "key", "value"] ["transaction", "key", "value"] (defScope s_write) := ⟨rfl, rfl, rfl, by decide +kernel, rfl, by decide +kernel, by decide +kernel⟩
theorem sc_take_out_T : FnScope ["self", "key"] ["self", "key"] (defScope s_take_out_T) := ⟨rfl, rfl, rfl, by decide +kernel, rfl, by decide +kernel, by decide +kernel⟩
theorem sc_delete : FnScope ["transaction", "key"] ["transaction", "key"] (defScope s_delete) := ⟨rfl, rfl, rfl, by decide +kernel, rfl, by decide +kernel, by decide +kernel⟩
theorem sc_may_mark_T : FnScope ["self"] ["self"] (defScope s_may_mark_T) := ⟨rfl, rfl, rfl, by decide +kernel, rfl, by decide +kernel, by decide +kernel⟩
theorem sc_mark_T : FnScope ["self"] ["self"] (defScope s_mark_T) := ⟨rfl, rfl, rfl, by decide +kernel, rfl, by decide +kernel, by decide +kernel⟩
theorem sc_mark : FnScope ["transaction"] ["transaction"] (defScope s_mark) := ⟨rfl, rfl, rfl, by decide +kernel, rfl, by decide +kernel, by decide +kernel⟩
theorem sc_go_back_T : FnScope ["self", "number"] ["self", "number"] (defScope s_go_back_T) := ⟨rfl, rfl, rfl, by decide +kernel, rfl, by decide +kernel, by decide +kernel⟩
theorem sc_has_mark_T : FnScope ["self", "number"] ["self", "number"] (defScope s_has_mark_T) := ⟨rfl, rfl, rfl, by decide +kernel, rfl, by decide +kernel, by decide +kernel⟩
theorem sc_back : FnScope ["transaction", "number"] ["transaction", "number"] (defScope s_back) := ⟨rfl, rfl, rfl, by decide +kernel, rfl, by decide +kernel, by decide +kernel⟩
theorem sc_end_S : FnScope ["self", "number"] ["self", "number"] (defScope s_end_S) := ⟨rfl, rfl, rfl, by decide +kernel, rfl, by decide +kernel, by decide +kernel⟩
theorem sc_has_read_T : FnScope ["self", "key", "lo", "hi"] ["self", "key"] (defScope s_has_read_T) := ⟨rfl, rfl, rfl, by decide +kernel, rfl, by decide +kernel, by decide +kernel⟩
theorem sc_minds_T : FnScope ["self", "key"] ["self", "key"] (defScope s_minds_T) := ⟨rfl, rfl, rfl, by decide +kernel, rfl, by decide +kernel, by decide +kernel⟩
theorem sc_clash_of_S : FnScope ["self", "transaction", "commits", "number", "writes", "key"] ["self", "transaction"] (defScope s_clash_of_S) := ⟨rfl, rfl, rfl, by decide +kernel, rfl, by decide +kernel, by decide +kernel⟩
theorem sc_add_commit_H : FnScope ["self", "writes"] ["self", "writes"] (defScope s_add_commit_H) := ⟨rfl, rfl, rfl, by decide +kernel, rfl, by decide +kernel, by decide +kernel⟩
theorem sc_commit : FnScope ["state", "number", "transaction", "clash"] ["state", "number"] (defScope s_commit) := ⟨rfl, rfl, rfl, by decide +kernel, rfl, by decide +kernel, by decide +kernel⟩
theorem sc_abort : FnScope ["state", "number"] ["state", "number"] (defScope s_abort) := ⟨rfl, rfl, rfl, by decide +kernel, rfl, by decide +kernel, by decide +kernel⟩
theorem sc_answer_within : FnScope ["transaction", "call", "given"] ["transaction", "call", "given"] (defScope s_answer_within) := ⟨rfl, rfl, rfl, by decide +kernel, rfl, by decide +kernel, by decide +kernel⟩
theorem sc_answer_of_transaction : FnScope ["state", "call", "given", "number"] ["state", "call", "given"] (defScope s_answer_of_transaction) := ⟨rfl, rfl, rfl, by decide +kernel, rfl, by decide +kernel, by decide +kernel⟩
theorem sc_answer_of_past : FnScope ["history", "call", "given"] ["history", "call", "given"] (defScope s_answer_of_past) := ⟨rfl, rfl, rfl, by decide +kernel, rfl, by decide +kernel, by decide +kernel⟩
theorem sc_answer : FnScope ["state", "call", "given"] ["state", "call", "given"] (defScope s_answer) := ⟨rfl, rfl, rfl, by decide +kernel, rfl, by decide +kernel, by decide +kernel⟩
theorem sc_count_given : FnScope ["calls", "place", "count"] ["calls", "place"] (defScope s_count_given) := ⟨rfl, rfl, rfl, by decide +kernel, rfl, by decide +kernel, by decide +kernel⟩
theorem sc_initState : FnScope ["self"] ["self"] (defScope s_initState) := ⟨rfl, rfl, rfl, by decide +kernel, rfl, by decide +kernel, by decide +kernel⟩
theorem sc_answers : FnScope ["calls", "state", "told", "place", "behind", "numbers"] ["calls"] (defScope s_answers) := ⟨rfl, rfl, rfl, by decide +kernel, rfl, by decide +kernel, by decide +kernel⟩
set_option genInjectivity false in
set_option genSizeOf false in
set_option genSizeOfSpec false in
structure Ad where
  put : Addr
  fd_put : FuncData
  with_writes : Addr
  fd_with_writes : FuncData
  writes_between : Addr
  fd_writes_between : FuncData
  pairs_of : Addr
  fd_pairs_of : FuncData
  numbers_of : Addr
  fd_numbers_of : FuncData
  value_answer : Addr
  fd_value_answer : FuncData
  list_answer : Addr
  fd_list_answer : FuncData
  part_answer : Addr
  fd_part_answer : FuncData
  check_over : Addr
  fd_check_over : FuncData
  log_of : Addr
  fd_log_of : FuncData
  store_from : Addr
  fd_store_from : FuncData
  is_write : Addr
  fd_is_write : FuncData
  writes_from : Addr
  fd_writes_from : FuncData
  commits_from : Addr
  fd_commits_from : FuncData
  store_at_H : Addr
  fd_store_at_H : FuncData
  now_H : Addr
  fd_now_H : FuncData
  initHistory : Addr
  fd_initHistory : FuncData
  history_from : Addr
  fd_history_from : FuncData
  tells_H : Addr
  fd_tells_H : FuncData
  value_as_of : Addr
  fd_value_as_of : FuncData
  store_as_of : Addr
  fd_store_as_of : FuncData
  changes : Addr
  fd_changes : FuncData
  sees_below_S : Addr
  fd_sees_below_S : FuncData
  commits_behind_H : Addr
  fd_commits_behind_H : FuncData
  drop_below_H : Addr
  fd_drop_below_H : FuncData
  vacuum : Addr
  fd_vacuum : FuncData
  not_safe_S : Addr
  fd_not_safe_S : FuncData
  make_all_safe_S : Addr
  fd_make_all_safe_S : FuncData
  sync : Addr
  fd_sync : FuncData
  drop_above_H : Addr
  fd_drop_above_H : FuncData
  lose_what_is_not_safe_S : Addr
  fd_lose_what_is_not_safe_S : FuncData
  crash : Addr
  fd_crash : FuncData
  whole_log : Addr
  fd_whole_log : FuncData
  take_up_S : Addr
  fd_take_up_S : FuncData
  recover : Addr
  fd_recover : FuncData
  shape : Addr
  fd_shape : FuncData
  may_begin_S : Addr
  fd_may_begin_S : FuncData
  initTransaction : Addr
  fd_initTransaction : FuncData
  begin_S : Addr
  fd_begin_S : FuncData
  begin : Addr
  fd_begin : FuncData
  has_written_T : Addr
  fd_has_written_T : FuncData
  note_read_T : Addr
  fd_note_read_T : FuncData
  value_at_T : Addr
  fd_value_at_T : FuncData
  may_read_T : Addr
  fd_may_read_T : FuncData
  read : Addr
  fd_read : FuncData
  seen_T : Addr
  fd_seen_T : FuncData
  read_range : Addr
  fd_read_range : FuncData
  write_T : Addr
  fd_write_T : FuncData
  write : Addr
  fd_write : FuncData
  take_out_T : Addr
  fd_take_out_T : FuncData
  delete : Addr
  fd_delete : FuncData
  may_mark_T : Addr
  fd_may_mark_T : FuncData
  mark_T : Addr
  fd_mark_T : FuncData
  mark : Addr
  fd_mark : FuncData
  go_back_T : Addr
  fd_go_back_T : FuncData
  has_mark_T : Addr
  fd_has_mark_T : FuncData
  back : Addr
  fd_back : FuncData
  end_S : Addr
  fd_end_S : FuncData
  has_read_T : Addr
  fd_has_read_T : FuncData
  minds_T : Addr
  fd_minds_T : FuncData
  clash_of_S : Addr
  fd_clash_of_S : FuncData
  add_commit_H : Addr
  fd_add_commit_H : FuncData
  commit : Addr
  fd_commit : FuncData
  abort : Addr
  fd_abort : FuncData
  answer_within : Addr
  fd_answer_within : FuncData
  answer_of_transaction : Addr
  fd_answer_of_transaction : FuncData
  answer_of_past : Addr
  fd_answer_of_past : FuncData
  answer : Addr
  fd_answer : FuncData
  count_given : Addr
  fd_count_given : FuncData
  initState : Addr
  fd_initState : FuncData
  answers : Addr
  fd_answers : FuncData
  cH : Addr
  cT : Addr
  cS : Addr
  gGIVEN : Addr
/-- what is known of them -/
structure Txt (K : PySem.W.Frag) (mg : Str → Option Value) (a : Ad) : Prop where
  put : Fun K "put" "put" s_put a.put a.fd_put
  b_put : Binds K a.fd_put ["store", "writes"] []
  m_put : mg "put" = some (.ref a.put)
  with_writes : Fun K "with_writes" "with_writes" s_with_writes a.with_writes a.fd_with_writes
  b_with_writes : Binds K a.fd_with_writes ["store", "writes"] []
  m_with_writes : mg "with_writes" = some (.ref a.with_writes)
  writes_between : Fun K "writes_between" "writes_between" s_writes_between a.writes_between a.fd_writes_between
  b_writes_between : Binds K a.fd_writes_between ["before", "behind"] []
  m_writes_between : mg "writes_between" = some (.ref a.writes_between)
  pairs_of : Fun K "pairs_of" "pairs_of" s_pairs_of a.pairs_of a.fd_pairs_of
  b_pairs_of : Binds K a.fd_pairs_of ["store", "lo", "hi"] []
  m_pairs_of : mg "pairs_of" = some (.ref a.pairs_of)
  numbers_of : Fun K "numbers_of" "numbers_of" s_numbers_of a.numbers_of a.fd_numbers_of
  b_numbers_of : Binds K a.fd_numbers_of ["writes"] []
  m_numbers_of : mg "numbers_of" = some (.ref a.numbers_of)
  value_answer : Fun K "value_answer" "value_answer" s_value_answer a.value_answer a.fd_value_answer
  b_value_answer : Binds K a.fd_value_answer ["value"] []
  m_value_answer : mg "value_answer" = some (.ref a.value_answer)
  list_answer : Fun K "list_answer" "list_answer" s_list_answer a.list_answer a.fd_list_answer
  b_list_answer : Binds K a.fd_list_answer ["first", "numbers"] []
  m_list_answer : mg "list_answer" = some (.ref a.list_answer)
  part_answer : Fun K "part_answer" "part_answer" s_part_answer a.part_answer a.fd_part_answer
  b_part_answer : Binds K a.fd_part_answer ["store", "lo", "hi"] []
  m_part_answer : mg "part_answer" = some (.ref a.part_answer)
  check_over : Fun K "check_over" "check_over" s_check_over a.check_over a.fd_check_over
  b_check_over : Binds K a.fd_check_over ["check", "numbers"] []
  m_check_over : mg "check_over" = some (.ref a.check_over)
  log_of : Fun K "log_of" "log_of" s_log_of a.log_of a.fd_log_of
  b_log_of : Binds K a.fd_log_of ["history"] []
  m_log_of : mg "log_of" = some (.ref a.log_of)
  store_from : Fun K "store_from" "store_from" s_store_from a.store_from a.fd_store_from
  b_store_from : Binds K a.fd_store_from ["pairs"] []
  m_store_from : mg "store_from" = some (.ref a.store_from)
  is_write : Fun K "is_write" "is_write" s_is_write a.is_write a.fd_is_write
  b_is_write : Binds K a.fd_is_write ["there", "value"] []
  m_is_write : mg "is_write" = some (.ref a.is_write)
  writes_from : Fun K "writes_from" "writes_from" s_writes_from a.writes_from a.fd_writes_from
  b_writes_from : Binds K a.fd_writes_from ["numbers"] []
  m_writes_from : mg "writes_from" = some (.ref a.writes_from)
  commits_from : Fun K "commits_from" "commits_from" s_commits_from a.commits_from a.fd_commits_from
  b_commits_from : Binds K a.fd_commits_from ["numbers", "place", "check"] []
  m_commits_from : mg "commits_from" = some (.ref a.commits_from)
  store_at_H : Fun K "store_at" "History.store_at" s_store_at_H a.store_at_H a.fd_store_at_H
  b_store_at_H : Binds K a.fd_store_at_H ["self", "number"] []
  mt_store_at_H : Meth K a.cH "store_at" a.store_at_H
  now_H : Fun K "now" "History.now" s_now_H a.now_H a.fd_now_H
  b_now_H : Binds K a.fd_now_H ["self"] []
  mt_now_H : Meth K a.cH "now" a.now_H
  initHistory : Fun K "__init__" "History.__init__" s_initHistory a.initHistory a.fd_initHistory
  b_initHistory : Binds K a.fd_initHistory ["self", "base", "base_store", "commits"] []
  history_from : Fun K "history_from" "history_from" s_history_from a.history_from a.fd_history_from
  b_history_from : Binds K a.fd_history_from ["numbers"] []
  m_history_from : mg "history_from" = some (.ref a.history_from)
  tells_H : Fun K "tells" "History.tells" s_tells_H a.tells_H a.fd_tells_H
  b_tells_H : Binds K a.fd_tells_H ["self", "number"] []
  mt_tells_H : Meth K a.cH "tells" a.tells_H
  value_as_of : Fun K "value_as_of" "value_as_of" s_value_as_of a.value_as_of a.fd_value_as_of
  b_value_as_of : Binds K a.fd_value_as_of ["history", "number", "key"] []
  m_value_as_of : mg "value_as_of" = some (.ref a.value_as_of)
  store_as_of : Fun K "store_as_of" "store_as_of" s_store_as_of a.store_as_of a.fd_store_as_of
  b_store_as_of : Binds K a.fd_store_as_of ["history", "number"] []
  m_store_as_of : mg "store_as_of" = some (.ref a.store_as_of)
  changes : Fun K "changes" "changes" s_changes a.changes a.fd_changes
  b_changes : Binds K a.fd_changes ["history", "one", "other"] []
  m_changes : mg "changes" = some (.ref a.changes)
  sees_below_S : Fun K "sees_below" "State.sees_below" s_sees_below_S a.sees_below_S a.fd_sees_below_S
  b_sees_below_S : Binds K a.fd_sees_below_S ["self", "number"] []
  mt_sees_below_S : Meth K a.cS "sees_below" a.sees_below_S
  commits_behind_H : Fun K "commits_behind" "History.commits_behind" s_commits_behind_H a.commits_behind_H a.fd_commits_behind_H
  b_commits_behind_H : Binds K a.fd_commits_behind_H ["self", "number"] []
  mt_commits_behind_H : Meth K a.cH "commits_behind" a.commits_behind_H
  drop_below_H : Fun K "drop_below" "History.drop_below" s_drop_below_H a.drop_below_H a.fd_drop_below_H
  b_drop_below_H : Binds K a.fd_drop_below_H ["self", "number"] []
  mt_drop_below_H : Meth K a.cH "drop_below" a.drop_below_H
  vacuum : Fun K "vacuum" "vacuum" s_vacuum a.vacuum a.fd_vacuum
  b_vacuum : Binds K a.fd_vacuum ["state", "number"] []
  m_vacuum : mg "vacuum" = some (.ref a.vacuum)
  not_safe_S : Fun K "not_safe" "State.not_safe" s_not_safe_S a.not_safe_S a.fd_not_safe_S
  b_not_safe_S : Binds K a.fd_not_safe_S ["self"] []
  mt_not_safe_S : Meth K a.cS "not_safe" a.not_safe_S
  make_all_safe_S : Fun K "make_all_safe" "State.make_all_safe" s_make_all_safe_S a.make_all_safe_S a.fd_make_all_safe_S
  b_make_all_safe_S : Binds K a.fd_make_all_safe_S ["self"] []
  mt_make_all_safe_S : Meth K a.cS "make_all_safe" a.make_all_safe_S
  sync : Fun K "sync" "sync" s_sync a.sync a.fd_sync
  b_sync : Binds K a.fd_sync ["state"] []
  m_sync : mg "sync" = some (.ref a.sync)
  drop_above_H : Fun K "drop_above" "History.drop_above" s_drop_above_H a.drop_above_H a.fd_drop_above_H
  b_drop_above_H : Binds K a.fd_drop_above_H ["self", "number"] []
  mt_drop_above_H : Meth K a.cH "drop_above" a.drop_above_H
  lose_what_is_not_safe_S : Fun K "lose_what_is_not_safe" "State.lose_what_is_not_safe" s_lose_what_is_not_safe_S a.lose_what_is_not_safe_S a.fd_lose_what_is_not_safe_S
  b_lose_what_is_not_safe_S : Binds K a.fd_lose_what_is_not_safe_S ["self"] []
  mt_lose_what_is_not_safe_S : Meth K a.cS "lose_what_is_not_safe" a.lose_what_is_not_safe_S
  crash : Fun K "crash" "crash" s_crash a.crash a.fd_crash
  b_crash : Binds K a.fd_crash ["state"] []
  m_crash : mg "crash" = some (.ref a.crash)
  whole_log : Fun K "whole_log" "whole_log" s_whole_log a.whole_log a.fd_whole_log
  b_whole_log : Binds K a.fd_whole_log ["history"] []
  m_whole_log : mg "whole_log" = some (.ref a.whole_log)
  take_up_S : Fun K "take_up" "State.take_up" s_take_up_S a.take_up_S a.fd_take_up_S
  b_take_up_S : Binds K a.fd_take_up_S ["self", "history"] []
  mt_take_up_S : Meth K a.cS "take_up" a.take_up_S
  recover : Fun K "recover" "recover" s_recover a.recover a.fd_recover
  b_recover : Binds K a.fd_recover ["state", "numbers"] []
  m_recover : mg "recover" = some (.ref a.recover)
  shape : Fun K "shape" "shape" s_shape a.shape a.fd_shape
  b_shape : Binds K a.fd_shape ["state"] []
  m_shape : mg "shape" = some (.ref a.shape)
  may_begin_S : Fun K "may_begin" "State.may_begin" s_may_begin_S a.may_begin_S a.fd_may_begin_S
  b_may_begin_S : Binds K a.fd_may_begin_S ["self"] []
  mt_may_begin_S : Meth K a.cS "may_begin" a.may_begin_S
  initTransaction : Fun K "__init__" "Transaction.__init__" s_initTransaction a.initTransaction a.fd_initTransaction
  b_initTransaction : Binds K a.fd_initTransaction ["self", "way", "sees", "store"] []
  begin_S : Fun K "begin" "State.begin" s_begin_S a.begin_S a.fd_begin_S
  b_begin_S : Binds K a.fd_begin_S ["self", "way"] []
  mt_begin_S : Meth K a.cS "begin" a.begin_S
  begin : Fun K "begin" "begin" s_begin a.begin a.fd_begin
  b_begin : Binds K a.fd_begin ["state", "way"] []
  m_begin : mg "begin" = some (.ref a.begin)
  has_written_T : Fun K "has_written" "Transaction.has_written" s_has_written_T a.has_written_T a.fd_has_written_T
  b_has_written_T : Binds K a.fd_has_written_T ["self", "key"] []
  mt_has_written_T : Meth K a.cT "has_written" a.has_written_T
  note_read_T : Fun K "note_read" "Transaction.note_read" s_note_read_T a.note_read_T a.fd_note_read_T
  b_note_read_T : Binds K a.fd_note_read_T ["self", "lo", "hi"] []
  mt_note_read_T : Meth K a.cT "note_read" a.note_read_T
  value_at_T : Fun K "value_at" "Transaction.value_at" s_value_at_T a.value_at_T a.fd_value_at_T
  b_value_at_T : Binds K a.fd_value_at_T ["self", "key"] []
  mt_value_at_T : Meth K a.cT "value_at" a.value_at_T
  may_read_T : Fun K "may_read" "Transaction.may_read" s_may_read_T a.may_read_T a.fd_may_read_T
  b_may_read_T : Binds K a.fd_may_read_T ["self"] []
  mt_may_read_T : Meth K a.cT "may_read" a.may_read_T
  read : Fun K "read" "read" s_read a.read a.fd_read
  b_read : Binds K a.fd_read ["transaction", "key"] []
  m_read : mg "read" = some (.ref a.read)
  seen_T : Fun K "seen" "Transaction.seen" s_seen_T a.seen_T a.fd_seen_T
  b_seen_T : Binds K a.fd_seen_T ["self"] []
  mt_seen_T : Meth K a.cT "seen" a.seen_T
  read_range : Fun K "read_range" "read_range" s_read_range a.read_range a.fd_read_range
  b_read_range : Binds K a.fd_read_range ["transaction", "lo", "hi"] []
  m_read_range : mg "read_range" = some (.ref a.read_range)
  write_T : Fun K "write" "Transaction.write" s_write_T a.write_T a.fd_write_T
  b_write_T : Binds K a.fd_write_T ["self", "key", "value"] []
  mt_write_T : Meth K a.cT "write" a.write_T
  write : Fun K "write" "write" s_write a.write a.fd_write
  b_write : Binds K a.fd_write ["transaction", "key", "value"] []
  m_write : mg "write" = some (.ref a.write)
  take_out_T : Fun K "take_out" "Transaction.take_out" s_take_out_T a.take_out_T a.fd_take_out_T
  b_take_out_T : Binds K a.fd_take_out_T ["self", "key"] []
  mt_take_out_T : Meth K a.cT "take_out" a.take_out_T
  delete : Fun K "delete" "delete" s_delete a.delete a.fd_delete
  b_delete : Binds K a.fd_delete ["transaction", "key"] []
  m_delete : mg "delete" = some (.ref a.delete)
  may_mark_T : Fun K "may_mark" "Transaction.may_mark" s_may_mark_T a.may_mark_T a.fd_may_mark_T
  b_may_mark_T : Binds K a.fd_may_mark_T ["self"] []
  mt_may_mark_T : Meth K a.cT "may_mark" a.may_mark_T
  mark_T : Fun K "mark" "Transaction.mark" s_mark_T a.mark_T a.fd_mark_T
  b_mark_T : Binds K a.fd_mark_T ["self"] []
  mt_mark_T : Meth K a.cT "mark" a.mark_T
  mark : Fun K "mark" "mark" s_mark a.mark a.fd_mark
  b_mark : Binds K a.fd_mark ["transaction"] []
  m_mark : mg "mark" = some (.ref a.mark)
  go_back_T : Fun K "go_back" "Transaction.go_back" s_go_back_T a.go_back_T a.fd_go_back_T
  b_go_back_T : Binds K a.fd_go_back_T ["self", "number"] []
  mt_go_back_T : Meth K a.cT "go_back" a.go_back_T
  has_mark_T : Fun K "has_mark" "Transaction.has_mark" s_has_mark_T a.has_mark_T a.fd_has_mark_T
  b_has_mark_T : Binds K a.fd_has_mark_T ["self", "number"] []
  mt_has_mark_T : Meth K a.cT "has_mark" a.has_mark_T
  back : Fun K "back" "back" s_back a.back a.fd_back
  b_back : Binds K a.fd_back ["transaction", "number"] []
  m_back : mg "back" = some (.ref a.back)
  end_S : Fun K "end" "State.end" s_end_S a.end_S a.fd_end_S
  b_end_S : Binds K a.fd_end_S ["self", "number"] []
  mt_end_S : Meth K a.cS "end" a.end_S
  has_read_T : Fun K "has_read" "Transaction.has_read" s_has_read_T a.has_read_T a.fd_has_read_T
  b_has_read_T : Binds K a.fd_has_read_T ["self", "key"] []
  mt_has_read_T : Meth K a.cT "has_read" a.has_read_T
  minds_T : Fun K "minds" "Transaction.minds" s_minds_T a.minds_T a.fd_minds_T
  b_minds_T : Binds K a.fd_minds_T ["self", "key"] []
  mt_minds_T : Meth K a.cT "minds" a.minds_T
  clash_of_S : Fun K "clash_of" "State.clash_of" s_clash_of_S a.clash_of_S a.fd_clash_of_S
  b_clash_of_S : Binds K a.fd_clash_of_S ["self", "transaction"] []
  mt_clash_of_S : Meth K a.cS "clash_of" a.clash_of_S
  add_commit_H : Fun K "add_commit" "History.add_commit" s_add_commit_H a.add_commit_H a.fd_add_commit_H
  b_add_commit_H : Binds K a.fd_add_commit_H ["self", "writes"] []
  mt_add_commit_H : Meth K a.cH "add_commit" a.add_commit_H
  commit : Fun K "commit" "commit" s_commit a.commit a.fd_commit
  b_commit : Binds K a.fd_commit ["state", "number"] []
  m_commit : mg "commit" = some (.ref a.commit)
  abort : Fun K "abort" "abort" s_abort a.abort a.fd_abort
  b_abort : Binds K a.fd_abort ["state", "number"] []
  m_abort : mg "abort" = some (.ref a.abort)
  answer_within : Fun K "answer_within" "answer_within" s_answer_within a.answer_within a.fd_answer_within
  b_answer_within : Binds K a.fd_answer_within ["transaction", "call", "given"] []
  m_answer_within : mg "answer_within" = some (.ref a.answer_within)
  answer_of_transaction : Fun K "answer_of_transaction" "answer_of_transaction" s_answer_of_transaction a.answer_of_transaction a.fd_answer_of_transaction
  b_answer_of_transaction : Binds K a.fd_answer_of_transaction ["state", "call", "given"] []
  m_answer_of_transaction : mg "answer_of_transaction" = some (.ref a.answer_of_transaction)
  answer_of_past : Fun K "answer_of_past" "answer_of_past" s_answer_of_past a.answer_of_past a.fd_answer_of_past
  b_answer_of_past : Binds K a.fd_answer_of_past ["history", "call", "given"] []
  m_answer_of_past : mg "answer_of_past" = some (.ref a.answer_of_past)
  answer : Fun K "answer" "answer" s_answer a.answer a.fd_answer
  b_answer : Binds K a.fd_answer ["state", "call", "given"] []
  m_answer : mg "answer" = some (.ref a.answer)
  count_given : Fun K "count_given" "count_given" s_count_given a.count_given a.fd_count_given
  b_count_given : Binds K a.fd_count_given ["calls", "place"] []
  m_count_given : mg "count_given" = some (.ref a.count_given)
  initState : Fun K "__init__" "State.__init__" s_initState a.initState a.fd_initState
  b_initState : Binds K a.fd_initState ["self"] []
  answers : Fun K "answers" "answers" s_answers a.answers a.fd_answers
  b_answers : Binds K a.fd_answers ["calls"] []
  m_answers : mg "answers" = some (.ref a.answers)
  clH : Cls K a.cH
  mkH : Mk K a.cH a.initHistory
  mgH : mg "History" = some (.ref a.cH)
  nH_base : NoAttr K a.cH "base"
  nH_base_store : NoAttr K a.cH "base_store"
  nH_commits : NoAttr K a.cH "commits"
  nH_newest : NoAttr K a.cH "newest"
  clT : Cls K a.cT
  mkT : Mk K a.cT a.initTransaction
  mgT : mg "Transaction" = some (.ref a.cT)
  nT_way : NoAttr K a.cT "way"
  nT_sees : NoAttr K a.cT "sees"
  nT_store : NoAttr K a.cT "store"
  nT_writes : NoAttr K a.cT "writes"
  nT_reads : NoAttr K a.cT "reads"
  nT_marks : NoAttr K a.cT "marks"
  clS : Cls K a.cS
  mkS : Mk K a.cS a.initState
  mgS : mg "State" = some (.ref a.cS)
  nS_history : NoAttr K a.cS "history"
  nS_safe : NoAttr K a.cS "safe"
  nS_transactions : NoAttr K a.cS "transactions"
  nS_begun : NoAttr K a.cS "begun"
  HIGHEST_KEY : ∃ t, mg "HIGHEST_KEY" = some (.int 255 t)
  HIGHEST_VALUE : ∃ t, mg "HIGHEST_VALUE" = some (.int 4294967295 t)
  HIGHEST_BASE : ∃ t, mg "HIGHEST_BASE" = some (.int 4294967295 t)
  MOST_KEYS : ∃ t, mg "MOST_KEYS" = some (.int 256 t)
  MODULUS : ∃ t, mg "MODULUS" = some (.int 4294967296 t)
  WRONG : ∃ t, mg "WRONG" = some (.int (-1) t)
  NO_LOG : ∃ t, mg "NO_LOG" = some (.int (-2) t)
  STILL_SEEN : ∃ t, mg "STILL_SEEN" = some (.int (-3) t)
  NONE_SUCH : ∃ t, mg "NONE_SUCH" = some (.int (-4) t)
  CLASH : ∃ t, mg "CLASH" = some (.int (-5) t)
  FULL : ∃ t, mg "FULL" = some (.int (-6) t)
  NO_SUCH_NUMBER : ∃ t, mg "NO_SUCH_NUMBER" = some (.int (-7) t)
  HIGHEST_WAY : ∃ t, mg "HIGHEST_WAY" = some (.int 1 t)
  MOST_READS : ∃ t, mg "MOST_READS" = some (.int 64 t)
  MOST_MARKS : ∃ t, mg "MOST_MARKS" = some (.int 16 t)
  MOST_TRANSACTIONS : ∃ t, mg "MOST_TRANSACTIONS" = some (.int 8 t)
  BEGIN : ∃ t, mg "BEGIN" = some (.int 0 t)
  READ : ∃ t, mg "READ" = some (.int 1 t)
  RANGE : ∃ t, mg "RANGE" = some (.int 2 t)
  WRITE : ∃ t, mg "WRITE" = some (.int 3 t)
  DELETE : ∃ t, mg "DELETE" = some (.int 4 t)
  MARK : ∃ t, mg "MARK" = some (.int 5 t)
  COMMIT : ∃ t, mg "COMMIT" = some (.int 7 t)
  ABORT : ∃ t, mg "ABORT" = some (.int 8 t)
  AT : ∃ t, mg "AT" = some (.int 9 t)
  ALL : ∃ t, mg "ALL" = some (.int 10 t)
  CHANGES : ∃ t, mg "CHANGES" = some (.int 11 t)
  VACUUM : ∃ t, mg "VACUUM" = some (.int 12 t)
  SYNC : ∃ t, mg "SYNC" = some (.int 13 t)
  CRASH : ∃ t, mg "CRASH" = some (.int 14 t)
  RECOVER : ∃ t, mg "RECOVER" = some (.int 16 t)
  SHAPE : ∃ t, mg "SHAPE" = some (.int 17 t)
  GIVEN : (∀ H, SqT K H a.gGIVEN (TxM.given.map fun (n : Nat) => V.int (n : Int))) ∧ mg "GIVEN" = some (.ref a.gGIVEN)
  range : mg "range" = none
  len : mg "len" = none
  dict : mg "dict" = none
  sorted : mg "sorted" = none
  enumerate : mg "enumerate" = none
/-! ### heaps -/
theorem upd_back {H : Hp} {p q : Addr} {o u x : HO} (h : H q = some o) (n : p ≠ q) : upd (upd (upd H q u) p x) q o = upd H p x := by
  funext b
  by_cases e : b = q
  · rw [e, upd_same, upd_ne (fun z => n z.symm), h]
  · rw [upd_ne e]
    by_cases e2 : b = p
    · rw [e2, upd_same, upd_same]
    · rw [upd_ne e2, upd_ne e, upd_ne e2]
theorem same_upd {H : Hp} {p : Addr} {o : HO} (h : H p = none) : Same H (upd H p o) := fun b u e => by
  rw [upd_ne (ne_of_none e h)]; exact e
/-- a new thing o is handed back; all that was is as it was -/
def New (H : Hp) (o : HO) (Q : VK) : Prop := ∀ r H', H r = none → Same H H' → H' r = some o → Q (.ref r) H'
theorem New.at {H : Hp} {o : HO} {Q : VK} (n : New H o Q) {p : Addr} (h : H p = none) : Q (.ref p) (upd H p o) := n p _ h (same_upd h) upd_same
theorem New.from {H H1 : Hp} {o : HO} {Q : VK} (n : New H o Q) (s : Same H H1) : New H1 o Q := fun r H' h s' e => n r H' (s.free h) (s.trans s') e
/-- a list of ints -/
def li (l : List Int) : HO := .lst (l.map V.int)
/-! ### loops over a dict, over enumerate -/
theorem for_keys {d : Addr} {o : Obj} {kvs : List (Key × V)} {g : TG} {tb : TS} {D : Ends} {σ : L2.St} {H : Hp} (Pv : Nat → L2.St → Hp → Prop) (h0 : Pv 0 σ H) (hl : ∀ i σ H, Pv i σ H → H d = some (.frz o (.dK kvs)))
    (hs : ∀ i k v σ H, kvs[i]? = some (k, v) → Pv i σ H → g (kV k) σ H fun σ2 H2 => tb { D with nx := Pv (i + 1), ct := Pv (i + 1), bk := D.nx } σ2 H2) (hd : ∀ σ H, Pv kvs.length σ H → D.nx σ H) :
    ∃ W : Nat → Nat → L2.St → Hp → Prop, (∃ m, W 0 m σ H) ∧ ∀ i m σ H, W i m σ H →
      ((Itk d o kvs).stop i H ∧ D.nx σ H) ∨ ((Itk d o kvs).go i H ∧ ∃ N : L2.St → Hp → Prop, (∀ σ' H', N σ' H' → ∃ m', m' < m ∧ W (i + 1) m' σ' H') ∧ ∀ x H', (Itk d o kvs).yld i H x H' → g x σ H' fun σ2 H2 => tb { D with nx := N, ct := N, bk := D.nx } σ2 H2) := by
  refine ⟨fun i m σ H => m = kvs.length - i ∧ i ≤ kvs.length ∧ Pv i σ H, ⟨kvs.length, by simp, Nat.zero_le _, h0⟩, ?_⟩
  rintro i m σ H ⟨rfl, hi, p⟩
  have q := hl i σ H p
  by_cases hlt : i < kvs.length
  · refine .inr ⟨⟨q, hlt⟩, Pv (i + 1), fun σ' H' p' => ⟨kvs.length - (i + 1), by omega, rfl, hlt, p'⟩, fun x H' y => ?_⟩
    obtain ⟨e, k, v, hk, ex⟩ := y
    subst e ex
    exact hs i k v σ _ hk p
  · have e : i = kvs.length := by omega
    subst e
    exact .inl ⟨⟨q, Nat.le_refl _⟩, hd σ H p⟩
theorem for_vals {d : Addr} {o : Obj} {kvs : List (Key × V)} {g : TG} {tb : TS} {D : Ends} {σ : L2.St} {H : Hp} (Pv : Nat → L2.St → Hp → Prop) (h0 : Pv 0 σ H) (hl : ∀ i σ H, Pv i σ H → H d = some (.frz o (.dK kvs)))
    (hs : ∀ i k v σ H, kvs[i]? = some (k, v) → Pv i σ H → g v σ H fun σ2 H2 => tb { D with nx := Pv (i + 1), ct := Pv (i + 1), bk := D.nx } σ2 H2) (hd : ∀ σ H, Pv kvs.length σ H → D.nx σ H) :
    ∃ W : Nat → Nat → L2.St → Hp → Prop, (∃ m, W 0 m σ H) ∧ ∀ i m σ H, W i m σ H →
      ((Itd d o kvs).stop i H ∧ D.nx σ H) ∨ ((Itd d o kvs).go i H ∧ ∃ N : L2.St → Hp → Prop, (∀ σ' H', N σ' H' → ∃ m', m' < m ∧ W (i + 1) m' σ' H') ∧ ∀ x H', (Itd d o kvs).yld i H x H' → g x σ H' fun σ2 H2 => tb { D with nx := N, ct := N, bk := D.nx } σ2 H2) := by
  refine ⟨fun i m σ H => m = kvs.length - i ∧ i ≤ kvs.length ∧ Pv i σ H, ⟨kvs.length, by simp, Nat.zero_le _, h0⟩, ?_⟩
  rintro i m σ H ⟨rfl, hi, p⟩
  have q := hl i σ H p
  by_cases hlt : i < kvs.length
  · refine .inr ⟨⟨q, hlt⟩, Pv (i + 1), fun σ' H' p' => ⟨kvs.length - (i + 1), by omega, rfl, hlt, p'⟩, fun x H' y => ?_⟩
    obtain ⟨e, k, hk⟩ := y
    subst e
    exact hs i k x σ _ hk p
  · have e : i = kvs.length := by omega
    subst e
    exact .inl ⟨⟨q, Nat.le_refl _⟩, hd σ H p⟩
theorem for_items {d : Addr} {o : Obj} {kvs : List (Key × V)} {g : TG} {tb : TS} {D : Ends} {σ : L2.St} {H : Hp} (Pv : Nat → L2.St → Hp → Prop) (h0 : Pv 0 σ H) (hl : ∀ i σ H, Pv i σ H → H d = some (.frz o (.dK kvs)))
    (hs : ∀ i k v σ H t, kvs[i]? = some (k, v) → Pv i σ H → H t = none → g (.ref t) σ (upd H t (.tup [kV k, v])) fun σ2 H2 => tb { D with nx := Pv (i + 1), ct := Pv (i + 1), bk := D.nx } σ2 H2) (hd : ∀ σ H, Pv kvs.length σ H → D.nx σ H) :
    ∃ W : Nat → Nat → L2.St → Hp → Prop, (∃ m, W 0 m σ H) ∧ ∀ i m σ H, W i m σ H →
      ((Iti d o kvs).stop i H ∧ D.nx σ H) ∨ ((Iti d o kvs).go i H ∧ ∃ N : L2.St → Hp → Prop, (∀ σ' H', N σ' H' → ∃ m', m' < m ∧ W (i + 1) m' σ' H') ∧ ∀ x H', (Iti d o kvs).yld i H x H' → g x σ H' fun σ2 H2 => tb { D with nx := N, ct := N, bk := D.nx } σ2 H2) := by
  refine ⟨fun i m σ H => m = kvs.length - i ∧ i ≤ kvs.length ∧ Pv i σ H, ⟨kvs.length, by simp, Nat.zero_le _, h0⟩, ?_⟩
  rintro i m σ H ⟨rfl, hi, p⟩
  have q := hl i σ H p
  by_cases hlt : i < kvs.length
  · refine .inr ⟨⟨q, hlt⟩, Pv (i + 1), fun σ' H' p' => ⟨kvs.length - (i + 1), by omega, rfl, hlt, p'⟩, fun x H' y => ?_⟩
    obtain ⟨t, k, v, hk, ex, ht, eH⟩ := y
    subst ex eH
    exact hs i k v σ _ t hk p ht
  · have e : i = kvs.length := by omega
    subst e
    exact .inl ⟨⟨q, Nat.le_refl _⟩, hd σ H p⟩
theorem for_enumS {K : PySem.W.Frag} {a : Addr} {lo : Int} {xs : List V} {g : TG} {tb : TS} {D : Ends} {σ : L2.St} {H : Hp} (Pv : Nat → L2.St → Hp → Prop) (h0 : Pv 0 σ H) (hl : ∀ i σ H, Pv i σ H → SqL K H a xs)
    (hs : ∀ i x σ H t, xs[i]? = some x → Pv i σ H → H t = none → g (.ref t) σ (upd H t (.tup [.int (lo + (i : Nat)), x])) fun σ2 H2 => tb { D with nx := Pv (i + 1), ct := Pv (i + 1), bk := D.nx } σ2 H2) (hd : ∀ σ H, Pv xs.length σ H → D.nx σ H) :
    ∃ W : Nat → Nat → L2.St → Hp → Prop, (∃ m, W 0 m σ H) ∧ ∀ i m σ H, W i m σ H →
      ((IteS K a lo).stop i H ∧ D.nx σ H) ∨ ((IteS K a lo).go i H ∧ ∃ N : L2.St → Hp → Prop, (∀ σ' H', N σ' H' → ∃ m', m' < m ∧ W (i + 1) m' σ' H') ∧ ∀ x H', (IteS K a lo).yld i H x H' → g x σ H' fun σ2 H2 => tb { D with nx := N, ct := N, bk := D.nx } σ2 H2) := by
  refine ⟨fun i m σ H => m = xs.length - i ∧ i ≤ xs.length ∧ Pv i σ H, ⟨xs.length, by simp, Nat.zero_le _, h0⟩, ?_⟩
  rintro i m σ H ⟨rfl, hi, p⟩
  have q := hl i σ H p
  by_cases hlt : i < xs.length
  · refine .inr ⟨⟨xs, xs[i], q, by simp [hlt]⟩, Pv (i + 1), fun σ' H' p' => ⟨xs.length - (i + 1), by omega, rfl, hlt, p'⟩, fun x H' y => ?_⟩
    obtain ⟨t, x', ex, ht, eH, hx⟩ := y
    subst ex eH
    exact hs i x' σ _ t (hx xs q) p ht
  · have e : i = xs.length := by omega
    subst e
    exact .inl ⟨⟨xs, q, Nat.le_refl _⟩, hd σ H p⟩
end My

end
section
set_option linter.all false
set_option Elab.async false
set_option maxRecDepth 100000
set_option maxHeartbeats 2000000
namespace My
open PySem PySem.Spec PyProof.Rows L2 TxM
section
variable {P : Program} {w : World} {K : PySem.W.Frag} {mg : Str → Option Value} {base : Heap} {a : Ad}
theorem boot_dict1 : bootBuiltins "dict" = some (.type "dict") := by decide +kernel
theorem boot_sorted1 : bootBuiltins "sorted" = some (.builtin "sorted") := by decide +kernel
theorem sl256 {n : Nat} (h : n ≤ 256) : n < sizeLine := Nat.lt_of_le_of_lt h (by decide)
/-- put: the writes are done in the store -/
def sp_put (_ : PySem.W.Frag) (_ : Ad) : Sp := fun vs H Q _ => ∃ (p q : Addr) (ks kw : List (Key × V)) (s : Tx.Store) (w : Tx.Writes), vs = [.ref p, .ref q] ∧ p ≠ q ∧ H p = some (.dK ks) ∧ H q = some (.dK kw) ∧ DS ks s ∧ DW kw w ∧
  ∀ ks', DS ks' (Tx.applied s w) → Q .non (upd H p (.dK ks'))
theorem eW_non (o : Option Nat) : decide (eW o = .non) = o.isNone := by cases o <;> rfl
theorem ok_put (T : Txt K mg a) : FnOk P w K mg base CX0 1 a.put a.fd_put ["store", "writes"] (sp_put K a) := by
  have sc := sc_put
  refine T.put.ok sc (fun vs H Q E h => ?_) (fun cdv A outer s H vs Q E hr h => ?_)
  · obtain ⟨p, q, ks, kw, s, w, rfl, _⟩ := h
    rfl
  · obtain ⟨p, q, ks, kw, s0, w0, rfl, hpq, hp, hq, ds, dw, k⟩ := h
    have hu := hu_of hr
    obtain ⟨l, rfl, hl⟩ := dw.ex
    have nl := (Nd.of_srt dw.srt).perm hl
    refine ⟨_, (pss_one (ps_lock (ps_for PassesOwn.never rfl (pi_keys (pv 1)) (pg_name (i := 2) sc.nd rfl (Or.inl rfl)) (pss_one (ps_if (pt_cmp (pc_notN (pe_dget hu (pv 1) (pv 2) (fun _ _ => rfl)))) (pss_one (ps_dput hu (pv 0) (pv 2) (pe_dget hu (pv 1) (pv 2) (fun _ _ => rfl)) rfl)) (pss_one (ps_if (pt_cmp (pc_din hu (pv 2) (pv 0))) (pss_one (ps_expr (pe_dpop1 (pv 0) (pv 2) ⟨rfl, rfl, rfl, rfl⟩))) pss_nil))))))), ?_⟩
    refine ⟨q, _, hq, True.intro, fun od => ?_⟩
    refine ⟨_, rfl, q, od, rfl, .inl ⟨_, upd_same, for_keys (fun i σ H' => ∃ v ks', σ = [some (.ref p), some (.ref q), v] ∧ H' = upd (upd H q (.frz od (.dK (enc eW l)))) p (.dK ks') ∧ DS ks' ((l.take i).foldl did s0))
      ⟨none, ks, rfl, ?_, ds⟩ ?_ ?_ ?_⟩⟩
    · funext b
      by_cases e : b = p
      · rw [e, upd_same, upd_ne hpq, hp]
      · rw [upd_ne e]
    · rintro i σ H' ⟨v, ks', rfl, rfl, _⟩
      rw [upd_ne (fun z => hpq z.symm), upd_same]
    · rintro i key val σ H' hi ⟨v, ks', rfl, rfl, d⟩
      obtain ⟨x, hx, rfl, rfl⟩ := enc_get hi
      have xm : x ∈ l := List.mem_of_getElem? hx
      have hx1 : x.1 < 256 := dw.bd x (hl.mem_iff.mp xm)
      have hv : valV (enc eW l) (Sum.inl (x.1 : Int)) = some (eW x.2) := by rw [val_enc, gget_nd nl xm]; rfl
      have rdq : Rd (upd (upd H q (.frz od (.dK (enc eW l)))) p (.dK ks')) q (.dK (enc eW l)) := .inr ⟨od, by rw [upd_ne (fun z => hpq z.symm), upd_same]⟩
      have g1 : DGet (upd (upd H q (.frz od (.dK (enc eW l)))) p (.dK ks')) q (kV (Sum.inl (x.1 : Int))) (some (eW x.2)) := .inl ⟨_, _, rdq, rfl, hv.symm⟩
      have e2 : (l.take (i + 1)).foldl did s0 = did ((l.take i).foldl did s0) x := by rw [take_succ' hx, List.foldl_append]; rfl
      refine ⟨_, rfl, _, rfl, q, _, rfl, g1, _, rfl, ?_⟩
      rw [eW_non]
      cases hx2 : x.2 with
      | some n =>
        refine ⟨_, rfl, _, rfl, q, _, rfl, g1, _, rfl, _, rfl, p, _, rfl, DPut.k upd_same (sl256 d.small), ?_⟩
        refine ⟨_, _, rfl, upd_upd, ?_⟩
        rw [e2, hx2]
        have q1 := d.put hx1 n
        rw [← put_eq] at q1
        have q2 : did ((l.take i).foldl did s0) x = Tx.put x.1 n ((l.take i).foldl did s0) := by unfold did; rw [hx2]
        rw [q2]; exact q1
      | none =>
        have q2 : did ((l.take i).foldl did s0) x = Tx.drop x.1 ((l.take i).foldl did s0) := by unfold did; rw [hx2]
        refine ⟨_, rfl, _, rfl, p, _, rfl, DGet.k (k := Sum.inl (x.1 : Int)) upd_same, _, rfl, ?_⟩
        rw [d.val]
        cases hg : gget ((l.take i).foldl did s0) x.1 with
        | none =>
          refine ⟨_, _, rfl, rfl, ?_⟩
          rw [e2, q2]
          have : Tx.drop x.1 ((l.take i).foldl did s0) = (l.take i).foldl did s0 := srt_ext (srt_filter d.srt) d.srt fun j => by
            show gget (((l.take i).foldl did s0).filter fun y => y.1 != x.1) j = _
            rw [gget_filter (f := fun n => n != x.1)]
            by_cases e : j = x.1
            · rw [e, hg]; simp
            · simp [e]
          rw [this]; exact d
        | some n =>
          refine ⟨_, rfl, p, rfl, .inl ⟨_, .inl upd_same⟩, _, rfl, _, _, _, upd_same, rfl, by rw [d.val, hg]; rfl, ?_⟩
          refine ⟨_, _, rfl, upd_upd, ?_⟩
          rw [e2, q2]; exact d.drop x.1
    · rintro σ H' ⟨v, ks', rfl, rfl, d⟩
      refine ⟨by rw [upd_ne (fun z => hpq z.symm), upd_same], ?_⟩
      rw [upd_back hq hpq]
      have : (enc eW l).length = l.length := List.length_map _
      rw [this, List.take_length, did_perm hl ds.srt dw.srt] at d
      exact k ks' d
end
end My

end
section
set_option linter.all false
set_option Elab.async false
set_option maxRecDepth 100000
set_option maxHeartbeats 2000000
namespace My
open PySem PySem.Spec PyProof.Rows L2 TxM
section
variable {P : Program} {w : World} {K : PySem.W.Frag} {mg : Str → Option Value} {base : Heap} {a : Ad}
/-- with_writes: a new store -/
def sp_with_writes (_ : PySem.W.Frag) (_ : Ad) : Sp := fun vs H Q _ => ∃ (p q : Addr) (ks kw : List (Key × V)) (s : Tx.Store) (w : Tx.Writes), vs = [.ref p, .ref q] ∧ H p = some (.dK ks) ∧ H q = some (.dK kw) ∧ DS ks s ∧ DW kw w ∧
  ∀ ks', DS ks' (Tx.applied s w) → New H (.dK ks') Q
theorem ok_with_writes (T : Txt K mg a) : FnOk P w K mg base CX0 2 a.with_writes a.fd_with_writes ["store", "writes"] (sp_with_writes K a) := by
  have sc := sc_with_writes
  refine T.with_writes.ok sc (fun vs H Q E h => ?_) (fun cdv A outer s H vs Q E hr h => ?_)
  · obtain ⟨p, q, ks, kw, s, w, rfl, _⟩ := h
    rfl
  · obtain ⟨p, q, ks, kw, s0, w0, rfl, hp, hq, ds, dw, k⟩ := h
    refine ⟨_, (pss_cons (ps_set (i := 2) sc.nd rfl (Or.inl rfl) (pe_callTy call_dictD (by rfl) T.dict boot_dict1 (pa_cons (pv 0) pa_nil (hs := sE_Name))))
      (pss_cons (ps_expr (pe_call (ok_put T) (hr.mono (by decide)) rfl T.m_put T.put.kp T.b_put .nil pass0 (pa_cons (pv 2) (pa_cons (pv 1) pa_nil (hs := sE_Name)) (hs := sE_Name))))
      (pss_one (ps_ret (pv 2))))), ?_⟩
    refine ⟨_, rfl, p, ks, rfl, hp, fun r hr0 => ?_⟩
    have hq' : (upd H r (.dK ks)) q = some (.dK kw) := by rw [upd_ne (ne_of_none hq hr0)]; exact hq
    refine ⟨_, rfl, _, rfl, r, q, ks, kw, s0, w0, rfl, fun z => ne_of_none hq hr0 z.symm, upd_same, hq', ds, dw, fun ks' d' => ?_⟩
    refine ⟨_, rfl, ?_⟩
    rw [upd_upd]
    exact (k ks' d').at hr0
/-- pairs_of: a part of a store, told -/
def sp_pairs_of (_ : PySem.W.Frag) (_ : Ad) : Sp := fun vs H Q _ => ∃ (p : Addr) (ks : List (Key × V)) (s : Tx.Store) (lo hi : Nat), vs = [.ref p, .int (lo : Int), .int (hi : Int)] ∧ lo ≤ 255 ∧ hi ≤ 255 ∧ H p = some (.dK ks) ∧ DS ks s ∧
  New H (li (ofN (Tx.storeList (Tx.between s lo hi)))) Q
theorem li_len (l : List Nat) : ((ofN l).map V.int).length = l.length := by rw [List.length_map, ofN_length]
theorem ok_pairs_of (T : Txt K mg a) : FnOk P w K mg base CX0 1 a.pairs_of a.fd_pairs_of ["store", "lo", "hi"] (sp_pairs_of K a) := by
  have sc := sc_pairs_of
  refine T.pairs_of.ok sc (fun vs H Q E h => ?_) (fun cdv A outer s H vs Q E hr h => ?_)
  · obtain ⟨p, ks, s, lo, hi, rfl, _⟩ := h
    rfl
  · obtain ⟨p, ks, s0, lo, hi, rfl, hlo, hhi, hp, ds, k⟩ := h
    have hu := hu_of hr
    refine ⟨_, (pss_cons (ps_set (i := 3) sc.nd rfl (Or.inl rfl) (pe_lst pa_nil))
      (pss_cons (ps_for PassesOwn.never rfl (pi_range2 rfl T.range (pa_cons (pv 1) (pa_cons (pe_op op_add (pv 2) pe_int) pa_nil (hs := sE_BinOp)) (hs := sE_Name))) (pg_name (i := 4) sc.nd rfl (Or.inl rfl)) (pss_one (ps_if (pt_cmp (pc_din hu (pv 4) (pv 0))) (pss_cons (ps_expr (pe_bm PySem.F.plainAttrs_list PySem.F.slot_list_append PySem.F.type_list_append mt_append (pv 3) (pa_cons (pv 4) pa_nil (hs := sE_Name))))
      (pss_one (ps_expr (pe_bm PySem.F.plainAttrs_list PySem.F.slot_list_append PySem.F.type_list_append mt_append (pv 3) (pa_cons (pe_dget hu (pv 0) (pv 4) (fun _ _ => rfl)) pa_nil (hs := sE_Subscript)))))) pss_nil)))
      (pss_one (ps_ret (pv 3))))), ?_⟩
    refine ⟨Nat.zero_le _, fun r hr0 => ?_⟩
    have hpr : p ≠ r := ne_of_none hp hr0
    have hn : ((hi : Int) + 1 - (lo : Int)).toNat = hi + 1 - lo := by omega
    refine ⟨_, rfl, _, rfl, _, _, rfl, rfl, (lo : Int), (hi : Int) + 1, rfl, ⟨by omega, by omega, by omega, by omega⟩, for_range (n := ((hi : Int) + 1 - (lo : Int)).toNat) (fun i σ H' => ∃ v, σ = [some (.ref p), some (.int lo), some (.int hi), some (.ref r), v] ∧ H' = upd H r (li (ofN (Tx.storeList (fw (gget s0) lo i)))))
      ⟨none, rfl, rfl⟩ ?_ ?_⟩
    · rintro i σ H' hi' ⟨v, rfl, rfl⟩
      have hp' : ∀ o, (upd H r o) p = some (.dK ks) := fun o => by rw [upd_ne hpr]; exact hp
      have e1 : (lo : Int) + (i : Int) = ((lo + i : Nat) : Int) := by omega
      rw [e1]
      have hsm : (Tx.storeList (fw (gget s0) lo i)).length ≤ 512 := by
        rw [storeList_len]
        have := len_bd (srt_fw (gget s0) lo i) (fun q hq => ds.bd q (mem_of_gget (mem_fw hq).2.2))
        omega
      refine ⟨_, rfl, _, rfl, p, _, rfl, DGet.k (k := Sum.inl ((lo + i : Nat) : Int)) (hp' _), _, rfl, ?_⟩
      rw [ds.val]
      cases hg : gget s0 (lo + i) with
      | none =>
        refine ⟨_, rfl, ?_⟩
        rw [fw_succ, hg]
        show _ = upd H r (li (ofN (Tx.storeList (fw (gget s0) lo i ++ []))))
        rw [List.append_nil]
      | some n =>
        refine ⟨_, rfl, .inl ⟨rfl, _, SqL.of upd_same⟩, _, rfl, r, _, _, rfl, rfl, upd_same, by rw [li_len]; exact Nat.lt_of_le_of_lt hsm (by decide), ?_⟩
        rw [upd_upd]
        refine ⟨_, rfl, .inl ⟨rfl, _, SqL.of upd_same⟩, _, rfl, _, rfl, p, _, rfl, .inl ⟨_, _, .inl (hp' _), rfl, by rw [ds.val, hg]; rfl⟩, r, _, _, rfl, rfl, upd_same, by rw [List.length_append, li_len]; exact Nat.lt_of_le_of_lt (Nat.add_le_add_right hsm 1) (by decide), ?_⟩
        rw [upd_upd]
        refine ⟨_, rfl, ?_⟩
        rw [fw_succ, hg, storeList_append]
        congr 1
        show HO.lst _ = HO.lst _
        rw [ofN_append, List.map_append, List.append_assoc]
        rfl
    · rintro σ H' ⟨v, rfl, rfl⟩
      refine ⟨_, rfl, ?_⟩
      rw [hn, fw_between ds.srt]
      exact k.at hr0
/-- value_answer -/
def vans : Option Nat → List Int
  | some v => [1, 1, (v : Int)]
  | none => [0]
def sp_value_answer (_ : PySem.W.Frag) (_ : Ad) : Sp := fun vs H Q _ => ∃ (o : Option Nat), vs = [eW o] ∧ New H (li (vans o)) Q
theorem ok_value_answer (T : Txt K mg a) : FnOk P w K mg base CX0 1 a.value_answer a.fd_value_answer ["value"] (sp_value_answer K a) := by
  have sc := sc_value_answer
  refine T.value_answer.ok sc (fun vs H Q E h => ?_) (fun cdv A outer s H vs Q E hr h => ?_)
  · obtain ⟨o, rfl, _⟩ := h
    rfl
  · obtain ⟨o, rfl, k⟩ := h
    refine ⟨_, (pss_cons (ps_if (pt_cmp (pc_isN (pv 0))) (pss_one (ps_ret (pe_lst (pa_cons pe_int pa_nil (hs := sE_Constant))))) pss_nil)
      (pss_one (ps_ret (pe_lst (pa_cons pe_int (pa_cons pe_int (pa_cons (pv 0) pa_nil (hs := sE_Name)) (hs := sE_Constant)) (hs := sE_Constant)))))), ?_⟩
    refine ⟨_, rfl, _, rfl, ?_⟩
    rw [eW_non]
    cases o with
    | none => exact ⟨by show 1 ≤ sizeLine; decide, fun r hr0 => k.at hr0⟩
    | some v => exact ⟨_, rfl, by show 3 ≤ sizeLine; decide, fun r hr0 => k.at hr0⟩
/-- list_answer -/
def sp_list_answer (_ : PySem.W.Frag) (_ : Ad) : Sp := fun vs H Q _ => ∃ (z : Int) (p : Addr) (l : List Int), vs = [.int z, .ref p] ∧ H p = some (li l) ∧ l.length ≤ 100000 ∧ New H (li (z :: (l.length : Int) :: l)) Q
theorem ok_list_answer (T : Txt K mg a) : FnOk P w K mg base CX0 1 a.list_answer a.fd_list_answer ["first", "numbers"] (sp_list_answer K a) := by
  have sc := sc_list_answer
  refine T.list_answer.ok sc (fun vs H Q E h => ?_) (fun cdv A outer s H vs Q E hr h => ?_)
  · obtain ⟨z, p, l, rfl, _⟩ := h
    rfl
  · obtain ⟨z, p, l, rfl, hp, hl, k⟩ := h
    refine ⟨_, (pss_one (ps_ret (pe_op op_cat (pe_lst (pa_cons (pv 0) (pa_cons (pe_callB call_len_seq (by rfl) T.len PySem.boot_len (pa_cons (pv 1) pa_nil (hs := sE_Name))) pa_nil (hs := sE_Call)) (hs := sE_Name))) (pv 1)))), ?_⟩
    refine ⟨_, rfl, _, rfl, p, _, rfl, .inl (SqL.of hp), ?_⟩
    refine ⟨by show 2 ≤ sizeLine; decide, fun r hr0 => ?_⟩
    have hp' : ∀ o, (upd H r o) p = some (li l) := fun o => by rw [upd_ne (ne_of_none hp hr0)]; exact hp
    refine ⟨_, rfl, r, p, _, _, rfl, rfl, upd_same, hp' _, ?_, fun r2 hr2 => ?_⟩
    · show 2 + (l.map V.int).length ≤ sizeLine
      rw [List.length_map]
      exact Nat.le_trans (Nat.add_le_add_left hl 2) (by decide)
    · have s1 : Same H (upd H r (.lst [.int z, .int (l.map V.int).length])) := same_upd hr0
      rw [List.length_map] at hr2 s1 ⊢
      exact k r2 _ (s1.free hr2) (s1.trans (same_upd hr2)) upd_same
/-- part_answer -/
def sp_part_answer (_ : PySem.W.Frag) (_ : Ad) : Sp := fun vs H Q _ => ∃ (p : Addr) (ks : List (Key × V)) (s : Tx.Store) (lo hi : Nat), vs = [.ref p, .int (lo : Int), .int (hi : Int)] ∧ lo ≤ 255 ∧ hi ≤ 255 ∧ H p = some (.dK ks) ∧ DS ks s ∧
  New H (li (TxNeutral.shown (Tx.gives (Tx.between s lo hi)))) Q
theorem ok_part_answer (T : Txt K mg a) : FnOk P w K mg base CX0 2 a.part_answer a.fd_part_answer ["store", "lo", "hi"] (sp_part_answer K a) := by
  have sc := sc_part_answer
  refine T.part_answer.ok sc (fun vs H Q E h => ?_) (fun cdv A outer s H vs Q E hr h => ?_)
  · obtain ⟨p, ks, s, lo, hi, rfl, _⟩ := h
    rfl
  · obtain ⟨p, ks, s0, lo, hi, rfl, hlo, hhi, hp, ds, k⟩ := h
    have hu := hu_of hr
    have hsm : (Tx.storeList (Tx.between s0 lo hi)).length ≤ 512 := by
      rw [storeList_len]
      have := len_bd (srt_filter ds.srt (f := fun (x : Nat × Nat) => decide (lo ≤ x.1) && decide (x.1 ≤ hi))) (fun q hq => ds.bd q (List.mem_filter.mp hq).1)
      have e : Tx.between s0 lo hi = s0.filter fun (x : Nat × Nat) => decide (lo ≤ x.1) && decide (x.1 ≤ hi) := rfl
      rw [e]
      omega
    refine ⟨_, (pss_cons (ps_set (i := 3) sc.nd rfl (Or.inl rfl) (pe_call (ok_pairs_of T) (hr.mono (by decide)) rfl T.m_pairs_of T.pairs_of.kp T.b_pairs_of .nil pass0 (pa_cons (pv 0) (pa_cons (pv 1) (pa_cons (pv 2) pa_nil (hs := sE_Name)) (hs := sE_Name)) (hs := sE_Name))))
      (pss_one (ps_ret (pe_call (ok_list_answer T) (hr.mono (by decide)) rfl T.m_list_answer T.list_answer.kp T.b_list_answer .nil pass0 (pa_cons (pe_op op_fdiv (pe_callB call_len_seq (by rfl) T.len PySem.boot_len (pa_cons (pv 3) pa_nil (hs := sE_Name))) pe_int) (pa_cons (pv 3) pa_nil (hs := sE_Name)) (hs := sE_BinOp)))))), ?_⟩
    refine ⟨_, rfl, _, rfl, _, rfl, p, ks, s0, lo, hi, rfl, hlo, hhi, hp, ds, fun r H1 hr0 s1 e1 => ?_⟩
    refine ⟨_, rfl, r, _, rfl, .inl (SqL.of e1), _, _, rfl, rfl, ⟨by decide, by decide⟩, _, rfl, _, r, _, rfl, e1, by rw [ofN_length]; omega, ?_⟩
    refine (New.from ?_ s1)
    have e2 : (((ofN (Tx.storeList (Tx.between s0 lo hi))).map V.int).length : Int) / 2 = ((Tx.between s0 lo hi).length : Int) := by
      rw [li_len, storeList_len]; omega
    rw [e2]
    have e3 : TxNeutral.shown (Tx.gives (Tx.between s0 lo hi)) = ((Tx.between s0 lo hi).length : Int) :: ((Tx.storeList (Tx.between s0 lo hi)).length : Int) :: ofN (Tx.storeList (Tx.between s0 lo hi)) := shown_one _ _
    rw [e3] at k
    rw [ofN_length]
    exact k
end
end My

end
section
set_option linter.all false
set_option Elab.async false
set_option maxRecDepth 100000
set_option maxHeartbeats 2000000
namespace My
open PySem PySem.Spec PyProof.Rows L2 TxM
section
variable {P : Program} {w : World} {K : PySem.W.Frag} {mg : Str → Option Value} {base : Heap} {a : Ad}
theorem upd_comm {H : Hp} {p q : Addr} {o u : HO} (n : p ≠ q) : upd (upd H p o) q u = upd (upd H q u) p o := by
  funext b
  by_cases e : b = q
  · rw [e, upd_same, upd_ne (fun z => n z.symm), upd_same]
  · rw [upd_ne e]
    by_cases e2 : b = p
    · rw [e2, upd_same, upd_same]
    · rw [upd_ne e2, upd_ne e2, upd_ne e]
theorem _root_.L2.Same.on {H H' : Hp} {r : Addr} {o : HO} (s : Same H H') (h : H r = none) : Same H (upd H' r o) := fun b u e => by
  rw [upd_ne (ne_of_none e h)]; exact s b u e
theorem keep {H' : Hp} {b r : Addr} {o u : HO} (e : H' b = some o) (n : H' r = none) : (upd H' r u) b = some o := by
  rw [upd_ne (ne_of_none e n)]; exact e
/-- check_over -/
def sp_check_over (K : PySem.W.Frag) (_ : Ad) : Sp := fun vs H Q _ => ∃ (c : Nat) (p : Addr) (l : List Nat), vs = [.int (c : Int), .ref p] ∧ SqL K H p ((ofN l).map V.int) ∧ Q (.int (Tx.check c l : Nat)) H
theorem li_get {l : List Nat} {i : Nat} {x : V} (h : ((ofN l).map V.int)[i]? = some x) : ∃ n : Nat, l[i]? = some n ∧ x = .int (n : Int) := by
  unfold ofN at h
  rw [List.map_map, List.getElem?_map] at h
  obtain ⟨n, h1, h2⟩ := Option.map_eq_some_iff.mp h
  exact ⟨n, h1, h2.symm⟩
theorem ok_check_over (T : Txt K mg a) : FnOk P w K mg base CX0 1 a.check_over a.fd_check_over ["check", "numbers"] (sp_check_over K a) := by
  have sc := sc_check_over
  refine T.check_over.ok sc (fun vs H Q E h => ?_) (fun cdv A outer s H vs Q E hr h => ?_)
  · obtain ⟨c, p, l, rfl, _⟩ := h
    rfl
  · obtain ⟨c, p, l, rfl, hS, k⟩ := h
    refine ⟨_, (pss_cons (ps_for PassesOwn.never rfl (pi_list (pv 1)) (pg_name (i := 2) sc.nd rfl (Or.inl rfl)) (pss_one (ps_set (i := 0) sc.nd rfl (Or.inl rfl) (pe_op op_mod (pe_op op_add (pe_op op_add (pe_op op_mul pe_int (pv 0)) (pv 2)) pe_int) (pe_gint rfl T.MODULUS)))))
      (pss_one (ps_ret (pv 0)))), ?_⟩
    refine ⟨_, rfl, p, rfl, ⟨_, hS⟩, for_list (K := K) (a := p) (xs := (ofN l).map V.int) (fun i σ H' => ∃ v, σ = [some (.int (Tx.check c (l.take i) : Nat)), some (.ref p), v] ∧ H' = H) ⟨none, rfl, rfl⟩ (fun i σ H' _ ⟨_, _, e⟩ => by rw [e]; exact hS) ?_ ?_⟩
    · rintro i x σ H' hi ⟨v, rfl, rfl⟩
      obtain ⟨n, hn, rfl⟩ := li_get hi
      refine ⟨_, rfl, _, _, rfl, rfl, .inl ⟨by decide, by decide⟩, _, rfl, _, _, rfl, rfl, _, _, rfl, rfl, _, _, rfl, rfl, by show (0 : Int) < 4294967296; decide, ?_⟩
      refine ⟨some (.int (n : Int)), ?_, rfl⟩
      rw [check_take hn]
      show [some (V.int _), _, _] = [some (V.int _), _, _]
      congr 3
    · rintro σ H' ⟨v, rfl, rfl⟩
      refine ⟨_, rfl, ?_⟩
      rw [li_len, List.take_length]
      exact k
/-- numbers_of: writes, told -/
def sp_numbers_of (_ : PySem.W.Frag) (_ : Ad) : Sp := fun vs H Q _ => ∃ (p : Addr) (kw : List (Key × V)) (w : Tx.Writes), vs = [.ref p] ∧ H p = some (.dK kw) ∧ DW kw w ∧ New H (li (ofN (Tx.writesList w))) Q
theorem enc_keys {α : Type} (e : α → V) (l : List (Nat × α)) : (enc e l).map (·.1) = (l.map fun p => (p.1 : Int)).map Sum.inl := by
  unfold enc; rw [List.map_map, List.map_map]; rfl
theorem ok_numbers_of (T : Txt K mg a) : FnOk P w K mg base CX0 1 a.numbers_of a.fd_numbers_of ["writes"] (sp_numbers_of K a) := by
  have sc := sc_numbers_of
  refine T.numbers_of.ok sc (fun vs H Q E h => ?_) (fun cdv A outer s H vs Q E hr h => ?_)
  · obtain ⟨p, kw, w, rfl, _⟩ := h
    rfl
  · obtain ⟨p, kw, w0, rfl, hp, dw, k⟩ := h
    have hu := hu_of hr
    obtain ⟨l, rfl, hl⟩ := dw.ex
    refine ⟨_, (pss_cons (ps_set (i := 1) sc.nd rfl (Or.inl rfl) (pe_lst pa_nil))
      (pss_cons (ps_for PassesOwn.never rfl (pi_list (pe_callB (call_sortedD rfl) (by rfl) T.sorted boot_sorted1 (pa_cons (pv 0) pa_nil (hs := sE_Name)))) (pg_name (i := 2) sc.nd rfl (Or.inl rfl)) (pss_cons (ps_set (i := 3) sc.nd rfl (Or.inl rfl) (pe_dget hu (pv 0) (pv 2) (fun _ _ => rfl)))
      (pss_one (ps_if (pt_cmp (pc_isN (pv 3))) (pss_one (ps_expr (pe_bm PySem.F.plainAttrs_list PySem.F.slot_list_extend PySem.F.type_list_extend mt_extend (pv 1) (pa_cons (pe_lst (pa_cons (pv 2) (pa_cons pe_int (pa_cons pe_int pa_nil (hs := sE_Constant)) (hs := sE_Constant)) (hs := sE_Name))) pa_nil (hs := sE_List))))) (pss_one (ps_expr (pe_bm PySem.F.plainAttrs_list PySem.F.slot_list_extend PySem.F.type_list_extend mt_extend (pv 1) (pa_cons (pe_lst (pa_cons (pv 2) (pa_cons pe_int (pa_cons (pv 3) pa_nil (hs := sE_Name)) (hs := sE_Constant)) (hs := sE_Name))) pa_nil (hs := sE_List)))))))))
      (pss_one (ps_ret (pv 1))))), ?_⟩
    refine ⟨Nat.zero_le _, fun r hr0 => ?_⟩
    have hp1 : (upd H r (.lst [])) p = some (.dK (enc eW l)) := keep hp hr0
    refine ⟨_, rfl, p, _, _, rfl, hp1, enc_keys eW l, fun ns p2 hperm hord hp2 => ?_⟩
    have ens := dw.sorted (enc_keys eW l) hperm hord
    subst ens
    have np2 : H p2 = none := (same_upd hr0).free hp2
    have nrp : r ≠ p2 := ne_of_none (H := upd H r (.lst [])) upd_same hp2
    have hsmall : ∀ i, (Tx.writesList (w0.take i)).length ≤ 768 := fun i => by
      rw [writesList_len, List.length_take]
      have := len_bd dw.srt dw.bd
      omega
    refine ⟨p2, rfl, ⟨_, SqL.of upd_same⟩, for_list (K := K) (a := p2) (xs := (w0.map fun q => (q.1 : Int)).map V.int) (fun i σ H' => ∃ v1 v2, σ = [some (.ref p), some (.ref r), v1, v2] ∧ Same H H' ∧ H' r = some (li (ofN (Tx.writesList (w0.take i)))) ∧ H' p2 = some (.lst ((w0.map fun q => (q.1 : Int)).map V.int)))
      ⟨none, none, rfl, (same_upd hr0).on np2, keep upd_same hp2, upd_same⟩ (fun i σ H' _ ⟨_, _, _, _, _, e⟩ => SqL.of e) ?_ ?_⟩
    · rintro i x σ H' hi ⟨v1, v2, rfl, s1, e1, e2⟩
      rw [List.map_map, List.getElem?_map] at hi
      obtain ⟨y, hy, rfl⟩ := Option.map_eq_some_iff.mp hi
      have hg : gget w0 y.1 = some y.2 := gget_of_mem dw.srt (List.mem_of_getElem? hy)
      have hp' := s1 _ _ hp
      refine ⟨_, rfl, _, rfl, p, _, rfl, .inl ⟨_, Sum.inl (y.1 : Int), .inl hp', rfl, by rw [dw.val, hg]; rfl⟩, ?_⟩
      refine ⟨_, rfl, _, rfl, ?_⟩
      rw [eW_non]
      have el := writesList_take hy
      cases hy2 : y.2 with
      | none =>
        refine ⟨_, rfl, .inl ⟨rfl, _, SqL.of e1⟩, _, rfl, by show 3 ≤ sizeLine; decide, fun t ht => ?_⟩
        have nt : H t = none := s1.free ht
        refine ⟨r, t, _, _, rfl, rfl, keep e1 ht, upd_same, by rw [li_len]; exact Nat.le_trans (Nat.add_le_add_right (hsmall i) 3) (by decide), ?_⟩
        refine ⟨_, _, rfl, (s1.on nt).on hr0, ?_, ?_⟩
        · rw [upd_same, el]
          unfold tell1
          rw [hy2]
          show some (HO.lst _) = some (HO.lst _)
          rw [ofN_append, List.map_append]; rfl
        · rw [upd_ne (fun z => nrp z.symm)]; exact keep e2 ht
      | some n =>
        refine ⟨_, rfl, .inl ⟨rfl, _, SqL.of e1⟩, _, rfl, _, rfl, by show 3 ≤ sizeLine; decide, fun t ht => ?_⟩
        have nt : H t = none := s1.free ht
        refine ⟨r, t, _, _, rfl, rfl, keep e1 ht, upd_same, by rw [li_len]; exact Nat.le_trans (Nat.add_le_add_right (hsmall i) 3) (by decide), ?_⟩
        refine ⟨_, _, rfl, (s1.on nt).on hr0, ?_, ?_⟩
        · rw [upd_same, el]
          unfold tell1
          rw [hy2]
          show some (HO.lst _) = some (HO.lst _)
          rw [ofN_append, List.map_append]; rfl
        · rw [upd_ne (fun z => nrp z.symm)]; exact keep e2 ht
    · rintro σ H' ⟨v1, v2, rfl, s1, e1, e2⟩
      refine ⟨_, rfl, ?_⟩
      rw [List.length_map, List.length_map, List.take_length] at e1
      exact k r H' hr0 s1 e1
end
end My

end
section
set_option linter.all false
set_option Elab.async false
set_option maxRecDepth 100000
set_option maxHeartbeats 2000000
namespace My
open PySem PySem.Spec PyProof.Rows L2 TxM
section
variable {P : Program} {w : World} {K : PySem.W.Frag} {mg : Str → Option Value} {base : Heap} {a : Ad}
theorem dN (x y : Nat) : decide (V.int (x : Int) = V.int (y : Int)) = decide (x = y) := by
  by_cases h : x = y
  · rw [h]; simp
  · rw [decide_eq_false h, decide_eq_false]
    intro z
    injection z with z
    omega
/-- is_write -/
def sp_is_write (_ : PySem.W.Frag) (_ : Ad) : Sp := fun vs H Q _ => ∃ (f v : Nat), vs = [.int (f : Int), .int (v : Int)] ∧ Q (.bl (isW f v)) H
theorem ok_is_write (T : Txt K mg a) : FnOk P w K mg base CX0 1 a.is_write a.fd_is_write ["there", "value"] (sp_is_write K a) := by
  have sc := sc_is_write
  refine T.is_write.ok sc (fun vs H Q E h => ?_) (fun cdv A outer s H vs Q E hr h => ?_)
  · obtain ⟨f, v, rfl, _⟩ := h
    rfl
  · obtain ⟨f, v, rfl, k⟩ := h
    refine ⟨_, (pss_cons (ps_if (pt_cmpR op_eq (pv 0) pe_int (nomark _)) (pss_one (ps_ret (pe_cmpR op_le (pv 1) (pe_gint rfl T.HIGHEST_VALUE) (nomark _)))) pss_nil)
      (pss_one (ps_ret (pe_and (pe_cmpR op_eq (pv 0) pe_int (nomark _)) (pe_one (pe_cmpR op_eq (pv 1) pe_int (nomark _))))))), ?_⟩
    refine ⟨_, rfl, rfl, _, rfl, ?_⟩
    have e1 : decide (V.int (f : Int) = V.int 1) = decide (f = 1) := dN f 1
    have e2 : decide (V.int (f : Int) = V.int 0) = decide (f = 0) := dN f 0
    have e3 : decide (V.int (v : Int) = V.int 0) = decide (v = 0) := dN v 0
    unfold isW at k
    by_cases h1 : f = 1
    · rw [if_pos h1] at k
      rw [e1, decide_eq_true h1]
      refine iteT ⟨_, rfl, _, _, rfl, rfl, ?_⟩
      have e4 : decide ((v : Int) ≤ 4294967295) = decide (v ≤ 4294967295) := by
        by_cases z : v ≤ 4294967295
        · rw [decide_eq_true z, decide_eq_true (by omega)]
        · rw [decide_eq_false z, decide_eq_false (by omega)]
      rw [← e4] at k
      exact k
    · rw [if_neg h1] at k
      rw [e1, decide_eq_false h1]
      refine iteF ⟨_, rfl, rfl, _, rfl, ?_⟩
      rw [e2]
      by_cases h2 : f = 0
      · rw [decide_eq_true h2, Bool.true_and] at k
        rw [decide_eq_true h2]
        refine iteT ⟨_, rfl, rfl, ?_⟩
        rw [← e3] at k
        exact k
      · rw [decide_eq_false h2, Bool.false_and] at k
        rw [decide_eq_false h2]
        exact iteF k
/-! ### store_from, writes_from -/
theorem gput_last {α : Type} {k : Nat} {v : α} : ∀ {s : List (Nat × α)}, (∀ p ∈ s, p.1 < k) → gput k v s = s ++ [(k, v)]
  | [], _ => rfl
  | x :: r, h => by
    have h1 := h x (List.mem_cons_self ..)
    show (if k < x.1 then (k, v) :: x :: r else if k = x.1 then (k, v) :: r else x :: gput k v r) = _
    rw [if_neg (by omega), if_neg (by omega), gput_last fun p hp => h p (List.mem_cons_of_mem _ hp)]
    rfl
theorem rgC {n c : Nat} (hc : 1 ≤ c) (hc2 : c ≤ 10) (hn : n ≤ 100000) : RgC 0 ((c * n : Nat) : Int) (c : Int) n := by
  have hle : c * n ≤ 1000000 := Nat.le_trans (Nat.mul_le_mul hc2 hn) (by decide)
  have e : Builtin.Range.rangeSize 0 ((c * n : Nat) : Int) (c : Int) = n := by
    rw [rangeSize_pos (by omega) (by omega)]
    have h1 : (((c * n : Nat) : Int) + c - 1) = (c - 1) + (n : Int) * c := by
      rw [Int.natCast_mul, Int.mul_comm (c : Int)]; omega
    rw [h1, Int.add_mul_ediv_right _ _ (by omega), Int.ediv_eq_zero_of_lt (by omega) (by omega)]
    omega
  refine ⟨by omega, by omega, ?_, e⟩
  unfold Builtin.Range.small
  rw [e]
  have hpos : (c : Int) > 0 := by omega
  simp only [Builtin.Range.rangeFitsLong, Bool.and_eq_true, Bool.or_eq_true, decide_eq_true_eq, beq_iff_eq, hpos, if_true]
  omega
def sp_store_from (_ : PySem.W.Frag) (_ : Ad) : Sp := fun vs H Q _ => ∃ (p : Addr) (l : List Nat) (n : Nat), vs = [.ref p] ∧ H p = some (li (ofN l)) ∧ l.length = 2 * n ∧ n ≤ 256 ∧
  (sf (-1) l = none → ∀ H', Same H H' → Q .non H') ∧ ∀ s ks, sf (-1) l = some s → DS ks s → New H (.dK ks) Q
theorem drop_two {l : List Nat} {i n : Nat} (hl : l.length = 2 * n) (hi : i < n) : ∃ k v, l.drop (2 * i) = k :: v :: l.drop (2 * (i + 1)) ∧ l[2 * i]? = some k ∧ l[2 * i + 1]? = some v := by
  have h1 : 2 * i < l.length := by omega
  have h2 : 2 * i + 1 < l.length := by omega
  refine ⟨l[2 * i], l[2 * i + 1], ?_, List.getElem?_eq_getElem h1, List.getElem?_eq_getElem h2⟩
  rw [List.drop_eq_getElem_cons h1, List.drop_eq_getElem_cons h2]
  rfl
theorem li_at {l : List Nat} {j n : Nat} (h : l[j]? = some n) : ((ofN l).map V.int)[j]? = some (.int (n : Int)) := by
  unfold ofN
  rw [List.map_map, List.getElem?_map, h]; rfl
theorem ok_store_from (T : Txt K mg a) : FnOk P w K mg base CX0 1 a.store_from a.fd_store_from ["pairs"] (sp_store_from K a) := by
  have sc := sc_store_from
  refine T.store_from.ok sc (fun vs H Q E h => ?_) (fun cdv A outer s H vs Q E hr h => ?_)
  · obtain ⟨p, l, n, rfl, _⟩ := h
    rfl
  · obtain ⟨p, l, n, rfl, hp, hl, hn, k1, k2⟩ := h
    have hu := hu_of hr
    refine ⟨_, (pss_cons (ps_set (i := 1) sc.nd rfl (Or.inl rfl) pe_dnewK)
      (pss_cons (ps_set (i := 2) sc.nd rfl (Or.inl rfl) (pe_un un_neg pe_int))
      (pss_cons (ps_for PassesOwn.never rfl (pi_range3 rfl T.range (pa_cons pe_int (pa_cons (pe_callB call_len_seq (by rfl) T.len PySem.boot_len (pa_cons (pv 0) pa_nil (hs := sE_Name))) (pa_cons pe_int pa_nil (hs := sE_Constant)) (hs := sE_Call)) (hs := sE_Constant))) (pg_name (i := 3) sc.nd rfl (Or.inl rfl)) (pss_cons (ps_set (i := 4) sc.nd rfl (Or.inl rfl) (pe_ix ix_list (pv 0) (pv 3) (fun _ _ => rfl)))
      (pss_cons (ps_set (i := 5) sc.nd rfl (Or.inl rfl) (pe_ix ix_list (pv 0) (pe_op op_add (pv 3) pe_int) (fun _ _ => rfl)))
      (pss_cons (ps_if (PW.pt (pw_or (pt_cmpR op_le (pv 4) (pv 2) (nomark _)) (pw_or (pt_cmpR op_gt (pv 4) (pe_gint rfl T.HIGHEST_KEY) (nomark _)) (pw_or1 (pt_cmpR op_gt (pv 5) (pe_gint rfl T.HIGHEST_VALUE) (nomark _)))))) (pss_one (ps_ret pe_non)) pss_nil)
      (pss_cons (ps_dput hu (pv 1) (pv 4) (pv 5) rfl)
      (pss_one (ps_set (i := 2) sc.nd rfl (Or.inl rfl) (pv 4))))))))
      (pss_one (ps_ret (pv 1)))))), ?_⟩
    intro r hr0
    refine ⟨_, rfl, ?_⟩
    have hp' : ∀ o, (upd H r o) p = some (li (ofN l)) := fun o => keep hp hr0
    have hlen : (((ofN l).map V.int).length : Int) = ((2 * n : Nat) : Int) := by rw [li_len, hl]
    refine ⟨_, rfl, p, _, rfl, .inl (SqL.of (hp' _)), 0, (((ofN l).map V.int).length : Int), 2, n, rfl, by rw [hlen]; exact rgC (by decide) (by decide) (by omega),
      for_rangeC (fun i σ H' => ∃ (v1 v2 v3 : Option V) (bef : Int) (s : Tx.Store) (ks : List (Key × V)), σ = [some (.ref p), some (.ref r), some (.int bef), v1, v2, v3] ∧ H' = upd H r (.dK ks) ∧ DS ks s ∧ (∀ q ∈ s, (q.1 : Int) ≤ bef) ∧ sf (-1) l = (sf bef (l.drop (2 * i))).map (s ++ ·))
      ⟨none, none, none, -1, [], [], rfl, rfl, D.nil, fun _ hq => (nomatch hq), by rw [Nat.mul_zero, List.drop_zero]; cases sf (-1) l <;> rfl⟩ ?_ ?_⟩
    · rintro i σ H' hi ⟨v1, v2, v3, bef, s1, ks, rfl, rfl, ds, hb, es⟩
      obtain ⟨key, val, ed, g1, g2⟩ := drop_two hl hi
      have e1 : (0 : Int) + ((i : Nat) : Int) * 2 = ((2 * i : Nat) : Int) := by omega
      rw [e1]
      refine ⟨_, rfl, _, rfl, p, _, _, _, rfl, rfl, SqL.of (hp' _), atI_nat (li_at g1), ?_⟩
      refine ⟨_, rfl, _, rfl, _, _, rfl, rfl, p, _, _, _, rfl, rfl, SqL.of (hp' _), at_of (j := 2 * i + 1) (by omega) (li_at g2), ?_⟩
      have esf : sf bef (l.drop (2 * i)) = if (key : Int) ≤ bef ∨ 255 < key ∨ 4294967295 < val then none else (sf key (l.drop (2 * (i + 1)))).map fun s => (key, val) :: s := by rw [ed]; rfl
      have bad : ((key : Int) ≤ bef ∨ 255 < key ∨ 4294967295 < val) → Q .non (upd H r (.dK ks)) := fun hc => by
        rw [esf, if_pos hc] at es
        exact k1 es _ (same_upd hr0)
      refine ⟨_, rfl, _, rfl, _, _, rfl, rfl, _, rfl, ite2 (fun h1 => iteT (bad (.inl (of_decide_eq_true h1)))) fun h1 => ?_⟩
      refine ⟨_, rfl, _, _, rfl, rfl, _, rfl, ite2 (fun h2 => iteT (bad (.inr (.inl (by have := of_decide_eq_true h2; omega))))) fun h2 => ?_⟩
      refine ⟨_, rfl, _, _, rfl, rfl, _, rfl, ite2 (fun h3 => bad (.inr (.inr (by have := of_decide_eq_true h3; omega)))) fun h3 => ?_⟩
      have n1 : ¬ (key : Int) ≤ bef := fun z => h1 (decide_eq_true z)
      have n2 : ¬ 255 < key := fun z => h2 (decide_eq_true (by omega))
      have n3 : ¬ 4294967295 < val := fun z => h3 (decide_eq_true (by omega))
      refine ⟨_, rfl, _, rfl, _, rfl, r, _, rfl, DPut.k (k := Sum.inl (key : Int)) upd_same (sl256 ds.small), ?_⟩
      rw [upd_upd]
      refine ⟨_, rfl, _, _, _, _, s1 ++ [(key, val)], _, rfl, rfl, ?_, fun q hq => ?_, ?_⟩
      · have := ds.put (k := key) (by omega) val
        rw [gput_last fun q hq => by have := hb q hq; omega] at this
        exact this
      · rcases List.mem_append.mp hq with e | e
        · have := hb q e; omega
        · have e' : q = (key, val) := by simpa using e
          rw [e']; exact Int.le_refl _
      · rw [es, esf, if_neg (by intro z; rcases z with z | z | z; exact n1 z; exact n2 z; exact n3 z)]
        cases sf (key : Int) (l.drop (2 * (i + 1))) with
        | none => rfl
        | some s2 =>
          show some (s1 ++ (key, val) :: s2) = some (s1 ++ [(key, val)] ++ s2)
          rw [List.append_assoc]; rfl
    · rintro σ H' ⟨v1, v2, v3, bef, s1, ks, rfl, rfl, ds, hb, es⟩
      refine ⟨_, rfl, ?_⟩
      rw [List.drop_eq_nil_of_le (by omega)] at es
      have e2 : sf (-1) l = some s1 := by rw [es]; show some (s1 ++ []) = some s1; rw [List.append_nil]
      exact (k2 s1 ks e2 ds).at hr0
end
end My

end
section
set_option linter.all false
set_option Elab.async false
set_option maxRecDepth 100000
set_option maxHeartbeats 2000000
namespace My
open PySem PySem.Spec PyProof.Rows L2 TxM
section
variable {P : Program} {w : World} {K : PySem.W.Frag} {mg : Str → Option Value} {base : Heap} {a : Ad}
def sp_writes_from (_ : PySem.W.Frag) (_ : Ad) : Sp := fun vs H Q _ => ∃ (p : Addr) (l : List Nat) (n : Nat), vs = [.ref p] ∧ H p = some (li (ofN l)) ∧ l.length = 3 * n ∧ n ≤ 256 ∧
  (wf (-1) l = none → ∀ H', Same H H' → Q .non H') ∧ ∀ s ks, wf (-1) l = some s → DW ks s → New H (.dK ks) Q
theorem drop_three {l : List Nat} {i n : Nat} (hl : l.length = 3 * n) (hi : i < n) : ∃ k f v, l.drop (3 * i) = k :: f :: v :: l.drop (3 * (i + 1)) ∧ l[3 * i]? = some k ∧ l[3 * i + 1]? = some f ∧ l[3 * i + 2]? = some v := by
  have h1 : 3 * i < l.length := by omega
  have h2 : 3 * i + 1 < l.length := by omega
  have h3 : 3 * i + 2 < l.length := by omega
  refine ⟨l[3 * i], l[3 * i + 1], l[3 * i + 2], ?_, List.getElem?_eq_getElem h1, List.getElem?_eq_getElem h2, List.getElem?_eq_getElem h3⟩
  rw [List.drop_eq_getElem_cons h1, List.drop_eq_getElem_cons h2, List.drop_eq_getElem_cons h3]
  rfl
theorem ok_writes_from (T : Txt K mg a) : FnOk P w K mg base CX0 2 a.writes_from a.fd_writes_from ["numbers"] (sp_writes_from K a) := by
  have sc := sc_writes_from
  refine T.writes_from.ok sc (fun vs H Q E h => ?_) (fun cdv A outer s H vs Q E hr h => ?_)
  · obtain ⟨p, l, n, rfl, _⟩ := h
    rfl
  · obtain ⟨p, l, n, rfl, hp, hl, hn, k1, k2⟩ := h
    have hu := hu_of hr
    refine ⟨_, (pss_cons (ps_set (i := 1) sc.nd rfl (Or.inl rfl) pe_dnewK)
      (pss_cons (ps_set (i := 2) sc.nd rfl (Or.inl rfl) (pe_un un_neg pe_int))
      (pss_cons (ps_for PassesOwn.never rfl (pi_range3 rfl T.range (pa_cons pe_int (pa_cons (pe_callB call_len_seq (by rfl) T.len PySem.boot_len (pa_cons (pv 0) pa_nil (hs := sE_Name))) (pa_cons pe_int pa_nil (hs := sE_Constant)) (hs := sE_Call)) (hs := sE_Constant))) (pg_name (i := 3) sc.nd rfl (Or.inl rfl)) (pss_cons (ps_set (i := 4) sc.nd rfl (Or.inl rfl) (pe_ix ix_list (pv 0) (pv 3) (fun _ _ => rfl)))
      (pss_cons (ps_set (i := 5) sc.nd rfl (Or.inl rfl) (pe_ix ix_list (pv 0) (pe_op op_add (pv 3) pe_int) (fun _ _ => rfl)))
      (pss_cons (ps_set (i := 6) sc.nd rfl (Or.inl rfl) (pe_ix ix_list (pv 0) (pe_op op_add (pv 3) pe_int) (fun _ _ => rfl)))
      (pss_cons (ps_if (PW.pt (pw_or (pt_cmpR op_le (pv 4) (pv 2) (nomark _)) (pw_or (pt_cmpR op_gt (pv 4) (pe_gint rfl T.HIGHEST_KEY) (nomark _)) (pw_or1 (pt_not (pt_val (pe_call (ok_is_write T) (hr.mono (by decide)) rfl T.m_is_write T.is_write.kp T.b_is_write .nil pass0 (pa_cons (pv 5) (pa_cons (pv 6) pa_nil (hs := sE_Name)) (hs := sE_Name))))))))) (pss_one (ps_ret pe_non)) pss_nil)
      (pss_cons (ps_dput hu (pv 1) (pv 4) (pe_ifExp (pt_cmpR op_eq (pv 5) pe_int (nomark _)) (pv 6) pe_non) rfl)
      (pss_one (ps_set (i := 2) sc.nd rfl (Or.inl rfl) (pv 4)))))))))
      (pss_one (ps_ret (pv 1)))))), ?_⟩
    intro r hr0
    refine ⟨_, rfl, ?_⟩
    have hp' : ∀ o, (upd H r o) p = some (li (ofN l)) := fun o => keep hp hr0
    have hlen : (((ofN l).map V.int).length : Int) = ((3 * n : Nat) : Int) := by rw [li_len, hl]
    refine ⟨_, rfl, p, _, rfl, .inl (SqL.of (hp' _)), 0, (((ofN l).map V.int).length : Int), 3, n, rfl, by rw [hlen]; exact rgC (by decide) (by decide) (by omega),
      for_rangeC (fun i σ H' => ∃ (v1 v2 v3 v4 : Option V) (bef : Int) (s : Tx.Writes) (ks : List (Key × V)), σ = [some (.ref p), some (.ref r), some (.int bef), v1, v2, v3, v4] ∧ H' = upd H r (.dK ks) ∧ DW ks s ∧ (∀ q ∈ s, (q.1 : Int) ≤ bef) ∧ wf (-1) l = (wf bef (l.drop (3 * i))).map (s ++ ·))
      ⟨none, none, none, none, -1, [], [], rfl, rfl, D.nil, fun _ hq => (nomatch hq), by rw [Nat.mul_zero, List.drop_zero]; cases wf (-1) l <;> rfl⟩ ?_ ?_⟩
    · rintro i σ H' hi ⟨v1, v2, v3, v4, bef, s1, ks, rfl, rfl, ds, hb, es⟩
      obtain ⟨key, fl, val, ed, g1, g2, g3⟩ := drop_three hl hi
      have e1 : (0 : Int) + ((i : Nat) : Int) * 3 = ((3 * i : Nat) : Int) := by omega
      rw [e1]
      refine ⟨_, rfl, _, rfl, p, _, _, _, rfl, rfl, SqL.of (hp' _), atI_nat (li_at g1), ?_⟩
      refine ⟨_, rfl, _, rfl, _, _, rfl, rfl, p, _, _, _, rfl, rfl, SqL.of (hp' _), at_of (j := 3 * i + 1) (by omega) (li_at g2), ?_⟩
      refine ⟨_, rfl, _, rfl, _, _, rfl, rfl, p, _, _, _, rfl, rfl, SqL.of (hp' _), at_of (j := 3 * i + 2) (by omega) (li_at g3), ?_⟩
      have esf : wf bef (l.drop (3 * i)) = if (key : Int) ≤ bef ∨ 255 < key ∨ isW fl val = false then none else (wf key (l.drop (3 * (i + 1)))).map fun s => (key, if fl = 1 then some val else none) :: s := by rw [ed]; rfl
      have bad : ((key : Int) ≤ bef ∨ 255 < key ∨ isW fl val = false) → Q .non (upd H r (.dK ks)) := fun hc => by
        rw [esf, if_pos hc] at es
        exact k1 es _ (same_upd hr0)
      refine ⟨_, rfl, _, rfl, _, _, rfl, rfl, _, rfl, ite2 (fun h1 => iteT (bad (.inl (of_decide_eq_true h1)))) fun h1 => ?_⟩
      refine ⟨_, rfl, _, _, rfl, rfl, _, rfl, ite2 (fun h2 => iteT (bad (.inr (.inl (by have := of_decide_eq_true h2; omega))))) fun h2 => ?_⟩
      refine ⟨_, rfl, _, rfl, fl, val, rfl, _, rfl, ?_⟩
      cases hw : isW fl val with
      | false => exact iteT (bad (.inr (.inr hw)))
      | true =>
        have n1 : ¬ (key : Int) ≤ bef := fun z => h1 (decide_eq_true z)
        have n2 : ¬ 255 < key := fun z => h2 (decide_eq_true (by omega))
        have n3 : ¬ isW fl val = false := by rw [hw]; decide
        have fin : ∀ o, o = (if fl = 1 then some val else none) → ∃ (v1 v2 v3 v4 : Option V) (bef : Int) (s : Tx.Writes) (ks' : List (Key × V)), [some (V.ref p), some (V.ref r), some (V.int (key : Int)), some (V.int ((3 * i : Nat) : Int)), some (V.int (key : Int)), some (V.int (fl : Int)), some (V.int (val : Int))] = [some (.ref p), some (.ref r), some (.int bef), v1, v2, v3, v4] ∧ upd H r (.dK (putK ks (Sum.inl (key : Int)) (eW o))) = upd H r (.dK ks') ∧ DW ks' s ∧ (∀ q ∈ s, (q.1 : Int) ≤ bef) ∧ wf (-1) l = (wf bef (l.drop (3 * (i + 1)))).map (s ++ ·) := by
          rintro o ho
          refine ⟨_, _, _, _, _, s1 ++ [(key, o)], _, rfl, rfl, ?_, fun q hq => ?_, ?_⟩
          · have := ds.put (k := key) (by omega) o
            rw [gput_last fun q hq => by have := hb q hq; omega] at this
            exact this
          · rcases List.mem_append.mp hq with e | e
            · have := hb q e; omega
            · have e' : q = (key, o) := by simpa using e
              rw [e']; exact Int.le_refl _
          · rw [es, esf, if_neg (by intro z; rcases z with z | z | z; exact n1 z; exact n2 z; exact n3 z), ← ho]
            cases wf (key : Int) (l.drop (3 * (i + 1))) with
            | none => rfl
            | some s2 =>
              show some (s1 ++ (key, o) :: s2) = some (s1 ++ [(key, o)] ++ s2)
              rw [List.append_assoc]; rfl
        refine iteF ⟨_, rfl, rfl, _, rfl, ?_⟩
        have e5 : decide (V.int (fl : Int) = V.int 1) = decide (fl = 1) := dN fl 1
        rw [e5]
        by_cases hf : fl = 1
        · rw [decide_eq_true hf]
          refine iteT ⟨_, rfl, _, rfl, _, rfl, r, _, rfl, DPut.k (k := Sum.inl (key : Int)) upd_same (sl256 ds.small), ?_⟩
          rw [upd_upd]
          exact ⟨_, rfl, fin (some val) (by rw [if_pos hf])⟩
        · rw [decide_eq_false hf]
          refine iteF ⟨_, rfl, _, rfl, r, _, rfl, DPut.k (k := Sum.inl (key : Int)) upd_same (sl256 ds.small), ?_⟩
          rw [upd_upd]
          exact ⟨_, rfl, fin none (by rw [if_neg hf])⟩
    · rintro σ H' ⟨v1, v2, v3, v4, bef, s1, ks, rfl, rfl, ds, hb, es⟩
      refine ⟨_, rfl, ?_⟩
      rw [List.drop_eq_nil_of_le (by omega)] at es
      have e2 : wf (-1) l = some s1 := by rw [es]; show some (s1 ++ []) = some s1; rw [List.append_nil]
      exact (k2 s1 ks e2 ds).at hr0
/-! ### writes_between -/
def sp_writes_between (_ : PySem.W.Frag) (_ : Ad) : Sp := fun vs H Q _ => ∃ (p q : Addr) (ka kb : List (Key × V)) (sa sb : Tx.Store), vs = [.ref p, .ref q] ∧ p ≠ q ∧ H p = some (.dK ka) ∧ H q = some (.dK kb) ∧ DS ka sa ∧ DS kb sb ∧
  ∀ kw, DW kw (Tx.differ sa sb) → New H (.dK kw) Q
def wb1 (sb : Tx.Store) (W : Tx.Writes) (x : Nat × Nat) : Tx.Writes := if (gget sb x.1).isNone = true then gput x.1 none W else W
def wb2 (sa : Tx.Store) (W : Tx.Writes) (x : Nat × Nat) : Tx.Writes := if (!decide (gget sa x.1 = some x.2)) = true then gput x.1 (some x.2) W else W
theorem wb_differ {la lb sa sb : Tx.Store} (ha : la.Perm sa) (hb : lb.Perm sb) (ssa : Srt sa) (ssb : Srt sb) (ba : Bd sa) (bb : Bd sb) : lb.foldl (wb2 sa) (la.foldl (wb1 sb) []) = Tx.differ sa sb := by
  have s1 : Srt (la.foldl (wb1 sb) []) := srt_fold (fun x : Nat × Nat => (gget sb x.1).isNone) (fun _ => (none : Option Nat)) la [] List.Pairwise.nil
  refine srt_ext (srt_fold (fun x : Nat × Nat => !decide (gget sa x.1 = some x.2)) (fun x => some x.2) lb _ s1) (bd_differ sa sb).1 fun k => ?_
  have e1 := gget_fold (fun x : Nat × Nat => !decide (gget sa x.1 = some x.2)) (fun x => some x.2) k lb (la.foldl (wb1 sb) []) ((Nd.of_srt ssb).perm hb)
  have e2 := gget_fold (fun x : Nat × Nat => (gget sb x.1).isNone) (fun _ => (none : Option Nat)) k la [] ((Nd.of_srt ssa).perm ha)
  rw [gget_perm hb (Nd.of_srt ssb)] at e1
  rw [gget_perm ha (Nd.of_srt ssa)] at e2
  refine Eq.trans e1 ?_
  rw [differ_eq, gget_fw]
  have e2' : gget (la.foldl (wb1 sb) []) k = match gget sa k with
      | some x => if (gget sb k).isNone = true then some none else none
      | none => none := by
    refine Eq.trans e2 ?_
    cases gget sa k <;> rfl
  rw [e2']
  by_cases hk : k < 256
  · rw [if_pos (show 0 ≤ k ∧ k < 0 + 256 by omega)]
    cases h1 : gget sb k with
    | none =>
      cases h2 : gget sa k with
      | none => rfl
      | some x => rfl
    | some y =>
      cases h2 : gget sa k with
      | none =>
        show (if (!decide (gget sa k = some y)) = true then some (some y) else none) = if (none : Option Nat) = some y then none else some (some y)
        rw [h2]; simp
      | some x =>
        show (if (!decide (gget sa k = some y)) = true then some (some y) else if (some y : Option Nat).isNone = true then some none else none) = if (some x : Option Nat) = some y then none else some (some y)
        rw [h2]
        by_cases e : (some x : Option Nat) = some y
        · rw [if_pos e, decide_eq_true e]; rfl
        · rw [if_neg e, decide_eq_false e]; rfl
  · rw [if_neg (show ¬ (0 ≤ k ∧ k < 0 + 256) by omega), bb.get (by omega), ba.get (by omega)]
theorem ok_writes_between (T : Txt K mg a) : FnOk P w K mg base CX0 1 a.writes_between a.fd_writes_between ["before", "behind"] (sp_writes_between K a) := by
  have sc := sc_writes_between
  refine T.writes_between.ok sc (fun vs H Q E h => ?_) (fun cdv A outer s H vs Q E hr h => ?_)
  · obtain ⟨p, q, ka, kb, sa, sb, rfl, _⟩ := h
    rfl
  · obtain ⟨p, q, ka, kb, sa, sb, rfl, hpq, hp, hq, da, db, k⟩ := h
    have hu := hu_of hr
    obtain ⟨la, rfl, hla⟩ := da.ex
    obtain ⟨lb, rfl, hlb⟩ := db.ex
    refine ⟨_, (pss_cons (ps_set (i := 2) sc.nd rfl (Or.inl rfl) pe_dnewK)
      (pss_cons (ps_lock (ps_for PassesOwn.never rfl (pi_keys (pv 0)) (pg_name (i := 3) sc.nd rfl (Or.inl rfl)) (pss_one (ps_if (pt_cmp (pc_dnotin hu (pv 3) (pv 1))) (pss_one (ps_dput hu (pv 2) (pv 3) pe_non rfl)) pss_nil))))
      (pss_cons (ps_lock (ps_for PassesOwn.never rfl (pi_keys (pv 1)) (pg_name (i := 3) sc.nd rfl (Or.inl rfl)) (pss_one (ps_if (pt_cmpR op_ne (pe_dget hu (pv 1) (pv 3) (fun _ _ => rfl)) (pe_dget1 hu (pv 0) (pv 3) ⟨rfl, rfl, rfl, rfl⟩) (nomark _)) (pss_one (ps_dput hu (pv 2) (pv 3) (pe_dget hu (pv 1) (pv 3) (fun _ _ => rfl)) rfl)) pss_nil))))
      (pss_one (ps_ret (pv 2)))))), ?_⟩
    intro r hr0
    have npr : p ≠ r := ne_of_none hp hr0
    have nqr : q ≠ r := ne_of_none hq hr0
    refine ⟨p, _, keep hp hr0, True.intro, fun od => ?_⟩
    refine ⟨_, rfl, p, od, rfl, .inl ⟨_, upd_same, for_keys (fun i σ H' => ∃ v kW, σ = [some (.ref p), some (.ref q), some (.ref r), v] ∧ H' = upd (upd H p (.frz od (.dK (enc eS la)))) r (.dK kW) ∧ DW kW ((la.take i).foldl (wb1 sb) []))
      ⟨none, [], rfl, upd_comm (fun z => npr z.symm), D.nil⟩ ?_ ?_ ?_⟩⟩
    · rintro i σ H' ⟨v, kW, rfl, rfl, _⟩
      rw [upd_ne npr, upd_same]
    · rintro i key val σ H' hi ⟨v, kW, rfl, rfl, d⟩
      obtain ⟨x, hx, rfl, rfl⟩ := enc_get hi
      have hx1 : x.1 < 256 := da.bd x (hla.mem_iff.mp (List.mem_of_getElem? hx))
      have e2 : (la.take (i + 1)).foldl (wb1 sb) [] = wb1 sb ((la.take i).foldl (wb1 sb) []) x := by rw [take_succ' hx, List.foldl_append]; rfl
      have hq' : ∀ o u, (upd (upd H p o) r u) q = some (.dK (enc eS lb)) := fun o u => by rw [upd_ne nqr, upd_ne (fun z => hpq z.symm)]; exact hq
      refine ⟨_, rfl, _, rfl, q, _, rfl, DGet.k (k := Sum.inl (x.1 : Int)) (hq' _ _), _, rfl, ?_⟩
      rw [db.val, Option.isSome_map]
      cases hg : gget sb x.1 with
      | none =>
        refine ⟨_, rfl, _, rfl, r, _, rfl, DPut.k (k := Sum.inl (x.1 : Int)) upd_same (sl256 d.small), _, _, rfl, upd_upd, ?_⟩
        rw [e2]
        unfold wb1
        rw [hg]
        exact d.put hx1 none
      | some y =>
        refine ⟨_, _, rfl, rfl, ?_⟩
        rw [e2]
        unfold wb1
        rw [hg]
        exact d
    · rintro σ H' ⟨v, kW, rfl, rfl, d⟩
      refine ⟨by rw [upd_ne npr, upd_same], ?_⟩
      rw [upd_back hp (fun z => npr z.symm)]
      have el : (enc eS la).length = la.length := List.length_map _
      rw [el, List.take_length] at d
      -- the second loop
      refine ⟨q, _, keep hq hr0, True.intro, fun od2 => ?_⟩
      refine ⟨_, rfl, q, od2, rfl, .inl ⟨_, upd_same, for_keys (fun i σ H' => ∃ v kW, σ = [some (.ref p), some (.ref q), some (.ref r), v] ∧ H' = upd (upd H q (.frz od2 (.dK (enc eS lb)))) r (.dK kW) ∧ DW kW ((lb.take i).foldl (wb2 sa) (la.foldl (wb1 sb) [])))
        ⟨_, kW, rfl, upd_comm (fun z => nqr z.symm), d⟩ ?_ ?_ ?_⟩⟩
      · rintro i σ H' ⟨v, kW, rfl, rfl, _⟩
        rw [upd_ne nqr, upd_same]
      · rintro i key val σ H' hi ⟨v, kW, rfl, rfl, d⟩
        obtain ⟨x, hx, rfl, rfl⟩ := enc_get hi
        have xm := hlb.mem_iff.mp (List.mem_of_getElem? hx)
        have hx1 : x.1 < 256 := db.bd x xm
        have hgb : gget sb x.1 = some x.2 := gget_of_mem db.srt xm
        have e2 : (lb.take (i + 1)).foldl (wb2 sa) (la.foldl (wb1 sb) []) = wb2 sa ((lb.take i).foldl (wb2 sa) (la.foldl (wb1 sb) [])) x := by rw [take_succ' hx, List.foldl_append]; rfl
        have hp' : ∀ o u, (upd (upd H q o) r u) p = some (.dK (enc eS la)) := fun o u => by rw [upd_ne npr, upd_ne hpq]; exact hp
        have rq : ∀ u, DGet (upd (upd H q (.frz od2 (.dK (enc eS lb)))) r u) q (kV (Sum.inl (x.1 : Int))) (some (eS x.2)) := fun u => .inl ⟨_, _, .inr ⟨od2, by rw [upd_ne nqr, upd_same]⟩, rfl, by rw [db.val, hgb]; rfl⟩
        refine ⟨_, rfl, _, rfl, q, _, rfl, rq _, _, rfl, p, rfl, .inl ⟨_, .inl (hp' _ _)⟩, _, rfl, _, DGet.k (k := Sum.inl (x.1 : Int)) (hp' _ _), ?_⟩
        rw [da.val]
        have fin : (!decide (gget sa x.1 = some x.2)) = true → _ := fun z => z
        cases hg : gget sa x.1 with
        | none =>
          refine ⟨rfl, _, rfl, ?_⟩
          refine iteT ⟨_, rfl, _, rfl, q, _, rfl, rq _, _, rfl, _, rfl, r, _, rfl, DPut.k (k := Sum.inl (x.1 : Int)) upd_same (sl256 d.small), _, _, rfl, upd_upd, ?_⟩
          rw [e2]
          unfold wb2
          rw [hg]
          exact d.put hx1 (some x.2)
        | some y =>
          refine ⟨rfl, _, rfl, ?_⟩
          have e6 : decide (eS x.2 = eS y) = decide (x.2 = y) := dN x.2 y
          show if (!decide (eS x.2 = eS y)) = true then _ else _
          rw [e6]
          by_cases hxy : x.2 = y
          · rw [decide_eq_true hxy]
            refine ⟨_, _, rfl, rfl, ?_⟩
            rw [e2]
            show DW kW (if (!decide (gget sa x.1 = some x.2)) = true then gput x.1 (some x.2) _ else _)
            rw [hg, hxy, decide_eq_true rfl]
            exact d
          · rw [decide_eq_false hxy]
            refine iteT ⟨_, rfl, _, rfl, q, _, rfl, rq _, _, rfl, _, rfl, r, _, rfl, DPut.k (k := Sum.inl (x.1 : Int)) upd_same (sl256 d.small), _, _, rfl, upd_upd, ?_⟩
            rw [e2]
            unfold wb2
            rw [hg, decide_eq_false (fun z => hxy (Option.some.inj z).symm)]
            exact d.put hx1 (some x.2)
      · rintro σ H' ⟨v, kW, rfl, rfl, d⟩
        refine ⟨by rw [upd_ne nqr, upd_same], ?_⟩
        rw [upd_back hq (fun z => nqr z.symm)]
        have el : (enc eS lb).length = lb.length := List.length_map _
        rw [el, List.take_length, wb_differ hla hlb da.srt db.srt da.bd db.bd] at d
        exact ⟨_, rfl, (k kW d).at hr0⟩
end
end My

end
section
set_option linter.all false
set_option Elab.async false
set_option maxRecDepth 100000
set_option maxHeartbeats 2000000
namespace My
open PySem PySem.Spec PyProof.Rows L2 TxM
/-! ### slices -/
theorem cut_hi (xs : List V) (k : Nat) : cutV xs none (some (k : Int)) = xs.take k := by
  unfold cutV
  rw [HT.sIx_none, HT.sIx_nat, List.drop_zero, Nat.sub_zero]
  by_cases h : k ≤ xs.length
  · rw [Nat.min_eq_left h]
  · rw [Nat.min_eq_right (by omega), List.take_length, List.take_of_length_le (by omega)]
theorem cut_lo (xs : List V) (k : Nat) : cutV xs (some (k : Int)) none = xs.drop k := by
  unfold cutV
  rw [HT.sIx_none, HT.sIx_nat]
  by_cases h : k ≤ xs.length
  · rw [Nat.min_eq_left h, List.take_of_length_le (by rw [List.length_drop]; omega)]
  · rw [Nat.min_eq_right (by omega), List.drop_length, List.drop_eq_nil_of_le (by omega), List.take_nil]
theorem cut_both (xs : List V) {i j : Nat} (h1 : i ≤ j) (h2 : j ≤ xs.length) : cutV xs (some (i : Int)) (some (j : Int)) = (xs.drop i).take (j - i) := by
  unfold cutV
  rw [HT.sIx_nat, HT.sIx_nat, Nat.min_eq_left (by omega), Nat.min_eq_left (by omega)]
theorem li_cut (l : List Nat) {i j : Nat} (h1 : i ≤ j) (h2 : j ≤ l.length) : cutV ((ofN l).map V.int) (some (i : Int)) (some (j : Int)) = (ofN ((l.drop i).take (j - i))).map V.int := by
  rw [cut_both _ h1 (by rw [li_len]; exact h2)]
  unfold ofN
  rw [List.map_take, List.map_take, List.map_drop, List.map_drop]
/-! ### lists of writes' dicts -/
def Wds (H : Hp) : List Addr → List Tx.Writes → Prop
  | [], [] => True
  | c :: cs, w :: ws => (∃ kw, H c = some (.dK kw) ∧ DW kw w) ∧ Wds H cs ws
  | _, _ => False
theorem Wds.len {H : Hp} : ∀ {cs : List Addr} {ws : List Tx.Writes}, Wds H cs ws → cs.length = ws.length
  | [], [], _ => rfl
  | [], _ :: _, h => h.elim
  | _ :: _, [], h => h.elim
  | _ :: cs, _ :: ws, h => by rw [List.length_cons, List.length_cons, Wds.len h.2]
theorem Wds.get {H : Hp} : ∀ {cs : List Addr} {ws : List Tx.Writes} {i : Nat} {c : Addr}, Wds H cs ws → cs[i]? = some c → ∃ w kw, ws[i]? = some w ∧ H c = some (.dK kw) ∧ DW kw w
  | [], [], i, c, _, h => by simp at h
  | [], _ :: _, _, _, h, _ => h.elim
  | _ :: _, [], _, _, h, _ => h.elim
  | d :: cs, w :: ws, 0, c, h, e => by
    have e' : d = c := Option.some.inj e
    subst e'
    obtain ⟨⟨kw, h1, h2⟩, _⟩ := h
    exact ⟨w, kw, rfl, h1, h2⟩
  | d :: cs, w :: ws, i + 1, c, h, e => Wds.get (i := i) h.2 e
theorem Wds.on {H H' : Hp} : ∀ {cs : List Addr} {ws : List Tx.Writes}, Wds H cs ws → (∀ c ∈ cs, ∀ o, H c = some o → H' c = some o) → Wds H' cs ws
  | [], [], _, _ => True.intro
  | [], _ :: _, h, _ => h.elim
  | _ :: _, [], h, _ => h.elim
  | d :: cs, w :: ws, h, k => by
    obtain ⟨⟨kw, h1, h2⟩, h3⟩ := h
    exact ⟨⟨kw, k d (List.mem_cons_self ..) _ h1, h2⟩, h3.on fun c hc => k c (List.mem_cons_of_mem _ hc)⟩
theorem Wds.same {H H' : Hp} {cs : List Addr} {ws : List Tx.Writes} (h : Wds H cs ws) (s : Same H H') : Wds H' cs ws := h.on fun c _ o e => s c o e
theorem Wds.app {H : Hp} : ∀ {cs ds : List Addr} {ws vs : List Tx.Writes}, Wds H cs ws → Wds H ds vs → Wds H (cs ++ ds) (ws ++ vs)
  | [], ds, [], vs, _, h => h
  | [], _, _ :: _, _, h, _ => h.elim
  | _ :: _, _, [], _, h, _ => h.elim
  | d :: cs, ds, w :: ws, vs, h, h2 => ⟨h.1, Wds.app h.2 h2⟩
theorem Wds.take {H : Hp} : ∀ {cs : List Addr} {ws : List Tx.Writes} (n : Nat), Wds H cs ws → Wds H (cs.take n) (ws.take n)
  | _, _, 0, _ => True.intro
  | [], [], _ + 1, _ => True.intro
  | [], _ :: _, _ + 1, h => h.elim
  | _ :: _, [], _ + 1, h => h.elim
  | d :: cs, w :: ws, n + 1, h => ⟨h.1, Wds.take n h.2⟩
theorem Wds.drop {H : Hp} : ∀ {cs : List Addr} {ws : List Tx.Writes} (n : Nat), Wds H cs ws → Wds H (cs.drop n) (ws.drop n)
  | _, _, 0, h => h
  | [], [], _ + 1, _ => True.intro
  | [], _ :: _, _ + 1, h => h.elim
  | _ :: _, [], _ + 1, h => h.elim
  | d :: cs, w :: ws, n + 1, h => Wds.drop n h.2
theorem Wds.one {H : Hp} {c : Addr} {kw : List (Key × V)} {w : Tx.Writes} (h : H c = some (.dK kw)) (d : DW kw w) : Wds H [c] [w] := ⟨⟨kw, h, d⟩, True.intro⟩
theorem Wds.live {H : Hp} {cs : List Addr} {ws : List Tx.Writes} (h : Wds H cs ws) {c : Addr} (hc : c ∈ cs) : ∃ kw, H c = some (.dK kw) := by
  obtain ⟨i, hi⟩ := List.mem_iff_getElem?.mp hc
  obtain ⟨w, kw, _, h1, _⟩ := h.get hi
  exact ⟨kw, h1⟩
/-! ### fields -/
theorem putF_hit {f : Str} {v u : V} {r : List (Str × V)} : putF f v ((f, u) :: r) = (f, v) :: r := by
  show (if f = f then (f, v) :: r else _) = _
  rw [if_pos rfl]
theorem putF_miss {f g : Str} {v u : V} {r : List (Str × V)} (h : ¬ g = f) : putF f v ((g, u) :: r) = (g, u) :: putF f v r := by
  show (if g = f then (g, v) :: r else (g, u) :: putF f v r) = _
  rw [if_neg h]
theorem lk_hit {f : Str} {u : V} {r : List (Str × V)} : List.lookup f ((f, u) :: r) = some u := by
  rw [List.lookup_cons, beq_self_eq_true]
theorem lk_miss {f g : Str} {u : V} {r : List (Str × V)} (h : ¬ f = g) : List.lookup f ((g, u) :: r) = List.lookup f r := by
  rw [List.lookup_cons, beq_eq_false_iff_ne.mpr h]
/-- a History's attributes, as its methods ask them -/
structure HF (fs : List (Str × V)) (b : Nat) (bs cl : Addr) : Prop where
  base : fs.lookup ("base" : Str) = some (.int (b : Int))
  store : fs.lookup ("base_store" : Str) = some (.ref bs)
  commits : fs.lookup ("commits" : Str) = some (.ref cl)
  now : fs.lookup ("now" : Str) = none
  store_at : fs.lookup ("store_at" : Str) = none
  tells : fs.lookup ("tells" : Str) = none
  behind : fs.lookup ("commits_behind" : Str) = none
  add : fs.lookup ("add_commit" : Str) = none
  below : fs.lookup ("drop_below" : Str) = none
  above : fs.lookup ("drop_above" : Str) = none
def hf3 (b : Nat) (bs cl : Addr) : List (Str × V) := [("base", .int (b : Int)), ("base_store", .ref bs), ("commits", .ref cl)]
def hf4 (b : Nat) (bs cl nw : Addr) : List (Str × V) := [("base", .int (b : Int)), ("base_store", .ref bs), ("commits", .ref cl), ("newest", .ref nw)]
theorem lk3 {f : Str} {b : Nat} {bs cl : Addr} (h1 : ¬ f = "base") (h2 : ¬ f = "base_store") (h3 : ¬ f = "commits") : (hf3 b bs cl).lookup f = none := by
  unfold hf3; rw [lk_miss h1, lk_miss h2, lk_miss h3]; rfl
theorem lk4 {f : Str} {b : Nat} {bs cl nw : Addr} (h1 : ¬ f = "base") (h2 : ¬ f = "base_store") (h3 : ¬ f = "commits") (h4 : ¬ f = "newest") : (hf4 b bs cl nw).lookup f = none := by
  unfold hf4; rw [lk_miss h1, lk_miss h2, lk_miss h3, lk_miss h4]; rfl
theorem HF.three (b : Nat) (bs cl : Addr) : HF (hf3 b bs cl) b bs cl := by
  refine ⟨lk_hit, ?_, ?_, ?_, ?_, ?_, ?_, ?_, ?_, ?_⟩
  · unfold hf3; rw [lk_miss (by decide +kernel), lk_hit]
  · unfold hf3; rw [lk_miss (by decide +kernel), lk_miss (by decide +kernel), lk_hit]
  all_goals exact lk3 (by decide +kernel) (by decide +kernel) (by decide +kernel)
theorem HF.four (b : Nat) (bs cl nw : Addr) : HF (hf4 b bs cl nw) b bs cl := by
  refine ⟨lk_hit, ?_, ?_, ?_, ?_, ?_, ?_, ?_, ?_, ?_⟩
  · unfold hf4; rw [lk_miss (by decide +kernel), lk_hit]
  · unfold hf4; rw [lk_miss (by decide +kernel), lk_miss (by decide +kernel), lk_hit]
  all_goals exact lk4 (by decide +kernel) (by decide +kernel) (by decide +kernel) (by decide +kernel)
theorem hf4_newest (b : Nat) (bs cl nw : Addr) : (hf4 b bs cl nw).lookup ("newest" : Str) = some (.ref nw) := by
  unfold hf4; rw [lk_miss (by decide +kernel), lk_miss (by decide +kernel), lk_miss (by decide +kernel), lk_hit]
theorem hf4_base (b b' : Nat) (bs cl nw : Addr) : putF "base" (.int (b' : Int)) (hf4 b bs cl nw) = hf4 b' bs cl nw := putF_hit
theorem hf4_store (b : Nat) (bs bs' cl nw : Addr) : putF "base_store" (.ref bs') (hf4 b bs cl nw) = hf4 b bs' cl nw := by
  unfold hf4; rw [putF_miss (by decide +kernel), putF_hit]
theorem hf4_commits (b : Nat) (bs cl cl' nw : Addr) : putF "commits" (.ref cl') (hf4 b bs cl nw) = hf4 b bs cl' nw := by
  unfold hf4; rw [putF_miss (by decide +kernel), putF_miss (by decide +kernel), putF_hit]
theorem hf4_new (b : Nat) (bs cl nw nw' : Addr) : putF "newest" (.ref nw') (hf4 b bs cl nw) = hf4 b bs cl nw' := by
  unfold hf4; rw [putF_miss (by decide +kernel), putF_miss (by decide +kernel), putF_miss (by decide +kernel), putF_hit]
theorem hf34 (b : Nat) (bs cl nw : Addr) : putF "newest" (.ref nw) (hf3 b bs cl) = hf4 b bs cl nw := by
  unfold hf3; rw [putF_miss (by decide +kernel), putF_miss (by decide +kernel), putF_miss (by decide +kernel)]; rfl
section
variable {P : Program} {w : World} {K : PySem.W.Frag} {mg : Str → Option Value} {base : Heap} {a : Ad}
/-! ### History.now, tells, store_at, commits_behind -/
def sp_now_H (_ : PySem.W.Frag) (a : Ad) : Sp := fun vs H Q _ => ∃ (p dx : Addr) (fs : List (Str × V)) (b : Nat) (bs cl : Addr) (xs : List V), vs = [.ref p] ∧ H p = some (.ins a.cH dx fs) ∧ HF fs b bs cl ∧ H cl = some (.lst xs) ∧
  Q (.int ((b + xs.length : Nat) : Int)) H
theorem ok_now_H (T : Txt K mg a) : FnOk P w K mg base CX0 1 a.now_H a.fd_now_H ["self"] (sp_now_H K a) := by
  have sc := sc_now_H
  refine T.now_H.ok sc (fun vs H Q E h => ?_) (fun cdv A outer s H vs Q E hr h => ?_)
  · obtain ⟨p, dx, fs, b, bs, cl, xs, rfl, _⟩ := h
    rfl
  · obtain ⟨p, dx, fs, b, bs, cl, xs, rfl, hp, F, hc, k⟩ := h
    refine ⟨_, (pss_one (ps_ret (pe_op op_add (pe_fld (pv 0) rfl) (pe_callB call_len_seq (by rfl) T.len PySem.boot_len (pa_cons (pe_fld (pv 0) rfl) pa_nil (hs := sE_Attribute)))))), ?_⟩
    refine ⟨_, rfl, p, _, dx, _, _, rfl, hp, T.clH, T.nH_base, F.base, _, rfl, p, _, dx, _, _, rfl, hp, T.clH, T.nH_commits, F.commits, cl, _, rfl, .inl (SqL.of hc), _, _, rfl, rfl, ?_⟩
    rw [Int.natCast_add] at k
    exact k
def sp_tells_H (_ : PySem.W.Frag) (a : Ad) : Sp := fun vs H Q _ => ∃ (p dx : Addr) (fs : List (Str × V)) (b : Nat) (bs cl : Addr) (xs : List V) (n : Nat), vs = [.ref p, .int (n : Int)] ∧ H p = some (.ins a.cH dx fs) ∧ HF fs b bs cl ∧ H cl = some (.lst xs) ∧
  Q (.bl (decide (b ≤ n) && decide (n ≤ b + xs.length))) H
theorem ok_tells_H (T : Txt K mg a) : FnOk P w K mg base CX0 2 a.tells_H a.fd_tells_H ["self", "number"] (sp_tells_H K a) := by
  have sc := sc_tells_H
  refine T.tells_H.ok sc (fun vs H Q E h => ?_) (fun cdv A outer s H vs Q E hr h => ?_)
  · obtain ⟨p, dx, fs, b, bs, cl, xs, n, rfl, _⟩ := h
    rfl
  · obtain ⟨p, dx, fs, b, bs, cl, xs, n, rfl, hp, F, hc, k⟩ := h
    refine ⟨_, (pss_one (ps_ret (pe_chain op_le op_le (pe_fld (pv 0) rfl) (pv 1) (pe_meth0 (pv 0) T.clH T.mt_now_H (ok_now_H T) (hr.mono (by decide)) T.b_now_H .nil pass0)))), ?_⟩
    refine ⟨_, rfl, p, _, dx, _, _, rfl, hp, T.clH, T.nH_base, F.base, _, rfl, _, _, rfl, rfl, _, rfl, ?_⟩
    by_cases h1 : b ≤ n
    · rw [decide_eq_true (show (b : Int) ≤ (n : Int) by omega)]
      refine iteT ⟨_, rfl, p, dx, _, rfl, hp, F.now, p, dx, fs, b, bs, cl, xs, rfl, hp, F, hc, _, _, rfl, rfl, ?_⟩
      rw [decide_eq_true h1, Bool.true_and] at k
      have e : decide ((n : Int) ≤ ((b + xs.length : Nat) : Int)) = decide (n ≤ b + xs.length) := by
        by_cases z : n ≤ b + xs.length
        · rw [decide_eq_true z, decide_eq_true (by omega)]
        · rw [decide_eq_false z, decide_eq_false (by omega)]
      rw [← e] at k
      exact k
    · rw [decide_eq_false (show ¬ (b : Int) ≤ (n : Int) by omega)]
      rw [decide_eq_false h1, Bool.false_and] at k
      exact iteF k
def sp_commits_behind_H (_ : PySem.W.Frag) (a : Ad) : Sp := fun vs H Q _ => ∃ (p dx : Addr) (fs : List (Str × V)) (b : Nat) (bs cl : Addr) (xs : List V) (n : Nat), vs = [.ref p, .int (n : Int)] ∧ H p = some (.ins a.cH dx fs) ∧ HF fs b bs cl ∧ H cl = some (.lst xs) ∧ b ≤ n ∧
  New H (.lst (xs.drop (n - b))) Q
theorem ok_commits_behind_H (T : Txt K mg a) : FnOk P w K mg base CX0 1 a.commits_behind_H a.fd_commits_behind_H ["self", "number"] (sp_commits_behind_H K a) := by
  have sc := sc_commits_behind_H
  refine T.commits_behind_H.ok sc (fun vs H Q E h => ?_) (fun cdv A outer s H vs Q E hr h => ?_)
  · obtain ⟨p, dx, fs, b, bs, cl, xs, n, rfl, _⟩ := h
    rfl
  · obtain ⟨p, dx, fs, b, bs, cl, xs, n, rfl, hp, F, hc, hb, k⟩ := h
    refine ⟨_, (pss_one (ps_ret (pe_slice sl_list (pe_fld (pv 0) rfl) (po_some (pe_op op_sub (pv 1) (pe_fld (pv 0) rfl))) po_none))), ?_⟩
    refine ⟨_, rfl, p, _, dx, _, _, rfl, hp, T.clH, T.nH_commits, F.commits, _, rfl, _, rfl, p, _, dx, _, _, rfl, hp, T.clH, T.nH_base, F.base, _, _, rfl, rfl, _, rfl, cl, _, rfl, SqL.of hc, fun r hr0 => ?_⟩
    have e : (n : Int) - (b : Int) = ((n - b : Nat) : Int) := by omega
    rw [e, cut_lo]
    exact k.at hr0
def sp_store_at_H (_ : PySem.W.Frag) (a : Ad) : Sp := fun vs H Q _ => ∃ (p dx : Addr) (fs : List (Str × V)) (b : Nat) (bs cl : Addr) (kb : List (Key × V)) (s : Tx.Store) (cas : List Addr) (ws : List Tx.Writes) (n : Nat), vs = [.ref p, .int (n : Int)] ∧ H p = some (.ins a.cH dx fs) ∧ HF fs b bs cl ∧ H bs = some (.dK kb) ∧ DS kb s ∧
  H cl = some (.lst (cas.map V.ref)) ∧ Wds H cas ws ∧ b ≤ n ∧ ∀ ks, DS ks ((ws.take (n - b)).foldl Tx.applied s) → New H (.dK ks) Q
theorem ok_store_at_H (T : Txt K mg a) : FnOk P w K mg base CX0 2 a.store_at_H a.fd_store_at_H ["self", "number"] (sp_store_at_H K a) := by
  have sc := sc_store_at_H
  refine T.store_at_H.ok sc (fun vs H Q E h => ?_) (fun cdv A outer s H vs Q E hr h => ?_)
  · obtain ⟨p, dx, fs, b, bs, cl, kb, s, cas, ws, n, rfl, _⟩ := h
    rfl
  · obtain ⟨p, dx, fs, b, bs, cl, kb, s0, cas, ws, n, rfl, hp, F, hbs, ds, hc, hw, hb, k⟩ := h
    refine ⟨_, (pss_cons (ps_set (i := 2) sc.nd rfl (Or.inl rfl) (pe_callTy call_dictD (by rfl) T.dict boot_dict1 (pa_cons (pe_fld (pv 0) rfl) pa_nil (hs := sE_Attribute))))
      (pss_cons (ps_for PassesOwn.never rfl (pi_list (pe_slice sl_list (pe_fld (pv 0) rfl) po_none (po_some (pe_op op_sub (pv 1) (pe_fld (pv 0) rfl))))) (pg_name (i := 3) sc.nd rfl (Or.inl rfl)) (pss_one (ps_expr (pe_call (ok_put T) (hr.mono (by decide)) rfl T.m_put T.put.kp T.b_put .nil pass0 (pa_cons (pv 2) (pa_cons (pv 3) pa_nil (hs := sE_Name)) (hs := sE_Name))))))
      (pss_one (ps_ret (pv 2))))), ?_⟩
    refine ⟨_, rfl, p, _, dx, _, _, rfl, hp, T.clH, T.nH_base_store, F.store, bs, kb, rfl, hbs, fun r hr0 => ?_⟩
    have e : (n : Int) - (b : Int) = ((n - b : Nat) : Int) := by omega
    have s1 : Same H (upd H r (.dK kb)) := same_upd hr0
    refine ⟨_, rfl, p, _, dx, _, _, rfl, s1 _ _ hp, T.clH, T.nH_commits, F.commits, _, rfl, _, rfl, p, _, dx, _, _, rfl, s1 _ _ hp, T.clH, T.nH_base, F.base, _, _, rfl, rfl, _, rfl, cl, _, rfl, SqL.of (s1 _ _ hc), fun t ht => ?_⟩
    rw [e, cut_hi]
    have nt : H t = none := s1.free ht
    have nrt : r ≠ t := ne_of_none (H := upd H r (.dK kb)) upd_same ht
    refine ⟨t, rfl, ⟨_, SqL.of upd_same⟩, for_list (K := K) (a := t) (xs := (cas.map V.ref).take (n - b)) (fun i σ H' => ∃ v ks, σ = [some (.ref p), some (.int (n : Int)), some (.ref r), v] ∧ Same H H' ∧ H' r = some (.dK ks) ∧ DS ks (((ws.take (n - b)).take i).foldl Tx.applied s0) ∧ H' t = some (.lst ((cas.map V.ref).take (n - b))))
      ⟨none, kb, rfl, s1.on nt, keep upd_same ht, ds, upd_same⟩ (fun i σ H' _ ⟨_, _, _, _, _, _, e⟩ => SqL.of e) ?_ ?_⟩
    · rintro i x σ H' hi ⟨v, ks, rfl, s2, e1, d, e2⟩
      rw [← List.map_take, List.getElem?_map] at hi
      obtain ⟨c, hcx, rfl⟩ := Option.map_eq_some_iff.mp hi
      obtain ⟨w1, kw, hw1, hc1, dw⟩ := (hw.take (n - b)).get hcx
      refine ⟨_, rfl, _, rfl, r, c, ks, kw, _, w1, rfl, (ne_of_none hc1 hr0).symm, e1, s2 _ _ hc1, d, dw, fun ks' d' => ?_⟩
      refine ⟨_, ks', rfl, s2.on hr0, upd_same, ?_, ?_⟩
      · rw [take_succ' hw1, List.foldl_append]; exact d'
      · rw [upd_ne (fun z => nrt z.symm)]; exact e2
    · rintro σ H' ⟨v, ks, rfl, s2, e1, d, e2⟩
      refine ⟨_, rfl, ?_⟩
      rw [List.take_of_length_le (by rw [List.length_take, List.length_take, List.length_map, hw.len]; omega)] at d
      exact k ks d r H' hr0 s2 e1
end
end My

end
section
set_option linter.all false
set_option Elab.async false
set_option maxRecDepth 100000
set_option maxHeartbeats 2000000
namespace My
open PySem PySem.Spec PyProof.Rows L2 TxM
section
variable {P : Program} {w : World} {K : PySem.W.Frag} {mg : Str → Option Value} {base : Heap} {a : Ad}
/-- new commits, each new, in a new list -/
def NewCs (H : Hp) (ws : List Tx.Writes) (Q : VK) : Prop := ∀ r H' cas, H r = none → Same H H' → H' r = some (.lst (cas.map V.ref)) → Wds H' cas ws → (∀ x ∈ cas, H x = none) → Q (.ref r) H'
def sp_commits_from (_ : PySem.W.Frag) (_ : Ad) : Sp := fun vs H Q _ => ∃ (p : Addr) (l : List Nat) (pl c : Nat), vs = [.ref p, .int (pl : Int), .int (c : Int)] ∧ H p = some (li (ofN l)) ∧ l.length ≤ 16000 ∧ pl ≤ l.length ∧ NewCs H (ci c (l.drop pl)) Q
def mu1 (n : Nat) : L2.St → Hp → Nat := fun (σ : List (Option V)) _ => match σ with
  | _ :: some (V.int x) :: _ => ((n : Int) - x).toNat
  | _ => 0
theorem recLen_ge (l : List Tx.Writes) : l.length ≤ recLen l := by
  induction l with
  | nil => exact Nat.zero_le _
  | cons x r ih =>
    show _ ≤ recLen ([x] ++ r)
    rw [recLen_append, recLen_one, List.length_cons]; omega
theorem ok_commits_from (T : Txt K mg a) : FnOk P w K mg base CX0 3 a.commits_from a.fd_commits_from ["numbers", "place", "check"] (sp_commits_from K a) := by
  have sc := sc_commits_from
  refine T.commits_from.ok sc (fun vs H Q E h => ?_) (fun cdv A outer s H vs Q E hr h => ?_)
  · obtain ⟨p, l, pl, c, rfl, _⟩ := h
    rfl
  · obtain ⟨p, l, pl, c, rfl, hp, hl, hpl, k⟩ := h
    have hu := hu_of hr
    refine ⟨_, (pss_cons (ps_set (i := 3) sc.nd rfl (Or.inl rfl) (pe_lst pa_nil))
      (pss_cons (ps_while PassesOwn.never (pt_cmpR op_lt (pv 1) (pe_callB call_len_seq (by rfl) T.len PySem.boot_len (pa_cons (pv 0) pa_nil (hs := sE_Name))) (nomark _)) (pss_cons (ps_set (i := 4) sc.nd rfl (Or.inl rfl) (pe_ix ix_list (pv 0) (pv 1) (fun _ _ => rfl)))
      (pss_cons (ps_set (i := 5) sc.nd rfl (Or.inl rfl) (pe_op op_add (pe_op op_add (pv 1) pe_int) (pe_op op_mul pe_int (pv 4))))
      (pss_cons (ps_if (PW.pt (pw_or (pt_cmpR op_lt (pv 4) pe_int (nomark _)) (pw_or (pt_cmpR op_gt (pv 4) (pe_gint rfl T.MOST_KEYS) (nomark _)) (pw_or1 (pt_cmpR op_ge (pv 5) (pe_callB call_len_seq (by rfl) T.len PySem.boot_len (pa_cons (pv 0) pa_nil (hs := sE_Name))) (nomark _)))))) (pss_one (ps_ret (pv 3))) pss_nil)
      (pss_cons (ps_set (i := 2) sc.nd rfl (Or.inl rfl) (pe_call (ok_check_over T) (hr.mono (by decide)) rfl T.m_check_over T.check_over.kp T.b_check_over .nil pass0 (pa_cons (pv 2) (pa_cons (pe_slice sl_list (pv 0) (po_some (pv 1)) (po_some (pv 5))) pa_nil (hs := sE_Subscript)) (hs := sE_Name))))
      (pss_cons (ps_set (i := 6) sc.nd rfl (Or.inl rfl) (pe_call (ok_writes_from T) (hr.mono (by decide)) rfl T.m_writes_from T.writes_from.kp T.b_writes_from .nil pass0 (pa_cons (pe_slice sl_list (pv 0) (po_some (pe_op op_add (pv 1) pe_int)) (po_some (pv 5))) pa_nil (hs := sE_Subscript))))
      (pss_cons (ps_if (PW.pt (pw_or (pt_cmp (pc_isN (pv 6))) (pw_or1 (pt_cmpR op_ne (pv 2) (pe_ix ix_list (pv 0) (pv 5) (fun _ _ => rfl)) (nomark _))))) (pss_one (ps_ret (pv 3))) pss_nil)
      (pss_cons (ps_expr (pe_bm PySem.F.plainAttrs_list PySem.F.slot_list_append PySem.F.type_list_append mt_append (pv 3) (pa_cons (pv 6) pa_nil (hs := sE_Name))))
      (pss_one (ps_set (i := 1) sc.nd rfl (Or.inl rfl) (pe_op op_add (pv 5) pe_int)))))))))))
      (pss_one (ps_ret (pv 3))))), ?_⟩
    refine ⟨Nat.zero_le _, fun r hr0 => ?_⟩
    have npr : p ≠ r := ne_of_none hp hr0
    refine while_by (fun σ H' => ∃ (pl' c' : Nat) (cas : List Addr) (done : List Tx.Writes) (v4 v5 v6 : Option V), σ = [some (.ref p), some (.int (pl' : Int)), some (.int (c' : Int)), some (.ref r), v4, v5, v6] ∧ pl' ≤ l.length ∧ Same H H' ∧ H' r = some (.lst (cas.map V.ref)) ∧ Wds H' cas done ∧ (∀ x ∈ cas, H x = none) ∧ ci c (l.drop pl) = done ++ ci c' (l.drop pl'))
      (mu1 l.length) ⟨pl, c, [], [], none, none, none, rfl, hpl, same_upd hr0, upd_same, True.intro, fun x hx => (nomatch hx), rfl⟩ ?_
      (fun σ H Q Q' f ⟨v, e1, v2, e2, p, ys, e3, e4, i, j, e5, e6, k, e7, q⟩ => ⟨v, e1, v2, e2, p, ys, e3, e4, i, j, e5, e6, k, e7, f _ _ q⟩)
    rintro σ H' ⟨pl', c', cas, done, v4, v5, v6, rfl, hpl', s1, e1, hw, hx, es⟩
    have hp' := s1 _ _ hp
    have cl : cas.length ≤ 16000 := by
      rw [hw.len]
      have h1 : done.length ≤ (ci c (l.drop pl)).length := by rw [es, List.length_append]; omega
      have h2 := recLen_ge (ci c (l.drop pl))
      have h3 := (ci_good _ c (l.drop pl) (Nat.le_refl _)).2
      rw [List.length_drop] at h3
      omega
    refine ⟨_, rfl, _, rfl, p, _, rfl, .inl (SqL.of hp'), _, _, rfl, rfl, _, rfl, ?_⟩
    have stop : ∀ H2, Same H' H2 → ci c' (l.drop pl') = [] → Q (.ref r) H2 := fun H2 s2 en => by
      rw [en, List.append_nil] at es
      rw [es] at k
      exact k r H2 cas hr0 (s1.trans s2) (s2 _ _ e1) (hw.same s2) hx
    refine ite2 (fun h1 => ?_) fun h1 => ?_
    · have hlt : pl' < l.length := by
        have := of_decide_eq_true h1
        rw [li_len] at this
        omega
      obtain ⟨n, hn⟩ : ∃ n, l[pl']? = some n := ⟨l[pl'], List.getElem?_eq_getElem hlt⟩
      have ed : l.drop pl' = n :: l.drop (pl' + 1) := by
        rw [List.drop_eq_getElem_cons hlt]
        rw [List.getElem?_eq_getElem hlt] at hn
        rw [Option.some.inj hn]
      have ec := ci_eq c' (l.drop pl')
      rw [ed, commitIn_eq, ← ed] at ec
      have lr : (l.drop (pl' + 1)).length = l.length - (pl' + 1) := List.length_drop
      refine ⟨_, rfl, _, rfl, p, _, _, _, rfl, rfl, SqL.of hp', atI_nat (li_at hn), ?_⟩
      refine ⟨_, rfl, _, _, rfl, rfl, _, rfl, _, _, rfl, rfl, .inl ⟨by decide, by decide⟩, _, _, rfl, rfl, ?_⟩
      have bad : (n < 1 ∨ 256 < n ∨ (l.drop (pl' + 1)).length ≤ 3 * n) → Q (.ref r) H' := fun hc => by
        rw [if_pos hc] at ec
        exact stop H' (Same.refl _) ec
      refine ⟨_, rfl, _, _, rfl, rfl, _, rfl, ite2 (fun h2 => iteT ⟨_, rfl, bad (.inl (by have := of_decide_eq_true h2; omega))⟩) fun h2 => ?_⟩
      refine ⟨_, rfl, _, _, rfl, rfl, _, rfl, ite2 (fun h3 => iteT ⟨_, rfl, bad (.inr (.inl (by have := of_decide_eq_true h3; omega)))⟩) fun h3 => ?_⟩
      refine ⟨_, rfl, _, rfl, p, _, rfl, .inl (SqL.of hp'), _, _, rfl, rfl, _, rfl, ite2 (fun h4 => ⟨_, rfl, bad (.inr (.inr (by have := of_decide_eq_true h4; rw [li_len] at this; omega)))⟩) fun h4 => ?_⟩
      have n2 : 1 ≤ n := Nat.le_of_not_lt fun z => h2 (decide_eq_true (by omega))
      have n3 : n ≤ 256 := Nat.le_of_not_lt fun z => h3 (decide_eq_true (by omega))
      have n4 : pl' + 1 + 3 * n < l.length := Nat.lt_of_not_le fun z => h4 (decide_eq_true (by rw [li_len]; omega))
      rw [if_neg (by omega)] at ec
      -- the check
      have ecut : cutV ((ofN l).map V.int) (some (pl' : Int)) (some ((pl' + 1 + 3 * n : Nat) : Int)) = (ofN (n :: (l.drop (pl' + 1)).take (3 * n))).map V.int := by
        rw [li_cut l (by omega) (by omega), ed, show pl' + 1 + 3 * n - pl' = 3 * n + 1 by omega]; rfl
      refine ⟨_, rfl, _, rfl, _, rfl, _, rfl, _, rfl, _, rfl, p, _, rfl, SqL.of hp', fun t1 ht1 => ⟨c', t1, n :: (l.drop (pl' + 1)).take (3 * n), rfl, SqL.of (upd_same.trans (congrArg (fun z => some (HO.lst z)) ecut)), ?_⟩⟩
      have s2 : Same H' (upd H' t1 (.lst (cutV ((ofN l).map V.int) (some (pl' : Int)) (some ((pl' + 1 + 3 * n : Nat) : Int))))) := same_upd ht1
      -- the writes
      have ecut2 : cutV ((ofN l).map V.int) (some ((pl' + 1 : Nat) : Int)) (some ((pl' + 1 + 3 * n : Nat) : Int)) = (ofN ((l.drop (pl' + 1)).take (3 * n))).map V.int := by
        rw [li_cut l (by omega) (by omega), show pl' + 1 + 3 * n - (pl' + 1) = 3 * n by omega]
      refine ⟨_, rfl, _, rfl, _, _, rfl, rfl, _, rfl, _, rfl, _, rfl, p, _, rfl, SqL.of (s2 _ _ hp'), fun t2 ht2 => ⟨t2, (l.drop (pl' + 1)).take (3 * n), n, rfl, upd_same.trans (congrArg (fun z => some (HO.lst z)) ecut2), by rw [List.length_take]; omega, n3, fun hnone H3 s3 => ?_, fun ws ks hws dws r2 H3 hr2 s3 e3 => ?_⟩⟩
      · refine ⟨_, rfl, _, rfl, iteT (iteT ⟨_, rfl, stop H3 ((s2.trans (same_upd ht2)).trans s3) ?_⟩)⟩
        rw [hnone] at ec
        exact ec
      · have s4 : Same H' H3 := (s2.trans (same_upd ht2)).trans s3
        have hlt2 : 3 * n < (l.drop (pl' + 1)).length := by omega
        obtain ⟨x, hx3⟩ : ∃ x, l[pl' + 1 + 3 * n]? = some x := ⟨l[pl' + 1 + 3 * n], List.getElem?_eq_getElem n4⟩
        have hx4 : (l.drop (pl' + 1))[3 * n]? = some x := by rw [List.getElem?_drop]; exact hx3
        rw [hws] at ec
        dsimp only at ec
        rw [hx4] at ec
        refine ⟨_, rfl, _, rfl, iteF ⟨_, rfl, _, rfl, _, rfl, p, _, _, _, rfl, rfl, SqL.of (s4 _ _ hp'), atI_nat (j := pl' + 1 + 3 * n) (li_at hx3), rfl, _, rfl, ?_⟩⟩
        have e9 : decide (V.int ((Tx.check c' (n :: (l.drop (pl' + 1)).take (3 * n)) : Nat) : Int) = V.int (x : Int)) = decide (Tx.check c' (n :: (l.drop (pl' + 1)).take (3 * n)) = x) := dN _ _
        rw [e9]
        by_cases hc : Tx.check c' (n :: (l.drop (pl' + 1)).take (3 * n)) = x
        · rw [decide_eq_true hc]
          rw [if_pos (by rw [hc])] at ec
          have nr2 : H r2 = none := (s1.trans (s2.trans (same_upd ht2))).free hr2
          refine iteF ⟨_, rfl, .inl ⟨rfl, _, SqL.of (s4 _ _ e1)⟩, _, rfl, r, _, _, rfl, rfl, s4 _ _ e1, by rw [List.length_map]; exact Nat.lt_of_le_of_lt cl (by decide), ?_⟩
          refine ⟨_, rfl, _, _, rfl, rfl, ⟨pl' + 1 + 3 * n + 1, _, cas ++ [r2], done ++ [ws], _, _, _, rfl, by omega, (s1.trans s4).on hr0, ?_, ?_, fun y hy => ?_, ?_⟩, ?_⟩
          · rw [upd_same, List.map_append]; rfl
          · refine Wds.app ((hw.same s4).on fun y hy o e => ?_) (Wds.one (kw := ks) ?_ dws)
            · rw [upd_ne (fun z => by rw [z] at hy; have := hx r hy; obtain ⟨kw', e'⟩ := hw.live hy; rw [e1] at e'; cases e')]; exact e
            · rw [upd_ne (fun z => by rw [z] at e3; rw [s4 _ _ e1] at e3; cases e3)]; exact e3
          · rcases List.mem_append.mp hy with e | e
            · exact hx y e
            · have e' : y = r2 := by simpa using e
              rw [e']; exact nr2
          · rw [es, ec]
            show done ++ ws :: ci _ ((l.drop (pl' + 1)).drop (3 * n + 1)) = done ++ [ws] ++ ci _ (l.drop (pl' + 1 + 3 * n + 1))
            rw [List.append_assoc, List.drop_drop]; rfl
          · show (((l.length : Nat) : Int) - ((pl' + 1 + 3 * n + 1 : Nat) : Int)).toNat < (((l.length : Nat) : Int) - (pl' : Int)).toNat
            omega
        · rw [decide_eq_false hc]
          rw [if_neg (fun z => hc (Option.some.inj z).symm)] at ec
          exact iteT ⟨_, rfl, stop H3 s4 ec⟩
    · have hge : l.length ≤ pl' := Nat.le_of_not_lt fun z => h1 (decide_eq_true (by rw [li_len]; omega))
      refine ⟨_, rfl, stop H' (Same.refl _) ?_⟩
      rw [List.drop_eq_nil_of_le hge]; rfl
end
end My

end
section
set_option linter.all false
set_option Elab.async false
set_option maxRecDepth 100000
set_option maxHeartbeats 2000000
namespace My
open PySem PySem.Spec PyProof.Rows L2 TxM
section
variable {P : Program} {w : World} {K : PySem.W.Frag} {mg : Str → Option Value} {base : Heap} {a : Ad}
/-- all but what stands at p is as it was -/
def But (H H' : Hp) (p : Addr) : Prop := ∀ c o, H c = some o → c ≠ p → H' c = some o
theorem hf3_is (b : Nat) (bs cl : Addr) : putF "commits" (.ref cl) (putF "base_store" (.ref bs) (putF "base" (.int (b : Int)) [])) = hf3 b bs cl := by
  show putF "commits" (.ref cl) (putF "base_store" (.ref bs) [("base", .int (b : Int))]) = _
  rw [putF_miss (by decide +kernel)]
  show putF "commits" (.ref cl) [("base", .int (b : Int)), ("base_store", .ref bs)] = _
  rw [putF_miss (by decide +kernel), putF_miss (by decide +kernel)]
  rfl
def sp_initHistory (_ : PySem.W.Frag) (a : Ad) : Sp := fun vs H Q _ => ∃ (p dx : Addr) (b : Nat) (bs cl : Addr) (kb : List (Key × V)) (s : Tx.Store) (cas : List Addr) (ws : List Tx.Writes), vs = [.ref p, .int (b : Int), .ref bs, .ref cl] ∧ H p = some (.ins a.cH dx []) ∧ H bs = some (.dK kb) ∧ DS kb s ∧
  H cl = some (.lst (cas.map V.ref)) ∧ Wds H cas ws ∧ ∀ H' nw kn, H nw = none → H' p = some (.ins a.cH dx (hf4 b bs cl nw)) → H' nw = some (.dK kn) → DS kn (ws.foldl Tx.applied s) → But H H' p → Q .non H'
theorem ok_initHistory (T : Txt K mg a) : FnOk P w K mg base CX0 3 a.initHistory a.fd_initHistory ["self", "base", "base_store", "commits"] (sp_initHistory K a) := by
  have sc := sc_initHistory
  refine T.initHistory.ok sc (fun vs H Q E h => ?_) (fun cdv A outer s H vs Q E hr h => ?_)
  · obtain ⟨p, dx, b, bs, cl, kb, s, cas, ws, rfl, _⟩ := h
    rfl
  · obtain ⟨p, dx, b, bs, cl, kb, s0, cas, ws, rfl, hp, hbs, ds, hc, hw, k⟩ := h
    refine ⟨_, (pss_cons (ps_fld (pv 0) (pv 1) rfl)
      (pss_cons (ps_fld (pv 0) (pv 2) rfl)
      (pss_cons (ps_fld (pv 0) (pv 3) rfl)
      (pss_one (ps_fld (pv 0) (pe_meth (pv 0) T.clH T.mt_store_at_H (ok_store_at_H T) (hr.mono (by decide)) T.b_store_at_H .nil pass0 (pa_cons (pe_meth0 (pv 0) T.clH T.mt_now_H (ok_now_H T) (hr.mono (by decide)) T.b_now_H .nil pass0) pa_nil (hs := sE_Call))) rfl))))), ?_⟩
    refine ⟨_, rfl, _, rfl, p, _, dx, _, rfl, hp, T.clH, T.nH_base, by show 0 < 1000; decide, ?_⟩
    refine ⟨_, rfl, _, rfl, p, _, dx, _, rfl, upd_same, T.clH, T.nH_base_store, by show 1 < 1000; decide, ?_⟩
    refine ⟨_, rfl, _, rfl, p, _, dx, _, rfl, upd_same, T.clH, T.nH_commits, Nat.lt_of_le_of_lt (length_putF _ _ _) (by show 2 < 1000; decide), ?_⟩
    rw [upd_upd, upd_upd, hf3_is]
    have F := HF.three b bs cl
    have nbp : bs ≠ p := ne_of hbs hp (by intro z; cases z)
    have ncp : cl ≠ p := ne_of hc hp (by intro z; cases z)
    have hbs' : (upd H p (.ins a.cH dx (hf3 b bs cl))) bs = some (.dK kb) := by rw [upd_ne nbp]; exact hbs
    have hc' : (upd H p (.ins a.cH dx (hf3 b bs cl))) cl = some (.lst (cas.map V.ref)) := by rw [upd_ne ncp]; exact hc
    have hw' : Wds (upd H p (.ins a.cH dx (hf3 b bs cl))) cas ws := hw.on fun c hcm o e => by
      obtain ⟨kw, e'⟩ := hw.live hcm
      rw [upd_ne (ne_of e' hp (by intro z; cases z))]; exact e
    refine ⟨_, rfl, p, dx, _, rfl, upd_same, F.store_at, _, rfl, p, dx, _, rfl, upd_same, F.now, p, dx, _, b, bs, cl, _, rfl, upd_same, F, hc', p, dx, _, b, bs, cl, kb, s0, cas, ws, b + (cas.map V.ref).length, rfl, upd_same, F, hbs', ds, hc', hw', Nat.le_add_right _ _, fun ks dks nw H4 hnw s4 e4 => ?_⟩
    refine ⟨_, rfl, p, _, dx, _, rfl, s4 _ _ upd_same, T.clH, T.nH_newest, by show 3 < 1000; decide, ?_⟩
    rw [hf34]
    have nwp : nw ≠ p := fun z => by rw [z, upd_same] at hnw; cases hnw
    have eb : b + (cas.map V.ref).length - b = ws.length := by rw [List.length_map, hw.len]; omega
    rw [eb, List.take_length] at dks
    refine k _ nw ks (by rw [upd_ne nwp] at hnw; exact hnw) upd_same (by rw [upd_ne nwp]; exact e4) dks fun c o e hcp => ?_
    rw [upd_ne hcp]
    exact s4 c o (by rw [upd_ne hcp]; exact e)
/-- a new history -/
def NewHist (a : Ad) (H : Hp) (b : Tx.Book) (Q : VK) : Prop := ∀ (r : Addr) (H' : Hp) (dx bs cl nw : Addr) (kb kn : List (Key × V)) (cas : List Addr), H r = none → H bs = none → H cl = none → H nw = none → (∀ x ∈ cas, H x = none) → Same H H' →
  H' r = some (.ins a.cH dx (hf4 b.base bs cl nw)) → H' bs = some (.dK kb) → DS kb b.first → H' nw = some (.dK kn) → DS kn (b.at_ b.now) → H' cl = some (.lst (cas.map V.ref)) → Wds H' cas b.commits → Q (.ref r) H'
def sp_history_from (_ : PySem.W.Frag) (a : Ad) : Sp := fun vs H Q _ => ∃ (p : Addr) (l : List Nat), vs = [.ref p] ∧ H p = some (li (ofN l)) ∧ l.length ≤ 16000 ∧ (Tx.bookIn l = none → ∀ H', Same H H' → Q .non H') ∧ ∀ b, Tx.bookIn l = some b → NewHist a H b Q
theorem ok_history_from (T : Txt K mg a) : FnOk P w K mg base CX0 5 a.history_from a.fd_history_from ["numbers"] (sp_history_from K a) := by
  have sc := sc_history_from
  refine T.history_from.ok sc (fun vs H Q E h => ?_) (fun cdv A outer s H vs Q E hr h => ?_)
  · obtain ⟨p, l, rfl, _⟩ := h
    rfl
  · obtain ⟨p, l, rfl, hp, hl, k1, k2⟩ := h
    have hu := hu_of hr
    refine ⟨_, (pss_cons (ps_if (pt_cmpR op_lt (pe_callB call_len_seq (by rfl) T.len PySem.boot_len (pa_cons (pv 0) pa_nil (hs := sE_Name))) pe_int (nomark _)) (pss_one (ps_ret pe_non)) pss_nil)
      (pss_cons (ps_set (i := 1) sc.nd rfl (Or.inl rfl) (pe_ix ix_list (pv 0) pe_int (fun _ _ => rfl)))
      (pss_cons (ps_set (i := 2) sc.nd rfl (Or.inl rfl) (pe_ix ix_list (pv 0) pe_int (fun _ _ => rfl)))
      (pss_cons (ps_set (i := 3) sc.nd rfl (Or.inl rfl) (pe_op op_add pe_int (pe_op op_mul pe_int (pv 2))))
      (pss_cons (ps_if (PW.pt (pw_or (pt_cmpR op_gt (pv 1) (pe_gint rfl T.HIGHEST_BASE) (nomark _)) (pw_or (pt_cmpR op_gt (pv 2) (pe_gint rfl T.MOST_KEYS) (nomark _)) (pw_or1 (pt_cmpR op_ge (pv 3) (pe_callB call_len_seq (by rfl) T.len PySem.boot_len (pa_cons (pv 0) pa_nil (hs := sE_Name))) (nomark _)))))) (pss_one (ps_ret pe_non)) pss_nil)
      (pss_cons (ps_set (i := 4) sc.nd rfl (Or.inl rfl) (pe_call (ok_store_from T) (hr.mono (by decide)) rfl T.m_store_from T.store_from.kp T.b_store_from .nil pass0 (pa_cons (pe_slice sl_list (pv 0) (po_some pe_int) (po_some (pv 3))) pa_nil (hs := sE_Subscript))))
      (pss_cons (ps_set (i := 5) sc.nd rfl (Or.inl rfl) (pe_call (ok_check_over T) (hr.mono (by decide)) rfl T.m_check_over T.check_over.kp T.b_check_over .nil pass0 (pa_cons pe_int (pa_cons (pe_slice sl_list (pv 0) po_none (po_some (pv 3))) pa_nil (hs := sE_Subscript)) (hs := sE_Constant))))
      (pss_cons (ps_if (PW.pt (pw_or (pt_cmp (pc_isN (pv 4))) (pw_or1 (pt_cmpR op_ne (pv 5) (pe_ix ix_list (pv 0) (pv 3) (fun _ _ => rfl)) (nomark _))))) (pss_one (ps_ret pe_non)) pss_nil)
      (pss_one (ps_ret (pe_make T.mkH (ok_initHistory T) (hr.mono (by decide)) rfl T.mgH T.b_initHistory .nil pass0 (pa_cons (pv 1) (pa_cons (pv 4) (pa_cons (pe_call (ok_commits_from T) (hr.mono (by decide)) rfl T.m_commits_from T.commits_from.kp T.b_commits_from .nil pass0 (pa_cons (pv 0) (pa_cons (pe_op op_add (pv 3) pe_int) (pa_cons (pv 5) pa_nil (hs := sE_Name)) (hs := sE_BinOp)) (hs := sE_Name))) pa_nil (hs := sE_Call)) (hs := sE_Name)) (hs := sE_Name))))))))))))), ?_⟩
    refine ⟨_, rfl, p, _, rfl, .inl (SqL.of hp), _, _, rfl, rfl, _, rfl, ?_⟩
    match l, hp, hl, k1, k2 with
    | [], hp, hl, k1, k2 => exact k1 rfl H (Same.refl _)
    | [_], hp, hl, k1, k2 => exact k1 rfl H (Same.refl _)
    | b :: n :: rest, hp, hl, k1, k2 =>
      have eb := bookIn_eq b n rest
      have ll : (b :: n :: rest).length = rest.length + 2 := rfl
      refine ite2 (fun h1 => (by have := of_decide_eq_true h1; rw [li_len, ll] at this; omega)) fun h1 => ?_
      refine ⟨_, rfl, p, _, _, _, rfl, rfl, SqL.of hp, atI_nat (j := 0) (li_at (l := b :: n :: rest) rfl), ?_⟩
      refine ⟨_, rfl, p, _, _, _, rfl, rfl, SqL.of hp, atI_nat (j := 1) (li_at (l := b :: n :: rest) rfl), ?_⟩
      refine ⟨_, rfl, _, _, rfl, rfl, .inl ⟨by decide, by decide⟩, _, _, rfl, rfl, ?_⟩
      have bad : (4294967295 < b ∨ 256 < n ∨ rest.length ≤ 2 * n) → Q .non H := fun hc => by
        rw [if_pos hc] at eb
        exact k1 eb H (Same.refl _)
      refine ⟨_, rfl, _, _, rfl, rfl, _, rfl, ite2 (fun h2 => iteT (bad (.inl (by have := of_decide_eq_true h2; omega)))) fun h2 => ?_⟩
      refine ⟨_, rfl, _, _, rfl, rfl, _, rfl, ite2 (fun h3 => iteT (bad (.inr (.inl (by have := of_decide_eq_true h3; omega))))) fun h3 => ?_⟩
      refine ⟨_, rfl, _, rfl, p, _, rfl, .inl (SqL.of hp), _, _, rfl, rfl, _, rfl, ite2 (fun h4 => bad (.inr (.inr (by have := of_decide_eq_true h4; rw [li_len, ll] at this; omega)))) fun h4 => ?_⟩
      have n2 : b ≤ 4294967295 := Nat.le_of_not_lt fun z => h2 (decide_eq_true (by omega))
      have n3 : n ≤ 256 := Nat.le_of_not_lt fun z => h3 (decide_eq_true (by omega))
      have n4 : 2 * n < rest.length := Nat.lt_of_not_le fun z => h4 (decide_eq_true (by rw [li_len, ll]; omega))
      rw [if_neg (by omega)] at eb
      have ecut : cutV ((ofN (b :: n :: rest)).map V.int) (some ((2 : Nat) : Int)) (some ((2 + 2 * n : Nat) : Int)) = (ofN (rest.take (2 * n))).map V.int := by
        rw [li_cut _ (by omega) (by rw [ll]; omega), show 2 + 2 * n - 2 = 2 * n by omega]; rfl
      have ecut2 : cutV ((ofN (b :: n :: rest)).map V.int) none (some ((2 + 2 * n : Nat) : Int)) = (ofN (b :: n :: rest.take (2 * n))).map V.int := by
        rw [cut_hi, show 2 + 2 * n = 2 * n + 1 + 1 by omega]
        unfold ofN
        rw [← List.map_take, ← List.map_take]; rfl
      -- the rest of the way, from the store on
      refine ⟨_, rfl, _, rfl, _, rfl, _, rfl, p, _, rfl, SqL.of hp, fun t1 ht1 => ⟨t1, rest.take (2 * n), n, rfl, upd_same.trans (congrArg (fun z => some (HO.lst z)) ecut), by rw [List.length_take]; omega, n3, fun hnone H2 s2 => ?_, fun s1 ks hs1 ds1 r1 H2 hr1 s2 e2 => ?_⟩⟩
      · have s3 : Same H H2 := (same_upd ht1).trans s2
        refine ⟨_, rfl, _, rfl, _, rfl, p, _, rfl, SqL.of (s3 _ _ hp), fun t2 ht2 => ⟨0, t2, b :: n :: rest.take (2 * n), rfl, SqL.of (upd_same.trans (congrArg (fun z => some (HO.lst z)) ecut2)), ?_⟩⟩
        refine ⟨_, rfl, _, rfl, iteT (iteT (k1 ?_ _ (s3.trans (same_upd ht2))))⟩
        rw [eb, hnone]
      · have s3 : Same H H2 := (same_upd ht1).trans s2
        have nr1 : H r1 = none := (same_upd ht1).free hr1
        refine ⟨_, rfl, _, rfl, _, rfl, p, _, rfl, SqL.of (s3 _ _ hp), fun t2 ht2 => ⟨0, t2, b :: n :: rest.take (2 * n), rfl, SqL.of (upd_same.trans (congrArg (fun z => some (HO.lst z)) ecut2)), ?_⟩⟩
        have s4 := s3.trans (same_upd (o := .lst (cutV ((ofN (b :: n :: rest)).map V.int) none (some ((2 + 2 * n : Nat) : Int)))) ht2)
        obtain ⟨x, hx⟩ : ∃ x, rest[2 * n]? = some x := ⟨rest[2 * n], List.getElem?_eq_getElem n4⟩
        have hx2 : (b :: n :: rest)[2 + 2 * n]? = some x := by rw [show 2 + 2 * n = 2 * n + 1 + 1 by omega]; exact hx
        rw [hs1] at eb
        dsimp only at eb
        rw [hx] at eb
        refine ⟨_, rfl, _, rfl, iteF ⟨_, rfl, _, rfl, _, rfl, p, _, _, _, rfl, rfl, SqL.of (s4 _ _ hp), atI_nat (j := 2 + 2 * n) (li_at hx2), rfl, _, rfl, ?_⟩⟩
        have e9 : decide (V.int ((Tx.check 0 (b :: n :: rest.take (2 * n)) : Nat) : Int) = V.int (x : Int)) = decide (Tx.check 0 (b :: n :: rest.take (2 * n)) = x) := dN _ _
        rw [e9]
        by_cases hc : Tx.check 0 (b :: n :: rest.take (2 * n)) = x
        · rw [decide_eq_true hc]
          rw [if_pos (by rw [hc])] at eb
          refine iteF ⟨_, rfl, _, rfl, _, rfl, _, rfl, _, _, rfl, rfl, _, rfl, p, b :: n :: rest, 2 + 2 * n + 1, _, rfl, s4 _ _ hp, hl, by rw [ll]; omega, fun cl H5 cas hcl s5 ecl hw hcas => ?_⟩
          have edr : (b :: n :: rest).drop (2 + 2 * n + 1) = rest.drop (2 * n + 1) := by rw [show 2 + 2 * n + 1 = (2 * n + 1) + 1 + 1 by omega]; rfl
          rw [edr] at hw
          have s6 := s4.trans s5
          have er1 : H5 r1 = some (.dK ks) := s5 _ _ (keep e2 ht2)
          intro r dx hr5 hdx hne
          have ncl : H cl = none := s4.free hcl
          have nr : H r = none := s6.free hr5
          have s7 : Same H5 (upd (upd H5 dx (.own r)) r (.ins a.cH dx [])) := fun c o e => by rw [upd_ne (ne_of_none e hr5), upd_ne (ne_of_none e hdx)]; exact e
          refine ⟨r, dx, b, r1, cl, ks, s1, cas, _, rfl, upd_same, s7 _ _ er1, ds1, s7 _ _ ecl, hw.same s7, fun H6 nw kn hnw e6 enw dnw but => ⟨rfl, ?_⟩⟩
          have s8 : Same H5 H6 := fun c o e => but c o (s7 c o e) (ne_of_none e hr5)
          refine k2 _ eb r H6 dx r1 cl nw ks kn cas nr nr1 ncl ((s6.trans s7).free hnw) (fun y hy => s4.free (hcas y hy)) (s6.trans s8) e6 (s8 _ _ er1) ds1 enw ?_ (s8 _ _ ecl) (hw.same s8)
          rw [at_now]
          exact dnw
        · rw [decide_eq_false hc]
          rw [if_neg (fun z => hc (Option.some.inj z).symm)] at eb
          exact iteT (k1 eb _ s4)
end
end My

end
section
set_option linter.all false
set_option Elab.async false
set_option maxRecDepth 100000
set_option maxHeartbeats 2000000
namespace My
open PySem PySem.Spec PyProof.Rows L2 TxM
section
variable {P : Program} {w : World} {K : PySem.W.Frag} {mg : Str → Option Value} {base : Heap} {a : Ad}
/-- a History that keeps the book b stands at p -/
structure HistAt (a : Ad) (H : Hp) (p : Addr) (b : Tx.Book) (dx bs cl nw : Addr) (kb kn : List (Key × V)) (cas : List Addr) : Prop where
  ins : H p = some (.ins a.cH dx (hf4 b.base bs cl nw))
  bs : H bs = some (.dK kb)
  ds : DS kb b.first
  nw : H nw = some (.dK kn)
  dn : DS kn (b.at_ b.now)
  cl : H cl = some (.lst (cas.map V.ref))
  ws : Wds H cas b.commits
theorem HistAt.same {H H' : Hp} {p : Addr} {b : Tx.Book} {dx bs cl nw : Addr} {kb kn : List (Key × V)} {cas : List Addr} (h : HistAt a H p b dx bs cl nw kb kn cas) (s : Same H H') : HistAt a H' p b dx bs cl nw kb kn cas :=
  ⟨s _ _ h.ins, s _ _ h.bs, h.ds, s _ _ h.nw, h.dn, s _ _ h.cl, h.ws.same s⟩
theorem HistAt.F {H : Hp} {p : Addr} {b : Tx.Book} {dx bs cl nw : Addr} {kb kn : List (Key × V)} {cas : List Addr} (h : HistAt a H p b dx bs cl nw kb kn cas) : HF (hf4 b.base bs cl nw) b.base bs cl := HF.four ..
theorem HistAt.len {H : Hp} {p : Addr} {b : Tx.Book} {dx bs cl nw : Addr} {kb kn : List (Key × V)} {cas : List Addr} (h : HistAt a H p b dx bs cl nw kb kn cas) : b.base + (cas.map V.ref).length = b.now := by
  rw [List.length_map, h.ws.len]; rfl
theorem endCheck_nil (c : Nat) : endCheck c [] = c := rfl
def isC (b : Tx.Book) (n : Nat) : Bool := decide (b.base ≤ n) && decide (n ≤ b.now)
/-! ### log_of -/
def sp_log_of (_ : PySem.W.Frag) (a : Ad) : Sp := fun vs H Q _ => ∃ (p : Addr) (b : Tx.Book) (dx bs cl nw : Addr) (kb kn : List (Key × V)) (cas : List Addr), vs = [.ref p] ∧ HistAt a H p b dx bs cl nw kb kn cas ∧ b.log.length ≤ 50000 ∧ New H (li (ofN b.log)) Q
theorem ok_log_of (T : Txt K mg a) : FnOk P w K mg base CX0 2 a.log_of a.fd_log_of ["history"] (sp_log_of K a) := by
  have sc := sc_log_of
  refine T.log_of.ok sc (fun vs H Q E h => ?_) (fun cdv A outer s H vs Q E hr h => ?_)
  · obtain ⟨p, b, dx, bs, cl, nw, kb, kn, cas, rfl, _⟩ := h
    rfl
  · obtain ⟨p, b, dx, bs, cl, nw, kb, kn, cas, rfl, hh, hlog, k⟩ := h
    have hu := hu_of hr
    have F := hh.F
    refine ⟨_, (pss_cons (ps_set (i := 1) sc.nd rfl (Or.inl rfl) (pe_call (ok_pairs_of T) (hr.mono (by decide)) rfl T.m_pairs_of T.pairs_of.kp T.b_pairs_of .nil pass0 (pa_cons (pe_fld (pv 0) rfl) (pa_cons pe_int (pa_cons (pe_gint rfl T.HIGHEST_KEY) pa_nil (hs := sE_Name)) (hs := sE_Constant)) (hs := sE_Attribute))))
      (pss_cons (ps_set (i := 2) sc.nd rfl (Or.inl rfl) (pe_op op_cat (pe_lst (pa_cons (pe_fld (pv 0) rfl) (pa_cons (pe_op op_fdiv (pe_callB call_len_seq (by rfl) T.len PySem.boot_len (pa_cons (pv 1) pa_nil (hs := sE_Name))) pe_int) pa_nil (hs := sE_BinOp)) (hs := sE_Attribute))) (pv 1)))
      (pss_cons (ps_set (i := 3) sc.nd rfl (Or.inl rfl) (pe_call (ok_check_over T) (hr.mono (by decide)) rfl T.m_check_over T.check_over.kp T.b_check_over .nil pass0 (pa_cons pe_int (pa_cons (pv 2) pa_nil (hs := sE_Name)) (hs := sE_Constant))))
      (pss_cons (ps_expr (pe_bm PySem.F.plainAttrs_list PySem.F.slot_list_append PySem.F.type_list_append mt_append (pv 2) (pa_cons (pv 3) pa_nil (hs := sE_Name))))
      (pss_cons (ps_for PassesOwn.never rfl (pi_list (pe_fld (pv 0) rfl)) (pg_name (i := 4) sc.nd rfl (Or.inl rfl)) (pss_cons (ps_set (i := 5) sc.nd rfl (Or.inl rfl) (pe_op op_cat (pe_lst (pa_cons (pe_callB call_lenD (by rfl) T.len PySem.boot_len (pa_cons (pv 4) pa_nil (hs := sE_Name))) pa_nil (hs := sE_Call))) (pe_call (ok_numbers_of T) (hr.mono (by decide)) rfl T.m_numbers_of T.numbers_of.kp T.b_numbers_of .nil pass0 (pa_cons (pv 4) pa_nil (hs := sE_Name)))))
      (pss_cons (ps_set (i := 3) sc.nd rfl (Or.inl rfl) (pe_call (ok_check_over T) (hr.mono (by decide)) rfl T.m_check_over T.check_over.kp T.b_check_over .nil pass0 (pa_cons (pv 3) (pa_cons (pv 5) pa_nil (hs := sE_Name)) (hs := sE_Name))))
      (pss_cons (ps_expr (pe_bm PySem.F.plainAttrs_list PySem.F.slot_list_extend PySem.F.type_list_extend mt_extend (pv 2) (pa_cons (pv 5) pa_nil (hs := sE_Name))))
      (pss_one (ps_expr (pe_bm PySem.F.plainAttrs_list PySem.F.slot_list_append PySem.F.type_list_append mt_append (pv 2) (pa_cons (pv 3) pa_nil (hs := sE_Name)))))))))
      (pss_one (ps_ret (pv 2)))))))), ?_⟩
    refine ⟨_, rfl, p, _, dx, _, _, rfl, hh.ins, T.clH, T.nH_base_store, F.store, bs, kb, b.first, 0, 255, rfl, by decide, by decide, hh.bs, hh.ds, fun r1 H1 hr1 s1 e1 => ?_⟩
    rw [between_all hh.ds.srt hh.ds.bd] at e1
    have h1 := hh.same s1
    have len1 : (Tx.storeList b.first).length ≤ 512 := by
      rw [storeList_len]
      have := len_bd hh.ds.srt hh.ds.bd
      omega
    refine ⟨_, rfl, p, _, dx, _, _, rfl, h1.ins, T.clH, T.nH_base, F.base, _, rfl, r1, _, rfl, .inl (SqL.of e1), _, _, rfl, rfl, ⟨by decide, by decide⟩, by show 2 ≤ sizeLine; decide, fun t ht => ?_⟩
    refine ⟨_, rfl, t, r1, _, _, rfl, rfl, upd_same, keep e1 ht, by show 2 + _ ≤ sizeLine; rw [li_len]; exact Nat.le_trans (Nat.add_le_add_left len1 2) (by decide), fun r hr0 => ?_⟩
    have ehead : ([V.int (b.base : Int), V.int ((((ofN (Tx.storeList b.first)).map V.int).length : Int) / 2)] ++ (ofN (Tx.storeList b.first)).map V.int) = (ofN (headOf b)).map V.int := by
      have e2 : ((((ofN (Tx.storeList b.first)).map V.int).length : Int) / 2) = (b.first.length : Int) := by rw [li_len, storeList_len]; omega
      rw [e2]; rfl
    have s2 : Same H1 (upd H1 t (.lst [V.int (b.base : Int), V.int ((((ofN (Tx.storeList b.first)).map V.int).length : Int) / 2)])) := same_upd ht
    have nt : H t = none := s1.free ht
    have nr : H r = none := (s1.trans s2).free hr0
    -- check = check_over(0, told); told.append(check)
    refine ⟨_, rfl, 0, r, headOf b, rfl, SqL.of (upd_same.trans (congrArg (fun z => some (HO.lst z)) ehead)), ?_⟩
    have lh : (headOf b).length ≤ 514 := by show (Tx.storeList b.first).length + 1 + 1 ≤ 514; omega
    refine ⟨_, rfl, .inl ⟨rfl, _, SqL.of upd_same⟩, _, rfl, r, _, _, rfl, rfl, upd_same, by
      show ([V.int (b.base : Int), V.int ((((ofN (Tx.storeList b.first)).map V.int).length : Int) / 2)] ++ (ofN (Tx.storeList b.first)).map V.int).length < sizeLine
      rw [ehead, li_len]; exact Nat.lt_of_le_of_lt lh (by decide), ?_⟩
    rw [upd_upd]
    have s3 : ∀ o, Same H (upd (upd H1 t (.lst [V.int (b.base : Int), V.int ((((ofN (Tx.storeList b.first)).map V.int).length : Int) / 2)])) r o) := fun o => (s1.trans s2).on nr
    have h3 := fun o => hh.same (s3 o)
    have lrec : ∀ i, (headOf b ++ [Tx.check 0 (headOf b)] ++ Tx.recordsFrom (Tx.check 0 (headOf b)) (b.commits.take i)).length ≤ 50000 := fun i => by
      have e5 := log_len b
      rw [List.length_append, List.length_append, records_len]
      have e6 : recLen (b.commits.take i) ≤ recLen b.commits := recLen_sub (List.take_sublist ..)
      have e7 : (headOf b).length = 2 * b.first.length + 2 := by show (Tx.storeList b.first).length + 1 + 1 = _; rw [storeList_len]
      simp only [List.length_singleton]
      omega
    refine ⟨_, rfl, p, _, dx, _, _, rfl, (h3 _).ins, T.clH, T.nH_commits, F.commits, cl, rfl, ⟨_, SqL.of (h3 _).cl⟩, for_list (K := K) (a := cl) (xs := cas.map V.ref) (fun i σ H' => ∃ v4 v5, σ = [some (.ref p), some (.ref r1), some (.ref r), some (.int (endCheck (Tx.check 0 (headOf b)) (b.commits.take i) : Nat)), v4, v5] ∧ Same H H' ∧ H' r = some (li (ofN (headOf b ++ [Tx.check 0 (headOf b)] ++ Tx.recordsFrom (Tx.check 0 (headOf b)) (b.commits.take i)))))
      ⟨none, none, (by rw [List.take_zero, endCheck_nil]; rfl), s3 _, ?_⟩ (fun i σ H' _ ⟨_, _, _, s, _⟩ => SqL.of (s _ _ hh.cl)) ?_ ?_⟩
    · rw [upd_same, ehead]
      show some (HO.lst _) = some (HO.lst _)
      rw [List.take_zero]
      show some (HO.lst _) = some (HO.lst ((ofN (headOf b ++ [Tx.check 0 (headOf b)] ++ [])).map V.int))
      rw [List.append_nil, ofN_append, List.map_append]; rfl
    · rintro i x σ H' hi ⟨v4, v5, rfl, s4, e4⟩
      rw [List.getElem?_map] at hi
      obtain ⟨c, hc, rfl⟩ := Option.map_eq_some_iff.mp hi
      obtain ⟨wr, kw, hwr, hc1, dw⟩ := hh.ws.get hc
      have hc' := s4 _ _ hc1
      refine ⟨_, rfl, c, kw, rfl, hc', by show 1 ≤ sizeLine; decide, fun t1 ht1 => ?_⟩
      refine ⟨_, rfl, c, kw, wr, rfl, keep hc' ht1, dw, fun r2 H5 hr2 s5 e5 => ?_⟩
      have s6 : Same H' H5 := (same_upd ht1).trans s5
      have lw : (Tx.writesList wr).length ≤ 768 := by
        rw [writesList_len]
        have := len_bd dw.srt dw.bd
        omega
      refine ⟨t1, r2, _, _, rfl, rfl, s5 _ _ upd_same, e5, by show 1 + _ ≤ sizeLine; rw [li_len]; exact Nat.le_trans (Nat.add_le_add_left lw 1) (by decide), fun r3 hr3 => ?_⟩
      have epart : ([V.int (kw.length : Int)] ++ (ofN (Tx.writesList wr)).map V.int) = (ofN (wr.length :: Tx.writesList wr)).map V.int := by rw [dw.len]; rfl
      have nr3 : H' r3 = none := s6.free hr3
      refine ⟨_, rfl, _, rfl, _, r3, wr.length :: Tx.writesList wr, rfl, SqL.of (upd_same.trans (congrArg (fun z => some (HO.lst z)) epart)), ?_⟩
      have s7 : Same H' (upd H5 r3 (.lst ([V.int (kw.length : Int)] ++ (ofN (Tx.writesList wr)).map V.int))) := s6.on nr3
      have e7 := s7 _ _ e4
      have nrr : r3 ≠ r := fun z => by rw [z, e4] at nr3; cases nr3
      refine ⟨_, rfl, .inl ⟨rfl, _, SqL.of e7⟩, _, rfl, r, r3, _, _, rfl, rfl, e7, upd_same, by
        show _ + ([V.int (kw.length : Int)] ++ (ofN (Tx.writesList wr)).map V.int).length ≤ sizeLine
        rw [li_len, epart, li_len]
        exact Nat.le_trans (Nat.add_le_add (lrec i) (show (wr.length :: Tx.writesList wr).length ≤ 769 by rw [List.length_cons]; omega)) (by decide), ?_⟩
      refine ⟨_, rfl, .inl ⟨rfl, _, SqL.of upd_same⟩, _, rfl, r, _, _, rfl, rfl, upd_same, by
        rw [List.length_append, li_len, epart, li_len]
        exact Nat.lt_of_le_of_lt (Nat.add_le_add (lrec i) (show (wr.length :: Tx.writesList wr).length ≤ 769 by rw [List.length_cons]; omega)) (by decide), ?_⟩
      rw [upd_upd]
      refine ⟨some (.ref c), some (.ref r3), ?_, (s4.trans s7).on nr, ?_⟩
      · rw [take_succ' hwr, endCheck_append]; rfl
      · rw [upd_same, take_succ' hwr, records_append, epart]
        show some (HO.lst _) = some (HO.lst _)
        simp only [ofN_append, List.map_append, List.append_assoc]
        rfl
    · rintro σ H' ⟨v4, v5, rfl, s4, e4⟩
      refine ⟨_, rfl, ?_⟩
      rw [List.length_map, hh.ws.len, List.take_length, ← log_eq] at e4
      exact k r H' nr s4 e4
end
end My

end
section
set_option linter.all false
set_option Elab.async false
set_option maxRecDepth 100000
set_option maxHeartbeats 2000000
namespace My
open PySem PySem.Spec PyProof.Rows L2 TxM
section
variable {P : Program} {w : World} {K : PySem.W.Frag} {mg : Str → Option Value} {base : Heap} {a : Ad}
/-- one number is answered -/
theorem says1 {H : Hp} {z : Int} {Q : VK} (k : New H (li (TxNeutral.shown (Tx.says z))) Q) : [V.int z].length ≤ sizeLine ∧ ∀ r, H r = none → Q (.ref r) (upd H r (.lst [V.int z])) := ⟨by show 1 ≤ sizeLine; decide, fun r hr => k.at hr⟩
theorem isC_eq {H : Hp} {p : Addr} {b : Tx.Book} {dx bs cl nw : Addr} {kb kn : List (Key × V)} {cas : List Addr} (h : HistAt a H p b dx bs cl nw kb kn cas) (n : Nat) : (decide (b.base ≤ n) && decide (n ≤ b.base + (cas.map V.ref).length)) = isC b n := by
  rw [h.len]; rfl
theorem shown_vans (o : Option Nat) : TxNeutral.shown (Tx.told o) = vans o := by cases o <;> rfl
def aAt (b : Tx.Book) (n k : Nat) : Tx.Answer := if isC b n = false then Tx.says (-7) else if Tx.KEYS ≤ k then Tx.says (-1) else Tx.told (Tx.get (b.at_ n) k)
theorem isC_lo {b : Tx.Book} {n : Nat} (h : isC b n = true) : b.base ≤ n ∧ n ≤ b.now := by
  unfold isC at h
  rw [Bool.and_eq_true] at h
  exact ⟨of_decide_eq_true h.1, of_decide_eq_true h.2⟩
def sp_value_as_of (_ : PySem.W.Frag) (a : Ad) : Sp := fun vs H Q _ => ∃ (p : Addr) (b : Tx.Book) (dx bs cl nw : Addr) (kb kn : List (Key × V)) (cas : List Addr) (n k : Nat), vs = [.ref p, .int (n : Int), .int (k : Int)] ∧ HistAt a H p b dx bs cl nw kb kn cas ∧ New H (li (TxNeutral.shown (aAt b n k))) Q
theorem ok_value_as_of (T : Txt K mg a) : FnOk P w K mg base CX0 3 a.value_as_of a.fd_value_as_of ["history", "number", "key"] (sp_value_as_of K a) := by
  have sc := sc_value_as_of
  refine T.value_as_of.ok sc (fun vs H Q E h => ?_) (fun cdv A outer s H vs Q E hr h => ?_)
  · obtain ⟨p, b, dx, bs, cl, nw, kb, kn, cas, n, k, rfl, _⟩ := h
    rfl
  · obtain ⟨p, b, dx, bs, cl, nw, kb, kn, cas, n, key, rfl, hh, k⟩ := h
    have hu := hu_of hr
    have F := hh.F
    refine ⟨_, (pss_cons (ps_if (pt_not (pt_val (pe_meth (pv 0) T.clH T.mt_tells_H (ok_tells_H T) (hr.mono (by decide)) T.b_tells_H .nil pass0 (pa_cons (pv 1) pa_nil (hs := sE_Name))))) (pss_one (ps_ret (pe_lst (pa_cons (pe_gint rfl T.NO_SUCH_NUMBER) pa_nil (hs := sE_Name))))) pss_nil)
      (pss_cons (ps_if (pt_cmpR op_gt (pv 2) (pe_gint rfl T.HIGHEST_KEY) (nomark _)) (pss_one (ps_ret (pe_lst (pa_cons (pe_gint rfl T.WRONG) pa_nil (hs := sE_Name))))) pss_nil)
      (pss_one (ps_ret (pe_call (ok_value_answer T) (hr.mono (by decide)) rfl T.m_value_answer T.value_answer.kp T.b_value_answer .nil pass0 (pa_cons (pe_dget1 hu (pe_meth (pv 0) T.clH T.mt_store_at_H (ok_store_at_H T) (hr.mono (by decide)) T.b_store_at_H .nil pass0 (pa_cons (pv 1) pa_nil (hs := sE_Name))) (pv 2) ⟨rfl, rfl, rfl, rfl⟩) pa_nil (hs := sE_Call))))))), ?_⟩
    refine ⟨_, rfl, p, dx, _, rfl, hh.ins, F.tells, _, rfl, p, dx, _, b.base, bs, cl, _, n, rfl, hh.ins, F, hh.cl, _, rfl, ?_⟩
    rw [isC_eq hh]
    unfold aAt at k
    cases hi : isC b n with
    | false =>
      rw [hi, if_pos rfl] at k
      exact iteT (says1 k)
    | true =>
      rw [hi, if_neg (by decide)] at k
      refine iteF ⟨_, rfl, _, _, rfl, rfl, _, rfl, ite2 (fun h1 => ?_) fun h1 => ?_⟩
      · rw [if_pos (by unfold Tx.KEYS; have := of_decide_eq_true h1; omega)] at k
        exact says1 k
      · rw [if_neg (by unfold Tx.KEYS; intro z; exact h1 (decide_eq_true (by omega)))] at k
        refine ⟨_, rfl, p, dx, _, rfl, hh.ins, F.store_at, _, rfl, p, dx, _, b.base, bs, cl, kb, b.first, cas, b.commits, n, rfl, hh.ins, F, hh.bs, hh.ds, hh.cl, hh.ws, (isC_lo hi).1, fun ks dks r1 H1 hr1 s1 e1 => ?_⟩
        refine ⟨r1, rfl, .inl ⟨_, .inl e1⟩, _, rfl, _, DGet.k (k := Sum.inl (key : Int)) e1, Tx.get (b.at_ n) key, ?_, ?_⟩
        · rw [dks.val, get_eq]
          show [((gget (b.at_ n) key).map eS).getD .non] = _
          cases gget (b.at_ n) key <;> rfl
        · rw [shown_vans] at k
          exact k.from s1
def aAll (b : Tx.Book) (n : Nat) : Tx.Answer := if isC b n = false then Tx.says (-7) else Tx.gives (b.at_ n)
def sp_store_as_of (_ : PySem.W.Frag) (a : Ad) : Sp := fun vs H Q _ => ∃ (p : Addr) (b : Tx.Book) (dx bs cl nw : Addr) (kb kn : List (Key × V)) (cas : List Addr) (n : Nat), vs = [.ref p, .int (n : Int)] ∧ HistAt a H p b dx bs cl nw kb kn cas ∧ New H (li (TxNeutral.shown (aAll b n))) Q
theorem ok_store_as_of (T : Txt K mg a) : FnOk P w K mg base CX0 3 a.store_as_of a.fd_store_as_of ["history", "number"] (sp_store_as_of K a) := by
  have sc := sc_store_as_of
  refine T.store_as_of.ok sc (fun vs H Q E h => ?_) (fun cdv A outer s H vs Q E hr h => ?_)
  · obtain ⟨p, b, dx, bs, cl, nw, kb, kn, cas, n, rfl, _⟩ := h
    rfl
  · obtain ⟨p, b, dx, bs, cl, nw, kb, kn, cas, n, rfl, hh, k⟩ := h
    have F := hh.F
    refine ⟨_, (pss_cons (ps_if (pt_not (pt_val (pe_meth (pv 0) T.clH T.mt_tells_H (ok_tells_H T) (hr.mono (by decide)) T.b_tells_H .nil pass0 (pa_cons (pv 1) pa_nil (hs := sE_Name))))) (pss_one (ps_ret (pe_lst (pa_cons (pe_gint rfl T.NO_SUCH_NUMBER) pa_nil (hs := sE_Name))))) pss_nil)
      (pss_one (ps_ret (pe_call (ok_part_answer T) (hr.mono (by decide)) rfl T.m_part_answer T.part_answer.kp T.b_part_answer .nil pass0 (pa_cons (pe_meth (pv 0) T.clH T.mt_store_at_H (ok_store_at_H T) (hr.mono (by decide)) T.b_store_at_H .nil pass0 (pa_cons (pv 1) pa_nil (hs := sE_Name))) (pa_cons pe_int (pa_cons (pe_gint rfl T.HIGHEST_KEY) pa_nil (hs := sE_Name)) (hs := sE_Constant)) (hs := sE_Call)))))), ?_⟩
    refine ⟨_, rfl, p, dx, _, rfl, hh.ins, F.tells, _, rfl, p, dx, _, b.base, bs, cl, _, n, rfl, hh.ins, F, hh.cl, _, rfl, ?_⟩
    rw [isC_eq hh]
    unfold aAll at k
    cases hi : isC b n with
    | false =>
      rw [hi, if_pos rfl] at k
      exact iteT (says1 k)
    | true =>
      rw [hi, if_neg (by decide)] at k
      refine iteF ⟨_, rfl, p, dx, _, rfl, hh.ins, F.store_at, _, rfl, p, dx, _, b.base, bs, cl, kb, b.first, cas, b.commits, n, rfl, hh.ins, F, hh.bs, hh.ds, hh.cl, hh.ws, (isC_lo hi).1, fun ks dks r1 H1 hr1 s1 e1 => ?_⟩
      refine ⟨r1, ks, b.at_ n, 0, 255, rfl, by decide, by decide, e1, dks, ?_⟩
      have dks' : DS ks (b.at_ n) := dks
      rw [between_all dks'.srt dks'.bd]
      exact k.from s1
def aCh (b : Tx.Book) (x y : Nat) : Tx.Answer := if isC b x = false ∨ isC b y = false then Tx.says (-7) else ⟨((Tx.differ (b.at_ x) (b.at_ y)).length : Nat), [Tx.writesList (Tx.differ (b.at_ x) (b.at_ y))]⟩
def sp_changes (_ : PySem.W.Frag) (a : Ad) : Sp := fun vs H Q _ => ∃ (p : Addr) (b : Tx.Book) (dx bs cl nw : Addr) (kb kn : List (Key × V)) (cas : List Addr) (x y : Nat), vs = [.ref p, .int (x : Int), .int (y : Int)] ∧ HistAt a H p b dx bs cl nw kb kn cas ∧ New H (li (TxNeutral.shown (aCh b x y))) Q
theorem ok_changes (T : Txt K mg a) : FnOk P w K mg base CX0 3 a.changes a.fd_changes ["history", "one", "other"] (sp_changes K a) := by
  have sc := sc_changes
  refine T.changes.ok sc (fun vs H Q E h => ?_) (fun cdv A outer s H vs Q E hr h => ?_)
  · obtain ⟨p, b, dx, bs, cl, nw, kb, kn, cas, x, y, rfl, _⟩ := h
    rfl
  · obtain ⟨p, b, dx, bs, cl, nw, kb, kn, cas, x, y, rfl, hh, k⟩ := h
    have F := hh.F
    refine ⟨_, (pss_cons (ps_if (PW.pt (pw_or (pt_not (pt_val (pe_meth (pv 0) T.clH T.mt_tells_H (ok_tells_H T) (hr.mono (by decide)) T.b_tells_H .nil pass0 (pa_cons (pv 1) pa_nil (hs := sE_Name))))) (pw_or1 (pt_not (pt_val (pe_meth (pv 0) T.clH T.mt_tells_H (ok_tells_H T) (hr.mono (by decide)) T.b_tells_H .nil pass0 (pa_cons (pv 2) pa_nil (hs := sE_Name)))))))) (pss_one (ps_ret (pe_lst (pa_cons (pe_gint rfl T.NO_SUCH_NUMBER) pa_nil (hs := sE_Name))))) pss_nil)
      (pss_cons (ps_set (i := 3) sc.nd rfl (Or.inl rfl) (pe_call (ok_writes_between T) (hr.mono (by decide)) rfl T.m_writes_between T.writes_between.kp T.b_writes_between .nil pass0 (pa_cons (pe_meth (pv 0) T.clH T.mt_store_at_H (ok_store_at_H T) (hr.mono (by decide)) T.b_store_at_H .nil pass0 (pa_cons (pv 1) pa_nil (hs := sE_Name))) (pa_cons (pe_meth (pv 0) T.clH T.mt_store_at_H (ok_store_at_H T) (hr.mono (by decide)) T.b_store_at_H .nil pass0 (pa_cons (pv 2) pa_nil (hs := sE_Name))) pa_nil (hs := sE_Call)) (hs := sE_Call))))
      (pss_one (ps_ret (pe_call (ok_list_answer T) (hr.mono (by decide)) rfl T.m_list_answer T.list_answer.kp T.b_list_answer .nil pass0 (pa_cons (pe_callB call_lenD (by rfl) T.len PySem.boot_len (pa_cons (pv 3) pa_nil (hs := sE_Name))) (pa_cons (pe_call (ok_numbers_of T) (hr.mono (by decide)) rfl T.m_numbers_of T.numbers_of.kp T.b_numbers_of .nil pass0 (pa_cons (pv 3) pa_nil (hs := sE_Name))) pa_nil (hs := sE_Call)) (hs := sE_Call))))))), ?_⟩
    refine ⟨_, rfl, p, dx, _, rfl, hh.ins, F.tells, _, rfl, p, dx, _, b.base, bs, cl, _, x, rfl, hh.ins, F, hh.cl, _, rfl, ?_⟩
    rw [isC_eq hh]
    unfold aCh at k
    cases hx : isC b x with
    | false =>
      rw [if_pos (.inl hx)] at k
      exact iteT (iteT (says1 k))
    | true =>
      refine iteF ⟨_, rfl, p, dx, _, rfl, hh.ins, F.tells, _, rfl, p, dx, _, b.base, bs, cl, _, y, rfl, hh.ins, F, hh.cl, _, rfl, ?_⟩
      rw [isC_eq hh]
      cases hy : isC b y with
      | false =>
        rw [if_pos (.inr hy)] at k
        exact iteT (says1 k)
      | true =>
        rw [if_neg (by rw [hx, hy]; intro z; rcases z with z | z <;> cases z)] at k
        refine iteF ⟨_, rfl, p, dx, _, rfl, hh.ins, F.store_at, _, rfl, p, dx, _, b.base, bs, cl, kb, b.first, cas, b.commits, x, rfl, hh.ins, F, hh.bs, hh.ds, hh.cl, hh.ws, (isC_lo hx).1, fun ks dks r1 H1 hr1 s1 e1 => ?_⟩
        have h1 := hh.same s1
        refine ⟨_, rfl, p, dx, _, rfl, h1.ins, F.store_at, _, rfl, p, dx, _, b.base, bs, cl, kb, b.first, cas, b.commits, y, rfl, h1.ins, F, h1.bs, h1.ds, h1.cl, h1.ws, (isC_lo hy).1, fun ks2 dks2 r2 H2 hr2 s2 e2 => ?_⟩
        refine ⟨r1, r2, ks, ks2, b.at_ x, b.at_ y, rfl, ne_of_none e1 hr2, s2 _ _ e1, e2, dks, dks2, fun kw dw r3 H3 hr3 s3 e3 => ?_⟩
        refine ⟨_, rfl, r3, kw, rfl, e3, _, rfl, r3, kw, _, rfl, e3, dw, fun r4 H4 hr4 s4 e4 => ?_⟩
        refine ⟨_, r4, _, rfl, e4, ?_, ?_⟩
        · rw [ofN_length, writesList_len]
          have := len_bd dw.srt dw.bd
          omega
        · rw [dw.len, ofN_length]
          rw [shown_one] at k
          exact k.from (((s1.trans s2).trans s3).trans s4)
def aLog (b : Tx.Book) : Tx.Answer := ⟨(b.log.length : Nat), [b.log]⟩
def sp_whole_log (_ : PySem.W.Frag) (a : Ad) : Sp := fun vs H Q _ => ∃ (p : Addr) (b : Tx.Book) (dx bs cl nw : Addr) (kb kn : List (Key × V)) (cas : List Addr), vs = [.ref p] ∧ HistAt a H p b dx bs cl nw kb kn cas ∧ b.log.length ≤ 50000 ∧ New H (li (TxNeutral.shown (aLog b))) Q
theorem ok_whole_log (T : Txt K mg a) : FnOk P w K mg base CX0 3 a.whole_log a.fd_whole_log ["history"] (sp_whole_log K a) := by
  have sc := sc_whole_log
  refine T.whole_log.ok sc (fun vs H Q E h => ?_) (fun cdv A outer s H vs Q E hr h => ?_)
  · obtain ⟨p, b, dx, bs, cl, nw, kb, kn, cas, rfl, _⟩ := h
    rfl
  · obtain ⟨p, b, dx, bs, cl, nw, kb, kn, cas, rfl, hh, hl, k⟩ := h
    refine ⟨_, (pss_cons (ps_set (i := 1) sc.nd rfl (Or.inl rfl) (pe_call (ok_log_of T) (hr.mono (by decide)) rfl T.m_log_of T.log_of.kp T.b_log_of .nil pass0 (pa_cons (pv 0) pa_nil (hs := sE_Name))))
      (pss_one (ps_ret (pe_call (ok_list_answer T) (hr.mono (by decide)) rfl T.m_list_answer T.list_answer.kp T.b_list_answer .nil pass0 (pa_cons (pe_callB call_len_seq (by rfl) T.len PySem.boot_len (pa_cons (pv 1) pa_nil (hs := sE_Name))) (pa_cons (pv 1) pa_nil (hs := sE_Name)) (hs := sE_Call)))))), ?_⟩
    refine ⟨_, rfl, p, b, dx, bs, cl, nw, kb, kn, cas, rfl, hh, hl, fun r1 H1 hr1 s1 e1 => ?_⟩
    refine ⟨_, rfl, r1, _, rfl, .inl (SqL.of e1), _, rfl, _, r1, _, rfl, e1, by rw [ofN_length]; omega, ?_⟩
    unfold aLog at k
    rw [shown_one] at k
    rw [li_len, ofN_length]
    exact k.from s1
/-! ### the changes of a History -/
def sp_add_commit_H (_ : PySem.W.Frag) (a : Ad) : Sp := fun vs H Q _ => ∃ (p : Addr) (b : Tx.Book) (dx bs cl nw : Addr) (kb kn : List (Key × V)) (cas : List Addr) (q : Addr) (kw : List (Key × V)) (w : Tx.Writes), vs = [.ref p, .ref q] ∧ HistAt a H p b dx bs cl nw kb kn cas ∧ H q = some (.dK kw) ∧ DW kw w ∧ cas.length ≤ 100000 ∧
  ∀ H' nw' kn', H nw' = none → H' p = some (.ins a.cH dx (hf4 b.base bs cl nw')) → H' cl = some (.lst ((cas ++ [q]).map V.ref)) → H' nw' = some (.dK kn') → DS kn' (Tx.applied (b.at_ b.now) w) → (∀ c o, H c = some o → c ≠ p → c ≠ cl → H' c = some o) → Q .non H'
theorem ok_add_commit_H (T : Txt K mg a) : FnOk P w K mg base CX0 3 a.add_commit_H a.fd_add_commit_H ["self", "writes"] (sp_add_commit_H K a) := by
  have sc := sc_add_commit_H
  refine T.add_commit_H.ok sc (fun vs H Q E h => ?_) (fun cdv A outer s H vs Q E hr h => ?_)
  · obtain ⟨p, b, dx, bs, cl, nw, kb, kn, cas, q, kw, w, rfl, _⟩ := h
    rfl
  · obtain ⟨p, b, dx, bs, cl, nw, kb, kn, cas, q, kw, w0, rfl, hh, hq, dw, hlen, k⟩ := h
    have F := hh.F
    have ncp : cl ≠ p := ne_of hh.cl hh.ins (by intro z; cases z)
    have nqc : q ≠ cl := ne_of hq hh.cl (by intro z; cases z)
    have nnc : nw ≠ cl := ne_of hh.nw hh.cl (by intro z; cases z)
    refine ⟨_, (pss_cons (ps_expr (pe_bm PySem.F.plainAttrs_list PySem.F.slot_list_append PySem.F.type_list_append mt_append (pe_fld (pv 0) rfl) (pa_cons (pv 1) pa_nil (hs := sE_Name))))
      (pss_one (ps_fld (pv 0) (pe_call (ok_with_writes T) (hr.mono (by decide)) rfl T.m_with_writes T.with_writes.kp T.b_with_writes .nil pass0 (pa_cons (pe_fld (pv 0) rfl) (pa_cons (pv 1) pa_nil (hs := sE_Name)) (hs := sE_Attribute))) rfl))), ?_⟩
    refine ⟨_, rfl, p, _, dx, _, _, rfl, hh.ins, T.clH, T.nH_commits, F.commits, .inl ⟨rfl, _, SqL.of hh.cl⟩, _, rfl, cl, _, _, rfl, rfl, hh.cl, by rw [List.length_map]; exact Nat.lt_of_le_of_lt hlen (by decide), ?_⟩
    have hp1 : ∀ o, (upd H cl o) p = some (.ins a.cH dx (hf4 b.base bs cl nw)) := fun o => by rw [upd_ne (fun z => ncp z.symm)]; exact hh.ins
    refine ⟨_, rfl, p, _, dx, _, _, rfl, hp1 _, T.clH, T.nH_newest, hf4_newest .., _, rfl, nw, q, kn, kw, b.at_ b.now, w0, rfl, by rw [upd_ne nnc]; exact hh.nw, by rw [upd_ne nqc]; exact hq, hh.dn, dw, fun ks dks nw' H1 hnw s1 e1 => ?_⟩
    refine ⟨_, rfl, p, _, dx, _, rfl, s1 _ _ (hp1 _), T.clH, T.nH_newest, by show 4 < 1000; decide, ?_⟩
    rw [hf4_new]
    have nnp : nw' ≠ p := fun z => by rw [z, hp1] at hnw; cases hnw
    have nncl : nw' ≠ cl := fun z => by rw [z, upd_same] at hnw; cases hnw
    refine k _ nw' ks (by rw [upd_ne nncl] at hnw; exact hnw) upd_same ?_ (by rw [upd_ne nnp]; exact e1) dks fun c o e h1 h2 => ?_
    · rw [upd_ne ncp, s1 _ _ upd_same, List.map_append]; rfl
    · rw [upd_ne h1]
      exact s1 c o (by rw [upd_ne h2]; exact e)
def sp_drop_below_H (_ : PySem.W.Frag) (a : Ad) : Sp := fun vs H Q _ => ∃ (p : Addr) (b : Tx.Book) (dx bs cl nw : Addr) (kb kn : List (Key × V)) (cas : List Addr) (n : Nat), vs = [.ref p, .int (n : Int)] ∧ HistAt a H p b dx bs cl nw kb kn cas ∧ b.base ≤ n ∧
  ∀ H' bs' cl' kb', H bs' = none → H cl' = none → H' p = some (.ins a.cH dx (hf4 n bs' cl' nw)) → H' bs' = some (.dK kb') → DS kb' (b.at_ n) → H' cl' = some (.lst ((cas.drop (n - b.base)).map V.ref)) → But H H' p → Q .non H'
theorem ok_drop_below_H (T : Txt K mg a) : FnOk P w K mg base CX0 3 a.drop_below_H a.fd_drop_below_H ["self", "number"] (sp_drop_below_H K a) := by
  have sc := sc_drop_below_H
  refine T.drop_below_H.ok sc (fun vs H Q E h => ?_) (fun cdv A outer s H vs Q E hr h => ?_)
  · obtain ⟨p, b, dx, bs, cl, nw, kb, kn, cas, n, rfl, _⟩ := h
    rfl
  · obtain ⟨p, b, dx, bs, cl, nw, kb, kn, cas, n, rfl, hh, hn, k⟩ := h
    have F := hh.F
    refine ⟨_, (pss_cons (ps_set (i := 2) sc.nd rfl (Or.inl rfl) (pe_meth (pv 0) T.clH T.mt_store_at_H (ok_store_at_H T) (hr.mono (by decide)) T.b_store_at_H .nil pass0 (pa_cons (pv 1) pa_nil (hs := sE_Name))))
      (pss_cons (ps_fld (pv 0) (pe_meth (pv 0) T.clH T.mt_commits_behind_H (ok_commits_behind_H T) (hr.mono (by decide)) T.b_commits_behind_H .nil pass0 (pa_cons (pv 1) pa_nil (hs := sE_Name))) rfl)
      (pss_cons (ps_fld (pv 0) (pv 2) rfl)
      (pss_one (ps_fld (pv 0) (pv 1) rfl))))), ?_⟩
    refine ⟨_, rfl, p, dx, _, rfl, hh.ins, F.store_at, _, rfl, p, dx, _, b.base, bs, cl, kb, b.first, cas, b.commits, n, rfl, hh.ins, F, hh.bs, hh.ds, hh.cl, hh.ws, hn, fun ks dks r1 H1 hr1 s1 e1 => ?_⟩
    have h1 := hh.same s1
    refine ⟨_, rfl, p, dx, _, rfl, h1.ins, F.behind, _, rfl, p, dx, _, b.base, bs, cl, _, n, rfl, h1.ins, F, h1.cl, hn, fun r2 H2 hr2 s2 e2 => ?_⟩
    have h2 := h1.same s2
    refine ⟨_, rfl, p, _, dx, _, rfl, h2.ins, T.clH, T.nH_commits, by show 4 < 1000; decide, ?_⟩
    rw [hf4_commits]
    refine ⟨_, rfl, _, rfl, p, _, dx, _, rfl, upd_same, T.clH, T.nH_base_store, by show 4 < 1000; decide, ?_⟩
    rw [hf4_store, upd_upd]
    refine ⟨_, rfl, _, rfl, p, _, dx, _, rfl, upd_same, T.clH, T.nH_base, by show 4 < 1000; decide, ?_⟩
    rw [hf4_base, upd_upd]
    have n1 : r1 ≠ p := fun z => by rw [z, hh.ins] at hr1; cases hr1
    have n2 : r2 ≠ p := fun z => by rw [z, h1.ins] at hr2; cases hr2
    refine k _ r1 r2 ks hr1 (s1.free hr2) upd_same (by rw [upd_ne n1]; exact s2 _ _ e1) dks ?_ fun c o e hc => ?_
    · rw [upd_ne n2, e2, List.map_drop]
    · rw [upd_ne hc]; exact s2 _ _ (s1 _ _ e)
def sp_drop_above_H (_ : PySem.W.Frag) (a : Ad) : Sp := fun vs H Q _ => ∃ (p : Addr) (b : Tx.Book) (dx bs cl nw : Addr) (kb kn : List (Key × V)) (cas : List Addr) (n : Nat), vs = [.ref p, .int (n : Int)] ∧ HistAt a H p b dx bs cl nw kb kn cas ∧ b.base ≤ n ∧
  ∀ H' cl' nw' kn', H cl' = none → H nw' = none → H' p = some (.ins a.cH dx (hf4 b.base bs cl' nw')) → H' cl' = some (.lst ((cas.take (n - b.base)).map V.ref)) → H' nw' = some (.dK kn') → DS kn' (b.at_ n) → But H H' p → Q .non H'
theorem ok_drop_above_H (T : Txt K mg a) : FnOk P w K mg base CX0 3 a.drop_above_H a.fd_drop_above_H ["self", "number"] (sp_drop_above_H K a) := by
  have sc := sc_drop_above_H
  refine T.drop_above_H.ok sc (fun vs H Q E h => ?_) (fun cdv A outer s H vs Q E hr h => ?_)
  · obtain ⟨p, b, dx, bs, cl, nw, kb, kn, cas, n, rfl, _⟩ := h
    rfl
  · obtain ⟨p, b, dx, bs, cl, nw, kb, kn, cas, n, rfl, hh, hn, k⟩ := h
    have F := hh.F
    refine ⟨_, (pss_cons (ps_fld (pv 0) (pe_slice sl_list (pe_fld (pv 0) rfl) po_none (po_some (pe_op op_sub (pv 1) (pe_fld (pv 0) rfl)))) rfl)
      (pss_one (ps_fld (pv 0) (pe_meth (pv 0) T.clH T.mt_store_at_H (ok_store_at_H T) (hr.mono (by decide)) T.b_store_at_H .nil pass0 (pa_cons (pv 1) pa_nil (hs := sE_Name))) rfl))), ?_⟩
    refine ⟨_, rfl, p, _, dx, _, _, rfl, hh.ins, T.clH, T.nH_commits, F.commits, _, rfl, _, rfl, p, _, dx, _, _, rfl, hh.ins, T.clH, T.nH_base, F.base, _, _, rfl, rfl, _, rfl, cl, _, rfl, SqL.of hh.cl, fun r hr0 => ?_⟩
    have e : (n : Int) - (b.base : Int) = ((n - b.base : Nat) : Int) := by omega
    rw [e, cut_hi, ← List.map_take]
    have hp1 : ∀ o, (upd H r o) p = some (.ins a.cH dx (hf4 b.base bs cl nw)) := fun o => keep hh.ins hr0
    refine ⟨_, rfl, p, _, dx, _, rfl, hp1 _, T.clH, T.nH_commits, by show 4 < 1000; decide, ?_⟩
    rw [hf4_commits]
    have nrp : r ≠ p := (ne_of_none hh.ins hr0).symm
    have F2 := HF.four b.base bs r nw
    have nbp : bs ≠ p := ne_of hh.bs hh.ins (by intro z; cases z)
    have fr : ∀ c o u1 u2, H c = some o → c ≠ p → (upd (upd H r u1) p u2) c = some o := fun c o u1 u2 e hc => by rw [upd_ne hc]; exact keep e hr0
    refine ⟨_, rfl, p, dx, _, rfl, upd_same, F2.store_at, _, rfl, p, dx, _, b.base, bs, r, kb, b.first, cas.take (n - b.base), b.commits.take (n - b.base), n, rfl, upd_same, F2, fr _ _ _ _ hh.bs nbp, hh.ds, by rw [upd_ne nrp, upd_same], ?_, hn, fun ks dks nw' H1 hnw s1 e1 => ?_⟩
    · refine (hh.ws.take _).on fun c hc o e => ?_
      obtain ⟨kw, e'⟩ := (hh.ws.take _).live hc
      exact fr _ _ _ _ e (ne_of e' hh.ins (by intro z; cases z))
    · refine ⟨_, rfl, p, _, dx, _, rfl, s1 _ _ upd_same, T.clH, T.nH_newest, by show 4 < 1000; decide, ?_⟩
      rw [hf4_new]
      have nnp : nw' ≠ p := fun z => by rw [z, upd_same] at hnw; cases hnw
      have nnr : nw' ≠ r := fun z => by rw [z, upd_ne nrp, upd_same] at hnw; cases hnw
      rw [List.take_take, Nat.min_self] at dks
      refine k _ r nw' ks hr0 (by rw [upd_ne nnp, upd_ne nnr] at hnw; exact hnw) upd_same ?_ (by rw [upd_ne nnp]; exact e1) dks fun c o e hc => ?_
      · rw [upd_ne nrp]
        exact s1 _ _ (by rw [upd_ne nrp, upd_same])
      · rw [upd_ne hc]
        exact s1 _ _ (fr _ _ _ _ e hc)
end
end My

end
section
set_option linter.all false
set_option Elab.async false
set_option maxRecDepth 100000
set_option maxHeartbeats 2000000
namespace My
open PySem PySem.Spec PyProof.Rows L2 TxM
/-! ### a Transaction's attributes -/
def tf (way sees : Nat) (st wd rl ml : Addr) : List (Str × V) := [("way", .int (way : Int)), ("sees", .int (sees : Int)), ("store", .ref st), ("writes", .ref wd), ("reads", .ref rl), ("marks", .ref ml)]
section
variable {way sees : Nat} {st wd rl ml : Addr}
theorem tf_way : (tf way sees st wd rl ml).lookup ("way" : Str) = some (.int (way : Int)) := lk_hit
theorem tf_sees : (tf way sees st wd rl ml).lookup ("sees" : Str) = some (.int (sees : Int)) := by unfold tf; rw [lk_miss (by decide +kernel), lk_hit]
theorem tf_store : (tf way sees st wd rl ml).lookup ("store" : Str) = some (.ref st) := by unfold tf; rw [lk_miss (by decide +kernel), lk_miss (by decide +kernel), lk_hit]
theorem tf_writes : (tf way sees st wd rl ml).lookup ("writes" : Str) = some (.ref wd) := by unfold tf; rw [lk_miss (by decide +kernel), lk_miss (by decide +kernel), lk_miss (by decide +kernel), lk_hit]
theorem tf_reads : (tf way sees st wd rl ml).lookup ("reads" : Str) = some (.ref rl) := by unfold tf; rw [lk_miss (by decide +kernel), lk_miss (by decide +kernel), lk_miss (by decide +kernel), lk_miss (by decide +kernel), lk_hit]
theorem tf_marks : (tf way sees st wd rl ml).lookup ("marks" : Str) = some (.ref ml) := by unfold tf; rw [lk_miss (by decide +kernel), lk_miss (by decide +kernel), lk_miss (by decide +kernel), lk_miss (by decide +kernel), lk_miss (by decide +kernel), lk_hit]
theorem tf_no {f : Str} (h1 : ¬ f = "way") (h2 : ¬ f = "sees") (h3 : ¬ f = "store") (h4 : ¬ f = "writes") (h5 : ¬ f = "reads") (h6 : ¬ f = "marks") : (tf way sees st wd rl ml).lookup f = none := by
  unfold tf; rw [lk_miss h1, lk_miss h2, lk_miss h3, lk_miss h4, lk_miss h5, lk_miss h6]; rfl
theorem tf_putw (wd' : Addr) : putF "writes" (.ref wd') (tf way sees st wd rl ml) = tf way sees st wd' rl ml := by
  unfold tf; rw [putF_miss (by decide +kernel), putF_miss (by decide +kernel), putF_miss (by decide +kernel), putF_hit]
theorem tf_putm (ml' : Addr) : putF "marks" (.ref ml') (tf way sees st wd rl ml) = tf way sees st wd rl ml' := by
  unfold tf; rw [putF_miss (by decide +kernel), putF_miss (by decide +kernel), putF_miss (by decide +kernel), putF_miss (by decide +kernel), putF_miss (by decide +kernel), putF_hit]
theorem tf_has_written : (tf way sees st wd rl ml).lookup ("has_written" : Str) = none := tf_no (by decide +kernel) (by decide +kernel) (by decide +kernel) (by decide +kernel) (by decide +kernel) (by decide +kernel)
theorem tf_may_read : (tf way sees st wd rl ml).lookup ("may_read" : Str) = none := tf_no (by decide +kernel) (by decide +kernel) (by decide +kernel) (by decide +kernel) (by decide +kernel) (by decide +kernel)
theorem tf_note_read : (tf way sees st wd rl ml).lookup ("note_read" : Str) = none := tf_no (by decide +kernel) (by decide +kernel) (by decide +kernel) (by decide +kernel) (by decide +kernel) (by decide +kernel)
theorem tf_value_at : (tf way sees st wd rl ml).lookup ("value_at" : Str) = none := tf_no (by decide +kernel) (by decide +kernel) (by decide +kernel) (by decide +kernel) (by decide +kernel) (by decide +kernel)
theorem tf_seen : (tf way sees st wd rl ml).lookup ("seen" : Str) = none := tf_no (by decide +kernel) (by decide +kernel) (by decide +kernel) (by decide +kernel) (by decide +kernel) (by decide +kernel)
theorem tf_write : (tf way sees st wd rl ml).lookup ("write" : Str) = none := tf_no (by decide +kernel) (by decide +kernel) (by decide +kernel) (by decide +kernel) (by decide +kernel) (by decide +kernel)
theorem tf_take_out : (tf way sees st wd rl ml).lookup ("take_out" : Str) = none := tf_no (by decide +kernel) (by decide +kernel) (by decide +kernel) (by decide +kernel) (by decide +kernel) (by decide +kernel)
theorem tf_may_mark : (tf way sees st wd rl ml).lookup ("may_mark" : Str) = none := tf_no (by decide +kernel) (by decide +kernel) (by decide +kernel) (by decide +kernel) (by decide +kernel) (by decide +kernel)
theorem tf_mark : (tf way sees st wd rl ml).lookup ("mark" : Str) = none := tf_no (by decide +kernel) (by decide +kernel) (by decide +kernel) (by decide +kernel) (by decide +kernel) (by decide +kernel)
theorem tf_has_mark : (tf way sees st wd rl ml).lookup ("has_mark" : Str) = none := tf_no (by decide +kernel) (by decide +kernel) (by decide +kernel) (by decide +kernel) (by decide +kernel) (by decide +kernel)
theorem tf_go_back : (tf way sees st wd rl ml).lookup ("go_back" : Str) = none := tf_no (by decide +kernel) (by decide +kernel) (by decide +kernel) (by decide +kernel) (by decide +kernel) (by decide +kernel)
theorem tf_has_read : (tf way sees st wd rl ml).lookup ("has_read" : Str) = none := tf_no (by decide +kernel) (by decide +kernel) (by decide +kernel) (by decide +kernel) (by decide +kernel) (by decide +kernel)
theorem tf_minds : (tf way sees st wd rl ml).lookup ("minds" : Str) = none := tf_no (by decide +kernel) (by decide +kernel) (by decide +kernel) (by decide +kernel) (by decide +kernel) (by decide +kernel)
end
/-! ### what it has read -/
def Rds (H : Hp) : List Addr → List (Nat × Nat) → Prop
  | [], [] => True
  | c :: cs, x :: xs => H c = some (.tup [.int (x.1 : Int), .int (x.2 : Int)]) ∧ Rds H cs xs
  | _, _ => False
theorem Rds.len {H : Hp} : ∀ {cs : List Addr} {ws : List (Nat × Nat)}, Rds H cs ws → cs.length = ws.length
  | [], [], _ => rfl
  | [], _ :: _, h => h.elim
  | _ :: _, [], h => h.elim
  | _ :: cs, _ :: ws, h => by rw [List.length_cons, List.length_cons, Rds.len h.2]
theorem Rds.get {H : Hp} : ∀ {cs : List Addr} {ws : List (Nat × Nat)} {i : Nat} {c : Addr}, Rds H cs ws → cs[i]? = some c → ∃ x, ws[i]? = some x ∧ H c = some (.tup [.int (x.1 : Int), .int (x.2 : Int)])
  | [], [], i, c, _, h => by simp at h
  | [], _ :: _, _, _, h, _ => h.elim
  | _ :: _, [], _, _, h, _ => h.elim
  | d :: cs, x :: ws, 0, c, h, e => by
    have e' : d = c := Option.some.inj e
    subst e'
    exact ⟨x, rfl, h.1⟩
  | d :: cs, w :: ws, i + 1, c, h, e => Rds.get (i := i) h.2 e
theorem Rds.on {H H' : Hp} : ∀ {cs : List Addr} {ws : List (Nat × Nat)}, Rds H cs ws → (∀ c ∈ cs, ∀ o, H c = some o → H' c = some o) → Rds H' cs ws
  | [], [], _, _ => True.intro
  | [], _ :: _, h, _ => h.elim
  | _ :: _, [], h, _ => h.elim
  | d :: cs, w :: ws, h, k => ⟨k d (List.mem_cons_self ..) _ h.1, h.2.on fun c hc => k c (List.mem_cons_of_mem _ hc)⟩
theorem Rds.app {H : Hp} : ∀ {cs ds : List Addr} {ws vs : List (Nat × Nat)}, Rds H cs ws → Rds H ds vs → Rds H (cs ++ ds) (ws ++ vs)
  | [], ds, [], vs, _, h => h
  | [], _, _ :: _, _, h, _ => h.elim
  | _ :: _, _, [], _, h, _ => h.elim
  | d :: cs, ds, w :: ws, vs, h, h2 => ⟨h.1, Rds.app h.2 h2⟩
theorem Rds.live {H : Hp} {cs : List Addr} {ws : List (Nat × Nat)} (h : Rds H cs ws) {c : Addr} (hc : c ∈ cs) : ∃ xs, H c = some (.tup xs) := by
  obtain ⟨i, hi⟩ := List.mem_iff_getElem?.mp hc
  obtain ⟨x, _, h1⟩ := h.get hi
  exact ⟨_, h1⟩
/-- a Transaction t stands at p, the store it sees is s -/
structure TxnAt (a : Ad) (H : Hp) (p : Addr) (t : Tx.Txn) (s : Tx.Store) (dx st wd rl ml : Addr) (kst kw : List (Key × V)) (ras mas : List Addr) : Prop where
  ins : H p = some (.ins a.cT dx (tf t.way t.seen st wd rl ml))
  st : H st = some (.dK kst)
  ds : DS kst s
  wd : H wd = some (.dK kw)
  dw : DW kw t.writes
  rl : H rl = some (.lst (ras.map V.ref))
  rs : Rds H ras t.reads
  ml : H ml = some (.lst (mas.map V.ref))
  ms : Wds H mas t.marks
theorem TxnAt.same {a : Ad} {H H' : Hp} {p : Addr} {t : Tx.Txn} {s : Tx.Store} {dx st wd rl ml : Addr} {kst kw : List (Key × V)} {ras mas : List Addr} (h : TxnAt a H p t s dx st wd rl ml kst kw ras mas) (e : Same H H') : TxnAt a H' p t s dx st wd rl ml kst kw ras mas :=
  ⟨e _ _ h.ins, e _ _ h.st, h.ds, e _ _ h.wd, h.dw, e _ _ h.rl, h.rs.on fun c _ o q => e c o q, e _ _ h.ml, h.ms.same e⟩
section
variable {P : Program} {w : World} {K : PySem.W.Frag} {mg : Str → Option Value} {base : Heap} {a : Ad}
/-- a promise of a method of a Transaction: f of what stands there -/
def onTxn (a : Ad) (args : List V) (f : Hp → Addr → Tx.Txn → Tx.Store → Addr → Addr → Addr → Addr → Addr → List (Key × V) → List (Key × V) → List Addr → List Addr → Prop) (vs : List V) (H : Hp) : Prop :=
  ∃ (p : Addr) (t : Tx.Txn) (s : Tx.Store) (dx st wd rl ml : Addr) (kst kw : List (Key × V)) (ras mas : List Addr), vs = .ref p :: args ∧ TxnAt a H p t s dx st wd rl ml kst kw ras mas ∧ f H p t s dx st wd rl ml kst kw ras mas
def sp_has_written_T (_ : PySem.W.Frag) (a : Ad) : Sp := fun vs H Q _ => ∃ k : Nat, onTxn a [.int (k : Int)] (fun H _ t _ _ _ _ _ _ _ _ _ _ => Q (.bl (gget t.writes k).isSome) H) vs H
theorem ok_has_written_T (T : Txt K mg a) : FnOk P w K mg base CX0 1 a.has_written_T a.fd_has_written_T ["self", "key"] (sp_has_written_T K a) := by
  have sc := sc_has_written_T
  refine T.has_written_T.ok sc (fun vs H Q E h => ?_) (fun cdv A outer s H vs Q E hr h => ?_)
  · obtain ⟨k, p, t, s, dx, st, wd, rl, ml, kst, kw, ras, mas, rfl, _⟩ := h
    rfl
  · obtain ⟨key, p, t, s0, dx, st, wd, rl, ml, kst, kw, ras, mas, rfl, ht, k⟩ := h
    have hu := hu_of hr
    refine ⟨_, (pss_one (ps_ret (pe_cmp (pc_din hu (pv 1) (pe_fld (pv 0) rfl))))), ?_⟩
    refine ⟨_, rfl, _, rfl, p, _, dx, _, _, rfl, ht.ins, T.clT, T.nT_writes, tf_writes, wd, _, rfl, DGet.k (k := Sum.inl (key : Int)) ht.wd, ?_⟩
    rw [ht.dw.val, Option.isSome_map]
    exact k
def sp_may_read_T (_ : PySem.W.Frag) (a : Ad) : Sp := fun vs H Q _ => onTxn a [] (fun H _ t _ _ _ _ _ _ _ _ _ _ => Q (.bl (decide (t.reads.length < 64))) H) vs H
theorem dlt (x y : Nat) : decide ((x : Int) < (y : Int)) = decide (x < y) := by
  by_cases h : x < y
  · rw [decide_eq_true h, decide_eq_true (by omega)]
  · rw [decide_eq_false h, decide_eq_false (by omega)]
theorem ok_may_read_T (T : Txt K mg a) : FnOk P w K mg base CX0 1 a.may_read_T a.fd_may_read_T ["self"] (sp_may_read_T K a) := by
  have sc := sc_may_read_T
  refine T.may_read_T.ok sc (fun vs H Q E h => ?_) (fun cdv A outer s H vs Q E hr h => ?_)
  · obtain ⟨p, t, s, dx, st, wd, rl, ml, kst, kw, ras, mas, rfl, _⟩ := h
    rfl
  · obtain ⟨p, t, s0, dx, st, wd, rl, ml, kst, kw, ras, mas, rfl, ht, k⟩ := h
    refine ⟨_, (pss_one (ps_ret (pe_cmpR op_lt (pe_callB call_len_seq (by rfl) T.len PySem.boot_len (pa_cons (pe_fld (pv 0) rfl) pa_nil (hs := sE_Attribute))) (pe_gint rfl T.MOST_READS) (nomark _)))), ?_⟩
    refine ⟨_, rfl, p, _, dx, _, _, rfl, ht.ins, T.clT, T.nT_reads, tf_reads, rl, _, rfl, .inl (SqL.of ht.rl), _, _, rfl, rfl, ?_⟩
    rw [← dlt, ← ht.rs.len, ← List.length_map V.ref] at k
    exact k
def sp_may_mark_T (_ : PySem.W.Frag) (a : Ad) : Sp := fun vs H Q _ => onTxn a [] (fun H _ t _ _ _ _ _ _ _ _ _ _ => Q (.bl (decide (t.marks.length < 16))) H) vs H
theorem ok_may_mark_T (T : Txt K mg a) : FnOk P w K mg base CX0 1 a.may_mark_T a.fd_may_mark_T ["self"] (sp_may_mark_T K a) := by
  have sc := sc_may_mark_T
  refine T.may_mark_T.ok sc (fun vs H Q E h => ?_) (fun cdv A outer s H vs Q E hr h => ?_)
  · obtain ⟨p, t, s, dx, st, wd, rl, ml, kst, kw, ras, mas, rfl, _⟩ := h
    rfl
  · obtain ⟨p, t, s0, dx, st, wd, rl, ml, kst, kw, ras, mas, rfl, ht, k⟩ := h
    refine ⟨_, (pss_one (ps_ret (pe_cmpR op_lt (pe_callB call_len_seq (by rfl) T.len PySem.boot_len (pa_cons (pe_fld (pv 0) rfl) pa_nil (hs := sE_Attribute))) (pe_gint rfl T.MOST_MARKS) (nomark _)))), ?_⟩
    refine ⟨_, rfl, p, _, dx, _, _, rfl, ht.ins, T.clT, T.nT_marks, tf_marks, ml, _, rfl, .inl (SqL.of ht.ml), _, _, rfl, rfl, ?_⟩
    rw [← dlt, ← ht.ms.len, ← List.length_map V.ref] at k
    exact k
def sp_has_mark_T (_ : PySem.W.Frag) (a : Ad) : Sp := fun vs H Q _ => ∃ n : Nat, onTxn a [.int (n : Int)] (fun H _ t _ _ _ _ _ _ _ _ _ _ => Q (.bl (decide (n < t.marks.length))) H) vs H
theorem ok_has_mark_T (T : Txt K mg a) : FnOk P w K mg base CX0 1 a.has_mark_T a.fd_has_mark_T ["self", "number"] (sp_has_mark_T K a) := by
  have sc := sc_has_mark_T
  refine T.has_mark_T.ok sc (fun vs H Q E h => ?_) (fun cdv A outer s H vs Q E hr h => ?_)
  · obtain ⟨n, p, t, s, dx, st, wd, rl, ml, kst, kw, ras, mas, rfl, _⟩ := h
    rfl
  · obtain ⟨n, p, t, s0, dx, st, wd, rl, ml, kst, kw, ras, mas, rfl, ht, k⟩ := h
    refine ⟨_, (pss_one (ps_ret (pe_cmpR op_lt (pv 1) (pe_callB call_len_seq (by rfl) T.len PySem.boot_len (pa_cons (pe_fld (pv 0) rfl) pa_nil (hs := sE_Attribute))) (nomark _)))), ?_⟩
    refine ⟨_, rfl, _, rfl, p, _, dx, _, _, rfl, ht.ins, T.clT, T.nT_marks, tf_marks, ml, _, rfl, .inl (SqL.of ht.ml), _, _, rfl, rfl, ?_⟩
    rw [← dlt, ← ht.ms.len, ← List.length_map V.ref] at k
    exact k
def sp_note_read_T (_ : PySem.W.Frag) (a : Ad) : Sp := fun vs H Q _ => ∃ lo hi : Nat, onTxn a [.int (lo : Int), .int (hi : Int)] (fun H _ t _ _ _ _ rl _ _ _ ras _ => t.reads.length ≤ 64 ∧ ∀ c, H c = none → Q .non (upd (upd H c (.tup [.int (lo : Int), .int (hi : Int)])) rl (.lst ((ras ++ [c]).map V.ref)))) vs H
theorem ok_note_read_T (T : Txt K mg a) : FnOk P w K mg base CX0 1 a.note_read_T a.fd_note_read_T ["self", "lo", "hi"] (sp_note_read_T K a) := by
  have sc := sc_note_read_T
  refine T.note_read_T.ok sc (fun vs H Q E h => ?_) (fun cdv A outer s H vs Q E hr h => ?_)
  · obtain ⟨lo, hi, p, t, s, dx, st, wd, rl, ml, kst, kw, ras, mas, rfl, _⟩ := h
    rfl
  · obtain ⟨lo, hi, p, t, s0, dx, st, wd, rl, ml, kst, kw, ras, mas, rfl, ht, hl, k⟩ := h
    refine ⟨_, (pss_one (ps_expr (pe_bm PySem.F.plainAttrs_list PySem.F.slot_list_append PySem.F.type_list_append mt_append (pe_fld (pv 0) rfl) (pa_cons (pe_tup (pa_cons (pv 1) (pa_cons (pv 2) pa_nil (hs := sE_Name)) (hs := sE_Name))) pa_nil (hs := sE_Tuple))))), ?_⟩
    refine ⟨_, rfl, p, _, dx, _, _, rfl, ht.ins, T.clT, T.nT_reads, tf_reads, .inl ⟨rfl, _, SqL.of ht.rl⟩, _, rfl, _, rfl, by show 2 ≤ sizeLine; decide, fun c hc => ?_⟩
    refine ⟨rl, _, _, rfl, rfl, keep ht.rl hc, by rw [List.length_map, ht.rs.len]; exact Nat.lt_of_le_of_lt hl (by decide), ?_⟩
    have := k c hc
    rw [List.map_append] at this
    exact this
/-- what it sees at a key -/
def viewAt (t : Tx.Txn) (s : Tx.Store) (k : Nat) : Option Nat := match gget t.writes k with
  | some o => o
  | none => gget s k
def sp_value_at_T (_ : PySem.W.Frag) (a : Ad) : Sp := fun vs H Q _ => ∃ k : Nat, onTxn a [.int (k : Int)] (fun H _ t s _ _ _ _ _ _ _ _ _ => Q (eW (viewAt t s k)) H) vs H
theorem ok_value_at_T (T : Txt K mg a) : FnOk P w K mg base CX0 1 a.value_at_T a.fd_value_at_T ["self", "key"] (sp_value_at_T K a) := by
  have sc := sc_value_at_T
  refine T.value_at_T.ok sc (fun vs H Q E h => ?_) (fun cdv A outer s H vs Q E hr h => ?_)
  · obtain ⟨k, p, t, s, dx, st, wd, rl, ml, kst, kw, ras, mas, rfl, _⟩ := h
    rfl
  · obtain ⟨key, p, t, s0, dx, st, wd, rl, ml, kst, kw, ras, mas, rfl, ht, k⟩ := h
    have hu := hu_of hr
    refine ⟨_, (pss_cons (ps_if (pt_cmp (pc_din hu (pv 1) (pe_fld (pv 0) rfl))) (pss_one (ps_ret (pe_dget hu (pe_fld (pv 0) rfl) (pv 1) (fun _ _ => rfl)))) pss_nil)
      (pss_one (ps_ret (pe_dget1 hu (pe_fld (pv 0) rfl) (pv 1) ⟨rfl, rfl, rfl, rfl⟩)))), ?_⟩
    refine ⟨_, rfl, _, rfl, p, _, dx, _, _, rfl, ht.ins, T.clT, T.nT_writes, tf_writes, wd, _, rfl, DGet.k (k := Sum.inl (key : Int)) ht.wd, _, rfl, ?_⟩
    rw [ht.dw.val, Option.isSome_map]
    unfold viewAt at k
    cases hg : gget t.writes key with
    | some o =>
      rw [hg] at k
      exact ⟨_, rfl, p, _, dx, _, _, rfl, ht.ins, T.clT, T.nT_writes, tf_writes, _, rfl, wd, _, rfl, .inl ⟨_, Sum.inl (key : Int), .inl ht.wd, rfl, by rw [ht.dw.val, hg]; rfl⟩, k⟩
    | none =>
      rw [hg] at k
      refine ⟨_, rfl, p, _, dx, _, _, rfl, ht.ins, T.clT, T.nT_store, tf_store, st, rfl, .inl ⟨_, .inl ht.st⟩, _, rfl, _, DGet.k (k := Sum.inl (key : Int)) ht.st, ?_⟩
      rw [ht.ds.val]
      have e : ((gget s0 key).map eS).getD V.non = eW (gget s0 key) := by cases gget s0 key <;> rfl
      rw [e]
      exact k
def sp_seen_T (_ : PySem.W.Frag) (a : Ad) : Sp := fun vs H Q _ => onTxn a [] (fun H _ t s _ _ _ _ _ _ _ _ _ => ∀ ks, DS ks (Tx.applied s t.writes) → New H (.dK ks) Q) vs H
theorem ok_seen_T (T : Txt K mg a) : FnOk P w K mg base CX0 3 a.seen_T a.fd_seen_T ["self"] (sp_seen_T K a) := by
  have sc := sc_seen_T
  refine T.seen_T.ok sc (fun vs H Q E h => ?_) (fun cdv A outer s H vs Q E hr h => ?_)
  · obtain ⟨p, t, s, dx, st, wd, rl, ml, kst, kw, ras, mas, rfl, _⟩ := h
    rfl
  · obtain ⟨p, t, s0, dx, st, wd, rl, ml, kst, kw, ras, mas, rfl, ht, k⟩ := h
    refine ⟨_, (pss_one (ps_ret (pe_call (ok_with_writes T) (hr.mono (by decide)) rfl T.m_with_writes T.with_writes.kp T.b_with_writes .nil pass0 (pa_cons (pe_fld (pv 0) rfl) (pa_cons (pe_fld (pv 0) rfl) pa_nil (hs := sE_Attribute)) (hs := sE_Attribute))))), ?_⟩
    exact ⟨_, rfl, p, _, dx, _, _, rfl, ht.ins, T.clT, T.nT_store, tf_store, _, rfl, p, _, dx, _, _, rfl, ht.ins, T.clT, T.nT_writes, tf_writes, st, wd, kst, kw, s0, t.writes, rfl, ht.st, ht.wd, ht.ds, ht.dw, k⟩
def sp_write_T (_ : PySem.W.Frag) (a : Ad) : Sp := fun vs H Q _ => ∃ k v : Nat, onTxn a [.int (k : Int), .int (v : Int)] (fun H _ t _ _ _ wd _ _ _ kw _ _ => Q .non (upd H wd (.dK (putK kw (Sum.inl (k : Int)) (.int (v : Int)))))) vs H
theorem ok_write_T (T : Txt K mg a) : FnOk P w K mg base CX0 1 a.write_T a.fd_write_T ["self", "key", "value"] (sp_write_T K a) := by
  have sc := sc_write_T
  refine T.write_T.ok sc (fun vs H Q E h => ?_) (fun cdv A outer s H vs Q E hr h => ?_)
  · obtain ⟨k, v, p, t, s, dx, st, wd, rl, ml, kst, kw, ras, mas, rfl, _⟩ := h
    rfl
  · obtain ⟨key, v, p, t, s0, dx, st, wd, rl, ml, kst, kw, ras, mas, rfl, ht, k⟩ := h
    have hu := hu_of hr
    refine ⟨_, (pss_one (ps_dput hu (pe_fld (pv 0) rfl) (pv 1) (pv 2) rfl)), ?_⟩
    exact ⟨_, rfl, _, rfl, p, _, dx, _, _, rfl, ht.ins, T.clT, T.nT_writes, tf_writes, _, rfl, wd, _, rfl, DPut.k (k := Sum.inl (key : Int)) ht.wd (sl256 ht.dw.small), k⟩
def sp_take_out_T (_ : PySem.W.Frag) (a : Ad) : Sp := fun vs H Q _ => ∃ k : Nat, onTxn a [.int (k : Int)] (fun H _ t _ _ _ wd _ _ _ kw _ _ => Q .non (upd H wd (.dK (putK kw (Sum.inl (k : Int)) .non)))) vs H
theorem ok_take_out_T (T : Txt K mg a) : FnOk P w K mg base CX0 1 a.take_out_T a.fd_take_out_T ["self", "key"] (sp_take_out_T K a) := by
  have sc := sc_take_out_T
  refine T.take_out_T.ok sc (fun vs H Q E h => ?_) (fun cdv A outer s H vs Q E hr h => ?_)
  · obtain ⟨k, p, t, s, dx, st, wd, rl, ml, kst, kw, ras, mas, rfl, _⟩ := h
    rfl
  · obtain ⟨key, p, t, s0, dx, st, wd, rl, ml, kst, kw, ras, mas, rfl, ht, k⟩ := h
    have hu := hu_of hr
    refine ⟨_, (pss_one (ps_dput hu (pe_fld (pv 0) rfl) (pv 1) pe_non rfl)), ?_⟩
    exact ⟨_, rfl, p, _, dx, _, _, rfl, ht.ins, T.clT, T.nT_writes, tf_writes, _, rfl, wd, _, rfl, DPut.k (k := Sum.inl (key : Int)) ht.wd (sl256 ht.dw.small), k⟩
def sp_mark_T (_ : PySem.W.Frag) (a : Ad) : Sp := fun vs H Q _ => onTxn a [] (fun H _ t _ _ _ _ _ ml _ kw _ mas => t.marks.length ≤ 16 ∧ ∀ c, H c = none → Q (.int (t.marks.length : Nat)) (upd (upd H c (.dK kw)) ml (.lst ((mas ++ [c]).map V.ref)))) vs H
theorem ok_mark_T (T : Txt K mg a) : FnOk P w K mg base CX0 1 a.mark_T a.fd_mark_T ["self"] (sp_mark_T K a) := by
  have sc := sc_mark_T
  refine T.mark_T.ok sc (fun vs H Q E h => ?_) (fun cdv A outer s H vs Q E hr h => ?_)
  · obtain ⟨p, t, s, dx, st, wd, rl, ml, kst, kw, ras, mas, rfl, _⟩ := h
    rfl
  · obtain ⟨p, t, s0, dx, st, wd, rl, ml, kst, kw, ras, mas, rfl, ht, hl, k⟩ := h
    refine ⟨_, (pss_cons (ps_expr (pe_bm PySem.F.plainAttrs_list PySem.F.slot_list_append PySem.F.type_list_append mt_append (pe_fld (pv 0) rfl) (pa_cons (pe_callTy call_dictD (by rfl) T.dict boot_dict1 (pa_cons (pe_fld (pv 0) rfl) pa_nil (hs := sE_Attribute))) pa_nil (hs := sE_Call))))
      (pss_one (ps_ret (pe_op op_sub (pe_callB call_len_seq (by rfl) T.len PySem.boot_len (pa_cons (pe_fld (pv 0) rfl) pa_nil (hs := sE_Attribute))) pe_int)))), ?_⟩
    refine ⟨_, rfl, p, _, dx, _, _, rfl, ht.ins, T.clT, T.nT_marks, tf_marks, .inl ⟨rfl, _, SqL.of ht.ml⟩, _, rfl, p, _, dx, _, _, rfl, ht.ins, T.clT, T.nT_writes, tf_writes, wd, kw, rfl, ht.wd, fun c hc => ?_⟩
    have nmp : p ≠ ml := ne_of ht.ins ht.ml (by intro z; cases z)
    refine ⟨ml, _, _, rfl, rfl, keep ht.ml hc, by rw [List.length_map, ht.ms.len]; exact Nat.lt_of_le_of_lt hl (by decide), ?_⟩
    refine ⟨_, rfl, p, _, dx, _, _, rfl, by rw [upd_ne nmp]; exact keep ht.ins hc, T.clT, T.nT_marks, tf_marks, ml, _, rfl, .inl (SqL.of upd_same), _, _, rfl, rfl, ?_⟩
    have := k c hc
    rw [List.map_append] at this
    have e : (((mas.map V.ref ++ [V.ref c]).length : Nat) : Int) - 1 = (t.marks.length : Int) := by rw [List.length_append, List.length_map, ht.ms.len]; simp
    show Q (.int ((((mas.map V.ref ++ [V.ref c]).length : Nat) : Int) - 1)) _
    rw [e]
    exact this
def sp_go_back_T (_ : PySem.W.Frag) (a : Ad) : Sp := fun vs H Q _ => ∃ n : Nat, onTxn a [.int (n : Int)] (fun H p t _ dx st _ rl _ _ _ _ mas => ∃ w, t.marks[n]? = some w ∧ ∀ H' d m km, H d = none → H m = none → H' p = some (.ins a.cT dx (tf t.way t.seen st d rl m)) → H' d = some (.dK km) → DW km w → H' m = some (.lst ((mas.take (n + 1)).map V.ref)) → But H H' p → Q .non H') vs H
theorem ok_go_back_T (T : Txt K mg a) : FnOk P w K mg base CX0 1 a.go_back_T a.fd_go_back_T ["self", "number"] (sp_go_back_T K a) := by
  have sc := sc_go_back_T
  refine T.go_back_T.ok sc (fun vs H Q E h => ?_) (fun cdv A outer s H vs Q E hr h => ?_)
  · obtain ⟨n, p, t, s, dx, st, wd, rl, ml, kst, kw, ras, mas, rfl, _⟩ := h
    rfl
  · obtain ⟨n, p, t, s0, dx, st, wd, rl, ml, kst, kw, ras, mas, rfl, ht, w0, hw0, k⟩ := h
    have hn : n < t.marks.length := (List.getElem?_eq_some_iff.mp hw0).1
    obtain ⟨c, hc⟩ : ∃ c, mas[n]? = some c := ⟨_, List.getElem?_eq_getElem (by rw [ht.ms.len]; exact hn)⟩
    obtain ⟨w1, km, hw1, hcm, dm⟩ := ht.ms.get hc
    have ew : w1 = w0 := Option.some.inj (hw1.symm.trans hw0)
    subst ew
    have hcr : (mas.map V.ref)[n]? = some (.ref c) := by rw [List.getElem?_map, hc]; rfl
    refine ⟨_, (pss_cons (ps_fld (pv 0) (pe_callTy call_dictD (by rfl) T.dict boot_dict1 (pa_cons (pe_ix ix_list (pe_fld (pv 0) rfl) (pv 1) (fun _ _ => rfl)) pa_nil (hs := sE_Subscript))) rfl)
      (pss_one (ps_fld (pv 0) (pe_slice sl_list (pe_fld (pv 0) rfl) po_none (po_some (pe_op op_add (pv 1) pe_int))) rfl))), ?_⟩
    refine ⟨_, rfl, p, _, dx, _, _, rfl, ht.ins, T.clT, T.nT_marks, tf_marks, _, rfl, ml, _, _, _, rfl, rfl, SqL.of ht.ml, atI_nat hcr, c, km, rfl, hcm, fun d hd => ?_⟩
    have hp1 : ∀ o, (upd H d o) p = some (.ins a.cT dx (tf t.way t.seen st wd rl ml)) := fun o => keep ht.ins hd
    refine ⟨_, rfl, p, _, dx, _, rfl, hp1 _, T.clT, T.nT_writes, by show 6 < 1000; decide, ?_⟩
    rw [tf_putw]
    have nmp : ml ≠ p := ne_of ht.ml ht.ins (by intro z; cases z)
    have ndp : d ≠ p := (ne_of_none ht.ins hd).symm
    refine ⟨_, rfl, p, _, dx, _, _, rfl, upd_same, T.clT, T.nT_marks, tf_marks, _, rfl, _, _, rfl, rfl, _, rfl, ml, _, rfl, SqL.of (by rw [upd_ne nmp]; exact keep ht.ml hd), fun m hm => ?_⟩
    have ecut : cutV (mas.map V.ref) none (some ((n : Int) + 1)) = (mas.map V.ref).take (n + 1) := cut_hi _ (n + 1)
    have nmp2 : m ≠ p := fun z => by rw [z, upd_same] at hm; cases hm
    have nmd : m ≠ d := fun z => by rw [z, upd_ne ndp, upd_same] at hm; cases hm
    refine ⟨_, rfl, p, _, dx, _, rfl, by rw [upd_ne (fun z => nmp2 z.symm), upd_same], T.clT, T.nT_marks, by show 6 < 1000; decide, ?_⟩
    rw [tf_putm]
    refine k _ d m km hd (by rw [upd_ne nmp2, upd_ne nmd] at hm; exact hm) upd_same ?_ dm ?_ fun c o e hcp => ?_
    · rw [upd_ne ndp, upd_ne (fun z => nmd z.symm), upd_ne ndp, upd_same]
    · rw [upd_ne nmp2, upd_same, List.map_take]
      exact congrArg (fun z => some (HO.lst z)) ecut
    · have ncm : c ≠ m := fun z => by
        rw [z] at e hcp
        rw [upd_ne hcp, keep e hd] at hm
        cases hm
      rw [upd_ne hcp, upd_ne ncm, upd_ne hcp]
      exact keep e hd
end
end My

end
section
set_option linter.all false
set_option Elab.async false
set_option maxRecDepth 100000
set_option maxHeartbeats 2000000
namespace My
open PySem PySem.Spec PyProof.Rows L2 TxM
section
variable {P : Program} {w : World} {K : PySem.W.Frag} {mg : Str → Option Value} {base : Heap} {a : Ad}
def inR (k : Nat) (x : Nat × Nat) : Bool := decide (x.1 ≤ k) && decide (k ≤ x.2)
theorem dle (x y : Nat) : decide ((x : Int) ≤ (y : Int)) = decide (x ≤ y) := by
  by_cases h : x ≤ y
  · rw [decide_eq_true h, decide_eq_true (by omega)]
  · rw [decide_eq_false h, decide_eq_false (by omega)]
def sp_has_read_T (_ : PySem.W.Frag) (a : Ad) : Sp := fun vs H Q _ => ∃ k : Nat, onTxn a [.int (k : Int)] (fun H _ t _ _ _ _ _ _ _ _ _ _ => Q (.bl (t.reads.any (inR k))) H) vs H
theorem ok_has_read_T (T : Txt K mg a) : FnOk P w K mg base CX0 1 a.has_read_T a.fd_has_read_T ["self", "key"] (sp_has_read_T K a) := by
  have sc := sc_has_read_T
  refine T.has_read_T.ok sc (fun vs H Q E h => ?_) (fun cdv A outer s H vs Q E hr h => ?_)
  · obtain ⟨k, p, t, s, dx, st, wd, rl, ml, kst, kw, ras, mas, rfl, _⟩ := h
    rfl
  · obtain ⟨key, p, t, s0, dx, st, wd, rl, ml, kst, kw, ras, mas, rfl, ht, k⟩ := h
    refine ⟨_, (pss_cons (ps_for PassesOwn.never rfl (pi_list (pe_fld (pv 0) rfl)) (pg_tup rfl (pgs_cons (pg_name (i := 2) sc.nd rfl (Or.inl rfl)) (pgs_cons (pg_name (i := 3) sc.nd rfl (Or.inl rfl)) pgs_nil))) (pss_one (ps_if (pt_chain op_le op_le (pv 2) (pv 1) (pv 3)) (pss_one (ps_ret pe_bl)) pss_nil)))
      (pss_one (ps_ret pe_bl))), ?_⟩
    refine ⟨_, rfl, p, _, dx, _, _, rfl, ht.ins, T.clT, T.nT_reads, tf_reads, rl, rfl, ⟨_, SqL.of ht.rl⟩, for_list (K := K) (a := rl) (xs := ras.map V.ref) (fun i σ H' => ∃ v2 v3, σ = [some (.ref p), some (.int (key : Int)), v2, v3] ∧ H' = H ∧ (t.reads.take i).any (inR key) = false)
      ⟨none, none, rfl, rfl, rfl⟩ (fun i σ H' _ ⟨_, _, _, e, _⟩ => by rw [e]; exact SqL.of ht.rl) ?_ ?_⟩
    · rintro i x σ H' hi ⟨v2, v3, rfl, rfl, hn⟩
      rw [List.getElem?_map] at hi
      obtain ⟨c, hc, rfl⟩ := Option.map_eq_some_iff.mp hi
      obtain ⟨y, hy, hcy⟩ := ht.rs.get hc
      refine ⟨c, _, rfl, SqT.of hcy, rfl, _, _, rfl, _, _, rfl, rfl, ?_⟩
      have e1 : (t.reads.take (i + 1)).any (inR key) = inR key y := by rw [take_succ' hy, List.any_append, hn]; simp
      have hit : inR key y = true → Q (.bl true) H' := fun z => by
        have : t.reads.any (inR key) = true := List.any_eq_true.mpr ⟨y, List.mem_of_getElem? hy, z⟩
        rw [this] at k
        exact k
      refine ⟨_, rfl, _, rfl, _, _, rfl, rfl, _, rfl, ?_⟩
      show if decide ((y.1 : Int) ≤ (key : Int)) = true then _ else _
      rw [dle]
      by_cases h1 : y.1 ≤ key
      · rw [decide_eq_true h1]
        refine iteT ⟨_, rfl, _, _, rfl, rfl, _, rfl, ?_⟩
        show if decide ((key : Int) ≤ (y.2 : Int)) = true then _ else _
        rw [dle]
        by_cases h2 : key ≤ y.2
        · rw [decide_eq_true h2]
          exact iteT (hit (by unfold inR; rw [decide_eq_true h1, decide_eq_true h2]; rfl))
        · rw [decide_eq_false h2]
          refine iteF ⟨_, _, rfl, rfl, ?_⟩
          rw [e1]; unfold inR; rw [decide_eq_false h2, Bool.and_false]
      · rw [decide_eq_false h1]
        refine iteF ⟨_, rfl, iteF ⟨_, _, rfl, rfl, ?_⟩⟩
        rw [e1]; unfold inR; rw [decide_eq_false h1, Bool.false_and]
    · rintro σ H' ⟨v2, v3, rfl, rfl, hn⟩
      rw [List.length_map, ht.rs.len, List.take_length] at hn
      rw [hn] at k
      exact k
def sp_minds_T (_ : PySem.W.Frag) (a : Ad) : Sp := fun vs H Q _ => ∃ k : Nat, onTxn a [.int (k : Int)] (fun H _ t _ _ _ _ _ _ _ _ _ _ => Q (.bl (t.minds k)) H) vs H
theorem minds_eq (t : Tx.Txn) (k : Nat) : t.minds k = ((gget t.writes k).isSome || (t.way == 1 && t.reads.any (inR k))) := by
  unfold Tx.Txn.minds
  rw [noted_eq]; rfl
theorem ok_minds_T (T : Txt K mg a) : FnOk P w K mg base CX0 2 a.minds_T a.fd_minds_T ["self", "key"] (sp_minds_T K a) := by
  have sc := sc_minds_T
  refine T.minds_T.ok sc (fun vs H Q E h => ?_) (fun cdv A outer s H vs Q E hr h => ?_)
  · obtain ⟨k, p, t, s, dx, st, wd, rl, ml, kst, kw, ras, mas, rfl, _⟩ := h
    rfl
  · obtain ⟨key, p, t, s0, dx, st, wd, rl, ml, kst, kw, ras, mas, rfl, ht, k⟩ := h
    have hu := hu_of hr
    refine ⟨_, (pss_cons (ps_if (pt_cmp (pc_din hu (pv 1) (pe_fld (pv 0) rfl))) (pss_one (ps_ret pe_bl)) pss_nil)
      (pss_one (ps_ret (pe_and (pe_cmpR op_eq (pe_fld (pv 0) rfl) pe_int (nomark _)) (pe_one (pe_meth (pv 0) T.clT T.mt_has_read_T (ok_has_read_T T) (hr.mono (by decide)) T.b_has_read_T .nil pass0 (pa_cons (pv 1) pa_nil (hs := sE_Name)))))))), ?_⟩
    refine ⟨_, rfl, _, rfl, p, _, dx, _, _, rfl, ht.ins, T.clT, T.nT_writes, tf_writes, wd, _, rfl, DGet.k (k := Sum.inl (key : Int)) ht.wd, _, rfl, ?_⟩
    rw [ht.dw.val, Option.isSome_map]
    rw [minds_eq] at k
    cases hg : gget t.writes key with
    | some o =>
      rw [hg] at k
      exact k
    | none =>
      rw [hg] at k
      refine ⟨_, rfl, p, _, dx, _, _, rfl, ht.ins, T.clT, T.nT_way, tf_way, rfl, _, rfl, ?_⟩
      have e1 : decide (V.int (t.way : Int) = V.int 1) = decide (t.way = 1) := dN t.way 1
      rw [e1]
      by_cases h1 : t.way = 1
      · rw [decide_eq_true h1]
        refine iteT ⟨_, rfl, p, dx, _, rfl, ht.ins, tf_has_read, _, rfl, key, p, t, s0, dx, st, wd, rl, ml, kst, kw, ras, mas, rfl, ht, ?_⟩
        have e2 : ((none : Option (Option Nat)).isSome || (t.way == 1 && t.reads.any (inR key))) = t.reads.any (inR key) := by rw [h1]; simp
        rw [e2] at k
        exact k
      · rw [decide_eq_false h1]
        have e2 : ((none : Option (Option Nat)).isSome || (t.way == 1 && t.reads.any (inR key))) = false := by simp [h1]
        rw [e2] at k
        exact iteF k
/-! ### Transaction made -/
def sp_initTransaction (_ : PySem.W.Frag) (a : Ad) : Sp := fun vs H Q _ => ∃ (p dx : Addr) (way sees : Nat) (st : Addr), vs = [.ref p, .int (way : Int), .int (sees : Int), .ref st] ∧ H p = some (.ins a.cT dx []) ∧
  ∀ H' wd rl ml, H wd = none → H rl = none → H ml = none → rl ≠ ml → H' p = some (.ins a.cT dx (tf way sees st wd rl ml)) → H' wd = some (.dK []) → H' rl = some (.lst []) → H' ml = some (.lst []) → But H H' p → Q .non H'
theorem tf_is (way sees : Nat) (st wd rl ml : Addr) : putF "marks" (.ref ml) (putF "reads" (.ref rl) (putF "writes" (.ref wd) (putF "store" (.ref st) (putF "sees" (.int (sees : Int)) (putF "way" (.int (way : Int)) []))))) = tf way sees st wd rl ml := by
  show putF "marks" (.ref ml) (putF "reads" (.ref rl) (putF "writes" (.ref wd) (putF "store" (.ref st) (putF "sees" (.int (sees : Int)) [("way", .int (way : Int))])))) = _
  rw [putF_miss (by decide +kernel)]
  show putF "marks" (.ref ml) (putF "reads" (.ref rl) (putF "writes" (.ref wd) (putF "store" (.ref st) [("way", .int (way : Int)), ("sees", .int (sees : Int))]))) = _
  rw [putF_miss (by decide +kernel), putF_miss (by decide +kernel)]
  show putF "marks" (.ref ml) (putF "reads" (.ref rl) (putF "writes" (.ref wd) [("way", .int (way : Int)), ("sees", .int (sees : Int)), ("store", .ref st)])) = _
  rw [putF_miss (by decide +kernel), putF_miss (by decide +kernel), putF_miss (by decide +kernel)]
  show putF "marks" (.ref ml) (putF "reads" (.ref rl) [("way", .int (way : Int)), ("sees", .int (sees : Int)), ("store", .ref st), ("writes", .ref wd)]) = _
  rw [putF_miss (by decide +kernel), putF_miss (by decide +kernel), putF_miss (by decide +kernel), putF_miss (by decide +kernel)]
  show putF "marks" (.ref ml) [("way", .int (way : Int)), ("sees", .int (sees : Int)), ("store", .ref st), ("writes", .ref wd), ("reads", .ref rl)] = _
  rw [putF_miss (by decide +kernel), putF_miss (by decide +kernel), putF_miss (by decide +kernel), putF_miss (by decide +kernel), putF_miss (by decide +kernel)]
  rfl
theorem putF_small {f : Str} {v : V} {fs : List (Str × V)} {n : Nat} (h : fs.length ≤ n) : (putF f v fs).length ≤ n + 1 := Nat.le_trans (length_putF f v fs) (Nat.add_le_add_right h 1)
theorem ok_initTransaction (T : Txt K mg a) : FnOk P w K mg base CX0 1 a.initTransaction a.fd_initTransaction ["self", "way", "sees", "store"] (sp_initTransaction K a) := by
  have sc := sc_initTransaction
  refine T.initTransaction.ok sc (fun vs H Q E h => ?_) (fun cdv A outer s H vs Q E hr h => ?_)
  · obtain ⟨p, dx, way, sees, st, rfl, _⟩ := h
    rfl
  · obtain ⟨p, dx, way, sees, st, rfl, hp, k⟩ := h
    refine ⟨_, (pss_cons (ps_fld (pv 0) (pv 1) rfl)
      (pss_cons (ps_fld (pv 0) (pv 2) rfl)
      (pss_cons (ps_fld (pv 0) (pv 3) rfl)
      (pss_cons (ps_fld (pv 0) pe_dnewK rfl)
      (pss_cons (ps_fld (pv 0) (pe_lst pa_nil) rfl)
      (pss_one (ps_fld (pv 0) (pe_lst pa_nil) rfl))))))), ?_⟩
    have z0 : ([] : List (Str × V)).length ≤ 0 := Nat.le_refl _
    refine ⟨_, rfl, _, rfl, p, _, dx, _, rfl, hp, T.clT, T.nT_way, Nat.lt_of_le_of_lt z0 (by decide), ?_⟩
    refine ⟨_, rfl, _, rfl, p, _, dx, _, rfl, upd_same, T.clT, T.nT_sees, Nat.lt_of_le_of_lt (putF_small z0) (by decide), ?_⟩
    rw [upd_upd]
    refine ⟨_, rfl, _, rfl, p, _, dx, _, rfl, upd_same, T.clT, T.nT_store, Nat.lt_of_le_of_lt (putF_small (putF_small z0)) (by decide), ?_⟩
    rw [upd_upd]
    intro wd hwd
    have nwp : wd ≠ p := fun z => by rw [z, upd_same] at hwd; cases hwd
    refine ⟨_, rfl, p, _, dx, _, rfl, by rw [upd_ne (fun z => nwp z.symm), upd_same], T.clT, T.nT_writes, Nat.lt_of_le_of_lt (putF_small (putF_small (putF_small z0))) (by decide), ?_⟩
    refine ⟨Nat.zero_le _, fun rl hrl => ?_⟩
    have nrp : rl ≠ p := fun z => by rw [z, upd_same] at hrl; cases hrl
    have nrw : rl ≠ wd := fun z => by rw [z, upd_ne nwp, upd_same] at hrl; cases hrl
    refine ⟨_, rfl, p, _, dx, _, rfl, by rw [upd_ne (fun z => nrp z.symm), upd_same], T.clT, T.nT_reads, Nat.lt_of_le_of_lt (putF_small (putF_small (putF_small (putF_small z0)))) (by decide), ?_⟩
    refine ⟨Nat.zero_le _, fun ml hml => ?_⟩
    have nmp : ml ≠ p := fun z => by rw [z, upd_same] at hml; cases hml
    have nmr : ml ≠ rl := fun z => by rw [z, upd_ne nrp, upd_same] at hml; cases hml
    have nmw : ml ≠ wd := fun z => by rw [z, upd_ne nwp, upd_ne (fun z => nrw z.symm), upd_ne nwp, upd_same] at hml; cases hml
    refine ⟨_, rfl, p, _, dx, _, rfl, by rw [upd_ne (fun z => nmp z.symm), upd_same], T.clT, T.nT_marks, Nat.lt_of_le_of_lt (putF_small (putF_small (putF_small (putF_small (putF_small z0))))) (by decide), ?_⟩
    rw [tf_is]
    have fr : ∀ c, c ≠ p → c ≠ wd → c ≠ rl → c ≠ ml → ∀ o1 o2 o3 o4 o5 o6 o7, (upd (upd (upd (upd (upd (upd (upd H p o1) wd o2) p o3) rl o4) p o5) ml o6) p o7) c = H c := fun c h1 h2 h3 h4 o1 o2 o3 o4 o5 o6 o7 => by
      rw [upd_ne h1, upd_ne h4, upd_ne h1, upd_ne h3, upd_ne h1, upd_ne h2, upd_ne h1]
    refine k _ wd rl ml ?_ ?_ ?_ (fun z => nmr z.symm) upd_same ?_ ?_ ?_ fun c o e hc => ?_
    · rw [upd_ne nwp] at hwd; exact hwd
    · rw [upd_ne nrp, upd_ne nrw, upd_ne nrp] at hrl; exact hrl
    · rw [upd_ne nmp, upd_ne nmr, upd_ne nmp, upd_ne nmw, upd_ne nmp] at hml; exact hml
    · rw [upd_ne nwp, upd_ne (fun z => nmw z.symm), upd_ne nwp, upd_ne (fun z => nrw z.symm), upd_ne nwp, upd_same]
    · rw [upd_ne nrp, upd_ne (fun z => nmr z.symm), upd_ne nrp, upd_same]
    · rw [upd_ne nmp, upd_same]
    · have h2 : c ≠ wd := fun z => by rw [upd_ne nwp] at hwd; rw [z, hwd] at e; cases e
      have h3 : c ≠ rl := fun z => by rw [upd_ne nrp, upd_ne nrw, upd_ne nrp] at hrl; rw [z, hrl] at e; cases e
      have h4 : c ≠ ml := fun z => by rw [upd_ne nmp, upd_ne nmr, upd_ne nmp, upd_ne nmw, upd_ne nmp] at hml; rw [z, hml] at e; cases e
      rw [fr c hc h2 h3 h4]; exact e
end
end My

end
section
set_option linter.all false
set_option Elab.async false
set_option maxRecDepth 100000
set_option maxHeartbeats 2000000
namespace My
open PySem PySem.Spec PyProof.Rows L2 TxM
/-! ### whose an address is -/
inductive Role where
  | ot | st | hi | cl | td | fz
  | tx (i : Nat) | wd (i : Nat) | rl (i : Nat) | ml (i : Nat)
  deriving DecidableEq
abbrev Rl := Addr → Role
def own (i : Nat) : Role → Prop
  | .tx j => j = i
  | .wd j => j = i
  | .rl j => j = i
  | .ml j => j = i
  | _ => False
def setR (ρ : Rl) (c : Addr) (x : Role) : Rl := fun b => if b = c then x else ρ b
theorem setR_same {ρ : Rl} {c : Addr} {x : Role} : setR ρ c x c = x := if_pos rfl
theorem setR_ne {ρ : Rl} {b c : Addr} {x : Role} (h : b ≠ c) : setR ρ c x b = ρ b := if_neg h
theorem setR_live {ρ : Rl} {H : Hp} {b c : Addr} {x : Role} {o : HO} (h : H b = some o) (n : H c = none) : setR ρ c x b = ρ b := setR_ne (ne_of_none h n)
structure TRole (ρ : Rl) (i : Nat) (p st wd rl ml : Addr) (ras mas : List Addr) : Prop where
  p : ρ p = .tx i
  wd : ρ wd = .wd i
  rl : ρ rl = .rl i
  ml : ρ ml = .ml i
  st : ρ st = .fz
  ras : ∀ x ∈ ras, ρ x = .fz
  mas : ∀ x ∈ mas, ρ x = .fz
def TxnE (a : Ad) (ρ : Rl) (H : Hp) (p : Addr) (t : Tx.Txn) (s : Tx.Store) : Prop := ∃ (dx st wd rl ml : Addr) (kst kw : List (Key × V)) (ras mas : List Addr), TxnAt a H p t s dx st wd rl ml kst kw ras mas ∧ TRole ρ t.id p st wd rl ml ras mas
/-- what belongs to transaction i may change, the rest stays -/
structure Moves (i : Nat) (ρ : Rl) (H : Hp) (ρ' : Rl) (H' : Hp) : Prop where
  role : ∀ c o, H c = some o → ρ' c = ρ c
  keep : ∀ c o, H c = some o → ¬ own i (ρ c) → H' c = some o
theorem Moves.same {i : Nat} {ρ : Rl} {H H' : Hp} (s : Same H H') : Moves i ρ H ρ H' := ⟨fun _ _ _ => rfl, fun c o e _ => s c o e⟩
theorem Moves.then {i : Nat} {ρ ρ' : Rl} {H H1 H' : Hp} (m : Moves i ρ H ρ' H1) (s : Same H1 H') : Moves i ρ H ρ' H' := ⟨m.role, fun c o e n => s c o (m.keep c o e n)⟩
section
variable {a : Ad} {ρ ρ' : Rl} {H H' : Hp} {p : Addr} {t : Tx.Txn} {s : Tx.Store}
theorem TxnE.same (h : TxnE a ρ H p t s) (e : Same H H') : TxnE a ρ H' p t s := by
  obtain ⟨dx, st, wd, rl, ml, kst, kw, ras, mas, h1, h2⟩ := h
  exact ⟨dx, st, wd, rl, ml, kst, kw, ras, mas, h1.same e, h2⟩
/-- another transaction's move leaves it as it is -/
theorem TxnE.other {i : Nat} (h : TxnE a ρ H p t s) (ne : t.id ≠ i) (m : Moves i ρ H ρ' H') : TxnE a ρ' H' p t s := by
  obtain ⟨dx, st, wd, rl, ml, kst, kw, ras, mas, h1, h2⟩ := h
  have n1 : ¬ own i (Role.tx t.id) := fun z => ne z
  have n2 : ¬ own i (Role.wd t.id) := fun z => ne z
  have n3 : ¬ own i (Role.rl t.id) := fun z => ne z
  have n4 : ¬ own i (Role.ml t.id) := fun z => ne z
  have n5 : ¬ own i Role.fz := fun z => z
  refine ⟨dx, st, wd, rl, ml, kst, kw, ras, mas, ⟨m.keep _ _ h1.ins (by rw [h2.p]; exact n1), m.keep _ _ h1.st (by rw [h2.st]; exact n5), h1.ds, m.keep _ _ h1.wd (by rw [h2.wd]; exact n2), h1.dw, m.keep _ _ h1.rl (by rw [h2.rl]; exact n3),
    h1.rs.on fun c hc o e => m.keep c o e (by rw [h2.ras c hc]; exact n5), m.keep _ _ h1.ml (by rw [h2.ml]; exact n4), h1.ms.on fun c hc o e => m.keep c o e (by rw [h2.mas c hc]; exact n5)⟩, ?_⟩
  refine ⟨(m.role _ _ h1.ins).trans h2.p, (m.role _ _ h1.wd).trans h2.wd, (m.role _ _ h1.rl).trans h2.rl, (m.role _ _ h1.ml).trans h2.ml, (m.role _ _ h1.st).trans h2.st, fun x hx => ?_, fun x hx => ?_⟩
  · obtain ⟨xs, e⟩ := h1.rs.live hx
    exact (m.role _ _ e).trans (h2.ras x hx)
  · obtain ⟨xs, e⟩ := h1.ms.live hx
    exact (m.role _ _ e).trans (h2.mas x hx)
section
variable {dx st wd rl ml : Addr} {kst kw : List (Key × V)} {ras mas : List Addr}
theorem TxnAt.addRead (h : TxnAt a H p t s dx st wd rl ml kst kw ras mas) (R : TRole ρ t.id p st wd rl ml ras mas) {c : Addr} (hc : H c = none) (lo hi : Nat) :
    TxnAt a (upd (upd H c (.tup [.int (lo : Int), .int (hi : Int)])) rl (.lst ((ras ++ [c]).map V.ref))) p { t with reads := t.reads ++ [(lo, hi)] } s dx st wd rl ml kst kw (ras ++ [c]) mas ∧
    TRole (setR ρ c .fz) t.id p st wd rl ml (ras ++ [c]) mas ∧ Moves t.id ρ H (setR ρ c .fz) (upd (upd H c (.tup [.int (lo : Int), .int (hi : Int)])) rl (.lst ((ras ++ [c]).map V.ref))) := by
  have nrc : rl ≠ c := ne_of_none h.rl hc
  have fr : ∀ b o, H b = some o → b ≠ rl → (upd (upd H c (.tup [.int (lo : Int), .int (hi : Int)])) rl (.lst ((ras ++ [c]).map V.ref))) b = some o := fun b o e n => by rw [upd_ne n]; exact keep e hc
  have nrm : ml ≠ rl := fun z => by have := R.ml; rw [z, R.rl] at this; cases this
  refine ⟨⟨fr _ _ h.ins (ne_of h.ins h.rl (by intro z; cases z)), fr _ _ h.st (ne_of h.st h.rl (by intro z; cases z)), h.ds, fr _ _ h.wd (ne_of h.wd h.rl (by intro z; cases z)), h.dw, upd_same, ?_, fr _ _ h.ml nrm, ?_⟩, ?_, ?_⟩
  · refine Rds.app (h.rs.on fun b hb o e => ?_) ⟨?_, True.intro⟩
    · obtain ⟨xs, e'⟩ := h.rs.live hb
      exact fr _ _ e (ne_of e' h.rl (by intro z; cases z))
    · rw [upd_ne (fun z => nrc z.symm), upd_same]
  · refine h.ms.on fun b hb o e => ?_
    obtain ⟨xs, e'⟩ := h.ms.live hb
    exact fr _ _ e (ne_of e' h.rl (by intro z; cases z))
  · refine ⟨(setR_live h.ins hc).trans R.p, (setR_live h.wd hc).trans R.wd, (setR_live h.rl hc).trans R.rl, (setR_live h.ml hc).trans R.ml, (setR_live h.st hc).trans R.st, fun x hx => ?_, fun x hx => ?_⟩
    · rcases List.mem_append.mp hx with e | e
      · obtain ⟨xs, e'⟩ := h.rs.live e
        exact (setR_live e' hc).trans (R.ras x e)
      · have e' : x = c := by simpa using e
        rw [e']; exact setR_same
    · obtain ⟨xs, e'⟩ := h.ms.live hx
      exact (setR_live e' hc).trans (R.mas x hx)
  · exact ⟨fun b o e => setR_live e hc, fun b o e n => fr b o e fun z => n (by rw [z, R.rl]; rfl)⟩
theorem TxnAt.setWrites (h : TxnAt a H p t s dx st wd rl ml kst kw ras mas) (R : TRole ρ t.id p st wd rl ml ras mas) {kw' : List (Key × V)} {w' : Tx.Writes} (d : DW kw' w') :
    TxnAt a (upd H wd (.dK kw')) p { t with writes := w' } s dx st wd rl ml kst kw' ras mas ∧ Moves t.id ρ H ρ (upd H wd (.dK kw')) := by
  have fr : ∀ b o, H b = some o → b ≠ wd → (upd H wd (.dK kw')) b = some o := fun b o e n => by rw [upd_ne n]; exact e
  have nsw : st ≠ wd := fun z => by have := R.st; rw [z, R.wd] at this; cases this
  refine ⟨⟨fr _ _ h.ins (ne_of h.ins h.wd (by intro z; cases z)), fr _ _ h.st nsw, h.ds, upd_same, d, fr _ _ h.rl (ne_of h.rl h.wd (by intro z; cases z)), h.rs.on fun b hb o e => ?_, fr _ _ h.ml (ne_of h.ml h.wd (by intro z; cases z)), h.ms.on fun b hb o e => fr _ _ e fun z => ?_⟩, ?_⟩
  · obtain ⟨xs, e'⟩ := h.rs.live hb
    exact fr _ _ e (ne_of e' h.wd (by intro z; cases z))
  · have := R.mas b hb
    rw [z, R.wd] at this
    cases this
  · exact ⟨fun _ _ _ => rfl, fun b o e n => fr b o e fun z => n (by rw [z, R.wd]; rfl)⟩
theorem TxnAt.addMark (h : TxnAt a H p t s dx st wd rl ml kst kw ras mas) (R : TRole ρ t.id p st wd rl ml ras mas) {c : Addr} (hc : H c = none) :
    TxnAt a (upd (upd H c (.dK kw)) ml (.lst ((mas ++ [c]).map V.ref))) p { t with marks := t.marks ++ [t.writes] } s dx st wd rl ml kst kw ras (mas ++ [c]) ∧
    TRole (setR ρ c .fz) t.id p st wd rl ml ras (mas ++ [c]) ∧ Moves t.id ρ H (setR ρ c .fz) (upd (upd H c (.dK kw)) ml (.lst ((mas ++ [c]).map V.ref))) := by
  have nrc : ml ≠ c := ne_of_none h.ml hc
  have fr : ∀ b o, H b = some o → b ≠ ml → (upd (upd H c (.dK kw)) ml (.lst ((mas ++ [c]).map V.ref))) b = some o := fun b o e n => by rw [upd_ne n]; exact keep e hc
  have nrm : rl ≠ ml := fun z => by have := R.rl; rw [z, R.ml] at this; cases this
  refine ⟨⟨fr _ _ h.ins (ne_of h.ins h.ml (by intro z; cases z)), fr _ _ h.st (ne_of h.st h.ml (by intro z; cases z)), h.ds, fr _ _ h.wd (ne_of h.wd h.ml (by intro z; cases z)), h.dw, fr _ _ h.rl nrm, ?_, upd_same, ?_⟩, ?_, ?_⟩
  · refine h.rs.on fun b hb o e => ?_
    obtain ⟨xs, e'⟩ := h.rs.live hb
    exact fr _ _ e (ne_of e' h.ml (by intro z; cases z))
  · refine Wds.app (h.ms.on fun b hb o e => ?_) (Wds.one (kw := kw) ?_ h.dw)
    · obtain ⟨xs, e'⟩ := h.ms.live hb
      exact fr _ _ e (ne_of e' h.ml (by intro z; cases z))
    · rw [upd_ne (fun z => nrc z.symm), upd_same]
  · refine ⟨(setR_live h.ins hc).trans R.p, (setR_live h.wd hc).trans R.wd, (setR_live h.rl hc).trans R.rl, (setR_live h.ml hc).trans R.ml, (setR_live h.st hc).trans R.st, fun x hx => ?_, fun x hx => ?_⟩
    · obtain ⟨xs, e'⟩ := h.rs.live hx
      exact (setR_live e' hc).trans (R.ras x hx)
    · rcases List.mem_append.mp hx with e | e
      · obtain ⟨xs, e'⟩ := h.ms.live e
        exact (setR_live e' hc).trans (R.mas x e)
      · have e' : x = c := by simpa using e
        rw [e']; exact setR_same
  · exact ⟨fun b o e => setR_live e hc, fun b o e n => fr b o e fun z => n (by rw [z, R.ml]; rfl)⟩
theorem TxnAt.goBack (h : TxnAt a H p t s dx st wd rl ml kst kw ras mas) (R : TRole ρ t.id p st wd rl ml ras mas) {d m : Addr} {km : List (Key × V)} {w' : Tx.Writes} {n : Nat} (hd : H d = none) (hm : H m = none)
    (e1 : H' p = some (.ins a.cT dx (tf t.way t.seen st d rl m))) (e2 : H' d = some (.dK km)) (dm : DW km w') (e3 : H' m = some (.lst ((mas.take n).map V.ref))) (but : But H H' p) :
    TxnAt a H' p { t with writes := w', marks := t.marks.take n } s dx st d rl m kst km ras (mas.take n) ∧ TRole (setR (setR ρ d (.wd t.id)) m (.ml t.id)) t.id p st d rl m ras (mas.take n) ∧ Moves t.id ρ H (setR (setR ρ d (.wd t.id)) m (.ml t.id)) H' := by
  have live : ∀ b o, H b = some o → setR (setR ρ d (.wd t.id)) m (.ml t.id) b = ρ b := fun b o e => (setR_live e hm).trans (setR_live e hd)
  have ndm : d ≠ m := fun z => by rw [z, e3] at e2; cases e2
  refine ⟨⟨e1, but _ _ h.st (ne_of h.st h.ins (by intro z; cases z)), h.ds, e2, dm, but _ _ h.rl (ne_of h.rl h.ins (by intro z; cases z)), h.rs.on fun b hb o e => ?_, e3, (h.ms.take n).on fun b hb o e => ?_⟩, ?_, ?_⟩
  · obtain ⟨xs, e'⟩ := h.rs.live hb
    exact but _ _ e (ne_of e' h.ins (by intro z; cases z))
  · obtain ⟨xs, e'⟩ := (h.ms.take n).live hb
    exact but _ _ e (ne_of e' h.ins (by intro z; cases z))
  · refine ⟨(live _ _ h.ins).trans R.p, ?_, (live _ _ h.rl).trans R.rl, setR_same, (live _ _ h.st).trans R.st, fun x hx => ?_, fun x hx => ?_⟩
    · rw [setR_ne ndm]; exact setR_same
    · obtain ⟨xs, e'⟩ := h.rs.live hx
      exact (live _ _ e').trans (R.ras x hx)
    · obtain ⟨xs, e'⟩ := (h.ms.take n).live hx
      exact (live _ _ e').trans (R.mas x (List.mem_of_mem_take hx))
  · exact ⟨live, fun b o e nn => but b o e fun z => nn (by rw [z, R.p]; rfl)⟩
end
end
theorem free_upd {H : Hp} {p r : Addr} {o : HO} (h : (upd H p o) r = none) : H r = none := by
  by_cases e : r = p
  · rw [e, upd_same] at h; cases h
  · rw [upd_ne e] at h; exact h
/-- behind a call within a transaction -/
def Within (a : Ad) (ρ : Rl) (H : Hp) (p : Addr) (x : Tx.Txn × Tx.Answer) (s : Tx.Store) (Q : VK) : Prop := ∀ r H' ρ', H r = none → H' r = some (li (TxNeutral.shown x.2)) → TxnE a ρ' H' p x.1 s → Moves x.1.id ρ H ρ' H' → Q (.ref r) H'
theorem Within.new {a : Ad} {ρ : Rl} {H : Hp} {p : Addr} {t : Tx.Txn} {an : Tx.Answer} {s : Tx.Store} {Q : VK} (k : Within a ρ H p (t, an) s Q) (h : TxnE a ρ H p t s) : New H (li (TxNeutral.shown an)) Q :=
  fun r H' hr e1 e2 => k r H' ρ hr e2 (h.same e1) (Moves.same e1)
theorem Within.moved {a : Ad} {ρ ρ' : Rl} {H H1 : Hp} {p : Addr} {t : Tx.Txn} {an : Tx.Answer} {s : Tx.Store} {Q : VK} (k : Within a ρ H p (t, an) s Q) (h : TxnE a ρ' H1 p t s) (m : Moves t.id ρ H ρ' H1) (fr : ∀ r, H1 r = none → H r = none) : New H1 (li (TxNeutral.shown an)) Q :=
  fun r H' hr e1 e2 => k r H' ρ' (fr r hr) e2 (h.same e1) (m.then e1)
section
variable {P : Program} {w : World} {K : PySem.W.Frag} {mg : Str → Option Value} {base : Heap} {a : Ad}
open Tx in
def txRead (t : Txn) (s : Store) (k : Nat) : Txn × Answer := if KEYS ≤ k then (t, says (-1)) else if (noted t.writes k).isSome = false ∧ READS ≤ t.reads.length then (t, says (-6)) else
  ((if (noted t.writes k).isSome = true then t else { t with reads := t.reads ++ [(k, k)] }), told (get (applied s t.writes) k))
theorem view_eq (t : Tx.Txn) (s : Tx.Store) (h : Srt t.writes) (k : Nat) : Tx.get (Tx.applied s t.writes) k = viewAt t s k := by
  rw [get_eq, gget_applied h]; rfl
def sp_read (_ : PySem.W.Frag) (a : Ad) : Sp := fun vs H Q _ => ∃ (ρ : Rl) (p : Addr) (t : Tx.Txn) (s : Tx.Store) (k : Nat), vs = [.ref p, .int (k : Int)] ∧ TxnE a ρ H p t s ∧ t.reads.length ≤ 64 ∧ Within a ρ H p (txRead t s k) s Q
theorem ok_read (T : Txt K mg a) : FnOk P w K mg base CX0 2 a.read a.fd_read ["transaction", "key"] (sp_read K a) := by
  have sc := sc_read
  refine T.read.ok sc (fun vs H Q E h => ?_) (fun cdv A outer s H vs Q E hr h => ?_)
  · obtain ⟨ρ, p, t, s, k, rfl, _⟩ := h
    rfl
  · obtain ⟨ρ, p, t, s0, key, rfl, hE, hl, k⟩ := h
    obtain ⟨dx, st, wd, rl, ml, kst, kw, ras, mas, ht, R⟩ := id hE
    refine ⟨_, (pss_cons (ps_if (pt_cmpR op_gt (pv 1) (pe_gint rfl T.HIGHEST_KEY) (nomark _)) (pss_one (ps_ret (pe_lst (pa_cons (pe_gint rfl T.WRONG) pa_nil (hs := sE_Name))))) pss_nil)
      (pss_cons (ps_if (pt_not (pt_val (pe_meth (pv 0) T.clT T.mt_has_written_T (ok_has_written_T T) (hr.mono (by decide)) T.b_has_written_T .nil pass0 (pa_cons (pv 1) pa_nil (hs := sE_Name))))) (pss_cons (ps_if (pt_not (pt_val (pe_meth0 (pv 0) T.clT T.mt_may_read_T (ok_may_read_T T) (hr.mono (by decide)) T.b_may_read_T .nil pass0))) (pss_one (ps_ret (pe_lst (pa_cons (pe_gint rfl T.FULL) pa_nil (hs := sE_Name))))) pss_nil)
      (pss_one (ps_expr (pe_meth (pv 0) T.clT T.mt_note_read_T (ok_note_read_T T) (hr.mono (by decide)) T.b_note_read_T .nil pass0 (pa_cons (pv 1) (pa_cons (pv 1) pa_nil (hs := sE_Name)) (hs := sE_Name)))))) pss_nil)
      (pss_one (ps_ret (pe_call (ok_value_answer T) (hr.mono (by decide)) rfl T.m_value_answer T.value_answer.kp T.b_value_answer .nil pass0 (pa_cons (pe_meth (pv 0) T.clT T.mt_value_at_T (ok_value_at_T T) (hr.mono (by decide)) T.b_value_at_T .nil pass0 (pa_cons (pv 1) pa_nil (hs := sE_Name))) pa_nil (hs := sE_Call))))))), ?_⟩
    unfold txRead at k
    refine ⟨_, rfl, _, _, rfl, rfl, _, rfl, ite2 (fun h1 => ?_) fun h1 => ?_⟩
    · rw [if_pos (by unfold Tx.KEYS; have := of_decide_eq_true h1; omega)] at k
      exact says1 (k.new hE)
    · rw [if_neg (by unfold Tx.KEYS; intro z; exact h1 (decide_eq_true (by omega))), noted_eq] at k
      rw [view_eq t s0 ht.dw.srt] at k
      refine ⟨_, rfl, p, dx, _, rfl, ht.ins, tf_has_written, _, rfl, key, p, t, s0, dx, st, wd, rl, ml, kst, kw, ras, mas, rfl, ht, _, rfl, ?_⟩
      cases hg : (gget t.writes key).isSome with
      | true =>
        rw [hg, if_neg (by simp), if_pos rfl] at k
        refine iteF ⟨_, rfl, p, dx, _, rfl, ht.ins, tf_value_at, _, rfl, key, p, t, s0, dx, st, wd, rl, ml, kst, kw, ras, mas, rfl, ht, viewAt t s0 key, rfl, ?_⟩
        have := k.new hE
        rw [shown_vans] at this
        exact this
      | false =>
        rw [hg] at k
        refine iteT ⟨_, rfl, p, dx, _, rfl, ht.ins, tf_may_read, p, t, s0, dx, st, wd, rl, ml, kst, kw, ras, mas, rfl, ht, _, rfl, ?_⟩
        by_cases h2 : t.reads.length < 64
        · rw [decide_eq_true h2]
          rw [if_neg (by unfold Tx.READS; omega), if_neg (by decide)] at k
          refine iteF ⟨_, rfl, p, dx, _, rfl, ht.ins, tf_note_read, _, rfl, _, rfl, key, key, p, t, s0, dx, st, wd, rl, ml, kst, kw, ras, mas, rfl, ht, hl, fun c hc => ?_⟩
          obtain ⟨g1, g2, g3⟩ := ht.addRead R hc key key
          refine ⟨_, rfl, p, dx, _, rfl, g1.ins, tf_value_at, _, rfl, key, p, _, s0, dx, st, wd, rl, ml, kst, kw, _, mas, rfl, g1, viewAt t s0 key, rfl, ?_⟩
          have := k.moved ⟨dx, st, wd, rl, ml, kst, kw, _, mas, g1, g2⟩ g3 (fun r hr => free_upd (free_upd hr))
          rw [shown_vans] at this
          exact this
        · rw [decide_eq_false h2]
          rw [if_pos ⟨rfl, by unfold Tx.READS; omega⟩] at k
          exact iteT (says1 (k.new hE))
open Tx in
def txRange (t : Txn) (s : Store) (lo hi : Nat) : Txn × Answer := if KEYS ≤ hi ∨ hi < lo then (t, says (-1)) else if READS ≤ t.reads.length then (t, says (-6)) else
  ({ t with reads := t.reads ++ [(lo, hi)] }, gives (between (applied s t.writes) lo hi))
def sp_read_range (_ : PySem.W.Frag) (a : Ad) : Sp := fun vs H Q _ => ∃ (ρ : Rl) (p : Addr) (t : Tx.Txn) (s : Tx.Store) (lo hi : Nat), vs = [.ref p, .int (lo : Int), .int (hi : Int)] ∧ TxnE a ρ H p t s ∧ t.reads.length ≤ 64 ∧ Within a ρ H p (txRange t s lo hi) s Q
theorem ok_read_range (T : Txt K mg a) : FnOk P w K mg base CX0 4 a.read_range a.fd_read_range ["transaction", "lo", "hi"] (sp_read_range K a) := by
  have sc := sc_read_range
  refine T.read_range.ok sc (fun vs H Q E h => ?_) (fun cdv A outer s H vs Q E hr h => ?_)
  · obtain ⟨ρ, p, t, s, lo, hi, rfl, _⟩ := h
    rfl
  · obtain ⟨ρ, p, t, s0, lo, hi, rfl, hE, hl, k⟩ := h
    obtain ⟨dx, st, wd, rl, ml, kst, kw, ras, mas, ht, R⟩ := id hE
    refine ⟨_, (pss_cons (ps_if (PW.pt (pw_or (pt_cmpR op_gt (pv 2) (pe_gint rfl T.HIGHEST_KEY) (nomark _)) (pw_or1 (pt_cmpR op_lt (pv 2) (pv 1) (nomark _))))) (pss_one (ps_ret (pe_lst (pa_cons (pe_gint rfl T.WRONG) pa_nil (hs := sE_Name))))) pss_nil)
      (pss_cons (ps_if (pt_not (pt_val (pe_meth0 (pv 0) T.clT T.mt_may_read_T (ok_may_read_T T) (hr.mono (by decide)) T.b_may_read_T .nil pass0))) (pss_one (ps_ret (pe_lst (pa_cons (pe_gint rfl T.FULL) pa_nil (hs := sE_Name))))) pss_nil)
      (pss_cons (ps_expr (pe_meth (pv 0) T.clT T.mt_note_read_T (ok_note_read_T T) (hr.mono (by decide)) T.b_note_read_T .nil pass0 (pa_cons (pv 1) (pa_cons (pv 2) pa_nil (hs := sE_Name)) (hs := sE_Name))))
      (pss_one (ps_ret (pe_call (ok_part_answer T) (hr.mono (by decide)) rfl T.m_part_answer T.part_answer.kp T.b_part_answer .nil pass0 (pa_cons (pe_meth0 (pv 0) T.clT T.mt_seen_T (ok_seen_T T) (hr.mono (by decide)) T.b_seen_T .nil pass0) (pa_cons (pv 1) (pa_cons (pv 2) pa_nil (hs := sE_Name)) (hs := sE_Name)) (hs := sE_Call)))))))), ?_⟩
    unfold txRange at k
    refine ⟨_, rfl, _, _, rfl, rfl, _, rfl, ite2 (fun h1 => ?_) fun h1 => ?_⟩
    · rw [if_pos (.inl (by unfold Tx.KEYS; have := of_decide_eq_true h1; omega))] at k
      exact iteT (says1 (k.new hE))
    · refine ⟨_, rfl, _, rfl, _, _, rfl, rfl, _, rfl, ite2 (fun h2 => ?_) fun h2 => ?_⟩
      · rw [if_pos (.inr (by have := of_decide_eq_true h2; omega))] at k
        exact says1 (k.new hE)
      · have n1 : hi ≤ 255 := Nat.le_of_not_lt fun z => h1 (decide_eq_true (by omega))
        have n2 : lo ≤ hi := Nat.le_of_not_lt fun z => h2 (decide_eq_true (by omega))
        rw [if_neg (by unfold Tx.KEYS; omega)] at k
        refine ⟨_, rfl, p, dx, _, rfl, ht.ins, tf_may_read, p, t, s0, dx, st, wd, rl, ml, kst, kw, ras, mas, rfl, ht, _, rfl, ?_⟩
        by_cases h3 : t.reads.length < 64
        · rw [decide_eq_true h3]
          rw [if_neg (by unfold Tx.READS; omega)] at k
          refine iteF ⟨_, rfl, p, dx, _, rfl, ht.ins, tf_note_read, _, rfl, _, rfl, lo, hi, p, t, s0, dx, st, wd, rl, ml, kst, kw, ras, mas, rfl, ht, hl, fun c hc => ?_⟩
          obtain ⟨g1, g2, g3⟩ := ht.addRead R hc lo hi
          refine ⟨_, rfl, p, dx, _, rfl, g1.ins, tf_seen, p, _, s0, dx, st, wd, rl, ml, kst, kw, _, mas, rfl, g1, fun ks dks r1 H1 hr1 s1 e1 => ?_⟩
          refine ⟨_, rfl, _, rfl, r1, ks, Tx.applied s0 t.writes, lo, hi, rfl, by omega, n1, e1, dks, ?_⟩
          exact (k.moved ⟨dx, st, wd, rl, ml, kst, kw, _, mas, g1, g2⟩ g3 (fun r hr => free_upd (free_upd hr))).from s1
        · rw [decide_eq_false h3]
          rw [if_pos (by unfold Tx.READS; omega)] at k
          exact iteT (says1 (k.new hE))
open Tx in
def txWrite (t : Txn) (k v : Nat) : Txn × Answer := if KEYS ≤ k ∨ VALUES ≤ v then (t, says (-1)) else ({ t with writes := note k (some v) t.writes }, says 0)
def sp_write (_ : PySem.W.Frag) (a : Ad) : Sp := fun vs H Q _ => ∃ (ρ : Rl) (p : Addr) (t : Tx.Txn) (s : Tx.Store) (k v : Nat), vs = [.ref p, .int (k : Int), .int (v : Int)] ∧ TxnE a ρ H p t s ∧ Within a ρ H p (txWrite t k v) s Q
theorem ok_write (T : Txt K mg a) : FnOk P w K mg base CX0 2 a.write a.fd_write ["transaction", "key", "value"] (sp_write K a) := by
  have sc := sc_write
  refine T.write.ok sc (fun vs H Q E h => ?_) (fun cdv A outer s H vs Q E hr h => ?_)
  · obtain ⟨ρ, p, t, s, lo, hi, rfl, _⟩ := h
    rfl
  · obtain ⟨ρ, p, t, s0, key, v, rfl, hE, k⟩ := h
    obtain ⟨dx, st, wd, rl, ml, kst, kw, ras, mas, ht, R⟩ := id hE
    refine ⟨_, (pss_cons (ps_if (PW.pt (pw_or (pt_cmpR op_gt (pv 1) (pe_gint rfl T.HIGHEST_KEY) (nomark _)) (pw_or1 (pt_cmpR op_gt (pv 2) (pe_gint rfl T.HIGHEST_VALUE) (nomark _))))) (pss_one (ps_ret (pe_lst (pa_cons (pe_gint rfl T.WRONG) pa_nil (hs := sE_Name))))) pss_nil)
      (pss_cons (ps_expr (pe_meth (pv 0) T.clT T.mt_write_T (ok_write_T T) (hr.mono (by decide)) T.b_write_T .nil pass0 (pa_cons (pv 1) (pa_cons (pv 2) pa_nil (hs := sE_Name)) (hs := sE_Name))))
      (pss_one (ps_ret (pe_lst (pa_cons pe_int pa_nil (hs := sE_Constant))))))), ?_⟩
    unfold txWrite at k
    refine ⟨_, rfl, _, _, rfl, rfl, _, rfl, ite2 (fun h1 => ?_) fun h1 => ?_⟩
    · rw [if_pos (.inl (by unfold Tx.KEYS; have := of_decide_eq_true h1; omega))] at k
      exact iteT (says1 (k.new hE))
    · refine ⟨_, rfl, _, _, rfl, rfl, _, rfl, ite2 (fun h2 => ?_) fun h2 => ?_⟩
      · rw [if_pos (.inr (by unfold Tx.VALUES; have := of_decide_eq_true h2; omega))] at k
        exact says1 (k.new hE)
      · have n1 : key ≤ 255 := Nat.le_of_not_lt fun z => h1 (decide_eq_true (by omega))
        have n2 : v ≤ 4294967295 := Nat.le_of_not_lt fun z => h2 (decide_eq_true (by omega))
        rw [if_neg (by unfold Tx.KEYS Tx.VALUES; omega)] at k
        refine ⟨_, rfl, p, dx, _, rfl, ht.ins, tf_write, _, rfl, _, rfl, key, v, p, t, s0, dx, st, wd, rl, ml, kst, kw, ras, mas, rfl, ht, ?_⟩
        have d := ht.dw.put (k := key) (by omega) (some v)
        rw [← note_eq] at d
        obtain ⟨g1, g3⟩ := ht.setWrites R d
        exact says1 (k.moved ⟨dx, st, wd, rl, ml, kst, _, ras, mas, g1, R⟩ g3 (fun r hr => free_upd hr))
open Tx in
def txDelete (t : Txn) (k : Nat) : Txn × Answer := if KEYS ≤ k then (t, says (-1)) else ({ t with writes := note k none t.writes }, says 0)
def sp_delete (_ : PySem.W.Frag) (a : Ad) : Sp := fun vs H Q _ => ∃ (ρ : Rl) (p : Addr) (t : Tx.Txn) (s : Tx.Store) (k : Nat), vs = [.ref p, .int (k : Int)] ∧ TxnE a ρ H p t s ∧ Within a ρ H p (txDelete t k) s Q
theorem ok_delete (T : Txt K mg a) : FnOk P w K mg base CX0 2 a.delete a.fd_delete ["transaction", "key"] (sp_delete K a) := by
  have sc := sc_delete
  refine T.delete.ok sc (fun vs H Q E h => ?_) (fun cdv A outer s H vs Q E hr h => ?_)
  · obtain ⟨ρ, p, t, s, lo, rfl, _⟩ := h
    rfl
  · obtain ⟨ρ, p, t, s0, key, rfl, hE, k⟩ := h
    obtain ⟨dx, st, wd, rl, ml, kst, kw, ras, mas, ht, R⟩ := id hE
    refine ⟨_, (pss_cons (ps_if (pt_cmpR op_gt (pv 1) (pe_gint rfl T.HIGHEST_KEY) (nomark _)) (pss_one (ps_ret (pe_lst (pa_cons (pe_gint rfl T.WRONG) pa_nil (hs := sE_Name))))) pss_nil)
      (pss_cons (ps_expr (pe_meth (pv 0) T.clT T.mt_take_out_T (ok_take_out_T T) (hr.mono (by decide)) T.b_take_out_T .nil pass0 (pa_cons (pv 1) pa_nil (hs := sE_Name))))
      (pss_one (ps_ret (pe_lst (pa_cons pe_int pa_nil (hs := sE_Constant))))))), ?_⟩
    unfold txDelete at k
    refine ⟨_, rfl, _, _, rfl, rfl, _, rfl, ite2 (fun h1 => ?_) fun h1 => ?_⟩
    · rw [if_pos (by unfold Tx.KEYS; have := of_decide_eq_true h1; omega)] at k
      exact says1 (k.new hE)
    · have n1 : key ≤ 255 := Nat.le_of_not_lt fun z => h1 (decide_eq_true (by omega))
      rw [if_neg (by unfold Tx.KEYS; omega)] at k
      refine ⟨_, rfl, p, dx, _, rfl, ht.ins, tf_take_out, _, rfl, key, p, t, s0, dx, st, wd, rl, ml, kst, kw, ras, mas, rfl, ht, ?_⟩
      have d := ht.dw.put (k := key) (by omega) none
      rw [← note_eq] at d
      obtain ⟨g1, g3⟩ := ht.setWrites R d
      exact says1 (k.moved ⟨dx, st, wd, rl, ml, kst, _, ras, mas, g1, R⟩ g3 (fun r hr => free_upd hr))
open Tx in
def txMark (t : Txn) : Txn × Answer := if MARKS ≤ t.marks.length then (t, says (-6)) else ({ t with marks := t.marks ++ [t.writes] }, says (t.marks.length : Nat))
def sp_mark (_ : PySem.W.Frag) (a : Ad) : Sp := fun vs H Q _ => ∃ (ρ : Rl) (p : Addr) (t : Tx.Txn) (s : Tx.Store), vs = [.ref p] ∧ TxnE a ρ H p t s ∧ t.marks.length ≤ 16 ∧ Within a ρ H p (txMark t) s Q
theorem ok_mark (T : Txt K mg a) : FnOk P w K mg base CX0 2 a.mark a.fd_mark ["transaction"] (sp_mark K a) := by
  have sc := sc_mark
  refine T.mark.ok sc (fun vs H Q E h => ?_) (fun cdv A outer s H vs Q E hr h => ?_)
  · obtain ⟨ρ, p, t, s, rfl, _⟩ := h
    rfl
  · obtain ⟨ρ, p, t, s0, rfl, hE, hl, k⟩ := h
    obtain ⟨dx, st, wd, rl, ml, kst, kw, ras, mas, ht, R⟩ := id hE
    refine ⟨_, (pss_cons (ps_if (pt_not (pt_val (pe_meth0 (pv 0) T.clT T.mt_may_mark_T (ok_may_mark_T T) (hr.mono (by decide)) T.b_may_mark_T .nil pass0))) (pss_one (ps_ret (pe_lst (pa_cons (pe_gint rfl T.FULL) pa_nil (hs := sE_Name))))) pss_nil)
      (pss_one (ps_ret (pe_lst (pa_cons (pe_meth0 (pv 0) T.clT T.mt_mark_T (ok_mark_T T) (hr.mono (by decide)) T.b_mark_T .nil pass0) pa_nil (hs := sE_Call)))))), ?_⟩
    unfold txMark at k
    refine ⟨_, rfl, p, dx, _, rfl, ht.ins, tf_may_mark, p, t, s0, dx, st, wd, rl, ml, kst, kw, ras, mas, rfl, ht, _, rfl, ?_⟩
    by_cases h1 : t.marks.length < 16
    · rw [decide_eq_true h1]
      rw [if_neg (by unfold Tx.MARKS; omega)] at k
      refine iteF ⟨_, rfl, p, dx, _, rfl, ht.ins, tf_mark, p, t, s0, dx, st, wd, rl, ml, kst, kw, ras, mas, rfl, ht, hl, fun c hc => ?_⟩
      obtain ⟨g1, g2, g3⟩ := ht.addMark R hc
      exact says1 (k.moved ⟨dx, st, wd, rl, ml, kst, kw, ras, _, g1, g2⟩ g3 (fun r hr => free_upd (free_upd hr)))
    · rw [decide_eq_false h1]
      rw [if_pos (by unfold Tx.MARKS; omega)] at k
      exact iteT (says1 (k.new hE))
open Tx in
def txBack (t : Txn) (m : Nat) : Txn × Answer := match t.marks[m]? with
  | none => (t, says (-7))
  | some w => ({ t with writes := w, marks := t.marks.take (m + 1) }, says (w.length : Nat))
def sp_back (_ : PySem.W.Frag) (a : Ad) : Sp := fun vs H Q _ => ∃ (ρ : Rl) (p : Addr) (t : Tx.Txn) (s : Tx.Store) (m : Nat), vs = [.ref p, .int (m : Int)] ∧ TxnE a ρ H p t s ∧ Within a ρ H p (txBack t m) s Q
theorem ok_back (T : Txt K mg a) : FnOk P w K mg base CX0 2 a.back a.fd_back ["transaction", "number"] (sp_back K a) := by
  have sc := sc_back
  refine T.back.ok sc (fun vs H Q E h => ?_) (fun cdv A outer s H vs Q E hr h => ?_)
  · obtain ⟨ρ, p, t, s, m, rfl, _⟩ := h
    rfl
  · obtain ⟨ρ, p, t, s0, n, rfl, hE, k⟩ := h
    obtain ⟨dx, st, wd, rl, ml, kst, kw, ras, mas, ht, R⟩ := id hE
    refine ⟨_, (pss_cons (ps_if (pt_not (pt_val (pe_meth (pv 0) T.clT T.mt_has_mark_T (ok_has_mark_T T) (hr.mono (by decide)) T.b_has_mark_T .nil pass0 (pa_cons (pv 1) pa_nil (hs := sE_Name))))) (pss_one (ps_ret (pe_lst (pa_cons (pe_gint rfl T.NO_SUCH_NUMBER) pa_nil (hs := sE_Name))))) pss_nil)
      (pss_cons (ps_expr (pe_meth (pv 0) T.clT T.mt_go_back_T (ok_go_back_T T) (hr.mono (by decide)) T.b_go_back_T .nil pass0 (pa_cons (pv 1) pa_nil (hs := sE_Name))))
      (pss_one (ps_ret (pe_lst (pa_cons (pe_callB call_lenD (by rfl) T.len PySem.boot_len (pa_cons (pe_fld (pv 0) rfl) pa_nil (hs := sE_Attribute))) pa_nil (hs := sE_Call))))))), ?_⟩
    unfold txBack at k
    refine ⟨_, rfl, p, dx, _, rfl, ht.ins, tf_has_mark, _, rfl, n, p, t, s0, dx, st, wd, rl, ml, kst, kw, ras, mas, rfl, ht, _, rfl, ?_⟩
    cases hm : t.marks[n]? with
    | none =>
      rw [hm] at k
      rw [decide_eq_false (by have := List.getElem?_eq_none_iff.mp hm; omega)]
      exact iteT (says1 (k.new hE))
    | some w0 =>
      rw [hm] at k
      rw [decide_eq_true (List.getElem?_eq_some_iff.mp hm).1]
      refine iteF ⟨_, rfl, p, dx, _, rfl, ht.ins, tf_go_back, _, rfl, n, p, t, s0, dx, st, wd, rl, ml, kst, kw, ras, mas, rfl, ht, w0, hm, fun H1 d m km hd hmm e1 e2 dm e3 but => ?_⟩
      obtain ⟨g1, g2, g3⟩ := ht.goBack R hd hmm e1 e2 dm e3 but
      refine ⟨_, rfl, p, _, dx, _, _, rfl, g1.ins, T.clT, T.nT_writes, tf_writes, d, km, rfl, e2, ?_⟩
      have k2 := k.moved ⟨dx, st, d, rl, m, kst, km, ras, _, g1, g2⟩ g3 (fun r hr => by
        cases e : H r with
        | none => rfl
        | some o =>
          by_cases z : r = p
          · rw [z, e1] at hr; cases hr
          · rw [but r o e z] at hr; cases hr)
      rw [← dm.len] at k2
      exact says1 k2
end
end My

end
section
set_option linter.all false
set_option Elab.async false
set_option maxRecDepth 100000
set_option maxHeartbeats 2000000
namespace My
open PySem PySem.Spec PyProof.Rows L2 TxM
/-! ### a State's attributes -/
def stf (h : Addr) (safe : Nat) (td : Addr) (begun : Nat) : List (Str × V) := [("history", .ref h), ("safe", .int (safe : Int)), ("transactions", .ref td), ("begun", .int (begun : Int))]
section
variable {h td : Addr} {safe begun : Nat}
theorem stf_history : (stf h safe td begun).lookup ("history" : Str) = some (.ref h) := lk_hit
theorem stf_safe : (stf h safe td begun).lookup ("safe" : Str) = some (.int (safe : Int)) := by unfold stf; rw [lk_miss (by decide +kernel), lk_hit]
theorem stf_td : (stf h safe td begun).lookup ("transactions" : Str) = some (.ref td) := by unfold stf; rw [lk_miss (by decide +kernel), lk_miss (by decide +kernel), lk_hit]
theorem stf_begun : (stf h safe td begun).lookup ("begun" : Str) = some (.int (begun : Int)) := by unfold stf; rw [lk_miss (by decide +kernel), lk_miss (by decide +kernel), lk_miss (by decide +kernel), lk_hit]
theorem stf_no {f : Str} (h1 : ¬ f = "history") (h2 : ¬ f = "safe") (h3 : ¬ f = "transactions") (h4 : ¬ f = "begun") : (stf h safe td begun).lookup f = none := by
  unfold stf; rw [lk_miss h1, lk_miss h2, lk_miss h3, lk_miss h4]; rfl
theorem stf_put_h (h' : Addr) : putF "history" (.ref h') (stf h safe td begun) = stf h' safe td begun := putF_hit
theorem stf_put_s (n : Nat) : putF "safe" (.int (n : Int)) (stf h safe td begun) = stf h n td begun := by unfold stf; rw [putF_miss (by decide +kernel), putF_hit]
theorem stf_put_t (td' : Addr) : putF "transactions" (.ref td') (stf h safe td begun) = stf h safe td' begun := by unfold stf; rw [putF_miss (by decide +kernel), putF_miss (by decide +kernel), putF_hit]
theorem stf_put_b (n : Nat) : putF "begun" (.int (n : Int)) (stf h safe td begun) = stf h safe td n := by unfold stf; rw [putF_miss (by decide +kernel), putF_miss (by decide +kernel), putF_miss (by decide +kernel), putF_hit]
theorem stf_may_begin : (stf h safe td begun).lookup ("may_begin" : Str) = none := stf_no (by decide +kernel) (by decide +kernel) (by decide +kernel) (by decide +kernel)
theorem stf_begin : (stf h safe td begun).lookup ("begin" : Str) = none := stf_no (by decide +kernel) (by decide +kernel) (by decide +kernel) (by decide +kernel)
theorem stf_end : (stf h safe td begun).lookup ("end" : Str) = none := stf_no (by decide +kernel) (by decide +kernel) (by decide +kernel) (by decide +kernel)
theorem stf_clash_of : (stf h safe td begun).lookup ("clash_of" : Str) = none := stf_no (by decide +kernel) (by decide +kernel) (by decide +kernel) (by decide +kernel)
theorem stf_sees_below : (stf h safe td begun).lookup ("sees_below" : Str) = none := stf_no (by decide +kernel) (by decide +kernel) (by decide +kernel) (by decide +kernel)
theorem stf_not_safe : (stf h safe td begun).lookup ("not_safe" : Str) = none := stf_no (by decide +kernel) (by decide +kernel) (by decide +kernel) (by decide +kernel)
theorem stf_make_all_safe : (stf h safe td begun).lookup ("make_all_safe" : Str) = none := stf_no (by decide +kernel) (by decide +kernel) (by decide +kernel) (by decide +kernel)
theorem stf_lose : (stf h safe td begun).lookup ("lose_what_is_not_safe" : Str) = none := stf_no (by decide +kernel) (by decide +kernel) (by decide +kernel) (by decide +kernel)
theorem stf_take_up : (stf h safe td begun).lookup ("take_up" : Str) = none := stf_no (by decide +kernel) (by decide +kernel) (by decide +kernel) (by decide +kernel)
end
/-- the transactions as their dict has them -/
def tdk (L : List (Addr × Tx.Txn)) : List (Key × V) := L.map fun x => (Sum.inl (x.2.id : Int), V.ref x.1)
/-- a State that is the specification's σ stands at S -/
structure StR (a : Ad) (ρ : Rl) (H : Hp) (S : Addr) (σ : Tx.State) (dxS h td dxh bs cl nw : Addr) (kb kn : List (Key × V)) (cas : List Addr) (L : List (Addr × Tx.Txn)) (begun : Nat) : Prop where
  ins : H S = some (.ins a.cS dxS (stf h σ.book.safe td begun))
  nx : σ.next = begun + 1
  hist : HistAt a H h σ.book dxh bs cl nw kb kn cas
  tdo : H td = some (.dK (tdk L))
  op : σ.open_ = L.map (·.2)
  txs : ∀ x ∈ L, TxnE a ρ H x.1 x.2 (σ.book.at_ x.2.seen)
  rS : ρ S = .st
  rh : ρ h = .hi
  rcl : ρ cl = .cl
  rtd : ρ td = .td
  rbs : ρ bs = .fz
  rnw : ρ nw = .fz
  rcas : ∀ x ∈ cas, ρ x = .fz
def StE (a : Ad) (ρ : Rl) (H : Hp) (S : Addr) (σ : Tx.State) : Prop := ∃ (dxS h td dxh bs cl nw : Addr) (kb kn : List (Key × V)) (cas : List Addr) (L : List (Addr × Tx.Txn)) (begun : Nat), StR a ρ H S σ dxS h td dxh bs cl nw kb kn cas L begun
section
variable {a : Ad} {ρ : Rl} {H H' : Hp} {S : Addr} {σ : Tx.State} {dxS h td dxh bs cl nw : Addr} {kb kn : List (Key × V)} {cas : List Addr} {L : List (Addr × Tx.Txn)} {begun : Nat}
theorem StR.same (x : StR a ρ H S σ dxS h td dxh bs cl nw kb kn cas L begun) (s : Same H H') : StR a ρ H' S σ dxS h td dxh bs cl nw kb kn cas L begun :=
  ⟨s _ _ x.ins, x.nx, x.hist.same s, s _ _ x.tdo, x.op, fun y hy => (x.txs y hy).same s, x.rS, x.rh, x.rcl, x.rtd, x.rbs, x.rnw, x.rcas⟩
theorem StE.same (x : StE a ρ H S σ) (s : Same H H') : StE a ρ H' S σ := by
  obtain ⟨dxS, h, td, dxh, bs, cl, nw, kb, kn, cas, L, begun, x⟩ := x
  exact ⟨dxS, h, td, dxh, bs, cl, nw, kb, kn, cas, L, begun, x.same s⟩
end
/-- what is none of the state's stays -/
def Keeps (ρ : Rl) (H : Hp) (ρ' : Rl) (H' : Hp) : Prop := ∀ c o, H c = some o → ρ c = .ot → H' c = some o ∧ ρ' c = .ot
theorem Keeps.same {ρ : Rl} {H H' : Hp} (s : Same H H') : Keeps ρ H ρ H' := fun c o e r => ⟨s c o e, r⟩
theorem Keeps.then {ρ ρ' : Rl} {H H1 H' : Hp} (m : Keeps ρ H ρ' H1) (s : Same H1 H') : Keeps ρ H ρ' H' := fun c o e r => ⟨s c o (m c o e r).1, (m c o e r).2⟩
/-- behind a call -/
def After (a : Ad) (ρ : Rl) (H : Hp) (S : Addr) (x : Tx.State × Tx.Answer) (Q : VK) : Prop := ∀ r H' ρ', H r = none → H' r = some (li (TxNeutral.shown x.2)) → StE a ρ' H' S x.1 → Keeps ρ H ρ' H' → Q (.ref r) H'
theorem After.new {a : Ad} {ρ : Rl} {H : Hp} {S : Addr} {σ : Tx.State} {an : Tx.Answer} {Q : VK} (k : After a ρ H S (σ, an) Q) (h : StE a ρ H S σ) : New H (li (TxNeutral.shown an)) Q :=
  fun r H' hr e1 e2 => k r H' ρ hr e2 (h.same e1) (Keeps.same e1)
theorem After.moved {a : Ad} {ρ ρ' : Rl} {H H1 : Hp} {S : Addr} {σ : Tx.State} {an : Tx.Answer} {Q : VK} (k : After a ρ H S (σ, an) Q) (h : StE a ρ' H1 S σ) (m : Keeps ρ H ρ' H1) (fr : ∀ r, H1 r = none → H r = none) : New H1 (li (TxNeutral.shown an)) Q :=
  fun r H' hr e1 e2 => k r H' ρ' (fr r hr) e2 (h.same e1) (m.then e1)
section
variable {P : Program} {w : World} {K : PySem.W.Frag} {mg : Str → Option Value} {base : Heap} {a : Ad}
def sp_may_begin_S (_ : PySem.W.Frag) (a : Ad) : Sp := fun vs H Q _ => ∃ (ρ : Rl) (S : Addr) (σ : Tx.State), vs = [.ref S] ∧ StE a ρ H S σ ∧ Q (.bl (decide (σ.open_.length < 8))) H
theorem ok_may_begin_S (T : Txt K mg a) : FnOk P w K mg base CX0 1 a.may_begin_S a.fd_may_begin_S ["self"] (sp_may_begin_S K a) := by
  have sc := sc_may_begin_S
  refine T.may_begin_S.ok sc (fun vs H Q E h => ?_) (fun cdv A outer s H vs Q E hr h => ?_)
  · obtain ⟨ρ, S, σ, rfl, _⟩ := h
    rfl
  · obtain ⟨ρ, S, σ, rfl, ⟨dxS, h, td, dxh, bs, cl, nw, kb, kn, cas, L, begun, x⟩, k⟩ := h
    refine ⟨_, (pss_one (ps_ret (pe_cmpR op_lt (pe_callB call_lenD (by rfl) T.len PySem.boot_len (pa_cons (pe_fld (pv 0) rfl) pa_nil (hs := sE_Attribute))) (pe_gint rfl T.MOST_TRANSACTIONS) (nomark _)))), ?_⟩
    refine ⟨_, rfl, S, _, dxS, _, _, rfl, x.ins, T.clS, T.nS_transactions, stf_td, td, _, rfl, x.tdo, _, _, rfl, rfl, ?_⟩
    have e : (tdk L).length = σ.open_.length := by rw [x.op, List.length_map]; exact List.length_map _
    rw [← dlt, ← e] at k
    exact k
def sp_not_safe_S (_ : PySem.W.Frag) (a : Ad) : Sp := fun vs H Q _ => ∃ (ρ : Rl) (S : Addr) (σ : Tx.State), vs = [.ref S] ∧ StE a ρ H S σ ∧ σ.book.safe ≤ σ.book.now ∧ Q (.int ((σ.book.now - σ.book.safe : Nat) : Int)) H
theorem ok_not_safe_S (T : Txt K mg a) : FnOk P w K mg base CX0 2 a.not_safe_S a.fd_not_safe_S ["self"] (sp_not_safe_S K a) := by
  have sc := sc_not_safe_S
  refine T.not_safe_S.ok sc (fun vs H Q E h => ?_) (fun cdv A outer s H vs Q E hr h => ?_)
  · obtain ⟨ρ, S, σ, rfl, _⟩ := h
    rfl
  · obtain ⟨ρ, S, σ, rfl, ⟨dxS, h, td, dxh, bs, cl, nw, kb, kn, cas, L, begun, x⟩, hs, k⟩ := h
    refine ⟨_, (pss_one (ps_ret (pe_op op_sub (pe_meth0 (pe_fld (pv 0) rfl) T.clH T.mt_now_H (ok_now_H T) (hr.mono (by decide)) T.b_now_H .nil pass0) (pe_fld (pv 0) rfl)))), ?_⟩
    refine ⟨_, rfl, S, _, dxS, _, _, rfl, x.ins, T.clS, T.nS_history, stf_history, h, dxh, _, rfl, x.hist.ins, x.hist.F.now, h, dxh, _, σ.book.base, bs, cl, _, rfl, x.hist.ins, x.hist.F, x.hist.cl, _, rfl, S, _, dxS, _, _, rfl, x.ins, T.clS, T.nS_safe, stf_safe, _, _, rfl, rfl, ?_⟩
    rw [x.hist.len]
    have e : ((σ.book.now : Nat) : Int) - (σ.book.safe : Int) = ((σ.book.now - σ.book.safe : Nat) : Int) := by omega
    show Q (.int (((σ.book.now : Nat) : Int) - (σ.book.safe : Int))) H
    rw [e]
    exact k
def sp_make_all_safe_S (_ : PySem.W.Frag) (a : Ad) : Sp := fun vs H Q _ => ∃ (S dxS h td dxh : Addr) (safe begun b : Nat) (fs : List (Str × V)) (bs cl : Addr) (xs : List V), vs = [.ref S] ∧ H S = some (.ins a.cS dxS (stf h safe td begun)) ∧ H h = some (.ins a.cH dxh fs) ∧ HF fs b bs cl ∧ H cl = some (.lst xs) ∧ Q .non (upd H S (.ins a.cS dxS (stf h (b + xs.length) td begun)))
theorem ok_make_all_safe_S (T : Txt K mg a) : FnOk P w K mg base CX0 2 a.make_all_safe_S a.fd_make_all_safe_S ["self"] (sp_make_all_safe_S K a) := by
  have sc := sc_make_all_safe_S
  refine T.make_all_safe_S.ok sc (fun vs H Q E h => ?_) (fun cdv A outer s H vs Q E hr h => ?_)
  · obtain ⟨S, dxS, h, td, dxh, safe, begun, b, fs, bs, cl, xs, rfl, _⟩ := h
    rfl
  · obtain ⟨S, dxS, h, td, dxh, safe, begun, b, fs, bs, cl, xs, rfl, hS, hh, F, hcl, k⟩ := h
    refine ⟨_, (pss_one (ps_fld (pv 0) (pe_meth0 (pe_fld (pv 0) rfl) T.clH T.mt_now_H (ok_now_H T) (hr.mono (by decide)) T.b_now_H .nil pass0) rfl)), ?_⟩
    refine ⟨_, rfl, S, _, dxS, _, _, rfl, hS, T.clS, T.nS_history, stf_history, h, dxh, _, rfl, hh, F.now, h, dxh, _, b, bs, cl, _, rfl, hh, F, hcl, _, rfl, S, _, dxS, _, rfl, hS, T.clS, T.nS_safe, by show 4 < 1000; decide, ?_⟩
    rw [stf_put_s]
    exact k
def sp_end_S (_ : PySem.W.Frag) (a : Ad) : Sp := fun vs H Q _ => ∃ (S dxS h td : Addr) (safe begun n : Nat) (kvs : List (Key × V)) (v : V), vs = [.ref S, .int (n : Int)] ∧ H S = some (.ins a.cS dxS (stf h safe td begun)) ∧ H td = some (.dK kvs) ∧ valV kvs (Sum.inl (n : Int)) = some v ∧ Q .non (upd H td (.dK (dropK kvs (Sum.inl (n : Int)))))
theorem ok_end_S (T : Txt K mg a) : FnOk P w K mg base CX0 1 a.end_S a.fd_end_S ["self", "number"] (sp_end_S K a) := by
  have sc := sc_end_S
  refine T.end_S.ok sc (fun vs H Q E h => ?_) (fun cdv A outer s H vs Q E hr h => ?_)
  · obtain ⟨S, dxS, h, td, safe, begun, n, kvs, v, rfl, _⟩ := h
    rfl
  · obtain ⟨S, dxS, h, td, safe, begun, n, kvs, v, rfl, hS, ht, hv, k⟩ := h
    refine ⟨_, (pss_one (ps_expr (pe_dpop1 (pe_fld (pv 0) rfl) (pv 1) ⟨rfl, rfl, rfl, rfl⟩))), ?_⟩
    exact ⟨_, rfl, S, _, dxS, _, _, rfl, hS, T.clS, T.nS_transactions, stf_td, td, rfl, .inl ⟨_, .inl ht⟩, _, rfl, _, _, _, ht, rfl, hv, k⟩
def sp_sees_below_S (_ : PySem.W.Frag) (a : Ad) : Sp := fun vs H Q _ => ∃ (ρ : Rl) (S : Addr) (σ : Tx.State) (n : Nat), vs = [.ref S, .int (n : Int)] ∧ StE a ρ H S σ ∧ Q (.bl (σ.open_.any fun t => decide (t.seen < n))) H
theorem upd_id {H : Hp} {p : Addr} {o u : HO} (h : H p = some o) : upd (upd H p u) p o = H := by
  rw [upd_upd]
  funext b
  by_cases e : b = p
  · rw [e, upd_same, h]
  · rw [upd_ne e]
theorem ok_sees_below_S (T : Txt K mg a) : FnOk P w K mg base CX0 1 a.sees_below_S a.fd_sees_below_S ["self", "number"] (sp_sees_below_S K a) := by
  have sc := sc_sees_below_S
  refine T.sees_below_S.ok sc (fun vs H Q E h => ?_) (fun cdv A outer s H vs Q E hr h => ?_)
  · obtain ⟨ρ, S, σ, n, rfl, _⟩ := h
    rfl
  · obtain ⟨ρ, S, σ, n, rfl, ⟨dxS, h, td, dxh, bs, cl, nw, kb, kn, cas, L, begun, x⟩, k⟩ := h
    have nSt : S ≠ td := ne_of x.ins x.tdo (by intro z; cases z)
    have eop : σ.open_.any (fun t => decide (t.seen < n)) = L.any fun y => decide (y.2.seen < n) := by rw [x.op, List.any_map]; rfl
    rw [eop] at k
    refine ⟨_, (pss_cons (ps_lock (ps_for PassesOwn.never rfl (pi_values (pe_fld (pv 0) rfl)) (pg_name (i := 2) sc.nd rfl (Or.inl rfl)) (pss_one (ps_if (pt_cmpR op_lt (pe_fld (pv 2) rfl) (pv 1) (nomark _)) (pss_one (ps_ret pe_bl)) pss_nil))))
      (pss_one (ps_ret pe_bl))), ?_⟩
    refine ⟨td, _, x.tdo, True.intro, fun od => ?_⟩
    refine ⟨_, rfl, S, _, dxS, _, _, rfl, by rw [upd_ne nSt]; exact x.ins, T.clS, T.nS_transactions, stf_td, td, od, _, rfl, upd_same, for_vals (fun i σ' H' => ∃ v, σ' = [some (.ref S), some (.int (n : Int)), v] ∧ H' = upd H td (.frz od (.dK (tdk L))) ∧ (L.take i).any (fun y => decide (y.2.seen < n)) = false)
      ⟨none, rfl, rfl, rfl⟩ (fun i σ' H' ⟨_, _, e, _⟩ => by rw [e]; exact upd_same) ?_ ?_⟩
    · rintro i key v σ' H' hi ⟨v2, rfl, rfl, hn⟩
      unfold tdk at hi
      rw [List.getElem?_map] at hi
      obtain ⟨y, hy, e⟩ := Option.map_eq_some_iff.mp hi
      injection e with e1 e2
      subst e1 e2
      obtain ⟨dx, st, wd, rl, ml, kst, kw, ras, mas, ht, R⟩ := x.txs y (List.mem_of_getElem? hy)
      have npt : y.1 ≠ td := ne_of ht.ins x.tdo (by intro z; cases z)
      refine ⟨_, rfl, y.1, _, dx, _, _, rfl, by rw [upd_ne npt]; exact ht.ins, T.clT, T.nT_sees, tf_sees, _, rfl, _, _, rfl, rfl, _, rfl, ?_⟩
      show if decide ((y.2.seen : Int) < (n : Int)) = true then _ else _
      rw [dlt]
      by_cases h1 : y.2.seen < n
      · rw [decide_eq_true h1]
        refine iteT ⟨upd_same, ?_⟩
        have : L.any (fun y => decide (y.2.seen < n)) = true := List.any_eq_true.mpr ⟨y, List.mem_of_getElem? hy, decide_eq_true h1⟩
        rw [this] at k
        rw [upd_id x.tdo]
        exact k
      · rw [decide_eq_false h1]
        refine iteF ⟨_, rfl, rfl, ?_⟩
        rw [take_succ' hy, List.any_append, hn]
        simp [h1]
    · rintro σ' H' ⟨v2, rfl, rfl, hn⟩
      refine ⟨upd_same, ?_⟩
      have e : (tdk L).length = L.length := List.length_map _
      rw [e, List.take_length] at hn
      rw [hn] at k
      rw [upd_id x.tdo]
      exact k
end
end My

end
section
set_option linter.all false
set_option Elab.async false
set_option maxRecDepth 100000
set_option maxHeartbeats 2000000
namespace My
open PySem PySem.Spec PyProof.Rows L2 TxM
theorem TxnE.fr {a : Ad} {ρ ρ' : Rl} {H H' : Hp} {p : Addr} {t : Tx.Txn} {s : Tx.Store} (h : TxnE a ρ H p t s) (k : ∀ c o, H c = some o → (own t.id (ρ c) ∨ ρ c = .fz) → H' c = some o ∧ ρ' c = ρ c) : TxnE a ρ' H' p t s := by
  obtain ⟨dx, st, wd, rl, ml, kst, kw, ras, mas, h1, R⟩ := h
  have i1 := k _ _ h1.ins (.inl (by rw [R.p]; rfl))
  have i2 := k _ _ h1.st (.inr R.st)
  have i3 := k _ _ h1.wd (.inl (by rw [R.wd]; rfl))
  have i4 := k _ _ h1.rl (.inl (by rw [R.rl]; rfl))
  have i5 := k _ _ h1.ml (.inl (by rw [R.ml]; rfl))
  refine ⟨dx, st, wd, rl, ml, kst, kw, ras, mas, ⟨i1.1, i2.1, h1.ds, i3.1, h1.dw, i4.1, h1.rs.on fun c hc o e => (k c o e (.inr (R.ras c hc))).1, i5.1, h1.ms.on fun c hc o e => (k c o e (.inr (R.mas c hc))).1⟩, ?_⟩
  refine ⟨i1.2.trans R.p, i3.2.trans R.wd, i4.2.trans R.rl, i5.2.trans R.ml, i2.2.trans R.st, fun x hx => ?_, fun x hx => ?_⟩
  · obtain ⟨xs, e⟩ := h1.rs.live hx
    exact (k _ _ e (.inr (R.ras x hx))).2.trans (R.ras x hx)
  · obtain ⟨xs, e⟩ := h1.ms.live hx
    exact (k _ _ e (.inr (R.mas x hx))).2.trans (R.mas x hx)
theorem own_ne {i : Nat} {x : Role} (h : own i x ∨ x = .fz) : x ≠ .ot ∧ x ≠ .st ∧ x ≠ .hi ∧ x ≠ .cl ∧ x ≠ .td := by
  refine ⟨?_, ?_, ?_, ?_, ?_⟩ <;> (intro z; subst z; rcases h with h | h; exact h; cases h)
theorem HistAt.fr {a : Ad} {ρ ρ' : Rl} {H H' : Hp} {p : Addr} {b : Tx.Book} {dx bs cl nw : Addr} {kb kn : List (Key × V)} {cas : List Addr} (h : HistAt a H p b dx bs cl nw kb kn cas) (k : ∀ c o, H c = some o → (c = p ∨ c = cl ∨ c = bs ∨ c = nw ∨ c ∈ cas) → H' c = some o) : HistAt a H' p b dx bs cl nw kb kn cas :=
  ⟨k _ _ h.ins (.inl rfl), k _ _ h.bs (.inr (.inr (.inl rfl))), h.ds, k _ _ h.nw (.inr (.inr (.inr (.inl rfl)))), h.dn, k _ _ h.cl (.inr (.inl rfl)), h.ws.on fun c hc o e => k c o e (.inr (.inr (.inr (.inr hc))))⟩
theorem tdk_none {L : List (Addr × Tx.Txn)} {i : Nat} (h : ∀ y ∈ L, y.2.id ≠ i) : valV (tdk L) (Sum.inl (i : Int)) = none := by
  induction L with
  | nil => rfl
  | cons x r ih =>
    show valV ((Sum.inl (x.2.id : Int), V.ref x.1) :: tdk r) _ = none
    rw [valV_neg (fun z => h x (List.mem_cons_self ..) (by have := Sum.inl.inj z; omega))]
    exact ih fun y hy => h y (List.mem_cons_of_mem _ hy)
theorem setR4 {ρ : Rl} {H : Hp} {x1 x2 x3 x4 b : Addr} {r1 r2 r3 r4 : Role} {o : HO} (h : H b = some o) (n1 : H x1 = none) (n2 : H x2 = none) (n3 : H x3 = none) (n4 : H x4 = none) : setR (setR (setR (setR ρ x1 r1) x2 r2) x3 r3) x4 r4 b = ρ b :=
  (setR_live h n4).trans ((setR_live h n3).trans ((setR_live h n2).trans (setR_live h n1)))
section
variable {P : Program} {w : World} {K : PySem.W.Frag} {mg : Str → Option Value} {base : Heap} {a : Ad}
def begun1 (σ : Tx.State) (way : Nat) : Tx.State := ⟨σ.book, σ.open_ ++ [⟨σ.next, σ.book.now, way, [], [], []⟩], σ.next + 1⟩
def sp_begin_S (_ : PySem.W.Frag) (a : Ad) : Sp := fun vs H Q _ => ∃ (ρ : Rl) (S : Addr) (σ : Tx.State) (way : Nat), vs = [.ref S, .int (way : Int)] ∧ StE a ρ H S σ ∧ (∀ t ∈ σ.open_, t.id < σ.next) ∧ σ.open_.length ≤ 8 ∧
  ∀ H' ρ', StE a ρ' H' S (begun1 σ way) → Keeps ρ H ρ' H' → (∀ r, H' r = none → H r = none) → Q (.int (σ.next : Int)) H'
theorem ok_begin_S (T : Txt K mg a) : FnOk P w K mg base CX0 3 a.begin_S a.fd_begin_S ["self", "way"] (sp_begin_S K a) := by
  have sc := sc_begin_S
  refine T.begin_S.ok sc (fun vs H Q E h => ?_) (fun cdv A outer s H vs Q E hr h => ?_)
  · obtain ⟨ρ, S, σ, way, rfl, _⟩ := h
    rfl
  · obtain ⟨ρ, S, σ, way, rfl, ⟨dxS, h, td, dxh, bs, cl, nw, kb, kn, cas, L, begun, x⟩, hid, hlen, k⟩ := h
    have hu := hu_of hr
    refine ⟨_, (pss_cons (ps_fldaug (pv 0) pe_int in_add)
      (pss_cons (ps_dput hu (pe_fld (pv 0) rfl) (pe_fld (pv 0) rfl) (pe_make T.mkT (ok_initTransaction T) (hr.mono (by decide)) rfl T.mgT T.b_initTransaction .nil pass0 (pa_cons (pv 1) (pa_cons (pe_meth0 (pe_fld (pv 0) rfl) T.clH T.mt_now_H (ok_now_H T) (hr.mono (by decide)) T.b_now_H .nil pass0) (pa_cons (pe_fld (pe_fld (pv 0) rfl) rfl) pa_nil (hs := sE_Attribute)) (hs := sE_Call)) (hs := sE_Name))) rfl)
      (pss_one (ps_ret (pe_fld (pv 0) rfl))))), ?_⟩
    refine ⟨_, rfl, S, _, dxS, _, _, rfl, x.ins, T.clS, T.nS_begun, stf_begun, _, _, rfl, rfl, dxS, _, x.ins, by show 4 < 1000; decide, ?_⟩
    have eb : putF "begun" (V.int ((begun : Int) + 1)) (stf h σ.book.safe td begun) = stf h σ.book.safe td (begun + 1) := stf_put_b (begun + 1)
    rw [eb]
    have nSh : h ≠ S := fun z => by have := x.rh; rw [z, x.rS] at this; cases this
    have nSt : td ≠ S := ne_of x.tdo x.ins (by intro z; cases z)
    have f1 : ∀ c o, H c = some o → c ≠ S → (upd H S (.ins a.cS dxS (stf h σ.book.safe td (begun + 1)))) c = some o := fun c o e n => by rw [upd_ne n]; exact e
    have nSc : cl ≠ S := ne_of x.hist.cl x.ins (by intro z; cases z)
    have hi1 := f1 _ _ x.hist.ins nSh
    have hc1 := f1 _ _ x.hist.cl nSc
    refine ⟨_, rfl, _, rfl, S, _, dxS, _, _, rfl, upd_same, T.clS, T.nS_history, stf_history, h, dxh, _, rfl, hi1, x.hist.F.now, h, dxh, _, σ.book.base, bs, cl, _, rfl, hi1, x.hist.F, hc1, _, rfl, S, _, dxS, _, _, rfl, upd_same, T.clS, T.nS_history, stf_history, h, _, dxh, _, _, rfl, hi1, T.clH, T.nH_newest, hf4_newest .., ?_⟩
    intro p dxp hp1 hdx1 hne
    have hp0 := free_upd hp1
    have hdx0 := free_upd hdx1
    refine ⟨p, dxp, way, σ.book.base + (cas.map V.ref).length, nw, rfl, upd_same, fun H2 wd rl ml hwd hrl hml nrm e1 e2 e3 e4 but => ⟨rfl, ?_⟩⟩
    have wd0 := free_upd (free_upd (free_upd hwd))
    have rl0 := free_upd (free_upd (free_upd hrl))
    have ml0 := free_upd (free_upd (free_upd hml))
    -- what was tracked, but S, is as it was
    have f2 : ∀ c o, H c = some o → c ≠ S → H2 c = some o := fun c o e n => by
      have n1 : c ≠ p := ne_of_none e hp0
      exact but c o (by rw [upd_ne n1, upd_ne (ne_of_none e hdx0)]; exact f1 c o e n) n1
    have nSp : S ≠ p := ne_of_none x.ins hp0
    have eS : H2 S = some (.ins a.cS dxS (stf h σ.book.safe td (begun + 1))) := but _ _ (by rw [upd_ne nSp, upd_ne (ne_of_none x.ins hdx0), upd_same]) nSp
    have etd := f2 _ _ x.tdo nSt
    have lk : (tdk L).length ≤ 8 := by
      have e : (tdk L).length = σ.open_.length := by rw [x.op, List.length_map]; exact List.length_map _
      rw [e]; exact hlen
    refine ⟨_, rfl, S, _, dxS, _, _, rfl, eS, T.clS, T.nS_transactions, stf_td, _, rfl, S, _, dxS, _, _, rfl, eS, T.clS, T.nS_begun, stf_begun, td, _, rfl, DPut.k (k := Sum.inl ((begun + 1 : Nat) : Int)) etd (Nat.lt_of_le_of_lt lk (by decide)), ?_⟩
    refine ⟨_, rfl, S, _, dxS, _, _, rfl, by rw [upd_ne (fun z => nSt z.symm)]; exact eS, T.clS, T.nS_begun, stf_begun, ?_⟩
    have hnew : valV (tdk L) (Sum.inl ((begun + 1 : Nat) : Int)) = none := tdk_none fun y hy => by
      have := hid y.2 (by rw [x.op]; exact List.mem_map.mpr ⟨y, hy, rfl⟩)
      rw [x.nx] at this
      omega
    rw [putK_new _ hnew]
    have enx : ((σ.next : Nat) : Int) = ((begun + 1 : Nat) : Int) := by rw [x.nx]
    rw [enx] at k
    have f3 : ∀ c o, H c = some o → c ≠ S → c ≠ td → (upd H2 td (.dK (tdk L ++ [(Sum.inl ((begun + 1 : Nat) : Int), V.ref p)]))) c = some o := fun c o e n1 n2 => by rw [upd_ne n2]; exact f2 c o e n1
    have nn : ∀ {c : Addr} {o : HO}, H2 c = some o → H c = none → c ≠ td := fun e n z => by rw [z, x.tdo] at n; cases n
    have tdn : H td ≠ none := by rw [x.tdo]; intro z; cases z
    have pt : p ≠ td := fun z => tdn (by rw [← z]; exact hp0)
    have wt : wd ≠ td := fun z => tdn (by rw [← z]; exact wd0)
    have rt : rl ≠ td := fun z => tdn (by rw [← z]; exact rl0)
    have mt : ml ≠ td := fun z => tdn (by rw [← z]; exact ml0)
    have pw : p ≠ wd := fun z => by rw [z, e2] at e1; cases e1
    have pr : p ≠ rl := fun z => by rw [z, e3] at e1; cases e1
    have pm : p ≠ ml := fun z => by rw [z, e4] at e1; cases e1
    have wr : wd ≠ rl := fun z => by rw [z, e3] at e2; cases e2
    have wm : wd ≠ ml := fun z => by rw [z, e4] at e2; cases e2
    refine k _ (setR (setR (setR (setR ρ p (.tx σ.next)) wd (.wd σ.next)) rl (.rl σ.next)) ml (.ml σ.next)) ⟨dxS, h, td, dxh, bs, cl, nw, kb, kn, cas, L ++ [(p, ⟨σ.next, σ.book.now, way, [], [], []⟩)], begun + 1, ?_⟩ ?_ ?_
    · have rr : ∀ c o, H c = some o → setR (setR (setR (setR ρ p (.tx σ.next)) wd (.wd σ.next)) rl (.rl σ.next)) ml (.ml σ.next) c = ρ c := fun c o e => setR4 e hp0 wd0 rl0 ml0
      have nSb : bs ≠ S := ne_of x.hist.bs x.ins (by intro z; cases z)
      have nSn : nw ≠ S := ne_of x.hist.nw x.ins (by intro z; cases z)
      have nth : h ≠ td := ne_of x.hist.ins x.tdo (by intro z; cases z)
      have ntc : cl ≠ td := ne_of x.hist.cl x.tdo (by intro z; cases z)
      have ntb : bs ≠ td := fun z => by have := x.rbs; rw [z, x.rtd] at this; cases this
      have ntn : nw ≠ td := fun z => by have := x.rnw; rw [z, x.rtd] at this; cases this
      refine ⟨by rw [upd_ne (fun z => nSt z.symm)]; exact eS, by show σ.next + 1 = begun + 1 + 1; rw [x.nx], x.hist.fr (ρ := ρ) (ρ' := ρ) fun c o e hc => ?_, ?_, ?_, fun y hy => ?_, (rr _ _ x.ins).trans x.rS, (rr _ _ x.hist.ins).trans x.rh, (rr _ _ x.hist.cl).trans x.rcl, (rr _ _ x.tdo).trans x.rtd, (rr _ _ x.hist.bs).trans x.rbs, (rr _ _ x.hist.nw).trans x.rnw, fun c hc => ?_⟩
      · rcases hc with hc | hc | hc | hc | hc
        · rw [hc] at e ⊢; exact f3 _ _ e nSh nth
        · rw [hc] at e ⊢; exact f3 _ _ e nSc ntc
        · rw [hc] at e ⊢; exact f3 _ _ e nSb ntb
        · rw [hc] at e ⊢; exact f3 _ _ e nSn ntn
        · exact f3 _ _ e (fun z => by have := x.rcas c hc; rw [z, x.rS] at this; cases this) (fun z => by have := x.rcas c hc; rw [z, x.rtd] at this; cases this)
      · rw [upd_same]
        show some (HO.dK _) = some (HO.dK (List.map _ (L ++ [_])))
        rw [List.map_append]
        show _ = some (HO.dK (tdk L ++ [(Sum.inl ((σ.next : Nat) : Int), V.ref p)]))
        rw [enx]
      · show σ.open_ ++ [_] = _
        rw [x.op, List.map_append]; rfl
      · rcases List.mem_append.mp hy with hy | hy
        · refine (x.txs y hy).fr fun c o e hc => ⟨f3 c o e (fun z => (own_ne hc).2.1 (by rw [z]; exact x.rS)) (fun z => (own_ne hc).2.2.2.2 (by rw [z]; exact x.rtd)), rr c o e⟩
        · have ey : y = (p, ⟨σ.next, σ.book.now, way, [], [], []⟩) := by simpa using hy
          rw [ey]
          have elen := x.hist.len
          refine ⟨dxp, nw, wd, rl, ml, kn, [], [], [], ⟨?_, f3 _ _ x.hist.nw nSn ntn, x.hist.dn, by rw [upd_ne wt]; exact e2, D.nil, by rw [upd_ne rt]; exact e3, True.intro, by rw [upd_ne mt]; exact e4, True.intro⟩, ?_⟩
          · rw [upd_ne pt, e1, elen]
          · refine ⟨?_, ?_, ?_, setR_same, (rr _ _ x.hist.nw).trans x.rnw, fun _ hq => (nomatch hq), fun _ hq => (nomatch hq)⟩
            · rw [setR_ne pm, setR_ne pr, setR_ne pw, setR_same]
            · rw [setR_ne wm, setR_ne wr, setR_same]
            · rw [setR_ne nrm, setR_same]
      · obtain ⟨kw, e⟩ := x.hist.ws.live hc
        exact (rr _ _ e).trans (x.rcas c hc)
    · intro c o e hc
      refine ⟨f3 c o e (fun z => by rw [z, x.rS] at hc; cases hc) (fun z => by rw [z, x.rtd] at hc; cases hc), (setR4 e hp0 wd0 rl0 ml0).trans hc⟩
    · intro r hr0
      cases e : H r with
      | none => rfl
      | some o =>
        have h2 := free_upd hr0
        by_cases z : r = S
        · rw [z, eS] at h2; cases h2
        · rw [f2 r o e z] at h2; cases h2
def stBegin (σ : Tx.State) (way : Nat) : Tx.State × Tx.Answer := if 1 < way then (σ, Tx.says (-1)) else if Tx.OPEN ≤ σ.open_.length then (σ, Tx.says (-6)) else (begun1 σ way, Tx.says (σ.next : Nat))
def sp_begin (_ : PySem.W.Frag) (a : Ad) : Sp := fun vs H Q _ => ∃ (ρ : Rl) (S : Addr) (σ : Tx.State) (way : Nat), vs = [.ref S, .int (way : Int)] ∧ StE a ρ H S σ ∧ (∀ t ∈ σ.open_, t.id < σ.next) ∧ σ.open_.length ≤ 8 ∧ After a ρ H S (stBegin σ way) Q
theorem ok_begin (T : Txt K mg a) : FnOk P w K mg base CX0 4 a.begin a.fd_begin ["state", "way"] (sp_begin K a) := by
  have sc := sc_begin
  refine T.begin.ok sc (fun vs H Q E h => ?_) (fun cdv A outer s H vs Q E hr h => ?_)
  · obtain ⟨ρ, S, σ, way, rfl, _⟩ := h
    rfl
  · obtain ⟨ρ, S, σ, way, rfl, hE, hid, hlen, k⟩ := h
    obtain ⟨dxS, h, td, dxh, bs, cl, nw, kb, kn, cas, L, begun, x⟩ := id hE
    refine ⟨_, (pss_cons (ps_if (pt_cmpR op_gt (pv 1) (pe_gint rfl T.HIGHEST_WAY) (nomark _)) (pss_one (ps_ret (pe_lst (pa_cons (pe_gint rfl T.WRONG) pa_nil (hs := sE_Name))))) pss_nil)
      (pss_cons (ps_if (pt_not (pt_val (pe_meth0 (pv 0) T.clS T.mt_may_begin_S (ok_may_begin_S T) (hr.mono (by decide)) T.b_may_begin_S .nil pass0))) (pss_one (ps_ret (pe_lst (pa_cons (pe_gint rfl T.FULL) pa_nil (hs := sE_Name))))) pss_nil)
      (pss_one (ps_ret (pe_lst (pa_cons (pe_meth (pv 0) T.clS T.mt_begin_S (ok_begin_S T) (hr.mono (by decide)) T.b_begin_S .nil pass0 (pa_cons (pv 1) pa_nil (hs := sE_Name))) pa_nil (hs := sE_Call))))))), ?_⟩
    unfold stBegin at k
    refine ⟨_, rfl, _, _, rfl, rfl, _, rfl, ite2 (fun h1 => ?_) fun h1 => ?_⟩
    · rw [if_pos (by have := of_decide_eq_true h1; omega)] at k
      exact says1 (k.new hE)
    · rw [if_neg (fun z => h1 (decide_eq_true (by omega)))] at k
      refine ⟨_, rfl, S, dxS, _, rfl, x.ins, stf_may_begin, ρ, S, σ, rfl, hE, _, rfl, ?_⟩
      by_cases h2 : σ.open_.length < 8
      · rw [decide_eq_true h2]
        rw [if_neg (by unfold Tx.OPEN; omega)] at k
        refine iteF ⟨_, rfl, S, dxS, _, rfl, x.ins, stf_begin, _, rfl, ρ, S, σ, way, rfl, hE, hid, hlen, fun H' ρ' hE' kp fr => ?_⟩
        exact says1 (k.moved hE' kp fr)
      · rw [decide_eq_false h2]
        rw [if_pos (by unfold Tx.OPEN; omega)] at k
        exact iteT (says1 (k.new hE))
end
end My

end
section
set_option linter.all false
set_option Elab.async false
set_option maxRecDepth 100000
set_option maxHeartbeats 2000000
namespace My
open PySem PySem.Spec PyProof.Rows L2 TxM
theorem tdk_find : ∀ {L : List (Addr × Tx.Txn)} {i : Nat} {t : Tx.Txn}, (L.map (·.2)).find? (fun t => t.id == i) = some t → ∃ p, (p, t) ∈ L ∧ valV (tdk L) (Sum.inl (i : Int)) = some (.ref p)
  | [], i, t, h => by cases h
  | x :: r, i, t, h => by
    rw [List.map_cons, List.find?_cons] at h
    by_cases e : x.2.id = i
    · have e' : (x.2.id == i) = true := by simpa using e
      rw [e'] at h
      have e2 : x.2 = t := Option.some.inj h
      refine ⟨x.1, by rw [← e2]; exact List.mem_cons_self .., ?_⟩
      show valV ((Sum.inl (x.2.id : Int), V.ref x.1) :: tdk r) _ = _
      rw [valV_pos (by rw [e])]
    · have e' : (x.2.id == i) = false := by simpa using e
      rw [e'] at h
      obtain ⟨p, h1, h2⟩ := tdk_find h
      refine ⟨p, List.mem_cons_of_mem _ h1, ?_⟩
      show valV ((Sum.inl (x.2.id : Int), V.ref x.1) :: tdk r) _ = _
      rw [valV_neg (fun z => e (by have := Sum.inl.inj z; omega)), h2]
theorem find_none {L : List (Addr × Tx.Txn)} {i : Nat} (h : (L.map (·.2)).find? (fun t => t.id == i) = none) : valV (tdk L) (Sum.inl (i : Int)) = none :=
  tdk_none fun y hy e => by
    have := List.find?_eq_none.mp h y.2 (List.mem_map.mpr ⟨y, hy, rfl⟩)
    exact this (by simpa using e)
theorem tdk_drop (L : List (Addr × Tx.Txn)) (i : Nat) : dropK (tdk L) (Sum.inl (i : Int)) = tdk (L.filter fun x => x.2.id != i) := by
  unfold dropK tdk
  rw [List.filter_map]
  congr 1
  refine List.filter_congr fun p _ => ?_
  show decide ((Sum.inl (p.2.id : Int) : Key) ≠ Sum.inl (i : Int)) = (p.2.id != i)
  by_cases q : p.2.id = i
  · simp [q]
  · have : ¬ (Sum.inl (p.2.id : Int) : Key) = Sum.inl (i : Int) := fun z => q (by have := Sum.inl.inj z; omega)
    simp [q, this]
section
variable {a : Ad} {ρ : Rl} {H H' : Hp} {S : Addr} {σ : Tx.State} {dxS h td dxh bs cl nw : Addr} {kb kn : List (Key × V)} {cas : List Addr} {L : List (Addr × Tx.Txn)} {begun : Nat}
/-- the addresses of a state differ -/
structure Apart (S h td bs cl nw : Addr) (cas : List Addr) : Prop where
  hS : h ≠ S
  tS : td ≠ S
  cS : cl ≠ S
  bS : bs ≠ S
  nS : nw ≠ S
  ht : h ≠ td
  ct : cl ≠ td
  bt : bs ≠ td
  nt : nw ≠ td
  ch : cl ≠ h
  bh : bs ≠ h
  nh : nw ≠ h
  bc : bs ≠ cl
  nc : nw ≠ cl
  aS : ∀ x ∈ cas, x ≠ S
  at_ : ∀ x ∈ cas, x ≠ td
  ah : ∀ x ∈ cas, x ≠ h
  ac : ∀ x ∈ cas, x ≠ cl
theorem StR.apart (x : StR a ρ H S σ dxS h td dxh bs cl nw kb kn cas L begun) : Apart S h td bs cl nw cas := by
  have ne : ∀ {b c : Addr} {r s : Role}, ρ b = r → ρ c = s → r ≠ s → b ≠ c := fun e1 e2 n z => n (by rw [← e1, ← e2, z])
  exact ⟨ne x.rh x.rS (by decide), ne x.rtd x.rS (by decide), ne x.rcl x.rS (by decide), ne x.rbs x.rS (by decide), ne x.rnw x.rS (by decide), ne x.rh x.rtd (by decide), ne x.rcl x.rtd (by decide), ne x.rbs x.rtd (by decide), ne x.rnw x.rtd (by decide),
    ne x.rcl x.rh (by decide), ne x.rbs x.rh (by decide), ne x.rnw x.rh (by decide), ne x.rbs x.rcl (by decide), ne x.rnw x.rcl (by decide),
    fun y hy => ne (x.rcas y hy) x.rS (by decide), fun y hy => ne (x.rcas y hy) x.rtd (by decide), fun y hy => ne (x.rcas y hy) x.rh (by decide), fun y hy => ne (x.rcas y hy) x.rcl (by decide)⟩
theorem StR.without (x : StR a ρ H S σ dxS h td dxh bs cl nw kb kn cas L begun) (i : Nat) : StR a ρ (upd H td (.dK (dropK (tdk L) (Sum.inl (i : Int))))) S (σ.without i) dxS h td dxh bs cl nw kb kn cas (L.filter fun x => x.2.id != i) begun := by
  have A := x.apart
  have fr : ∀ c o, H c = some o → c ≠ td → (upd H td (.dK (dropK (tdk L) (Sum.inl (i : Int))))) c = some o := fun c o e n => by rw [upd_ne n]; exact e
  refine ⟨fr _ _ x.ins A.tS.symm, x.nx, x.hist.fr (ρ := ρ) (ρ' := ρ) fun c o e hc => fr c o e ?_, ?_, ?_, fun y hy => ?_, x.rS, x.rh, x.rcl, x.rtd, x.rbs, x.rnw, x.rcas⟩
  · rcases hc with hc | hc | hc | hc | hc
    · rw [hc]; exact A.ht
    · rw [hc]; exact A.ct
    · rw [hc]; exact A.bt
    · rw [hc]; exact A.nt
    · exact A.at_ c hc
  · rw [upd_same, tdk_drop]
  · show σ.open_.filter _ = _
    rw [x.op, List.filter_map]; rfl
  · exact (x.txs y (List.mem_filter.mp hy).1).fr fun c o e hc => ⟨fr c o e fun z => (own_ne hc).2.2.2.2 (by rw [z]; exact x.rtd), rfl⟩
theorem keeps_td (x : StR a ρ H S σ dxS h td dxh bs cl nw kb kn cas L begun) {o : HO} : Keeps ρ H ρ (upd H td o) := fun c u e r => ⟨by rw [upd_ne (fun z => by rw [z, x.rtd] at r; cases r)]; exact e, r⟩
end
section
variable {P : Program} {w : World} {K : PySem.W.Frag} {mg : Str → Option Value} {base : Heap} {a : Ad}
def sp_abort (_ : PySem.W.Frag) (a : Ad) : Sp := fun vs H Q _ => ∃ (ρ : Rl) (S : Addr) (σ : Tx.State) (i : Nat) (t : Tx.Txn), vs = [.ref S, .int (i : Int)] ∧ StE a ρ H S σ ∧ σ.find i = some t ∧ After a ρ H S (σ.without i, Tx.says 0) Q
theorem ok_abort (T : Txt K mg a) : FnOk P w K mg base CX0 2 a.abort a.fd_abort ["state", "number"] (sp_abort K a) := by
  have sc := sc_abort
  refine T.abort.ok sc (fun vs H Q E h => ?_) (fun cdv A outer s H vs Q E hr h => ?_)
  · obtain ⟨ρ, S, σ, i, t, rfl, _⟩ := h
    rfl
  · obtain ⟨ρ, S, σ, i, t, rfl, ⟨dxS, h, td, dxh, bs, cl, nw, kb, kn, cas, L, begun, x⟩, hf, k⟩ := h
    unfold Tx.State.find at hf
    rw [x.op] at hf
    obtain ⟨p, hp, hv⟩ := tdk_find hf
    refine ⟨_, (pss_cons (ps_expr (pe_meth (pv 0) T.clS T.mt_end_S (ok_end_S T) (hr.mono (by decide)) T.b_end_S .nil pass0 (pa_cons (pv 1) pa_nil (hs := sE_Name))))
      (pss_one (ps_ret (pe_lst (pa_cons pe_int pa_nil (hs := sE_Constant)))))), ?_⟩
    refine ⟨_, rfl, S, dxS, _, rfl, x.ins, stf_end, _, rfl, S, dxS, h, td, _, begun, i, _, _, rfl, x.ins, x.tdo, hv, ?_⟩
    exact says1 (k.moved ⟨dxS, h, td, dxh, bs, cl, nw, kb, kn, cas, _, begun, x.without i⟩ (keeps_td x) fun r hr => free_upd hr)
/-! ### vacuum -/
open Tx in
def stVac (σ : State) (n : Nat) : State × Answer := if isCommit σ n = false ∨ σ.book.safe < n then (σ, says (-7)) else if σ.open_.any (fun (t : Txn) => decide (t.seen < n)) = true then (σ, says (-3)) else
  (⟨⟨n, σ.book.at_ n, σ.book.commits.drop (n - σ.book.base), σ.book.safe⟩, σ.open_, σ.next⟩, says ((n - σ.book.base : Nat) : Int))
def sp_vacuum (_ : PySem.W.Frag) (a : Ad) : Sp := fun vs H Q _ => ∃ (ρ : Rl) (S : Addr) (σ : Tx.State) (n : Nat), vs = [.ref S, .int (n : Int)] ∧ StE a ρ H S σ ∧ BookOk σ.book ∧ After a ρ H S (stVac σ n) Q
theorem ok_vacuum (T : Txt K mg a) : FnOk P w K mg base CX0 4 a.vacuum a.fd_vacuum ["state", "number"] (sp_vacuum K a) := by
  have sc := sc_vacuum
  refine T.vacuum.ok sc (fun vs H Q E h => ?_) (fun cdv A outer s H vs Q E hr h => ?_)
  · obtain ⟨ρ, S, σ, n, rfl, _⟩ := h
    rfl
  · obtain ⟨ρ, S, σ, n, rfl, hE, hB, k⟩ := h
    obtain ⟨dxS, h, td, dxh, bs, cl, nw, kb, kn, cas, L, begun, x⟩ := id hE
    have A := x.apart
    have hi := hB.hi
    refine ⟨_, (pss_cons (ps_set (i := 2) sc.nd rfl (Or.inl rfl) (pe_fld (pe_fld (pv 0) rfl) rfl))
      (pss_cons (ps_if (PW.pt (pw_or (pt_cmpR op_lt (pv 1) (pv 2) (nomark _)) (pw_or1 (pt_cmpR op_gt (pv 1) (pe_fld (pv 0) rfl) (nomark _))))) (pss_one (ps_ret (pe_lst (pa_cons (pe_gint rfl T.NO_SUCH_NUMBER) pa_nil (hs := sE_Name))))) pss_nil)
      (pss_cons (ps_if (pt_val (pe_meth (pv 0) T.clS T.mt_sees_below_S (ok_sees_below_S T) (hr.mono (by decide)) T.b_sees_below_S .nil pass0 (pa_cons (pv 1) pa_nil (hs := sE_Name)))) (pss_one (ps_ret (pe_lst (pa_cons (pe_gint rfl T.STILL_SEEN) pa_nil (hs := sE_Name))))) pss_nil)
      (pss_cons (ps_expr (pe_meth (pe_fld (pv 0) rfl) T.clH T.mt_drop_below_H (ok_drop_below_H T) (hr.mono (by decide)) T.b_drop_below_H .nil pass0 (pa_cons (pv 1) pa_nil (hs := sE_Name))))
      (pss_one (ps_ret (pe_lst (pa_cons (pe_op op_sub (pv 1) (pv 2)) pa_nil (hs := sE_BinOp))))))))), ?_⟩
    unfold stVac at k
    refine ⟨_, rfl, S, _, dxS, _, _, rfl, x.ins, T.clS, T.nS_history, stf_history, h, _, dxh, _, _, rfl, x.hist.ins, T.clH, T.nH_base, x.hist.F.base, ?_⟩
    refine ⟨_, rfl, _, rfl, _, _, rfl, rfl, _, rfl, ite2 (fun h1 => ?_) fun h1 => ?_⟩
    · rw [if_pos (.inl (by
        unfold Tx.isCommit
        rw [decide_eq_false (by have := of_decide_eq_true h1; omega), Bool.false_and]))] at k
      exact iteT (says1 (k.new hE))
    · have n1 : σ.book.base ≤ n := Nat.le_of_not_lt fun z => h1 (decide_eq_true (by omega))
      refine ⟨_, rfl, _, rfl, S, _, dxS, _, _, rfl, x.ins, T.clS, T.nS_safe, stf_safe, _, _, rfl, rfl, _, rfl, ite2 (fun h2 => ?_) fun h2 => ?_⟩
      · rw [if_pos (.inr (by have := of_decide_eq_true h2; omega))] at k
        exact says1 (k.new hE)
      · have n2 : n ≤ σ.book.safe := Nat.le_of_not_lt fun z => h2 (decide_eq_true (by omega))
        have hc : Tx.isCommit σ n = true := by
          unfold Tx.isCommit
          rw [decide_eq_true n1, decide_eq_true (by omega)]; rfl
        rw [if_neg (by rw [hc]; intro z; rcases z with z | z; cases z; omega)] at k
        refine ⟨_, rfl, S, dxS, _, rfl, x.ins, stf_sees_below, _, rfl, ρ, S, σ, n, rfl, hE, _, rfl, ?_⟩
        cases ha : σ.open_.any (fun (t : Tx.Txn) => decide (t.seen < n)) with
        | true =>
          rw [ha, if_pos rfl] at k
          exact iteT (says1 (k.new hE))
        | false =>
          rw [ha, if_neg (by decide)] at k
          refine iteF ⟨_, rfl, S, _, dxS, _, _, rfl, x.ins, T.clS, T.nS_history, stf_history, h, dxh, _, rfl, x.hist.ins, x.hist.F.below, _, rfl, h, σ.book, dxh, bs, cl, nw, kb, kn, cas, n, rfl, x.hist, n1, fun H' bs' cl' kb' hbs' hcl' e1 e2 db e3 but => ?_⟩
          have e : (n : Int) - (σ.book.base : Int) = ((n - σ.book.base : Nat) : Int) := by omega
          rw [← e] at k
          refine ⟨_, rfl, _, rfl, _, _, rfl, rfl, ?_⟩
          have hseen : ∀ y ∈ L, n ≤ y.2.seen := fun y hy => Nat.le_of_not_lt fun z => by
            have : σ.open_.any (fun (t : Tx.Txn) => decide (t.seen < n)) = true := List.any_eq_true.mpr ⟨y.2, by rw [x.op]; exact List.mem_map.mpr ⟨y, hy, rfl⟩, decide_eq_true z⟩
            rw [ha] at this
            cases this
          have rr : ∀ c o, H c = some o → setR (setR ρ bs' .fz) cl' .cl c = ρ c := fun c o e => (setR_live e hcl').trans (setR_live e hbs')
          have nbc : bs' ≠ cl' := fun z => by rw [z, e3] at e2; cases e2
          refine says1 (k.moved (ρ' := setR (setR ρ bs' .fz) cl' .cl) ⟨dxS, h, td, dxh, bs', cl', nw, kb', kn, cas.drop (n - σ.book.base), L, begun, ?_⟩ ?_ ?_)
          · refine ⟨but _ _ x.ins A.hS.symm, x.nx, ⟨e1, e2, db, but _ _ x.hist.nw A.nh, ?_, e3, (x.hist.ws.drop _).on fun c hc o e => but c o e (A.ah c (List.mem_of_mem_drop hc))⟩, but _ _ x.tdo A.ht.symm, x.op, fun y hy => ?_, (rr _ _ x.ins).trans x.rS, (rr _ _ x.hist.ins).trans x.rh, setR_same, (rr _ _ x.tdo).trans x.rtd, ?_, (rr _ _ x.hist.nw).trans x.rnw, fun c hc => ?_⟩
            · have e5 : Tx.Book.now ⟨n, σ.book.at_ n, σ.book.commits.drop (n - σ.book.base), σ.book.safe⟩ = σ.book.now := now_vac n1 (by omega)
              show DS kn (Tx.Book.at_ ⟨n, σ.book.at_ n, σ.book.commits.drop (n - σ.book.base), σ.book.safe⟩ (Tx.Book.now ⟨n, σ.book.at_ n, σ.book.commits.drop (n - σ.book.base), σ.book.safe⟩))
              rw [e5, at_vac _ n1 (by omega)]
              exact x.hist.dn
            · show TxnE a _ H' y.1 y.2 (Tx.Book.at_ ⟨n, σ.book.at_ n, σ.book.commits.drop (n - σ.book.base), σ.book.safe⟩ y.2.seen)
              rw [at_vac _ n1 (hseen y hy)]
              exact (x.txs y hy).fr fun c o e hc => ⟨but c o e fun z => (own_ne hc).2.2.1 (by rw [z]; exact x.rh), rr c o e⟩
            · rw [setR_ne nbc]; exact setR_same
            · have hc' := List.mem_of_mem_drop hc
              obtain ⟨kw, e6⟩ := x.hist.ws.live hc'
              exact (rr _ _ e6).trans (x.rcas c hc')
          · exact fun c o e hc => ⟨but c o e (fun z => by rw [z, x.rh] at hc; cases hc), (rr c o e).trans hc⟩
          · intro r hr0
            cases e6 : H r with
            | none => rfl
            | some o =>
              by_cases z : r = h
              · rw [z, e1] at hr0; cases hr0
              · rw [but r o e6 z] at hr0; cases hr0
/-! ### sync -/
def sp_sync (_ : PySem.W.Frag) (a : Ad) : Sp := fun vs H Q _ => ∃ (ρ : Rl) (S : Addr) (σ : Tx.State), vs = [.ref S] ∧ StE a ρ H S σ ∧ BookOk σ.book ∧ After a ρ H S (⟨{ σ.book with safe := σ.book.now }, σ.open_, σ.next⟩, Tx.says ((σ.book.now - σ.book.safe : Nat) : Int)) Q
theorem ok_sync (T : Txt K mg a) : FnOk P w K mg base CX0 3 a.sync a.fd_sync ["state"] (sp_sync K a) := by
  have sc := sc_sync
  refine T.sync.ok sc (fun vs H Q E h => ?_) (fun cdv A outer s H vs Q E hr h => ?_)
  · obtain ⟨ρ, S, σ, rfl, _⟩ := h
    rfl
  · obtain ⟨ρ, S, σ, rfl, hE, hB, k⟩ := h
    obtain ⟨dxS, h, td, dxh, bs, cl, nw, kb, kn, cas, L, begun, x⟩ := id hE
    have A := x.apart
    refine ⟨_, (pss_cons (ps_set (i := 1) sc.nd rfl (Or.inl rfl) (pe_meth0 (pv 0) T.clS T.mt_not_safe_S (ok_not_safe_S T) (hr.mono (by decide)) T.b_not_safe_S .nil pass0))
      (pss_cons (ps_expr (pe_meth0 (pv 0) T.clS T.mt_make_all_safe_S (ok_make_all_safe_S T) (hr.mono (by decide)) T.b_make_all_safe_S .nil pass0))
      (pss_one (ps_ret (pe_lst (pa_cons (pv 1) pa_nil (hs := sE_Name))))))), ?_⟩
    refine ⟨_, rfl, S, dxS, _, rfl, x.ins, stf_not_safe, ρ, S, σ, rfl, hE, hB.hi, ?_⟩
    refine ⟨_, rfl, S, dxS, _, rfl, x.ins, stf_make_all_safe, S, dxS, h, td, dxh, _, begun, σ.book.base, _, bs, cl, _, rfl, x.ins, x.hist.ins, x.hist.F, x.hist.cl, ?_⟩
    rw [x.hist.len]
    refine ⟨_, rfl, says1 (k.moved (ρ' := ρ) ⟨dxS, h, td, dxh, bs, cl, nw, kb, kn, cas, L, begun, ?_⟩ ?_ fun r hr => free_upd hr)⟩
    · have fr : ∀ c o, H c = some o → c ≠ S → (upd H S (.ins a.cS dxS (stf h σ.book.now td begun))) c = some o := fun c o e n => by rw [upd_ne n]; exact e
      have hh := x.hist.fr (ρ := ρ) (ρ' := ρ) (H' := upd H S (.ins a.cS dxS (stf h σ.book.now td begun))) fun c o e hc => fr c o e (by
        rcases hc with hc | hc | hc | hc | hc
        · rw [hc]; exact A.hS
        · rw [hc]; exact A.cS
        · rw [hc]; exact A.bS
        · rw [hc]; exact A.nS
        · exact A.aS c hc)
      exact ⟨upd_same, x.nx, ⟨hh.ins, hh.bs, hh.ds, hh.nw, hh.dn, hh.cl, hh.ws⟩, fr _ _ x.tdo A.tS, x.op, fun y hy => (x.txs y hy).fr fun c o e hc => ⟨fr c o e fun z => (own_ne hc).2.1 (by rw [z]; exact x.rS), rfl⟩, x.rS, x.rh, x.rcl, x.rtd, x.rbs, x.rnw, x.rcas⟩
    · exact fun c o e hc => ⟨by rw [upd_ne (fun z => by rw [z, x.rS] at hc; cases hc)]; exact e, hc⟩
end
end My

end
section
set_option linter.all false
set_option Elab.async false
set_option maxRecDepth 100000
set_option maxHeartbeats 2000000
namespace My
open PySem PySem.Spec PyProof.Rows L2 TxM
section
variable {P : Program} {w : World} {K : PySem.W.Frag} {mg : Str → Option Value} {base : Heap} {a : Ad}
def crashed (σ : Tx.State) : Tx.State := ⟨{ σ.book with commits := σ.book.commits.take (σ.book.safe - σ.book.base) }, [], σ.next⟩
def sp_lose_what_is_not_safe_S (_ : PySem.W.Frag) (a : Ad) : Sp := fun vs H Q _ => ∃ (ρ : Rl) (S : Addr) (σ : Tx.State), vs = [.ref S] ∧ StE a ρ H S σ ∧ BookOk σ.book ∧ ∀ H' ρ', StE a ρ' H' S (crashed σ) → Keeps ρ H ρ' H' → (∀ r, H' r = none → H r = none) → Q .non H'
theorem ok_lose_what_is_not_safe_S (T : Txt K mg a) : FnOk P w K mg base CX0 4 a.lose_what_is_not_safe_S a.fd_lose_what_is_not_safe_S ["self"] (sp_lose_what_is_not_safe_S K a) := by
  have sc := sc_lose_what_is_not_safe_S
  refine T.lose_what_is_not_safe_S.ok sc (fun vs H Q E h => ?_) (fun cdv A outer s H vs Q E hr h => ?_)
  · obtain ⟨ρ, S, σ, rfl, _⟩ := h
    rfl
  · obtain ⟨ρ, S, σ, rfl, ⟨dxS, h, td, dxh, bs, cl, nw, kb, kn, cas, L, begun, x⟩, hB, k⟩ := h
    have A := x.apart
    refine ⟨_, (pss_cons (ps_expr (pe_meth (pe_fld (pv 0) rfl) T.clH T.mt_drop_above_H (ok_drop_above_H T) (hr.mono (by decide)) T.b_drop_above_H .nil pass0 (pa_cons (pe_fld (pv 0) rfl) pa_nil (hs := sE_Attribute))))
      (pss_one (ps_fld (pv 0) pe_dnewK rfl))), ?_⟩
    refine ⟨_, rfl, S, _, dxS, _, _, rfl, x.ins, T.clS, T.nS_history, stf_history, h, dxh, _, rfl, x.hist.ins, x.hist.F.above, _, rfl, S, _, dxS, _, _, rfl, x.ins, T.clS, T.nS_safe, stf_safe, h, σ.book, dxh, bs, cl, nw, kb, kn, cas, σ.book.safe, rfl, x.hist, hB.lo, fun H1 cl' nw' kn' hcl' hnw' e1 e2 e3 dn but => ?_⟩
    have eS := but _ _ x.ins A.hS.symm
    intro td' htd'
    have tdS : td' ≠ S := fun z => by rw [z, eS] at htd'; cases htd'
    have td0 : H td' = none := by
      cases e : H td' with
      | none => rfl
      | some o =>
        by_cases z : td' = h
        · rw [z, e1] at htd'; cases htd'
        · rw [but _ o e z] at htd'; cases htd'
    refine ⟨_, rfl, S, _, dxS, _, rfl, keep eS htd', T.clS, T.nS_transactions, by show 4 < 1000; decide, ?_⟩
    rw [stf_put_t]
    have f : ∀ c o, H c = some o → c ≠ h → c ≠ S → (upd (upd H1 td' (.dK [])) S (.ins a.cS dxS (stf h σ.book.safe td' begun))) c = some o := fun c o e n1 n2 => by rw [upd_ne n2]; exact keep (but c o e n1) htd'
    have g : ∀ c o, H1 c = some o → c ≠ S → (upd (upd H1 td' (.dK [])) S (.ins a.cS dxS (stf h σ.book.safe td' begun))) c = some o := fun c o e n2 => by rw [upd_ne n2]; exact keep e htd'
    have clS : cl' ≠ S := fun z => by rw [z, x.ins] at hcl'; cases hcl'
    have nwS : nw' ≠ S := fun z => by rw [z, x.ins] at hnw'; cases hnw'
    have ctd : cl' ≠ td' := fun z => by rw [← z, e2] at htd'; cases htd'
    have ntd : nw' ≠ td' := fun z => by rw [← z, e3] at htd'; cases htd'
    have ncn : cl' ≠ nw' := fun z => by rw [z, e3] at e2; cases e2
    have rr : ∀ c o, H c = some o → setR (setR (setR ρ cl' .cl) nw' .fz) td' .td c = ρ c := fun c o e => (setR_live e td0).trans ((setR_live e hnw').trans (setR_live e hcl'))
    have lo := hB.lo
    have hi := hB.hi
    have enow : Tx.Book.now { σ.book with commits := σ.book.commits.take (σ.book.safe - σ.book.base) } = σ.book.safe := by
      unfold Tx.Book.now at hi ⊢
      show σ.book.base + (σ.book.commits.take (σ.book.safe - σ.book.base)).length = σ.book.safe
      rw [List.length_take]; omega
    refine k _ (setR (setR (setR ρ cl' .cl) nw' .fz) td' .td) ⟨dxS, h, td', dxh, bs, cl', nw', kb, kn', cas.take (σ.book.safe - σ.book.base), [], begun, ?_⟩ ?_ ?_
    · refine ⟨upd_same, x.nx, ⟨g _ _ e1 A.hS, f _ _ x.hist.bs A.bh A.bS, x.hist.ds, g _ _ e3 nwS, ?_, g _ _ e2 clS, (x.hist.ws.take _).on fun c hc o e => ?_⟩, by rw [upd_ne tdS, upd_same]; rfl, rfl, fun y hy => (nomatch hy), (rr _ _ x.ins).trans x.rS, (rr _ _ x.hist.ins).trans x.rh, ?_, setR_same, (rr _ _ x.hist.bs).trans x.rbs, ?_, fun c hc => ?_⟩
      · show DS kn' (Tx.Book.at_ { σ.book with commits := σ.book.commits.take (σ.book.safe - σ.book.base) } (Tx.Book.now { σ.book with commits := σ.book.commits.take (σ.book.safe - σ.book.base) }))
        rw [enow, at_crash _ (Nat.le_refl _)]
        exact dn
      · exact f c o e (A.ah c (List.mem_of_mem_take hc)) (A.aS c (List.mem_of_mem_take hc))
      · rw [setR_ne ctd, setR_ne ncn, setR_same]
      · rw [setR_ne ntd, setR_same]
      · have hc' := List.mem_of_mem_take hc
        obtain ⟨kw, e6⟩ := x.hist.ws.live hc'
        exact (rr _ _ e6).trans (x.rcas c hc')
    · exact fun c o e hc => ⟨f c o e (fun z => by rw [z, x.rh] at hc; cases hc) (fun z => by rw [z, x.rS] at hc; cases hc), (rr c o e).trans hc⟩
    · intro r hr0
      have h2 := free_upd (free_upd hr0)
      cases e6 : H r with
      | none => rfl
      | some o =>
        by_cases z : r = h
        · rw [z, e1] at h2; cases h2
        · rw [but r o e6 z] at h2; cases h2
def sp_crash (_ : PySem.W.Frag) (a : Ad) : Sp := fun vs H Q _ => ∃ (ρ : Rl) (S : Addr) (σ : Tx.State), vs = [.ref S] ∧ StE a ρ H S σ ∧ BookOk σ.book ∧ After a ρ H S (crashed σ, Tx.says ((σ.book.now - σ.book.safe : Nat) : Int)) Q
theorem ok_crash (T : Txt K mg a) : FnOk P w K mg base CX0 5 a.crash a.fd_crash ["state"] (sp_crash K a) := by
  have sc := sc_crash
  refine T.crash.ok sc (fun vs H Q E h => ?_) (fun cdv A outer s H vs Q E hr h => ?_)
  · obtain ⟨ρ, S, σ, rfl, _⟩ := h
    rfl
  · obtain ⟨ρ, S, σ, rfl, hE, hB, k⟩ := h
    obtain ⟨dxS, h, td, dxh, bs, cl, nw, kb, kn, cas, L, begun, x⟩ := id hE
    refine ⟨_, (pss_cons (ps_set (i := 1) sc.nd rfl (Or.inl rfl) (pe_meth0 (pv 0) T.clS T.mt_not_safe_S (ok_not_safe_S T) (hr.mono (by decide)) T.b_not_safe_S .nil pass0))
      (pss_cons (ps_expr (pe_meth0 (pv 0) T.clS T.mt_lose_what_is_not_safe_S (ok_lose_what_is_not_safe_S T) (hr.mono (by decide)) T.b_lose_what_is_not_safe_S .nil pass0))
      (pss_one (ps_ret (pe_lst (pa_cons (pv 1) pa_nil (hs := sE_Name))))))), ?_⟩
    refine ⟨_, rfl, S, dxS, _, rfl, x.ins, stf_not_safe, ρ, S, σ, rfl, hE, hB.hi, ?_⟩
    refine ⟨_, rfl, S, dxS, _, rfl, x.ins, stf_lose, ρ, S, σ, rfl, hE, hB, fun H' ρ' hE' kp fr => ?_⟩
    exact ⟨_, rfl, says1 (k.moved hE' kp fr)⟩
/-! ### recover -/
def sp_take_up_S (_ : PySem.W.Frag) (a : Ad) : Sp := fun vs H Q _ => ∃ (S dxS h td q dxq : Addr) (safe begun b : Nat) (fs : List (Str × V)) (bs cl : Addr) (xs : List V), vs = [.ref S, .ref q] ∧ H S = some (.ins a.cS dxS (stf h safe td begun)) ∧ q ≠ S ∧ cl ≠ S ∧ H q = some (.ins a.cH dxq fs) ∧ HF fs b bs cl ∧ H cl = some (.lst xs) ∧
  ∀ H' td', H td' = none → H' S = some (.ins a.cS dxS (stf q (b + xs.length) td' begun)) → H' td' = some (.dK []) → But H H' S → Q .non H'
theorem ok_take_up_S (T : Txt K mg a) : FnOk P w K mg base CX0 3 a.take_up_S a.fd_take_up_S ["self", "history"] (sp_take_up_S K a) := by
  have sc := sc_take_up_S
  refine T.take_up_S.ok sc (fun vs H Q E h => ?_) (fun cdv A outer s H vs Q E hr h => ?_)
  · obtain ⟨S, dxS, h, td, q, dxq, safe, begun, b, fs, bs, cl, xs, rfl, _⟩ := h
    rfl
  · obtain ⟨S, dxS, h, td, q, dxq, safe, begun, b, fs, bs, cl, xs, rfl, hS, nqS, ncS, hq, F, hcl, k⟩ := h
    refine ⟨_, (pss_cons (ps_fld (pv 0) (pv 1) rfl)
      (pss_cons (ps_expr (pe_meth0 (pv 0) T.clS T.mt_make_all_safe_S (ok_make_all_safe_S T) (hr.mono (by decide)) T.b_make_all_safe_S .nil pass0))
      (pss_one (ps_fld (pv 0) pe_dnewK rfl)))), ?_⟩
    refine ⟨_, rfl, _, rfl, S, _, dxS, _, rfl, hS, T.clS, T.nS_history, by show 4 < 1000; decide, ?_⟩
    rw [stf_put_h]
    refine ⟨_, rfl, S, dxS, _, rfl, upd_same, stf_make_all_safe, S, dxS, q, td, dxq, safe, begun, b, fs, bs, cl, xs, rfl, upd_same, by rw [upd_ne nqS]; exact hq, F, by rw [upd_ne ncS]; exact hcl, ?_⟩
    rw [upd_upd]
    intro td' htd'
    have td0 := free_upd htd'
    have tdS : td' ≠ S := fun z => by rw [z, hS] at td0; cases td0
    refine ⟨_, rfl, S, _, dxS, _, rfl, by rw [upd_ne tdS.symm, upd_same], T.clS, T.nS_transactions, by show 4 < 1000; decide, ?_⟩
    rw [stf_put_t]
    refine k _ td' td0 upd_same (by rw [upd_ne tdS, upd_same]) fun c o e n => ?_
    rw [upd_ne n, upd_ne (ne_of_none e td0), upd_ne n]
    exact e
open Tx in
def stRec (σ : State) (l : List Nat) : State × Answer := match bookIn l with
  | none => (σ, says (-2))
  | some b => (⟨b, [], σ.next⟩, says (b.commits.length : Nat))
def sp_recover (_ : PySem.W.Frag) (a : Ad) : Sp := fun vs H Q _ => ∃ (ρ : Rl) (S : Addr) (σ : Tx.State) (p : Addr) (l : List Nat), vs = [.ref S, .ref p] ∧ StE a ρ H S σ ∧ H p = some (li (ofN l)) ∧ l.length ≤ 16000 ∧ After a ρ H S (stRec σ l) Q
theorem ok_recover (T : Txt K mg a) : FnOk P w K mg base CX0 6 a.recover a.fd_recover ["state", "numbers"] (sp_recover K a) := by
  have sc := sc_recover
  refine T.recover.ok sc (fun vs H Q E h => ?_) (fun cdv A outer s H vs Q E hr h => ?_)
  · obtain ⟨ρ, S, σ, p, l, rfl, _⟩ := h
    rfl
  · obtain ⟨ρ, S, σ, p, l, rfl, hE, hp, hl, k⟩ := h
    obtain ⟨dxS, h, td, dxh, bs, cl, nw, kb, kn, cas, L, begun, x⟩ := id hE
    refine ⟨_, (pss_cons (ps_set (i := 2) sc.nd rfl (Or.inl rfl) (pe_call (ok_history_from T) (hr.mono (by decide)) rfl T.m_history_from T.history_from.kp T.b_history_from .nil pass0 (pa_cons (pv 1) pa_nil (hs := sE_Name))))
      (pss_cons (ps_if (pt_cmp (pc_isN (pv 2))) (pss_one (ps_ret (pe_lst (pa_cons (pe_gint rfl T.NO_LOG) pa_nil (hs := sE_Name))))) pss_nil)
      (pss_cons (ps_expr (pe_meth (pv 0) T.clS T.mt_take_up_S (ok_take_up_S T) (hr.mono (by decide)) T.b_take_up_S .nil pass0 (pa_cons (pv 2) pa_nil (hs := sE_Name))))
      (pss_one (ps_ret (pe_lst (pa_cons (pe_callB call_len_seq (by rfl) T.len PySem.boot_len (pa_cons (pe_fld (pv 2) rfl) pa_nil (hs := sE_Attribute))) pa_nil (hs := sE_Call)))))))), ?_⟩
    unfold stRec at k
    refine ⟨_, rfl, p, l, rfl, hp, hl, fun hnone H1 s1 => ?_, fun b hb r H1 dx bs' cl' nw' kb' kn' cas' hr hbs hcl hnw hcas s1 e1 e2 db e3 dn e4 hw => ?_⟩
    · rw [hnone] at k
      refine ⟨_, rfl, _, rfl, iteT ?_⟩
      exact says1 ((k.new hE).from s1)
    · rw [hb] at k
      replace k : After a ρ H S (⟨b, [], σ.next⟩, Tx.says (b.commits.length : Nat)) Q := k
      have hsafe := (bookIn_good hb).2.2
      have F := HF.four b.base bs' cl' nw'
      have eS := s1 _ _ x.ins
      have rS : r ≠ S := fun z => by rw [z, x.ins] at hr; cases hr
      have cS : cl' ≠ S := fun z => by rw [z, x.ins] at hcl; cases hcl
      have bS : bs' ≠ S := fun z => by rw [z, x.ins] at hbs; cases hbs
      have nS : nw' ≠ S := fun z => by rw [z, x.ins] at hnw; cases hnw
      have aS : ∀ y ∈ cas', y ≠ S := fun y hy z => by have := hcas y hy; rw [z, x.ins] at this; cases this
      refine ⟨_, rfl, _, rfl, iteF ⟨_, rfl, S, dxS, _, rfl, eS, stf_take_up, _, rfl, S, dxS, h, td, r, dx, _, begun, b.base, _, bs', cl', _, rfl, eS, rS, cS, e1, F, e4, fun H2 td' htd' eS2 etd but => ?_⟩⟩
      have er2 := but _ _ e1 rS
      have ec2 := but _ _ e4 cS
      have td0 : H td' = none := s1.free htd'
      have elen : b.base + (cas'.map V.ref).length = b.now := by rw [List.length_map, hw.len]; rfl
      refine ⟨_, rfl, r, _, dx, _, _, rfl, er2, T.clH, T.nH_commits, F.commits, cl', _, rfl, .inl (SqL.of ec2), ?_⟩
      have ecl : (((cas'.map V.ref).length : Nat) : Int) = ((b.commits.length : Nat) : Int) := by rw [List.length_map, hw.len]
      rw [← ecl] at k
      have rt : r ≠ td' := fun z => by rw [← z, e1] at htd'; cases htd'
      have ct : cl' ≠ td' := fun z => by rw [← z, e4] at htd'; cases htd'
      have bt : bs' ≠ td' := fun z => by rw [← z, e2] at htd'; cases htd'
      have nt : nw' ≠ td' := fun z => by rw [← z, e3] at htd'; cases htd'
      have at' : ∀ y ∈ cas', y ≠ td' := fun y hy z => by obtain ⟨kw, e⟩ := hw.live hy; rw [← z, e] at htd'; cases htd'
      have cr : cl' ≠ r := fun z => by rw [z, e1] at e4; cases e4
      have br : bs' ≠ r := fun z => by rw [z, e1] at e2; cases e2
      have nr : nw' ≠ r := fun z => by rw [z, e1] at e3; cases e3
      have ar : ∀ y ∈ cas', y ≠ r := fun y hy z => by obtain ⟨kw, e⟩ := hw.live hy; rw [z, e1] at e; cases e
      have bc : bs' ≠ cl' := fun z => by rw [z, e4] at e2; cases e2
      have nc : nw' ≠ cl' := fun z => by rw [z, e4] at e3; cases e3
      have ac : ∀ y ∈ cas', y ≠ cl' := fun y hy z => by obtain ⟨kw, e⟩ := hw.live hy; rw [z, e4] at e; cases e
      have rl : ∀ c o, H c = some o → (fun c => if c = td' then Role.td else if c = r then .hi else if c = cl' then .cl else if c = bs' ∨ c = nw' ∨ c ∈ cas' then .fz else ρ c) c = ρ c := fun c o e => by
        show (if c = td' then Role.td else if c = r then .hi else if c = cl' then .cl else if c = bs' ∨ c = nw' ∨ c ∈ cas' then .fz else ρ c) = ρ c
        rw [if_neg (ne_of_none e td0), if_neg (ne_of_none e hr), if_neg (ne_of_none e hcl), if_neg]
        rintro (z | z | z)
        · exact ne_of_none e hbs z
        · exact ne_of_none e hnw z
        · rw [hcas c z] at e; cases e
      refine says1 (k.moved (ρ' := fun c => if c = td' then Role.td else if c = r then .hi else if c = cl' then .cl else if c = bs' ∨ c = nw' ∨ c ∈ cas' then .fz else ρ c) ⟨dxS, r, td', dx, bs', cl', nw', kb', kn', cas', [], begun, ?_⟩ ?_ ?_)
      · refine ⟨?_, x.nx, ⟨er2, but _ _ e2 bS, db, but _ _ e3 nS, dn, ec2, hw.on fun c hc o e => but c o e (aS c hc)⟩, etd, rfl, fun y hy => (nomatch hy), (rl _ _ x.ins).trans x.rS, ?_, ?_, if_pos rfl, ?_, ?_, fun c hc => ?_⟩
        · rw [eS2, elen, ← hsafe]
        · show (if r = td' then Role.td else if r = r then .hi else _) = _
          rw [if_neg rt, if_pos rfl]
        · show (if cl' = td' then Role.td else if cl' = r then .hi else if cl' = cl' then .cl else _) = _
          rw [if_neg ct, if_neg cr, if_pos rfl]
        · show (if bs' = td' then Role.td else if bs' = r then .hi else if bs' = cl' then .cl else if bs' = bs' ∨ bs' = nw' ∨ bs' ∈ cas' then .fz else _) = _
          rw [if_neg bt, if_neg br, if_neg bc, if_pos (.inl rfl)]
        · show (if nw' = td' then Role.td else if nw' = r then .hi else if nw' = cl' then .cl else if nw' = bs' ∨ nw' = nw' ∨ nw' ∈ cas' then .fz else _) = _
          rw [if_neg nt, if_neg nr, if_neg nc, if_pos (.inr (.inl rfl))]
        · show (if c = td' then Role.td else if c = r then .hi else if c = cl' then .cl else if c = bs' ∨ c = nw' ∨ c ∈ cas' then .fz else _) = _
          rw [if_neg (at' c hc), if_neg (ar c hc), if_neg (ac c hc), if_pos (.inr (.inr hc))]
      · exact fun c o e hc => ⟨but c o (s1 _ _ e) (fun z => by rw [z, x.rS] at hc; cases hc), (rl c o e).trans hc⟩
      · intro q hq0
        cases e6 : H q with
        | none => rfl
        | some o =>
          by_cases z : q = S
          · rw [z, eS2] at hq0; cases hq0
          · rw [but q o (s1 _ _ e6) z] at hq0; cases hq0
/-! ### shape -/
def flat6 (l : List Tx.Txn) : List Nat := l.flatMap fun (t : Tx.Txn) => [t.id, t.seen, t.way, t.writes.length, t.reads.length, t.marks.length]
def aShape (σ : Tx.State) : Tx.Answer := ⟨(σ.book.now : Nat), [[σ.book.base, σ.book.safe], flat6 σ.open_]⟩
def sp_shape (_ : PySem.W.Frag) (a : Ad) : Sp := fun vs H Q _ => ∃ (ρ : Rl) (S : Addr) (σ : Tx.State), vs = [.ref S] ∧ StE a ρ H S σ ∧ σ.open_.length ≤ 8 ∧ New H (li (TxNeutral.shown (aShape σ))) Q
theorem flat6_append (a b : List Tx.Txn) : flat6 (a ++ b) = flat6 a ++ flat6 b := List.flatMap_append ..
theorem ok_shape (T : Txt K mg a) : FnOk P w K mg base CX0 2 a.shape a.fd_shape ["state"] (sp_shape K a) := by
  have sc := sc_shape
  refine T.shape.ok sc (fun vs H Q E h => ?_) (fun cdv A outer s H vs Q E hr h => ?_)
  · obtain ⟨ρ, S, σ, rfl, _⟩ := h
    rfl
  · obtain ⟨ρ, S, σ, rfl, hE, hlen, k⟩ := h
    obtain ⟨dxS, h, td, dxh, bs, cl, nw, kb, kn, cas, L, begun, x⟩ := id hE
    have A := x.apart
    refine ⟨_, (pss_cons (ps_set (i := 1) sc.nd rfl (Or.inl rfl) (pe_lst pa_nil))
      (pss_cons (ps_lock (ps_for PassesOwn.never rfl (pi_items (pe_fld (pv 0) rfl)) (pg_tup rfl (pgs_cons (pg_name (i := 2) sc.nd rfl (Or.inl rfl)) (pgs_cons (pg_name (i := 3) sc.nd rfl (Or.inl rfl)) pgs_nil))) (pss_one (ps_expr (pe_bm PySem.F.plainAttrs_list PySem.F.slot_list_extend PySem.F.type_list_extend mt_extend (pv 1) (pa_cons (pe_lst (pa_cons (pv 2) (pa_cons (pe_fld (pv 3) rfl) (pa_cons (pe_fld (pv 3) rfl) (pa_cons (pe_callB call_lenD (by rfl) T.len PySem.boot_len (pa_cons (pe_fld (pv 3) rfl) pa_nil (hs := sE_Attribute))) (pa_cons (pe_callB call_len_seq (by rfl) T.len PySem.boot_len (pa_cons (pe_fld (pv 3) rfl) pa_nil (hs := sE_Attribute))) (pa_cons (pe_callB call_len_seq (by rfl) T.len PySem.boot_len (pa_cons (pe_fld (pv 3) rfl) pa_nil (hs := sE_Attribute))) pa_nil (hs := sE_Call)) (hs := sE_Call)) (hs := sE_Call)) (hs := sE_Attribute)) (hs := sE_Attribute)) (hs := sE_Name))) pa_nil (hs := sE_List)))))))
      (pss_one (ps_ret (pe_op op_cat (pe_lst (pa_cons (pe_meth0 (pe_fld (pv 0) rfl) T.clH T.mt_now_H (ok_now_H T) (hr.mono (by decide)) T.b_now_H .nil pass0) (pa_cons pe_int (pa_cons (pe_fld (pe_fld (pv 0) rfl) rfl) (pa_cons (pe_fld (pv 0) rfl) (pa_cons (pe_callB call_len_seq (by rfl) T.len PySem.boot_len (pa_cons (pv 1) pa_nil (hs := sE_Name))) pa_nil (hs := sE_Call)) (hs := sE_Attribute)) (hs := sE_Attribute)) (hs := sE_Constant)) (hs := sE_Call))) (pv 1)))))), ?_⟩
    refine ⟨Nat.zero_le _, fun r hr0 => ?_⟩
    have rtd : r ≠ td := fun z => by rw [z, x.tdo] at hr0; cases hr0
    refine ⟨td, _, keep x.tdo hr0, True.intro, fun od => ?_⟩
    have f0 : ∀ c o, H c = some o → c ≠ td → (upd (upd H r (.lst [])) td (.frz od (.dK (tdk L)))) c = some o := fun c o e n => by rw [upd_ne n]; exact keep e hr0
    have Ln : L.length ≤ 8 := by rw [x.op, List.length_map] at hlen; exact hlen
    refine ⟨_, rfl, S, _, dxS, _, _, rfl, f0 _ _ x.ins A.tS.symm, T.clS, T.nS_transactions, stf_td, td, od, _, rfl, upd_same, for_items (fun i σ' H' => ∃ v2 v3, σ' = [some (.ref S), some (.ref r), v2, v3] ∧ H' td = some (.frz od (.dK (tdk L))) ∧ (∀ c o, H c = some o → c ≠ td → H' c = some o) ∧ H' r = some (li (ofN (flat6 ((L.take i).map (·.2))))))
      ⟨none, none, rfl, upd_same, f0, by rw [upd_ne rtd, upd_same]; rfl⟩ (fun i σ' H' ⟨_, _, _, e, _⟩ => e) ?_ ?_⟩
    · rintro i key v σ' H' c hi ⟨v2, v3, rfl, e1, f, e2⟩ hc
      unfold tdk at hi
      rw [List.getElem?_map] at hi
      obtain ⟨y, hy, e⟩ := Option.map_eq_some_iff.mp hi
      injection e with e3 e4
      subst e3 e4
      obtain ⟨dx, st, wd, rl, ml, kst, kw, ras, mas, ht, R⟩ := x.txs y (List.mem_of_getElem? hy)
      have nt : ∀ {b : Addr} {s : Role}, ρ b = s → s ≠ .td → b ≠ td := fun e n z => n (by rw [← e, z]; exact x.rtd)
      have g1 := keep (u := .tup [kV (Sum.inl (y.2.id : Int)), V.ref y.1]) (f _ _ ht.ins (nt R.p (by intro z; cases z))) hc
      have g2 := keep (u := .tup [kV (Sum.inl (y.2.id : Int)), V.ref y.1]) (f _ _ ht.wd (nt R.wd (by intro z; cases z))) hc
      have g3 := keep (u := .tup [kV (Sum.inl (y.2.id : Int)), V.ref y.1]) (f _ _ ht.rl (nt R.rl (by intro z; cases z))) hc
      have g4 := keep (u := .tup [kV (Sum.inl (y.2.id : Int)), V.ref y.1]) (f _ _ ht.ml (nt R.ml (by intro z; cases z))) hc
      have g5 := keep (u := .tup [kV (Sum.inl (y.2.id : Int)), V.ref y.1]) e2 hc
      have rc : r ≠ c := ne_of_none e2 hc
      refine ⟨c, _, rfl, SqT.of upd_same, rfl, _, _, rfl, _, _, rfl, rfl, ?_⟩
      refine ⟨_, rfl, .inl ⟨rfl, _, SqL.of g5⟩, _, rfl, _, rfl, y.1, _, dx, _, _, rfl, g1, T.clT, T.nT_sees, tf_sees, _, rfl, y.1, _, dx, _, _, rfl, g1, T.clT, T.nT_way, tf_way, _, rfl, y.1, _, dx, _, _, rfl, g1, T.clT, T.nT_writes, tf_writes, wd, _, rfl, g2,
        _, rfl, y.1, _, dx, _, _, rfl, g1, T.clT, T.nT_reads, tf_reads, rl, _, rfl, .inl (SqL.of g3), _, rfl, y.1, _, dx, _, _, rfl, g1, T.clT, T.nT_marks, tf_marks, ml, _, rfl, .inl (SqL.of g4), by show 6 ≤ sizeLine; decide, fun t ht0 => ?_⟩
      have lf : (flat6 ((L.take i).map (·.2))).length ≤ 48 := by
        unfold flat6
        rw [flat6_len, List.length_map, List.length_take]; omega
      refine ⟨r, t, _, _, rfl, rfl, keep g5 ht0, upd_same, by rw [li_len]; exact Nat.le_trans (Nat.add_le_add_right lf 6) (by decide), ?_⟩
      have rt : r ≠ t := ne_of_none g5 ht0
      have tdc : (upd H' c (.tup [kV (Sum.inl (y.2.id : Int)), V.ref y.1])) td = some (.frz od (.dK (tdk L))) := keep e1 hc
      refine ⟨_, _, rfl, ?_, fun b o e n => ?_, ?_⟩
      · rw [upd_ne rtd.symm]; exact keep tdc ht0
      · rw [upd_ne (ne_of_none e hr0)]; exact keep (keep (f b o e n) hc) ht0
      · rw [upd_same, take_succ' hy, List.map_append, flat6_append]
        show some (HO.lst _) = some (HO.lst _)
        rw [ofN_append, List.map_append]
        have ew : (kw.length : Int) = (y.2.writes.length : Int) := by rw [ht.dw.len]
        have er : ((ras.map V.ref).length : Int) = (y.2.reads.length : Int) := by rw [List.length_map, ht.rs.len]
        have em : ((mas.map V.ref).length : Int) = (y.2.marks.length : Int) := by rw [List.length_map, ht.ms.len]
        rw [ew, er, em]
        rfl
    · rintro σ' H' ⟨v2, v3, rfl, e1, f, e2⟩
      refine ⟨e1, ?_⟩
      have el : (tdk L).length = L.length := List.length_map _
      rw [el, List.take_length, ← x.op] at e2
      have s1 : Same H (upd H' td (.dK (tdk L))) := fun c o e => by
        by_cases z : c = td
        · rw [z, upd_same]; rw [z, x.tdo] at e; exact e
        · rw [upd_ne z]; exact f c o e z
      have y := x.same s1
      have e3 : (upd H' td (.dK (tdk L))) r = some (li (ofN (flat6 σ.open_))) := by rw [upd_ne rtd]; exact e2
      refine ⟨_, rfl, S, _, dxS, _, _, rfl, y.ins, T.clS, T.nS_history, stf_history, h, dxh, _, rfl, y.hist.ins, y.hist.F.now, h, dxh, _, σ.book.base, bs, cl, _, rfl, y.hist.ins, y.hist.F, y.hist.cl,
        _, rfl, S, _, dxS, _, _, rfl, y.ins, T.clS, T.nS_history, stf_history, h, _, dxh, _, _, rfl, y.hist.ins, T.clH, T.nH_base, y.hist.F.base, _, rfl, S, _, dxS, _, _, rfl, y.ins, T.clS, T.nS_safe, stf_safe, _, rfl, r, _, rfl, .inl (SqL.of e3), by show 5 ≤ sizeLine; decide, fun t ht => ?_⟩
      have lf : (flat6 σ.open_).length ≤ 48 := by
        unfold flat6
        rw [flat6_len]; omega
      refine ⟨_, rfl, t, r, _, _, rfl, rfl, upd_same, keep e3 ht, by show 5 + _ ≤ sizeLine; rw [li_len]; exact Nat.le_trans (Nat.add_le_add_left lf 5) (by decide), fun q hq => ?_⟩
      unfold aShape at k
      rw [shown_two] at k
      have s2 : Same H (upd (upd H' td (.dK (tdk L))) t (.lst [V.int ((σ.book.base + (cas.map V.ref).length : Nat) : Int), V.int 2, V.int (σ.book.base : Int), V.int (σ.book.safe : Int), V.int ((((ofN (flat6 σ.open_)).map V.int).length : Nat) : Int)])) := s1.trans (same_upd ht)
      refine k q _ (s2.free hq) (s2.trans (same_upd hq)) (upd_same.trans ?_)
      rw [li_len, x.hist.len]
      rfl
end
end My

end
section
set_option linter.all false
set_option Elab.async false
set_option maxRecDepth 100000
set_option maxHeartbeats 2000000
namespace My
open PySem PySem.Spec PyProof.Rows L2 TxM
section
variable {P : Program} {w : World} {K : PySem.W.Frag} {mg : Str → Option Value} {base : Heap} {a : Ad}
def clashL : Option (Nat × Nat) → List Nat
  | some x => [x.1, x.2]
  | none => []
def sp_clash_of_S (_ : PySem.W.Frag) (a : Ad) : Sp := fun vs H Q _ => ∃ (S dxS h td : Addr) (safe begun : Nat) (b : Tx.Book) (dxh bs cl nw : Addr) (kb kn : List (Key × V)) (cas : List Addr) (p : Addr) (t : Tx.Txn) (s : Tx.Store) (dx st wd rl ml : Addr) (kst kw : List (Key × V)) (ras mas : List Addr),
  vs = [.ref S, .ref p] ∧ H S = some (.ins a.cS dxS (stf h safe td begun)) ∧ HistAt a H h b dxh bs cl nw kb kn cas ∧ TxnAt a H p t s dx st wd rl ml kst kw ras mas ∧ b.base ≤ t.seen ∧ t.seen < 2 ^ 62 ∧ New H (li (ofN (clashL (t.clash b)))) Q
theorem ok_clash_of_S (T : Txt K mg a) : FnOk P w K mg base CX0 3 a.clash_of_S a.fd_clash_of_S ["self", "transaction"] (sp_clash_of_S K a) := by
  have sc := sc_clash_of_S
  refine T.clash_of_S.ok sc (fun vs H Q E h => ?_) (fun cdv A outer s H vs Q E hr h => ?_)
  · obtain ⟨S, dxS, h, td, safe, begun, b, dxh, bs, cl, nw, kb, kn, cas, p, t, s, dx, st, wd, rl, ml, kst, kw, ras, mas, rfl, _⟩ := h
    rfl
  · obtain ⟨S, dxS, h, td, safe, begun, b, dxh, bs, cl, nw, kb, kn, cas, p, t, s0, dx, st, wd, rl, ml, kst, kw, ras, mas, rfl, hS, hh, ht, hb, hbig, k⟩ := h
    rw [clash_eq b t hb] at k
    refine ⟨_, (pss_cons (ps_set (i := 2) sc.nd rfl (Or.inl rfl) (pe_meth (pe_fld (pv 0) rfl) T.clH T.mt_commits_behind_H (ok_commits_behind_H T) (hr.mono (by decide)) T.b_commits_behind_H .nil pass0 (pa_cons (pe_fld (pv 1) rfl) pa_nil (hs := sE_Attribute))))
      (pss_cons (ps_for PassesOwn.never rfl (pi_enumS rfl T.enumerate (pa_cons (pv 2) pa_nil (hs := sE_Name)) (pk_cons (pe_op op_add (pe_fld (pv 1) rfl) pe_int) pk_nil)) (pg_tup rfl (pgs_cons (pg_name (i := 3) sc.nd rfl (Or.inl rfl)) (pgs_cons (pg_name (i := 4) sc.nd rfl (Or.inl rfl)) pgs_nil))) (pss_one (ps_for PassesOwn.never rfl (pi_list (pe_callB (call_sortedD rfl) (by rfl) T.sorted boot_sorted1 (pa_cons (pv 4) pa_nil (hs := sE_Name)))) (pg_name (i := 5) sc.nd rfl (Or.inl rfl)) (pss_one (ps_if (pt_val (pe_meth (pv 1) T.clT T.mt_minds_T (ok_minds_T T) (hr.mono (by decide)) T.b_minds_T .nil pass0 (pa_cons (pv 5) pa_nil (hs := sE_Name)))) (pss_one (ps_ret (pe_lst (pa_cons (pv 3) (pa_cons (pv 5) pa_nil (hs := sE_Name)) (hs := sE_Name))))) pss_nil)))))
      (pss_one (ps_ret (pe_lst pa_nil))))), ?_⟩
    refine ⟨_, rfl, S, _, dxS, _, _, rfl, hS, T.clS, T.nS_history, stf_history, h, dxh, _, rfl, hh.ins, hh.F.behind, _, rfl, p, _, dx, _, _, rfl, ht.ins, T.clT, T.nT_sees, tf_sees, h, dxh, _, b.base, bs, cl, _, t.seen, rfl, hh.ins, hh.F, hh.cl, hb, fun c H1 hc s1 e1 => ?_⟩
    rw [← List.map_drop] at e1
    have ht1 := ht.same s1
    have hw1 := (hh.ws.drop (t.seen - b.base)).same s1
    refine ⟨_, rfl, _, rfl, p, _, dx, _, _, rfl, ht1.ins, T.clT, T.nT_sees, tf_sees, _, _, rfl, rfl, c, _, _, rfl, rfl, by show -(2 ^ 63) ≤ ((t.seen : Int) + 1); omega, by show ((t.seen : Int) + 1) < 2 ^ 63; omega, SqL.of e1,
      for_enumS (K := K) (a := c) (xs := (cas.drop (t.seen - b.base)).map V.ref) (fun i σ' H' => ∃ v3 v4 v5, σ' = [some (.ref S), some (.ref p), some (.ref c), v3, v4, v5] ∧ Same H1 H' ∧ TxM.cl t.minds (t.seen + 1) (b.commits.drop (t.seen - b.base)) = TxM.cl t.minds (t.seen + 1 + i) ((b.commits.drop (t.seen - b.base)).drop i))
      ⟨none, none, none, rfl, Same.refl _, rfl⟩ (fun i σ' H' ⟨_, _, _, _, s, _⟩ => SqL.of (s _ _ e1)) ?_ ?_⟩
    · rintro i xv σ' H' t0 hi ⟨v3, v4, v5, rfl, s2, ec⟩ ht0
      rw [List.getElem?_map] at hi
      obtain ⟨q, hq, rfl⟩ := Option.map_eq_some_iff.mp hi
      obtain ⟨wr, kq, hwr, hq1, dq⟩ := hw1.get hq
      have s3 : Same H1 (upd H' t0 (.tup [.int ((t.seen : Int) + 1 + ((i : Nat) : Int)), .ref q])) := s2.trans (same_upd ht0)
      refine ⟨t0, _, rfl, SqT.of upd_same, rfl, _, _, rfl, _, _, rfl, rfl, ?_⟩
      obtain ⟨l, rfl, hl⟩ := dq.ex
      refine ⟨_, rfl, q, _, _, rfl, s3 _ _ hq1, enc_keys eW l, fun ns l2 hperm hord hl2 => ?_⟩
      have ens := dq.sorted (enc_keys eW l) hperm hord
      subst ens
      have s4 : Same H1 (upd (upd H' t0 (.tup [.int ((t.seen : Int) + 1 + ((i : Nat) : Int)), .ref q])) l2 (.lst ((wr.map fun z => (z.1 : Int)).map V.int))) := s3.trans (same_upd hl2)
      refine ⟨l2, rfl, ⟨_, SqL.of upd_same⟩, for_list (K := K) (a := l2) (xs := (wr.map fun z => (z.1 : Int)).map V.int) (fun j σ2 H2 => ∃ v5, σ2 = [some (.ref S), some (.ref p), some (.ref c), some (.int ((t.seen + 1 + i : Nat) : Int)), some (.ref q), v5] ∧ Same H1 H2 ∧ H2 l2 = some (.lst ((wr.map fun z => (z.1 : Int)).map V.int)) ∧ (wr.find? fun y => t.minds y.1) = (wr.drop j).find? fun y => t.minds y.1)
        ⟨v5, rfl, s4, upd_same, rfl⟩ (fun j σ2 H2 _ ⟨_, _, _, e, _⟩ => SqL.of e) ?_ ?_⟩
      · rintro j y2 σ2 H2 hj ⟨v5, rfl, s5, e5, ef⟩
        rw [List.map_map, List.getElem?_map] at hj
        obtain ⟨y, hy, rfl⟩ := Option.map_eq_some_iff.mp hj
        have ht2 := ht1.same s5
        refine ⟨_, rfl, p, dx, _, rfl, ht2.ins, tf_minds, _, rfl, y.1, p, t, s0, dx, st, wd, rl, ml, kst, kw, ras, mas, rfl, ht2, _, rfl, ?_⟩
        have e6 := find_step (p := t.minds) hy
        cases hm : t.minds y.1 with
        | true =>
          rw [hm, if_pos rfl] at e6
          rw [e6] at ef
          rw [cl_hit hwr ef] at ec
          rw [ec] at k
          refine iteT ⟨_, rfl, _, rfl, by show 2 ≤ sizeLine; decide, fun r hr0 => ?_⟩
          exact (k.from (s1.trans s5)).at hr0
        | false =>
          rw [hm, if_neg (by decide)] at e6
          exact iteF ⟨_, rfl, s5, e5, ef.trans e6⟩
      · rintro σ2 H2 ⟨v5, rfl, s5, e5, ef⟩
        rw [List.length_map, List.length_map, List.drop_length] at ef
        refine ⟨_, _, _, rfl, s5, ?_⟩
        rw [ec, cl_step hwr ef]
        rfl
    · rintro σ' H' ⟨v3, v4, v5, rfl, s2, ec⟩
      rw [List.length_map, hw1.len, List.drop_length] at ec
      rw [ec] at k
      exact ⟨Nat.zero_le _, fun r hr0 => (k.from (s1.trans s2)).at hr0⟩
/-! ### commit -/
open Tx in
def stCommit (σ : State) (i : Nat) (t : Txn) : State × Answer := if t.writes.isEmpty = true then (σ.without i, says 0) else (match t.clash σ.book with
  | some x => (σ.without i, ⟨-5, [[x.1, x.2]]⟩)
  | none => (⟨{ σ.book with commits := σ.book.commits ++ [t.writes] }, (σ.without i).open_, σ.next⟩, says ((σ.book.now + 1 : Nat) : Int)))
def sp_commit (_ : PySem.W.Frag) (a : Ad) : Sp := fun vs H Q _ => ∃ (ρ : Rl) (S : Addr) (σ : Tx.State) (i : Nat) (t : Tx.Txn), vs = [.ref S, .int (i : Int)] ∧ StE a ρ H S σ ∧ σ.find i = some t ∧ (∀ t ∈ σ.open_, σ.book.base ≤ t.seen ∧ t.seen ≤ σ.book.now) ∧ σ.book.now < 2 ^ 62 ∧ σ.book.commits.length ≤ 100000 ∧ After a ρ H S (stCommit σ i t) Q
theorem isE {α β : Type} {l : List α} {m : List β} (h : l.length = m.length) : l.isEmpty = m.isEmpty := by
  cases l <;> cases m <;> first | rfl | (simp at h)
theorem ok_commit (T : Txt K mg a) : FnOk P w K mg base CX0 4 a.commit a.fd_commit ["state", "number"] (sp_commit K a) := by
  have sc := sc_commit
  refine T.commit.ok sc (fun vs H Q E h => ?_) (fun cdv A outer s H vs Q E hr h => ?_)
  · obtain ⟨ρ, S, σ, i, t, rfl, _⟩ := h
    rfl
  · obtain ⟨ρ, S, σ, i, t, rfl, ⟨dxS, h, td, dxh, bs, cl, nw, kb, kn, cas, L, begun, x⟩, hf, hseen, hnow, hcm, k⟩ := h
    have hu := hu_of hr
    have A := x.apart
    have hid : t.id = i := (find_mem hf).2
    have hse := hseen t (find_mem hf).1
    unfold Tx.State.find at hf
    rw [x.op] at hf
    obtain ⟨p, hp, hv⟩ := tdk_find hf
    have x1 := x.without i
    have hE1 : StE a ρ (upd H td (.dK (dropK (tdk L) (Sum.inl (i : Int))))) S (σ.without i) := ⟨dxS, h, td, dxh, bs, cl, nw, kb, kn, cas, _, begun, x1⟩
    have hT : TxnE a ρ (upd H td (.dK (dropK (tdk L) (Sum.inl (i : Int))))) p t (σ.book.at_ t.seen) := (x.txs _ hp).fr fun c o e hc => ⟨by rw [upd_ne (fun z => (own_ne hc).2.2.2.2 (by rw [z]; exact x.rtd))]; exact e, rfl⟩
    obtain ⟨dx, st, wd, rl, ml, kst, kw, ras, mas, ht, R⟩ := hT
    refine ⟨_, (pss_cons (ps_set (i := 2) sc.nd rfl (Or.inl rfl) (pe_dget hu (pe_fld (pv 0) rfl) (pv 1) (fun _ _ => rfl)))
      (pss_cons (ps_expr (pe_meth (pv 0) T.clS T.mt_end_S (ok_end_S T) (hr.mono (by decide)) T.b_end_S .nil pass0 (pa_cons (pv 1) pa_nil (hs := sE_Name))))
      (pss_cons (ps_if (pt_not (pt_truth (pe_fld (pv 2) rfl) (fun _ => rfl))) (pss_one (ps_ret (pe_lst (pa_cons pe_int pa_nil (hs := sE_Constant))))) pss_nil)
      (pss_cons (ps_set (i := 3) sc.nd rfl (Or.inl rfl) (pe_meth (pv 0) T.clS T.mt_clash_of_S (ok_clash_of_S T) (hr.mono (by decide)) T.b_clash_of_S .nil pass0 (pa_cons (pv 2) pa_nil (hs := sE_Name))))
      (pss_cons (ps_if (pt_truth (pv 3) (fun _ => rfl)) (pss_one (ps_ret (pe_call (ok_list_answer T) (hr.mono (by decide)) rfl T.m_list_answer T.list_answer.kp T.b_list_answer .nil pass0 (pa_cons (pe_gint rfl T.CLASH) (pa_cons (pv 3) pa_nil (hs := sE_Name)) (hs := sE_Name))))) pss_nil)
      (pss_cons (ps_expr (pe_meth (pe_fld (pv 0) rfl) T.clH T.mt_add_commit_H (ok_add_commit_H T) (hr.mono (by decide)) T.b_add_commit_H .nil pass0 (pa_cons (pe_fld (pv 2) rfl) pa_nil (hs := sE_Attribute))))
      (pss_one (ps_ret (pe_lst (pa_cons (pe_meth0 (pe_fld (pv 0) rfl) T.clH T.mt_now_H (ok_now_H T) (hr.mono (by decide)) T.b_now_H .nil pass0) pa_nil (hs := sE_Call))))))))))), ?_⟩
    unfold stCommit at k
    refine ⟨_, rfl, S, _, dxS, _, _, rfl, x.ins, T.clS, T.nS_transactions, stf_td, _, rfl, td, _, rfl, .inl ⟨_, Sum.inl (i : Int), .inl x.tdo, rfl, hv.symm⟩, ?_⟩
    refine ⟨_, rfl, S, dxS, _, rfl, x.ins, stf_end, _, rfl, S, dxS, h, td, _, begun, i, _, _, rfl, x.ins, x.tdo, hv, ?_⟩
    refine ⟨_, rfl, p, _, dx, _, _, rfl, ht.ins, T.clT, T.nT_writes, tf_writes, _, .inr (.inr ⟨_, ht.wd, rfl⟩), ?_⟩
    rw [isE ht.dw.len]
    cases hw : t.writes.isEmpty with
    | true =>
      rw [hw, if_pos rfl] at k
      exact iteT (says1 (k.moved hE1 (keeps_td x) fun r hr => free_upd hr))
    | false =>
      rw [hw, if_neg (by decide)] at k
      refine iteF ⟨_, rfl, S, dxS, _, rfl, x1.ins, stf_clash_of, _, rfl, S, dxS, h, td, _, begun, σ.book, dxh, bs, cl, nw, kb, kn, cas, p, t, _, dx, st, wd, rl, ml, kst, kw, ras, mas, rfl, x1.ins, x1.hist, ht, hse.1, by omega, fun c H1 hc s1 e1 => ?_⟩
      refine ⟨_, rfl, _, .inl ⟨_, SqL.of e1, rfl⟩, ?_⟩
      cases hcl : t.clash σ.book with
      | some y =>
        rw [hcl] at k e1
        replace k : After a ρ H S (σ.without i, ⟨-5, [[y.1, y.2]]⟩) Q := k
        refine iteT ⟨_, rfl, -5, c, _, rfl, e1, by show 2 ≤ 100000; decide, ?_⟩
        have k2 := (k.moved hE1 (keeps_td x) fun r hr => free_upd hr).from s1
        rw [shown_one] at k2
        exact k2
      | none =>
        rw [hcl] at k e1
        replace k : After a ρ H S (⟨{ σ.book with commits := σ.book.commits ++ [t.writes] }, (σ.without i).open_, σ.next⟩, Tx.says ((σ.book.now + 1 : Nat) : Int)) Q := k
        have x2 := x1.same s1
        have ht2 := ht.same s1
        have hcl2 : cas.length ≤ 100000 := by rw [x.hist.ws.len]; exact hcm
        refine iteF ⟨_, rfl, S, _, dxS, _, _, rfl, x2.ins, T.clS, T.nS_history, stf_history, h, dxh, _, rfl, x2.hist.ins, x2.hist.F.add, _, rfl, p, _, dx, _, _, rfl, ht2.ins, T.clT, T.nT_writes, tf_writes, h, σ.book, dxh, bs, cl, nw, kb, kn, cas, wd, kw, t.writes, rfl, x2.hist, ht2.wd, ht2.dw, hcl2, fun H2 nw' kn' hnw' f1 f2 f3 dn f4 => ?_⟩
        have B := x2.apart
        have eS2 := f4 _ _ x2.ins B.hS.symm B.cS.symm
        have F2 := HF.four σ.book.base bs cl nw'
        refine ⟨_, rfl, S, _, dxS, _, _, rfl, eS2, T.clS, T.nS_history, stf_history, h, dxh, _, rfl, f1, F2.now, h, dxh, _, σ.book.base, bs, cl, _, rfl, f1, F2, f2, ?_⟩
        have elen : σ.book.base + ((cas ++ [wd]).map V.ref).length = σ.book.now + 1 := by
          rw [List.length_map, List.length_append, x.hist.ws.len]; rfl
        rw [elen]
        have nw0 : H nw' = none := free_upd (s1.free hnw')
        have rr : ∀ c o, H c = some o → c ≠ wd → setR (setR ρ wd .fz) nw' .fz c = ρ c := fun c o e n => (setR_live e nw0).trans (setR_ne n)
        have ne : ∀ {b c : Addr} {r s : Role}, ρ b = r → ρ c = s → r ≠ s → b ≠ c := fun e1 e2 n z => n (by rw [← e1, ← e2, z])
        have wS : wd ≠ S := ne R.wd x.rS (by intro z; cases z)
        have wh : wd ≠ h := ne R.wd x.rh (by intro z; cases z)
        have wcl : wd ≠ cl := ne R.wd x.rcl (by intro z; cases z)
        have wtd : wd ≠ td := ne R.wd x.rtd (by intro z; cases z)
        have wbs : wd ≠ bs := ne R.wd x.rbs (by intro z; cases z)
        have wnw : wd ≠ nw' := fun z => by rw [← z, s1 _ _ ht.wd] at hnw'; cases hnw'
        have wcas : ∀ y ∈ cas, y ≠ wd := fun y hy => (ne R.wd (x.rcas y hy) (by intro z; cases z)).symm
        have up1 : ∀ c o, H c = some o → c ≠ td → c ≠ h → c ≠ cl → H2 c = some o := fun c o e n1 n2 n3 => f4 c o (s1 c o (by rw [upd_ne n1]; exact e)) n2 n3
        refine says1 (k.moved (ρ' := setR (setR ρ wd .fz) nw' .fz) ⟨dxS, h, td, dxh, bs, cl, nw', kb, kn', cas ++ [wd], L.filter (fun x => x.2.id != i), begun, ?_⟩ ?_ ?_)
        · refine ⟨eS2, x.nx, ⟨f1, f4 _ _ x2.hist.bs B.bh B.bc, x.hist.ds, f3, ?_, f2, ?_⟩, f4 _ _ x2.tdo B.ht.symm B.ct.symm, x1.op, fun y hy => ?_, (rr _ _ x.ins wS.symm).trans x.rS, (rr _ _ x.hist.ins wh.symm).trans x.rh, (rr _ _ x.hist.cl wcl.symm).trans x.rcl, (rr _ _ x.tdo wtd.symm).trans x.rtd, (rr _ _ x.hist.bs wbs.symm).trans x.rbs, setR_same, fun y hy => ?_⟩
          · show DS kn' (Tx.Book.at_ { σ.book with commits := σ.book.commits ++ [t.writes] } (Tx.Book.now { σ.book with commits := σ.book.commits ++ [t.writes] }))
            have e5 : Tx.Book.now { σ.book with commits := σ.book.commits ++ [t.writes] } = σ.book.now + 1 := by
              unfold Tx.Book.now
              show σ.book.base + (σ.book.commits ++ [t.writes]).length = _
              rw [List.length_append, List.length_singleton]; omega
            rw [e5, at_append_now]
            exact dn
          · exact Wds.app (x2.hist.ws.on fun c hc o e => f4 c o e (B.ah c hc) (B.ac c hc)) (Wds.one (f4 _ _ ht2.wd wh wcl) ht2.dw)
          · have hyL := (List.mem_filter.mp hy).1
            have hyi : y.2.id ≠ i := by simpa using (List.mem_filter.mp hy).2
            have hys := hseen y.2 (by rw [x.op]; exact List.mem_map.mpr ⟨y, hyL, rfl⟩)
            show TxnE a _ H2 y.1 y.2 (Tx.Book.at_ { σ.book with commits := σ.book.commits ++ [t.writes] } y.2.seen)
            rw [at_append _ _ hys.2]
            refine (x.txs y hyL).fr fun c o e hc => ⟨up1 c o e (fun z => (own_ne hc).2.2.2.2 (by rw [z]; exact x.rtd)) (fun z => (own_ne hc).2.2.1 (by rw [z]; exact x.rh)) (fun z => (own_ne hc).2.2.2.1 (by rw [z]; exact x.rcl)), rr c o e fun z => ?_⟩
            rw [z, R.wd, hid] at hc
            rcases hc with hc | hc
            · exact hyi (Eq.symm hc)
            · cases hc
          · rcases List.mem_append.mp hy with e | e
            · obtain ⟨kq, e6⟩ := x.hist.ws.live e
              exact (rr _ _ e6 (wcas y e)).trans (x.rcas y e)
            · have e' : y = wd := by simpa using e
              rw [e', setR_ne wnw, setR_same]
        · exact fun c o e hc => ⟨up1 c o e (fun z => by rw [z, x.rtd] at hc; cases hc) (fun z => by rw [z, x.rh] at hc; cases hc) (fun z => by rw [z, x.rcl] at hc; cases hc), (rr c o e (fun z => by rw [z, R.wd] at hc; cases hc)).trans hc⟩
        · intro r hr0
          cases e6 : H r with
          | none => rfl
          | some o =>
            by_cases z1 : r = h
            · rw [z1, f1] at hr0; cases hr0
            · by_cases z2 : r = cl
              · rw [z2, f2] at hr0; cases hr0
              · by_cases z3 : r = td
                · rw [z3, f4 _ _ x2.tdo B.ht.symm B.ct.symm] at hr0; cases hr0
                · rw [up1 r o e6 z3 z1 z2] at hr0; cases hr0
end
end My

end
section
set_option linter.all false
set_option Elab.async false
set_option maxRecDepth 100000
set_option maxHeartbeats 2000000
namespace My
open PySem PySem.Spec PyProof.Rows L2 TxM
theorem eqT {c k : Int} {A B : Prop} (e : c = k) (h : A) : if decide (V.int c = V.int k) = true then A else B := by
  rw [if_pos (by rw [e]; simp)]; exact h
theorem eqF {c k : Int} {A B : Prop} (n : c ≠ k) (h : B) : if decide (V.int c = V.int k) = true then A else B := by
  rw [if_neg (by intro z; have := of_decide_eq_true z; injection this with this; exact n this)]; exact h
/-- what the calls ask of a state -/
structure Fit (σ : Tx.State) : Prop where
  book : BookOk σ.book
  ids : (σ.open_.map (·.id)).Nodup
  len : σ.open_.length ≤ 8
  idl : ∀ t ∈ σ.open_, t.id < σ.next
  seen : ∀ t ∈ σ.open_, σ.book.base ≤ t.seen ∧ t.seen ≤ σ.book.now
  rn : ∀ t ∈ σ.open_, t.reads.length ≤ 64
  mn : ∀ t ∈ σ.open_, t.marks.length ≤ 16
  now : σ.book.now < 2 ^ 62
  cm : σ.book.commits.length ≤ 100000
  log : σ.book.log.length ≤ 50000
theorem nodup_eq {α : Type} {f : α → Nat} : ∀ {l : List α}, (l.map f).Nodup → ∀ {x y : α}, x ∈ l → y ∈ l → f x = f y → x = y
  | [], _, _, _, h, _, _ => nomatch h
  | a :: r, n, x, y, hx, hy, e => by
    obtain ⟨n1, n2⟩ := List.nodup_cons.mp (show (f a :: r.map f).Nodup from n)
    rcases List.mem_cons.mp hx with h1 | h1
    · rcases List.mem_cons.mp hy with h2 | h2
      · rw [h1, h2]
      · exact (n1 (List.mem_map.mpr ⟨y, h2, by rw [← e, h1]⟩)).elim
    · rcases List.mem_cons.mp hy with h2 | h2
      · exact (n1 (List.mem_map.mpr ⟨x, h1, by rw [e, h2]⟩)).elim
      · exact nodup_eq n2 h1 h2 e
theorem with_self {σ : Tx.State} (n : (σ.open_.map (·.id)).Nodup) {t : Tx.Txn} (h : t ∈ σ.open_) : σ.with_ t = σ := by
  have e : (σ.open_.map fun x => if x.id = t.id then t else x) = σ.open_ := by
    refine (List.map_congr_left fun x hx => ?_).trans (List.map_id _)
    show (if x.id = t.id then t else x) = x
    by_cases z : x.id = t.id
    · rw [if_pos z]; exact (nodup_eq n hx h z).symm
    · rw [if_neg z]
  show Tx.State.mk σ.book (σ.open_.map fun x => if x.id = t.id then t else x) σ.next = σ
  rw [e]
theorem StR.with_ {a : Ad} {ρ ρ' : Rl} {H H' : Hp} {S : Addr} {σ : Tx.State} {dxS h td dxh bs cl nw : Addr} {kb kn : List (Key × V)} {cas : List Addr} {L : List (Addr × Tx.Txn)} {begun : Nat} (x : StR a ρ H S σ dxS h td dxh bs cl nw kb kn cas L begun)
    (n : (σ.open_.map (·.id)).Nodup) {p : Addr} {t t' : Tx.Txn} (hp : (p, t) ∈ L) (hid : t'.id = t.id) (hsn : t'.seen = t.seen) (hT : TxnE a ρ' H' p t' (σ.book.at_ t.seen)) (m : Moves t.id ρ H ρ' H') : StE a ρ' H' S (σ.with_ t') ∧ Keeps ρ H ρ' H' := by
  have nL : (L.map fun y => y.2.id).Nodup := by rw [x.op, List.map_map] at n; exact n
  have no : ∀ {r : Role}, (∀ j, r ≠ .tx j ∧ r ≠ .wd j ∧ r ≠ .rl j ∧ r ≠ .ml j) → ¬ own t.id r := fun {r} hr z => by
    cases r with
    | tx j => exact (hr j).1 rfl
    | wd j => exact (hr j).2.1 rfl
    | rl j => exact (hr j).2.2.1 rfl
    | ml j => exact (hr j).2.2.2 rfl
    | _ => exact z
  have kp : ∀ c o r, H c = some o → ρ c = r → (∀ j, r ≠ .tx j ∧ r ≠ .wd j ∧ r ≠ .rl j ∧ r ≠ .ml j) → H' c = some o ∧ ρ' c = r := fun c o r e er hr => ⟨m.keep c o e (by rw [er]; exact no hr), (m.role c o e).trans er⟩
  have b : ∀ (r : Role), (r = .st ∨ r = .hi ∨ r = .cl ∨ r = .td ∨ r = .fz ∨ r = .ot) → ∀ j, r ≠ .tx j ∧ r ≠ .wd j ∧ r ≠ .rl j ∧ r ≠ .ml j := fun r hr j => by
    rcases hr with h | h | h | h | h | h <;> subst h <;> exact ⟨(by intro z; cases z), (by intro z; cases z), (by intro z; cases z), (by intro z; cases z)⟩
  have kS := kp _ _ _ x.ins x.rS (b _ (.inl rfl))
  have kh := kp _ _ _ x.hist.ins x.rh (b _ (.inr (.inl rfl)))
  have kc := kp _ _ _ x.hist.cl x.rcl (b _ (.inr (.inr (.inl rfl))))
  have kt := kp _ _ _ x.tdo x.rtd (b _ (.inr (.inr (.inr (.inl rfl)))))
  have kb' := kp _ _ _ x.hist.bs x.rbs (b _ (.inr (.inr (.inr (.inr (.inl rfl))))))
  have kn' := kp _ _ _ x.hist.nw x.rnw (b _ (.inr (.inr (.inr (.inr (.inl rfl))))))
  have kf : ∀ c o, H c = some o → ρ c = .fz → H' c = some o ∧ ρ' c = .fz := fun c o e er => kp _ _ _ e er (b _ (.inr (.inr (.inr (.inr (.inl rfl))))))
  refine ⟨⟨dxS, h, td, dxh, bs, cl, nw, kb, kn, cas, L.map (fun y => if y.2.id = t'.id then (y.1, t') else y), begun, ?_⟩, fun c o e er => kp _ _ _ e er (b _ (.inr (.inr (.inr (.inr (.inr rfl))))))⟩
  refine ⟨kS.1, x.nx, ⟨kh.1, kb'.1, x.hist.ds, kn'.1, x.hist.dn, kc.1, x.hist.ws.on fun c hc o e => (kf c o e (x.rcas c hc)).1⟩, ?_, ?_, fun y hy => ?_, kS.2, kh.2, kc.2, kt.2, kb'.2, kn'.2, fun c hc => ?_⟩
  · rw [kt.1]
    unfold tdk
    rw [List.map_map]
    congr 2
    refine List.map_congr_left fun y _ => ?_
    show _ = (Sum.inl (((if y.2.id = t'.id then (y.1, t') else y).2.id : Nat) : Int), V.ref (if y.2.id = t'.id then (y.1, t') else y).1)
    by_cases z : y.2.id = t'.id
    · rw [if_pos z, z]
    · rw [if_neg z]
  · show (σ.open_.map fun z => if z.id = t'.id then t' else z) = _
    rw [x.op, List.map_map, List.map_map]
    refine List.map_congr_left fun y _ => ?_
    show (if y.2.id = t'.id then t' else y.2) = (if y.2.id = t'.id then (y.1, t') else y).2
    split <;> rfl
  · obtain ⟨z, hz, e⟩ := List.mem_map.mp hy
    by_cases q : z.2.id = t'.id
    · rw [if_pos q] at e
      have ez : z = (p, t) := nodup_eq nL hz hp (q.trans hid)
      rw [← e, ez]
      show TxnE a ρ' H' p t' (σ.book.at_ t'.seen)
      rw [hsn]; exact hT
    · rw [if_neg q] at e
      rw [← e]
      exact (x.txs z hz).other (fun w => q (w.trans hid.symm)) m
  · obtain ⟨kw, e⟩ := x.hist.ws.live hc
    exact (kf _ _ e (x.rcas c hc)).2
/-- the calls within a transaction -/
def txCall : Nat → List Nat → Tx.Txn → Tx.Store → Option (Tx.Txn × Tx.Answer)
  | 1, [_, k], t, s => some (txRead t s k)
  | 2, [_, lo, hi], t, s => some (txRange t s lo hi)
  | 3, [_, k, v], t, _ => some (txWrite t k v)
  | 4, [_, k], t, _ => some (txDelete t k)
  | 5, [_], t, _ => some (txMark t)
  | 6, [_, m], t, _ => some (txBack t m)
  | _, _, _, _ => none
theorem txCall_same {c : Nat} {gl : List Nat} {t : Tx.Txn} {s : Tx.Store} {x : Tx.Txn × Tx.Answer} (h : txCall c gl t s = some x) : x.1.id = t.id ∧ x.1.seen = t.seen := by
  unfold txCall at h
  split at h
  · cases h; unfold txRead; split
    · exact ⟨rfl, rfl⟩
    · split
      · exact ⟨rfl, rfl⟩
      · dsimp only; split <;> exact ⟨rfl, rfl⟩
  · cases h; unfold txRange; split
    · exact ⟨rfl, rfl⟩
    · split <;> exact ⟨rfl, rfl⟩
  · cases h; unfold txWrite; split <;> exact ⟨rfl, rfl⟩
  · cases h; unfold txDelete; split <;> exact ⟨rfl, rfl⟩
  · cases h; unfold txMark; split <;> exact ⟨rfl, rfl⟩
  · cases h; unfold txBack; split <;> exact ⟨rfl, rfl⟩
  · cases h
section
variable {P : Program} {w : World} {K : PySem.W.Frag} {mg : Str → Option Value} {base : Heap} {a : Ad}
def sp_answer_within (_ : PySem.W.Frag) (a : Ad) : Sp := fun vs H Q _ => ∃ (ρ : Rl) (p : Addr) (t : Tx.Txn) (s : Tx.Store) (c : Nat) (g : Addr) (gl : List Nat) (x : Tx.Txn × Tx.Answer), vs = [.ref p, .int (c : Int), .ref g] ∧ TxnE a ρ H p t s ∧ H g = some (li (ofN gl)) ∧ t.reads.length ≤ 64 ∧ t.marks.length ≤ 16 ∧ txCall c gl t s = some x ∧ Within a ρ H p x s Q
theorem ok_answer_within (T : Txt K mg a) : FnOk P w K mg base CX0 5 a.answer_within a.fd_answer_within ["transaction", "call", "given"] (sp_answer_within K a) := by
  have sc := sc_answer_within
  refine T.answer_within.ok sc (fun vs H Q E h => ?_) (fun cdv A outer s H vs Q E hr h => ?_)
  · obtain ⟨ρ, p, t, s, c, g, gl, x, rfl, _⟩ := h
    rfl
  · obtain ⟨ρ, p, t, s0, c, g, gl, x, rfl, hE, hg, hr1, hm1, hx, k⟩ := h
    refine ⟨_, (pss_cons (ps_if (pt_cmpR op_eq (pv 1) (pe_gint rfl T.READ) (nomark _)) (pss_one (ps_ret (pe_call (ok_read T) (hr.mono (by decide)) rfl T.m_read T.read.kp T.b_read .nil pass0 (pa_cons (pv 0) (pa_cons (pe_ix ix_list (pv 2) pe_int (fun _ _ => rfl)) pa_nil (hs := sE_Subscript)) (hs := sE_Name))))) pss_nil)
      (pss_cons (ps_if (pt_cmpR op_eq (pv 1) (pe_gint rfl T.RANGE) (nomark _)) (pss_one (ps_ret (pe_call (ok_read_range T) (hr.mono (by decide)) rfl T.m_read_range T.read_range.kp T.b_read_range .nil pass0 (pa_cons (pv 0) (pa_cons (pe_ix ix_list (pv 2) pe_int (fun _ _ => rfl)) (pa_cons (pe_ix ix_list (pv 2) pe_int (fun _ _ => rfl)) pa_nil (hs := sE_Subscript)) (hs := sE_Subscript)) (hs := sE_Name))))) pss_nil)
      (pss_cons (ps_if (pt_cmpR op_eq (pv 1) (pe_gint rfl T.WRITE) (nomark _)) (pss_one (ps_ret (pe_call (ok_write T) (hr.mono (by decide)) rfl T.m_write T.write.kp T.b_write .nil pass0 (pa_cons (pv 0) (pa_cons (pe_ix ix_list (pv 2) pe_int (fun _ _ => rfl)) (pa_cons (pe_ix ix_list (pv 2) pe_int (fun _ _ => rfl)) pa_nil (hs := sE_Subscript)) (hs := sE_Subscript)) (hs := sE_Name))))) pss_nil)
      (pss_cons (ps_if (pt_cmpR op_eq (pv 1) (pe_gint rfl T.DELETE) (nomark _)) (pss_one (ps_ret (pe_call (ok_delete T) (hr.mono (by decide)) rfl T.m_delete T.delete.kp T.b_delete .nil pass0 (pa_cons (pv 0) (pa_cons (pe_ix ix_list (pv 2) pe_int (fun _ _ => rfl)) pa_nil (hs := sE_Subscript)) (hs := sE_Name))))) pss_nil)
      (pss_cons (ps_if (pt_cmpR op_eq (pv 1) (pe_gint rfl T.MARK) (nomark _)) (pss_one (ps_ret (pe_call (ok_mark T) (hr.mono (by decide)) rfl T.m_mark T.mark.kp T.b_mark .nil pass0 (pa_cons (pv 0) pa_nil (hs := sE_Name))))) pss_nil)
      (pss_one (ps_ret (pe_call (ok_back T) (hr.mono (by decide)) rfl T.m_back T.back.kp T.b_back .nil pass0 (pa_cons (pv 0) (pa_cons (pe_ix ix_list (pv 2) pe_int (fun _ _ => rfl)) pa_nil (hs := sE_Subscript)) (hs := sE_Name)))))))))), ?_⟩
    have ix : ∀ (j : Nat) (n : Nat), gl[j]? = some n → SqL K H g ((ofN gl).map V.int) ∧ atI ((ofN gl).map V.int) (j : Int) = some (.int (n : Int)) := fun j n e => ⟨SqL.of hg, atI_nat (li_at e)⟩
    unfold txCall at hx
    split at hx
    · cases hx
      rename_i q key
      have i1 := ix 1 key rfl
      refine ⟨_, rfl, rfl, _, rfl, eqT rfl ⟨_, rfl, _, rfl, g, _, _, _, rfl, rfl, i1.1, i1.2, ρ, p, t, s0, key, rfl, hE, hr1, k⟩⟩
    · cases hx
      rename_i q lo hi
      have i1 := ix 1 lo rfl
      have i2 := ix 2 hi rfl
      refine ⟨_, rfl, rfl, _, rfl, eqF (by decide) ⟨_, rfl, rfl, _, rfl, eqT rfl ⟨_, rfl, _, rfl, g, _, _, _, rfl, rfl, i1.1, i1.2, _, rfl, g, _, _, _, rfl, rfl, i2.1, i2.2, ρ, p, t, s0, lo, hi, rfl, hE, hr1, k⟩⟩⟩
    · cases hx
      rename_i q key v
      have i1 := ix 1 key rfl
      have i2 := ix 2 v rfl
      refine ⟨_, rfl, rfl, _, rfl, eqF (by decide) ⟨_, rfl, rfl, _, rfl, eqF (by decide) ⟨_, rfl, rfl, _, rfl, eqT rfl ⟨_, rfl, _, rfl, g, _, _, _, rfl, rfl, i1.1, i1.2, _, rfl, g, _, _, _, rfl, rfl, i2.1, i2.2, ρ, p, t, s0, key, v, rfl, hE, k⟩⟩⟩⟩
    · cases hx
      rename_i q key
      have i1 := ix 1 key rfl
      refine ⟨_, rfl, rfl, _, rfl, eqF (by decide) ⟨_, rfl, rfl, _, rfl, eqF (by decide) ⟨_, rfl, rfl, _, rfl, eqF (by decide) ⟨_, rfl, rfl, _, rfl, eqT rfl ⟨_, rfl, _, rfl, g, _, _, _, rfl, rfl, i1.1, i1.2, ρ, p, t, s0, key, rfl, hE, k⟩⟩⟩⟩⟩
    · cases hx
      refine ⟨_, rfl, rfl, _, rfl, eqF (by decide) ⟨_, rfl, rfl, _, rfl, eqF (by decide) ⟨_, rfl, rfl, _, rfl, eqF (by decide) ⟨_, rfl, rfl, _, rfl, eqF (by decide) ⟨_, rfl, rfl, _, rfl, eqT rfl ⟨_, rfl, ρ, p, t, s0, rfl, hE, hm1, k⟩⟩⟩⟩⟩⟩
    · cases hx
      rename_i q m
      have i1 := ix 1 m rfl
      refine ⟨_, rfl, rfl, _, rfl, eqF (by decide) ⟨_, rfl, rfl, _, rfl, eqF (by decide) ⟨_, rfl, rfl, _, rfl, eqF (by decide) ⟨_, rfl, rfl, _, rfl, eqF (by decide) ⟨_, rfl, rfl, _, rfl, eqF (by decide) ⟨_, rfl, _, rfl, g, _, _, _, rfl, rfl, i1.1, i1.2, ρ, p, t, s0, m, rfl, hE, k⟩⟩⟩⟩⟩⟩
    · cases hx
end
end My

end
section
set_option linter.all false
set_option Elab.async false
set_option maxRecDepth 100000
set_option maxHeartbeats 2000000
namespace My
open PySem PySem.Spec PyProof.Rows L2 TxM
theorem leT {c k : Int} {A B : Prop} (e : c ≤ k) (h : A) : if decide (c ≤ k) = true then A else B := by
  rw [if_pos (decide_eq_true e)]; exact h
theorem leF {c k : Int} {A B : Prop} (n : ¬ c ≤ k) (h : B) : if decide (c ≤ k) = true then A else B := by
  rw [if_neg (fun z => n (of_decide_eq_true z))]; exact h
/-! ### the specification's steps, over what a transaction does -/
section
variable {σ : Tx.State} {i : Nat} {t : Tx.Txn}
open Tx in
theorem on_some (hf : σ.find i = some t) (f : Txn → State × Answer) : on σ i f = f t := by unfold on; rw [hf]
open Tx in
theorem on_none (hf : σ.find i = none) (f : Txn → State × Answer) : on σ i f = (σ, says (-4)) := by unfold on; rw [hf]
theorem step_read (hf : σ.find i = some t) (n : (σ.open_.map (·.id)).Nodup) (k : Nat) : Tx.step σ (.read i k) = (σ.with_ (txRead t (σ.book.at_ t.seen) k).1, (txRead t (σ.book.at_ t.seen) k).2) := by
  have hs := with_self n (find_mem hf).1
  refine (on_some hf _).trans ?_
  unfold txRead
  split
  · exact (congrArg (fun z => (z, Tx.says (-1))) hs.symm)
  · split
    · exact (congrArg (fun z => (z, Tx.says (-6))) hs.symm)
    · dsimp only
      split
      · exact (congrArg (fun z => (z, _)) hs.symm)
      · rfl
theorem step_range (hf : σ.find i = some t) (n : (σ.open_.map (·.id)).Nodup) (lo hi : Nat) : Tx.step σ (.range i lo hi) = (σ.with_ (txRange t (σ.book.at_ t.seen) lo hi).1, (txRange t (σ.book.at_ t.seen) lo hi).2) := by
  have hs := with_self n (find_mem hf).1
  refine (on_some hf _).trans ?_
  unfold txRange
  split
  · exact (congrArg (fun z => (z, Tx.says (-1))) hs.symm)
  · split
    · exact (congrArg (fun z => (z, Tx.says (-6))) hs.symm)
    · rfl
theorem step_write (hf : σ.find i = some t) (n : (σ.open_.map (·.id)).Nodup) (k v : Nat) : Tx.step σ (.write i k v) = (σ.with_ (txWrite t k v).1, (txWrite t k v).2) := by
  have hs := with_self n (find_mem hf).1
  refine (on_some hf _).trans ?_
  unfold txWrite
  split
  · exact (congrArg (fun z => (z, Tx.says (-1))) hs.symm)
  · rfl
theorem step_delete (hf : σ.find i = some t) (n : (σ.open_.map (·.id)).Nodup) (k : Nat) : Tx.step σ (.delete i k) = (σ.with_ (txDelete t k).1, (txDelete t k).2) := by
  have hs := with_self n (find_mem hf).1
  refine (on_some hf _).trans ?_
  unfold txDelete
  split
  · exact (congrArg (fun z => (z, Tx.says (-1))) hs.symm)
  · rfl
theorem step_mark (hf : σ.find i = some t) (n : (σ.open_.map (·.id)).Nodup) : Tx.step σ (.mark i) = (σ.with_ (txMark t).1, (txMark t).2) := by
  have hs := with_self n (find_mem hf).1
  refine (on_some hf _).trans ?_
  unfold txMark
  split
  · exact (congrArg (fun z => (z, Tx.says (-6))) hs.symm)
  · rfl
theorem step_back (hf : σ.find i = some t) (n : (σ.open_.map (·.id)).Nodup) (m : Nat) : Tx.step σ (.back i m) = (σ.with_ (txBack t m).1, (txBack t m).2) := by
  have hs := with_self n (find_mem hf).1
  refine (on_some hf _).trans ?_
  unfold txBack
  cases t.marks[m]? with
  | none => exact (congrArg (fun z => (z, Tx.says (-7))) hs.symm)
  | some w => rfl
end
/-- a call of a transaction: of which, and what is due -/
theorem trans_call {σ : Tx.State} {c : Nat} {gl : List Nat} {x : Tx.Call} (h : mk c gl = some x) (h1 : 1 ≤ c) (h2 : c ≤ 8) : ∃ i r, gl = i :: r ∧ (σ.find i = none → Tx.step σ x = (σ, Tx.says (-4))) ∧
    ∀ t, σ.find i = some t → (σ.open_.map (·.id)).Nodup → (c = 7 ∧ Tx.step σ x = stCommit σ i t) ∨ (c = 8 ∧ Tx.step σ x = (σ.without i, Tx.says 0)) ∨ (c ≠ 7 ∧ c ≠ 8 ∧ ∃ y, txCall c gl t (σ.book.at_ t.seen) = some y ∧ Tx.step σ x = (σ.with_ y.1, y.2)) := by
  unfold mk at h
  split at h
  · omega
  · cases h; exact ⟨_, _, rfl, fun hf => on_none hf _, fun t hf n => .inr (.inr ⟨by decide, by decide, _, rfl, step_read hf n _⟩)⟩
  · cases h; exact ⟨_, _, rfl, fun hf => on_none hf _, fun t hf n => .inr (.inr ⟨by decide, by decide, _, rfl, step_range hf n _ _⟩)⟩
  · cases h; exact ⟨_, _, rfl, fun hf => on_none hf _, fun t hf n => .inr (.inr ⟨by decide, by decide, _, rfl, step_write hf n _ _⟩)⟩
  · cases h; exact ⟨_, _, rfl, fun hf => on_none hf _, fun t hf n => .inr (.inr ⟨by decide, by decide, _, rfl, step_delete hf n _⟩)⟩
  · cases h; exact ⟨_, _, rfl, fun hf => on_none hf _, fun t hf n => .inr (.inr ⟨by decide, by decide, _, rfl, step_mark hf n⟩)⟩
  · cases h; exact ⟨_, _, rfl, fun hf => on_none hf _, fun t hf n => .inr (.inr ⟨by decide, by decide, _, rfl, step_back hf n _⟩)⟩
  · cases h; exact ⟨_, _, rfl, fun hf => on_none hf _, fun t hf n => .inl ⟨rfl, on_some hf _⟩⟩
  · cases h; exact ⟨_, _, rfl, fun hf => on_none hf _, fun t hf n => .inr (.inl ⟨rfl, on_some hf _⟩)⟩
  all_goals first | omega | cases h
section
variable {P : Program} {w : World} {K : PySem.W.Frag} {mg : Str → Option Value} {base : Heap} {a : Ad}
def sp_answer_of_transaction (_ : PySem.W.Frag) (a : Ad) : Sp := fun vs H Q _ => ∃ (ρ : Rl) (S : Addr) (σ : Tx.State) (c : Nat) (g : Addr) (gl : List Nat) (x : Tx.Call), vs = [.ref S, .int (c : Int), .ref g] ∧ StE a ρ H S σ ∧ H g = some (li (ofN gl)) ∧ Fit σ ∧ mk c gl = some x ∧ 1 ≤ c ∧ c ≤ 8 ∧ After a ρ H S (Tx.step σ x) Q
theorem ok_answer_of_transaction (T : Txt K mg a) : FnOk P w K mg base CX0 6 a.answer_of_transaction a.fd_answer_of_transaction ["state", "call", "given"] (sp_answer_of_transaction K a) := by
  have sc := sc_answer_of_transaction
  refine T.answer_of_transaction.ok sc (fun vs H Q E h => ?_) (fun cdv A outer s H vs Q E hr h => ?_)
  · obtain ⟨ρ, S, σ, c, g, gl, x, rfl, _⟩ := h
    rfl
  · obtain ⟨ρ, S, σ, c, g, gl, call, rfl, hE, hg, ft, hmk, h1, h2, k⟩ := h
    have hu := hu_of hr
    obtain ⟨dxS, h, td, dxh, bs, cl, nw, kb, kn, cas, L, begun, x⟩ := id hE
    obtain ⟨i, rest, rfl, kn0, ks0⟩ := trans_call (σ := σ) hmk h1 h2
    refine ⟨_, (pss_cons (ps_set (i := 3) sc.nd rfl (Or.inl rfl) (pe_ix ix_list (pv 2) pe_int (fun _ _ => rfl)))
      (pss_cons (ps_if (pt_cmp (pc_dnotin hu (pv 3) (pe_fld (pv 0) rfl))) (pss_one (ps_ret (pe_lst (pa_cons (pe_gint rfl T.NONE_SUCH) pa_nil (hs := sE_Name))))) pss_nil)
      (pss_cons (ps_if (pt_cmpR op_eq (pv 1) (pe_gint rfl T.COMMIT) (nomark _)) (pss_one (ps_ret (pe_call (ok_commit T) (hr.mono (by decide)) rfl T.m_commit T.commit.kp T.b_commit .nil pass0 (pa_cons (pv 0) (pa_cons (pv 3) pa_nil (hs := sE_Name)) (hs := sE_Name))))) pss_nil)
      (pss_cons (ps_if (pt_cmpR op_eq (pv 1) (pe_gint rfl T.ABORT) (nomark _)) (pss_one (ps_ret (pe_call (ok_abort T) (hr.mono (by decide)) rfl T.m_abort T.abort.kp T.b_abort .nil pass0 (pa_cons (pv 0) (pa_cons (pv 3) pa_nil (hs := sE_Name)) (hs := sE_Name))))) pss_nil)
      (pss_one (ps_ret (pe_call (ok_answer_within T) (hr.mono (by decide)) rfl T.m_answer_within T.answer_within.kp T.b_answer_within .nil pass0 (pa_cons (pe_dget hu (pe_fld (pv 0) rfl) (pv 3) (fun _ _ => rfl)) (pa_cons (pv 1) (pa_cons (pv 2) pa_nil (hs := sE_Name)) (hs := sE_Name)) (hs := sE_Subscript))))))))), ?_⟩
    refine ⟨_, rfl, g, _, _, _, rfl, rfl, SqL.of hg, atI_nat (j := 0) (li_at (l := i :: rest) rfl), ?_⟩
    refine ⟨_, rfl, _, rfl, S, _, dxS, _, _, rfl, x.ins, T.clS, T.nS_transactions, stf_td, td, _, rfl, DGet.k (k := Sum.inl (i : Int)) x.tdo, _, rfl, ?_⟩
    cases hf : σ.find i with
    | none =>
      have hf' := hf
      unfold Tx.State.find at hf'
      rw [x.op] at hf'
      rw [find_none hf']
      rw [kn0 hf] at k
      exact iteT (says1 (k.new hE))
    | some t =>
      have hf' := hf
      unfold Tx.State.find at hf'
      rw [x.op] at hf'
      obtain ⟨p, hp, hv⟩ := tdk_find hf'
      rw [hv]
      have tm := (find_mem hf).1
      rcases ks0 t hf ft.ids with ⟨rfl, e⟩ | ⟨rfl, e⟩ | ⟨n7, n8, y, hy, e⟩
      · rw [e] at k
        exact iteF ⟨_, rfl, rfl, _, rfl, eqT rfl ⟨_, rfl, _, rfl, ρ, S, σ, i, t, rfl, hE, hf, ft.seen, ft.now, ft.cm, k⟩⟩
      · rw [e] at k
        exact iteF ⟨_, rfl, rfl, _, rfl, eqF (by decide) ⟨_, rfl, rfl, _, rfl, eqT rfl ⟨_, rfl, _, rfl, ρ, S, σ, i, t, rfl, hE, hf, k⟩⟩⟩
      · rw [e] at k
        have hT := x.txs _ hp
        have hsame := txCall_same hy
        refine iteF ⟨_, rfl, rfl, _, rfl, eqF (by omega) ⟨_, rfl, rfl, _, rfl, eqF (by omega) ⟨_, rfl, S, _, dxS, _, _, rfl, x.ins, T.clS, T.nS_transactions, stf_td, _, rfl, td, _, rfl, .inl ⟨_, Sum.inl (i : Int), .inl x.tdo, rfl, hv.symm⟩, _, rfl, _, rfl, ρ, p, t, _, c, g, _, y, rfl, hT, hg, ft.rn t tm, ft.mn t tm, hy, fun r H' ρ' hr0 er hT' m => ?_⟩⟩⟩
        rw [hsame.1] at m
        obtain ⟨q1, q2⟩ := x.with_ ft.ids hp hsame.1 hsame.2 hT' m
        exact k r H' ρ' hr0 er q1 q2
def pastAns (b : Tx.Book) : Nat → List Nat → Option Tx.Answer
  | 9, [n, k] => some (aAt b n k)
  | 10, [n] => some (aAll b n)
  | 11, [x, y] => some (aCh b x y)
  | 15, [] => some (aLog b)
  | _, _ => none
def sp_answer_of_past (_ : PySem.W.Frag) (a : Ad) : Sp := fun vs H Q _ => ∃ (p : Addr) (b : Tx.Book) (dx bs cl nw : Addr) (kb kn : List (Key × V)) (cas : List Addr) (c : Nat) (g : Addr) (gl : List Nat) (an : Tx.Answer), vs = [.ref p, .int (c : Int), .ref g] ∧ HistAt a H p b dx bs cl nw kb kn cas ∧ H g = some (li (ofN gl)) ∧ b.log.length ≤ 50000 ∧ pastAns b c gl = some an ∧ New H (li (TxNeutral.shown an)) Q
theorem ok_answer_of_past (T : Txt K mg a) : FnOk P w K mg base CX0 4 a.answer_of_past a.fd_answer_of_past ["history", "call", "given"] (sp_answer_of_past K a) := by
  have sc := sc_answer_of_past
  refine T.answer_of_past.ok sc (fun vs H Q E h => ?_) (fun cdv A outer s H vs Q E hr h => ?_)
  · obtain ⟨p, b, dx, bs, cl, nw, kb, kn, cas, c, g, gl, an, rfl, _⟩ := h
    rfl
  · obtain ⟨p, b, dx, bs, cl, nw, kb, kn, cas, c, g, gl, an, rfl, hh, hg, hlog, hx, k⟩ := h
    have ix : ∀ (j : Nat) (n : Nat), gl[j]? = some n → SqL K H g ((ofN gl).map V.int) ∧ atI ((ofN gl).map V.int) (j : Int) = some (.int (n : Int)) := fun j n e => ⟨SqL.of hg, atI_nat (li_at e)⟩
    refine ⟨_, (pss_cons (ps_if (pt_cmpR op_eq (pv 1) (pe_gint rfl T.AT) (nomark _)) (pss_one (ps_ret (pe_call (ok_value_as_of T) (hr.mono (by decide)) rfl T.m_value_as_of T.value_as_of.kp T.b_value_as_of .nil pass0 (pa_cons (pv 0) (pa_cons (pe_ix ix_list (pv 2) pe_int (fun _ _ => rfl)) (pa_cons (pe_ix ix_list (pv 2) pe_int (fun _ _ => rfl)) pa_nil (hs := sE_Subscript)) (hs := sE_Subscript)) (hs := sE_Name))))) pss_nil)
      (pss_cons (ps_if (pt_cmpR op_eq (pv 1) (pe_gint rfl T.ALL) (nomark _)) (pss_one (ps_ret (pe_call (ok_store_as_of T) (hr.mono (by decide)) rfl T.m_store_as_of T.store_as_of.kp T.b_store_as_of .nil pass0 (pa_cons (pv 0) (pa_cons (pe_ix ix_list (pv 2) pe_int (fun _ _ => rfl)) pa_nil (hs := sE_Subscript)) (hs := sE_Name))))) pss_nil)
      (pss_cons (ps_if (pt_cmpR op_eq (pv 1) (pe_gint rfl T.CHANGES) (nomark _)) (pss_one (ps_ret (pe_call (ok_changes T) (hr.mono (by decide)) rfl T.m_changes T.changes.kp T.b_changes .nil pass0 (pa_cons (pv 0) (pa_cons (pe_ix ix_list (pv 2) pe_int (fun _ _ => rfl)) (pa_cons (pe_ix ix_list (pv 2) pe_int (fun _ _ => rfl)) pa_nil (hs := sE_Subscript)) (hs := sE_Subscript)) (hs := sE_Name))))) pss_nil)
      (pss_one (ps_ret (pe_call (ok_whole_log T) (hr.mono (by decide)) rfl T.m_whole_log T.whole_log.kp T.b_whole_log .nil pass0 (pa_cons (pv 0) pa_nil (hs := sE_Name)))))))), ?_⟩
    unfold pastAns at hx
    split at hx
    · cases hx
      rename_i n key
      have i0 := ix 0 n rfl
      have i1 := ix 1 key rfl
      exact ⟨_, rfl, rfl, _, rfl, eqT rfl ⟨_, rfl, _, rfl, g, _, _, _, rfl, rfl, i0.1, i0.2, _, rfl, g, _, _, _, rfl, rfl, i1.1, i1.2, p, b, dx, bs, cl, nw, kb, kn, cas, n, key, rfl, hh, k⟩⟩
    · cases hx
      rename_i n
      have i0 := ix 0 n rfl
      exact ⟨_, rfl, rfl, _, rfl, eqF (by decide) ⟨_, rfl, rfl, _, rfl, eqT rfl ⟨_, rfl, _, rfl, g, _, _, _, rfl, rfl, i0.1, i0.2, p, b, dx, bs, cl, nw, kb, kn, cas, n, rfl, hh, k⟩⟩⟩
    · cases hx
      rename_i n m
      have i0 := ix 0 n rfl
      have i1 := ix 1 m rfl
      exact ⟨_, rfl, rfl, _, rfl, eqF (by decide) ⟨_, rfl, rfl, _, rfl, eqF (by decide) ⟨_, rfl, rfl, _, rfl, eqT rfl ⟨_, rfl, _, rfl, g, _, _, _, rfl, rfl, i0.1, i0.2, _, rfl, g, _, _, _, rfl, rfl, i1.1, i1.2, p, b, dx, bs, cl, nw, kb, kn, cas, n, m, rfl, hh, k⟩⟩⟩⟩
    · cases hx
      exact ⟨_, rfl, rfl, _, rfl, eqF (by decide) ⟨_, rfl, rfl, _, rfl, eqF (by decide) ⟨_, rfl, rfl, _, rfl, eqF (by decide) ⟨_, rfl, p, b, dx, bs, cl, nw, kb, kn, cas, rfl, hh, hlog, k⟩⟩⟩⟩
    · cases hx
def sp_answer (_ : PySem.W.Frag) (a : Ad) : Sp := fun vs H Q _ => ∃ (ρ : Rl) (S : Addr) (σ : Tx.State) (c : Nat) (g : Addr) (gl : List Nat) (x : Tx.Call), vs = [.ref S, .int (c : Int), .ref g] ∧ StE a ρ H S σ ∧ H g = some (li (ofN gl)) ∧ Fit σ ∧ mk c gl = some x ∧ gl.length ≤ 16000 ∧ After a ρ H S (Tx.step σ x) Q
theorem ok_answer (T : Txt K mg a) : FnOk P w K mg base CX0 7 a.answer a.fd_answer ["state", "call", "given"] (sp_answer K a) := by
  have sc := sc_answer
  refine T.answer.ok sc (fun vs H Q E h => ?_) (fun cdv A outer s H vs Q E hr h => ?_)
  · obtain ⟨ρ, S, σ, c, g, gl, x, rfl, _⟩ := h
    rfl
  · obtain ⟨ρ, S, σ, c, g, gl, call, rfl, hE, hg, ft, hmk, hlen, k⟩ := h
    obtain ⟨dxS, h, td, dxh, bs, cl, nw, kb, kn, cas, L, begun, x⟩ := id hE
    have ix : ∀ (j : Nat) (n : Nat), gl[j]? = some n → SqL K H g ((ofN gl).map V.int) ∧ atI ((ofN gl).map V.int) (j : Int) = some (.int (n : Int)) := fun j n e => ⟨SqL.of hg, atI_nat (li_at e)⟩
    refine ⟨_, (pss_cons (ps_if (pt_cmpR op_eq (pv 1) (pe_gint rfl T.BEGIN) (nomark _)) (pss_one (ps_ret (pe_call (ok_begin T) (hr.mono (by decide)) rfl T.m_begin T.begin.kp T.b_begin .nil pass0 (pa_cons (pv 0) (pa_cons (pe_ix ix_list (pv 2) pe_int (fun _ _ => rfl)) pa_nil (hs := sE_Subscript)) (hs := sE_Name))))) pss_nil)
      (pss_cons (ps_if (pt_cmpR op_le (pv 1) (pe_gint rfl T.ABORT) (nomark _)) (pss_one (ps_ret (pe_call (ok_answer_of_transaction T) (hr.mono (by decide)) rfl T.m_answer_of_transaction T.answer_of_transaction.kp T.b_answer_of_transaction .nil pass0 (pa_cons (pv 0) (pa_cons (pv 1) (pa_cons (pv 2) pa_nil (hs := sE_Name)) (hs := sE_Name)) (hs := sE_Name))))) pss_nil)
      (pss_cons (ps_if (pt_cmpR op_eq (pv 1) (pe_gint rfl T.VACUUM) (nomark _)) (pss_one (ps_ret (pe_call (ok_vacuum T) (hr.mono (by decide)) rfl T.m_vacuum T.vacuum.kp T.b_vacuum .nil pass0 (pa_cons (pv 0) (pa_cons (pe_ix ix_list (pv 2) pe_int (fun _ _ => rfl)) pa_nil (hs := sE_Subscript)) (hs := sE_Name))))) pss_nil)
      (pss_cons (ps_if (pt_cmpR op_eq (pv 1) (pe_gint rfl T.SYNC) (nomark _)) (pss_one (ps_ret (pe_call (ok_sync T) (hr.mono (by decide)) rfl T.m_sync T.sync.kp T.b_sync .nil pass0 (pa_cons (pv 0) pa_nil (hs := sE_Name))))) pss_nil)
      (pss_cons (ps_if (pt_cmpR op_eq (pv 1) (pe_gint rfl T.CRASH) (nomark _)) (pss_one (ps_ret (pe_call (ok_crash T) (hr.mono (by decide)) rfl T.m_crash T.crash.kp T.b_crash .nil pass0 (pa_cons (pv 0) pa_nil (hs := sE_Name))))) pss_nil)
      (pss_cons (ps_if (pt_cmpR op_eq (pv 1) (pe_gint rfl T.RECOVER) (nomark _)) (pss_one (ps_ret (pe_call (ok_recover T) (hr.mono (by decide)) rfl T.m_recover T.recover.kp T.b_recover .nil pass0 (pa_cons (pv 0) (pa_cons (pe_slice sl_list (pv 2) (po_some pe_int) po_none) pa_nil (hs := sE_Subscript)) (hs := sE_Name))))) pss_nil)
      (pss_cons (ps_if (pt_cmpR op_eq (pv 1) (pe_gint rfl T.SHAPE) (nomark _)) (pss_one (ps_ret (pe_call (ok_shape T) (hr.mono (by decide)) rfl T.m_shape T.shape.kp T.b_shape .nil pass0 (pa_cons (pv 0) pa_nil (hs := sE_Name))))) pss_nil)
      (pss_one (ps_ret (pe_call (ok_answer_of_past T) (hr.mono (by decide)) rfl T.m_answer_of_past T.answer_of_past.kp T.b_answer_of_past .nil pass0 (pa_cons (pe_fld (pv 0) rfl) (pa_cons (pv 1) (pa_cons (pv 2) pa_nil (hs := sE_Name)) (hs := sE_Name)) (hs := sE_Attribute)))))))))))), ?_⟩
    have past : ∀ an, pastAns σ.book c gl = some an → Tx.step σ call = (σ, an) → 9 ≤ c → c ≠ 12 → c ≠ 13 → c ≠ 14 → c ≠ 16 → c ≠ 17 → ∃ (p : Addr) (b : Tx.Book) (dx bs cl nw : Addr) (kb kn : List (Key × V)) (cas : List Addr) (c' : Nat) (g' : Addr) (gl' : List Nat) (an : Tx.Answer), [V.ref h, .int (c : Int), .ref g] = [.ref p, .int (c' : Int), .ref g'] ∧ HistAt a H p b dx bs cl nw kb kn cas ∧ H g' = some (li (ofN gl')) ∧ b.log.length ≤ 50000 ∧ pastAns b c' gl' = some an ∧ New H (li (TxNeutral.shown an)) Q := fun an h1 h2 _ _ _ _ _ _ => by
      rw [h2] at k
      exact ⟨h, σ.book, dxh, bs, cl, nw, kb, kn, cas, c, g, gl, an, rfl, x.hist, hg, ft.log, h1, k.new hE⟩
    by_cases c0 : c = 0
    · subst c0
      unfold mk at hmk
      split at hmk
      · cases hmk
        rename_i way hz0
        have i0 := ix 0 way rfl
        exact ⟨_, rfl, rfl, _, rfl, eqT rfl ⟨_, rfl, _, rfl, g, _, _, _, rfl, rfl, i0.1, i0.2, ρ, S, σ, way, rfl, hE, ft.idl, ft.len, k⟩⟩
      all_goals first | (exfalso; omega) | cases hmk
    by_cases c8 : c ≤ 8
    · exact ⟨_, rfl, rfl, _, rfl, eqF (by omega) ⟨_, rfl, _, _, rfl, rfl, _, rfl, leT (by omega) ⟨_, rfl, _, rfl, _, rfl, ρ, S, σ, c, g, gl, call, rfl, hE, hg, ft, hmk, by omega, c8, k⟩⟩⟩
    refine ⟨_, rfl, rfl, _, rfl, eqF (by omega) ⟨_, rfl, _, _, rfl, rfl, _, rfl, leF (by omega) ?_⟩⟩
    unfold mk at hmk
    split at hmk
    all_goals first | (exfalso; omega) | skip
    · cases hmk
      exact ⟨_, rfl, rfl, _, rfl, eqF (by decide) ⟨_, rfl, rfl, _, rfl, eqF (by decide) ⟨_, rfl, rfl, _, rfl, eqF (by decide) ⟨_, rfl, rfl, _, rfl, eqF (by decide) ⟨_, rfl, rfl, _, rfl, eqF (by decide) ⟨_, rfl, S, _, dxS, _, _, rfl, x.ins, T.clS, T.nS_history, stf_history, _, rfl, _, rfl, past _ rfl rfl (by decide) (by decide) (by decide) (by decide) (by decide) (by decide)⟩⟩⟩⟩⟩⟩
    · cases hmk
      exact ⟨_, rfl, rfl, _, rfl, eqF (by decide) ⟨_, rfl, rfl, _, rfl, eqF (by decide) ⟨_, rfl, rfl, _, rfl, eqF (by decide) ⟨_, rfl, rfl, _, rfl, eqF (by decide) ⟨_, rfl, rfl, _, rfl, eqF (by decide) ⟨_, rfl, S, _, dxS, _, _, rfl, x.ins, T.clS, T.nS_history, stf_history, _, rfl, _, rfl, past _ rfl rfl (by decide) (by decide) (by decide) (by decide) (by decide) (by decide)⟩⟩⟩⟩⟩⟩
    · cases hmk
      exact ⟨_, rfl, rfl, _, rfl, eqF (by decide) ⟨_, rfl, rfl, _, rfl, eqF (by decide) ⟨_, rfl, rfl, _, rfl, eqF (by decide) ⟨_, rfl, rfl, _, rfl, eqF (by decide) ⟨_, rfl, rfl, _, rfl, eqF (by decide) ⟨_, rfl, S, _, dxS, _, _, rfl, x.ins, T.clS, T.nS_history, stf_history, _, rfl, _, rfl, past _ rfl rfl (by decide) (by decide) (by decide) (by decide) (by decide) (by decide)⟩⟩⟩⟩⟩⟩
    · cases hmk
      rename_i n
      have i0 := ix 0 n rfl
      exact ⟨_, rfl, rfl, _, rfl, eqT rfl ⟨_, rfl, _, rfl, g, _, _, _, rfl, rfl, i0.1, i0.2, ρ, S, σ, n, rfl, hE, ft.book, k⟩⟩
    · cases hmk
      exact ⟨_, rfl, rfl, _, rfl, eqF (by decide) ⟨_, rfl, rfl, _, rfl, eqT rfl ⟨_, rfl, ρ, S, σ, rfl, hE, ft.book, k⟩⟩⟩
    · cases hmk
      exact ⟨_, rfl, rfl, _, rfl, eqF (by decide) ⟨_, rfl, rfl, _, rfl, eqF (by decide) ⟨_, rfl, rfl, _, rfl, eqT rfl ⟨_, rfl, ρ, S, σ, rfl, hE, ft.book, k⟩⟩⟩⟩
    · cases hmk
      exact ⟨_, rfl, rfl, _, rfl, eqF (by decide) ⟨_, rfl, rfl, _, rfl, eqF (by decide) ⟨_, rfl, rfl, _, rfl, eqF (by decide) ⟨_, rfl, rfl, _, rfl, eqF (by decide) ⟨_, rfl, rfl, _, rfl, eqF (by decide) ⟨_, rfl, S, _, dxS, _, _, rfl, x.ins, T.clS, T.nS_history, stf_history, _, rfl, _, rfl, past _ rfl rfl (by decide) (by decide) (by decide) (by decide) (by decide) (by decide)⟩⟩⟩⟩⟩⟩
    · rename_i n l
      split at hmk
      · cases hmk
        rename_i hn
        refine ⟨_, rfl, rfl, _, rfl, eqF (by decide) ⟨_, rfl, rfl, _, rfl, eqF (by decide) ⟨_, rfl, rfl, _, rfl, eqF (by decide) ⟨_, rfl, rfl, _, rfl, eqT rfl ⟨_, rfl, _, rfl, _, rfl, g, _, rfl, SqL.of hg, fun q hq => ?_⟩⟩⟩⟩⟩
        have ecut : cutV ((ofN (n :: l)).map V.int) (some ((1 : Nat) : Int)) none = (ofN l).map V.int := by rw [cut_lo]; rfl
        have s1 : Same H (upd H q (.lst (cutV ((ofN (n :: l)).map V.int) (some ((1 : Nat) : Int)) none))) := same_upd hq
        refine ⟨ρ, S, σ, q, l, rfl, hE.same s1, upd_same.trans (congrArg (fun z => some (HO.lst z)) ecut), by simp only [List.length_cons] at hlen; omega, fun r H' ρ' hr0 er hE' kp => ?_⟩
        exact k r H' ρ' (s1.free hr0) er hE' fun b o e hb => kp b o (s1 b o e) hb
      · cases hmk
    · cases hmk
      refine ⟨_, rfl, rfl, _, rfl, eqF (by decide) ⟨_, rfl, rfl, _, rfl, eqF (by decide) ⟨_, rfl, rfl, _, rfl, eqF (by decide) ⟨_, rfl, rfl, _, rfl, eqF (by decide) ⟨_, rfl, rfl, _, rfl, eqT rfl ⟨_, rfl, ρ, S, σ, rfl, hE, ft.len, ?_⟩⟩⟩⟩⟩⟩
      exact After.new (an := aShape σ) k hE
    · cases hmk
end
end My

end
section
set_option linter.all false
set_option Elab.async false
set_option maxRecDepth 100000
set_option maxHeartbeats 2000000
namespace My
open PySem PySem.Spec PyProof.Rows L2 TxM
/-! ### numbers of commits stay small -/
theorem on_book {σ : Tx.State} {i : Nat} {f : Tx.Txn → Tx.State × Tx.Answer} (h : ∀ t, σ.find i = some t → (f t).1.book = σ.book) : (Tx.on σ i f).1.book = σ.book := by
  unfold Tx.on
  cases hf : σ.find i with
  | none => rfl
  | some t => exact h t hf
theorem now_step {σ : Tx.State} {x : Tx.Call} (hB : BookOk σ.book) (hx : ∀ l, x = .recover l → l.length ≤ 16000) : (Tx.step σ x).1.book.now ≤ σ.book.now + 1 ∨ (Tx.step σ x).1.book.now ≤ 4294983295 := by
  have same : ∀ {b : Tx.Book}, b = σ.book → b.now ≤ σ.book.now + 1 := fun e => by rw [e]; omega
  cases x with
  | begin_ w =>
    refine .inl (same ?_)
    show (if 1 < w then (σ, Tx.says (-1)) else if Tx.OPEN ≤ σ.open_.length then (σ, Tx.says (-6)) else (Tx.State.mk σ.book (σ.open_ ++ [⟨σ.next, σ.book.now, w, [], [], []⟩]) (σ.next + 1), Tx.says (σ.next : Nat))).1.book = _
    split
    · rfl
    · split <;> rfl
  | read i k =>
    refine .inl (same (on_book fun t _ => ?_))
    split
    · rfl
    · split
      · rfl
      · dsimp only; split <;> rfl
  | range i lo hi =>
    refine .inl (same (on_book fun t _ => ?_))
    split
    · rfl
    · split <;> rfl
  | write i k v => exact .inl (same (on_book fun t _ => by split <;> rfl))
  | delete i k => exact .inl (same (on_book fun t _ => by split <;> rfl))
  | mark i => exact .inl (same (on_book fun t _ => by split <;> rfl))
  | back i m => exact .inl (same (on_book fun t _ => by cases t.marks[m]? <;> rfl))
  | commit i =>
    refine .inl ?_
    show (Tx.on σ i _).1.book.now ≤ _
    cases hf : σ.find i with
    | none => rw [on_none hf]; exact Nat.le_succ _
    | some t =>
      rw [on_some hf]
      split
      · exact Nat.le_succ _
      · cases t.clash σ.book with
        | some y => exact Nat.le_succ _
        | none =>
          show σ.book.base + (σ.book.commits ++ [t.writes]).length ≤ σ.book.now + 1
          rw [List.length_append, List.length_singleton]
          exact Nat.le_refl _
  | abort i => exact .inl (same (on_book fun t _ => rfl))
  | at_ n k => exact .inl (same rfl)
  | all n => exact .inl (same rfl)
  | changes x y => exact .inl (same rfl)
  | vacuum n =>
    refine .inl ?_
    show (if Tx.isCommit σ n = false ∨ σ.book.safe < n then (σ, Tx.says (-7)) else if σ.open_.any (fun (t : Tx.Txn) => decide (t.seen < n)) = true then (σ, Tx.says (-3)) else
      (Tx.State.mk ⟨n, σ.book.at_ n, σ.book.commits.drop (n - σ.book.base), σ.book.safe⟩ σ.open_ σ.next, Tx.says ((n - σ.book.base : Nat) : Int))).1.book.now ≤ _
    split
    · exact Nat.le_succ _
    · rename_i h1
      split
      · exact Nat.le_succ _
      · have hc : Tx.isCommit σ n = true := by
          cases e : Tx.isCommit σ n with
          | true => rfl
          | false => exact (h1 (.inl e)).elim
        unfold Tx.isCommit at hc
        rw [Bool.and_eq_true] at hc
        show Tx.Book.now ⟨n, σ.book.at_ n, σ.book.commits.drop (n - σ.book.base), σ.book.safe⟩ ≤ _
        rw [now_vac (of_decide_eq_true hc.1) (of_decide_eq_true hc.2)]
        exact Nat.le_succ _
  | sync => exact .inl (Nat.le_succ _)
  | crash =>
    refine .inl ?_
    show σ.book.base + (σ.book.commits.take (σ.book.safe - σ.book.base)).length ≤ σ.book.base + σ.book.commits.length + 1
    rw [List.length_take]; omega
  | log => exact .inl (same rfl)
  | recover l =>
    have e0 : Tx.step σ (.recover l) = (match Tx.bookIn l with
      | none => (σ, Tx.says (-2))
      | some b => (Tx.State.mk b [] σ.next, Tx.says (b.commits.length : Nat))) := rfl
    rw [e0]
    cases hb : Tx.bookIn l with
    | none => exact .inl (Nat.le_succ _)
    | some b =>
      refine .inr ?_
      show b.base + b.commits.length ≤ _
      have h1 := (bookIn_good hb).2.1
      have h2 := recLen_ge b.commits
      have h3 := hx l rfl
      have h4 : b.base ≤ 4294967295 := by
        match l, hb with
        | [], hb => cases hb
        | [_], hb => cases hb
        | b0 :: n :: r, hb =>
          rw [bookIn_eq] at hb
          split at hb
          · cases hb
          · rename_i hc
            cases hs : sf (-1) (r.take (2 * n)) with
            | none => rw [hs] at hb; cases hb
            | some s =>
              rw [hs] at hb
              dsimp only at hb
              split at hb
              · injection hb with hb
                rw [← hb]
                show b0 ≤ _
                omega
              · cases hb
      omega
  | shape => exact .inl (same rfl)
theorem fit_of {c : Nat} {σ : Tx.State} (h : Good c σ) (hc : c ≤ 200) (hn : σ.book.now ≤ 4294983295 + c) : Fit σ := by
  have hl := log_small h hc
  have hr := rec_small h hc
  obtain ⟨W, K, hk, g⟩ := h
  refine ⟨g.book, g.ids, g.len, fun t ht => (g.txs t ht).idl, fun t ht => ⟨(g.txs t ht).lo, (g.txs t ht).hi⟩, fun t ht => (g.txs t ht).rn, fun t ht => (g.txs t ht).mn, by omega, ?_, by omega⟩
  have := recLen_ge σ.book.commits
  omega
/-! ### a line's calls -/
theorem mk_given {c : Nat} {gl : List Nat} {x : Tx.Call} (h : mk c gl = some x) : (c ≠ 16 ∧ TxM.given[c]? = some gl.length) ∨ (c = 16 ∧ TxM.given[c]? = some 1 ∧ ∃ l, gl = l.length :: l) := by
  unfold mk at h
  split at h
  all_goals first
    | (cases h; exact .inl ⟨by decide, rfl⟩)
    | skip
  · rename_i n l
    split at h
    · rename_i hn
      exact .inr ⟨rfl, rfl, l, by rw [← hn]⟩
    · cases h
  · cases h
theorem mk_rec {c : Nat} {gl : List Nat} {x : Tx.Call} (h : mk c gl = some x) : ∀ l, x = .recover l → l.length ≤ gl.length := by
  intro l e
  subst e
  unfold mk at h
  split at h
  all_goals first | (cases h; done) | skip
  · split at h
    · cases h
      rw [List.length_cons]; omega
    · cases h
section
variable {P : Program} {w : World} {K : PySem.W.Frag} {mg : Str → Option Value} {base : Heap} {a : Ad}
def sp_count_given (K : PySem.W.Frag) (_ : Ad) : Sp := fun vs H Q _ => ∃ (p : Addr) (l : List Nat) (pl c : Nat) (gl rest : List Nat) (x : Tx.Call), vs = [.ref p, .int (pl : Int)] ∧ SqL K H p ((ofN l).map V.int) ∧ l.drop pl = c :: (gl ++ rest) ∧ mk c gl = some x ∧ Q (.int (gl.length : Int)) H
theorem drop_at {α : Type} {l : List α} {n : Nat} {x : α} {r : List α} (h : l.drop n = x :: r) : l[n]? = some x ∧ l.drop (n + 1) = r := by
  have hlt : n < l.length := by
    refine Nat.lt_of_not_le fun z => ?_
    rw [List.drop_eq_nil_of_le z] at h
    cases h
  rw [List.drop_eq_getElem_cons hlt] at h
  injection h with h1 h2
  exact ⟨by rw [List.getElem?_eq_getElem hlt, h1], h2⟩
theorem ok_count_given (T : Txt K mg a) : FnOk P w K mg base CX0 1 a.count_given a.fd_count_given ["calls", "place"] (sp_count_given K a) := by
  have sc := sc_count_given
  refine T.count_given.ok sc (fun vs H Q E h => ?_) (fun cdv A outer s H vs Q E hr h => ?_)
  · obtain ⟨p, l, pl, c, gl, rest, x, rfl, _⟩ := h
    rfl
  · obtain ⟨p, l, pl, c, gl, rest, x, rfl, hS, ed, hmk, k⟩ := h
    obtain ⟨d1, d2⟩ := drop_at ed
    refine ⟨_, (pss_cons (ps_set (i := 2) sc.nd rfl (Or.inl rfl) (pe_ix ix_tup (pe_glob (v := V.ref a.gGIVEN) rfl T.GIVEN.2 rfl) (pe_ix ix_list (pv 0) (pv 1) (fun _ _ => rfl)) (fun _ _ => rfl)))
      (pss_cons (ps_if (pt_cmpR op_eq (pe_ix ix_list (pv 0) (pv 1) (fun _ _ => rfl)) (pe_gint rfl T.RECOVER) (nomark _)) (pss_one (ps_aug (i := 2) sc.nd rfl (Or.inl rfl) (pe_ix ix_list (pv 0) (pe_op op_add (pv 1) pe_int) (fun _ _ => rfl)) ip_add)) pss_nil)
      (pss_one (ps_ret (pv 2))))), ?_⟩
    have gv : ∀ m, TxM.given[c]? = some m → atI (TxM.given.map fun (n : Nat) => V.int (n : Int)) ((c : Nat) : Int) = some (.int (m : Int)) := fun m e => atI_nat (by rw [List.getElem?_map, e]; rfl)
    rcases mk_given hmk with ⟨n16, hg⟩ | ⟨rfl, hg, l', rfl⟩
    · refine ⟨_, rfl, _, rfl, p, _, _, _, rfl, rfl, hS, atI_nat (li_at d1), a.gGIVEN, _, _, _, rfl, rfl, T.GIVEN.1 H, gv _ hg, ?_⟩
      exact ⟨_, rfl, _, rfl, p, _, _, _, rfl, rfl, hS, atI_nat (li_at d1), rfl, _, rfl, eqF (by omega) ⟨_, rfl, k⟩⟩
    · refine ⟨_, rfl, _, rfl, p, _, _, _, rfl, rfl, hS, atI_nat (li_at d1), a.gGIVEN, _, _, _, rfl, rfl, T.GIVEN.1 H, gv _ hg, ?_⟩
      have d3 := (drop_at d2).1
      refine ⟨_, rfl, _, rfl, p, _, _, _, rfl, rfl, hS, atI_nat (li_at d1), rfl, _, rfl, eqT rfl ⟨_, rfl, _, rfl, _, rfl, _, _, rfl, rfl, p, _, _, _, rfl, rfl, hS, at_of (j := pl + 1) (by omega) (li_at d3), ?_⟩⟩
      refine ⟨_, _, rfl, rfl, _, rfl, ?_⟩
      have e : (((l'.length :: l').length : Nat) : Int) = ((1 : Nat) : Int) + (l'.length : Int) := by rw [List.length_cons]; omega
      rw [e] at k
      exact k
/-! ### State made -/
def sp_initState (_ : PySem.W.Frag) (a : Ad) : Sp := fun vs H Q _ => ∃ (S dxS : Addr), vs = [.ref S] ∧ H S = some (.ins a.cS dxS []) ∧
  ∀ H' h td dxh bs cl nw kn, H h = none → H td = none → H bs = none → H cl = none → H nw = none → td ≠ bs → td ≠ nw → H' S = some (.ins a.cS dxS (stf h 0 td 0)) → HistAt a H' h ⟨0, [], [], 0⟩ dxh bs cl nw [] kn [] → H' td = some (.dK []) → But H H' S → Q .non H'
theorem stf_is (h td : Addr) : putF "begun" (.int ((0 : Nat) : Int)) (putF "transactions" (.ref td) (putF "safe" (.int ((0 : Nat) : Int)) (putF "history" (.ref h) []))) = stf h 0 td 0 := by
  show putF "begun" (.int ((0 : Nat) : Int)) (putF "transactions" (.ref td) (putF "safe" (.int ((0 : Nat) : Int)) [("history", .ref h)])) = _
  rw [putF_miss (by decide +kernel)]
  show putF "begun" (.int ((0 : Nat) : Int)) (putF "transactions" (.ref td) [("history", .ref h), ("safe", .int ((0 : Nat) : Int))]) = _
  rw [putF_miss (by decide +kernel), putF_miss (by decide +kernel)]
  show putF "begun" (.int ((0 : Nat) : Int)) [("history", .ref h), ("safe", .int ((0 : Nat) : Int)), ("transactions", .ref td)] = _
  rw [putF_miss (by decide +kernel), putF_miss (by decide +kernel), putF_miss (by decide +kernel)]
  rfl
theorem ok_initState (T : Txt K mg a) : FnOk P w K mg base CX0 5 a.initState a.fd_initState ["self"] (sp_initState K a) := by
  have sc := sc_initState
  refine T.initState.ok sc (fun vs H Q E h => ?_) (fun cdv A outer s H vs Q E hr h => ?_)
  · obtain ⟨S, dxS, rfl, _⟩ := h
    rfl
  · obtain ⟨S, dxS, rfl, hS, k⟩ := h
    refine ⟨_, (pss_cons (ps_fld (pv 0) (pe_make T.mkH (ok_initHistory T) (hr.mono (by decide)) rfl T.mgH T.b_initHistory .nil pass0 (pa_cons pe_int (pa_cons pe_dnewK (pa_cons (pe_lst pa_nil) pa_nil (hs := sE_List)) (hs := sE_Dict)) (hs := sE_Constant))) rfl)
      (pss_cons (ps_fld (pv 0) pe_int rfl)
      (pss_cons (ps_fld (pv 0) pe_dnewK rfl)
      (pss_one (ps_fld (pv 0) pe_int rfl))))), ?_⟩
    intro bs hbs
    refine ⟨Nat.zero_le _, fun cl hcl => ?_⟩
    intro h dxh hh hdx hne
    have cl0 := free_upd hcl
    have h0 := free_upd (free_upd hh)
    have dx0 := free_upd (free_upd hdx)
    have bsS : S ≠ bs := ne_of_none hS hbs
    have clS : S ≠ cl := ne_of_none hS cl0
    have hS' : S ≠ h := ne_of_none hS h0
    have dxS' : S ≠ dxh := ne_of_none hS dx0
    have cb : bs ≠ cl := fun z => by rw [← z, upd_same] at hcl; cases hcl
    have hb : bs ≠ h := fun z => by rw [← z, upd_ne cb, upd_same] at hh; cases hh
    have hc : cl ≠ h := fun z => by rw [← z, upd_same] at hh; cases hh
    have db : bs ≠ dxh := fun z => by rw [← z, upd_ne cb, upd_same] at hdx; cases hdx
    have dc : cl ≠ dxh := fun z => by rw [← z, upd_same] at hdx; cases hdx
    have eb : (upd (upd (upd (upd H bs (.dK [])) cl (.lst [])) dxh (.own h)) h (.ins a.cH dxh [])) bs = some (.dK []) := by rw [upd_ne hb, upd_ne db, upd_ne cb, upd_same]
    have ec : (upd (upd (upd (upd H bs (.dK [])) cl (.lst [])) dxh (.own h)) h (.ins a.cH dxh [])) cl = some (.lst (([] : List Addr).map V.ref)) := by rw [upd_ne hc, upd_ne dc, upd_same]; rfl
    refine ⟨h, dxh, 0, bs, cl, [], [], [], [], rfl, upd_same, eb, D.nil, ec, True.intro, fun H1 nw kn hnw e1 e2 dn but => ⟨rfl, ?_⟩⟩
    have nw0 := free_upd (free_upd (free_upd (free_upd hnw)))
    have f1 : ∀ c o, H c = some o → H1 c = some o := fun c o e => but c o (by rw [upd_ne (ne_of_none e h0), upd_ne (ne_of_none e dx0), upd_ne (ne_of_none e cl0), upd_ne (ne_of_none e hbs)]; exact e) (ne_of_none e h0)
    have eb1 := but _ _ eb hb
    have ec1 := but _ _ ec hc
    refine ⟨_, rfl, S, _, dxS, _, rfl, f1 _ _ hS, T.clS, T.nS_history, by show 0 < 1000; decide, ?_⟩
    refine ⟨_, rfl, S, _, dxS, _, rfl, upd_same, T.clS, T.nS_safe, Nat.lt_of_le_of_lt (putF_small (Nat.le_refl 0)) (by decide), ?_⟩
    rw [upd_upd]
    intro td htd
    have tdS : td ≠ S := fun z => by rw [z, upd_same] at htd; cases htd
    have td1 := free_upd htd
    have td0 : H td = none := by
      cases e : H td with
      | none => rfl
      | some o => rw [f1 _ _ e] at td1; cases td1
    refine ⟨_, rfl, S, _, dxS, _, rfl, by rw [upd_ne tdS.symm, upd_same], T.clS, T.nS_transactions, Nat.lt_of_le_of_lt (putF_small (putF_small (Nat.le_refl 0))) (by decide), ?_⟩
    refine ⟨_, rfl, S, _, dxS, _, rfl, upd_same, T.clS, T.nS_begun, Nat.lt_of_le_of_lt (putF_small (putF_small (putF_small (Nat.le_refl 0)))) (by decide), ?_⟩
    rw [upd_upd]
    have estf : putF "begun" (V.int 0) (putF "transactions" (.ref td) (putF "safe" (V.int 0) (putF "history" (.ref h) []))) = stf h 0 td 0 := stf_is h td
    rw [estf]
    have ntb : td ≠ bs := fun z => by rw [z, eb1] at td1; cases td1
    have ntn : td ≠ nw := fun z => by rw [z, e2] at td1; cases td1
    have ntc : td ≠ cl := fun z => by rw [z, ec1] at td1; cases td1
    have nth : td ≠ h := fun z => by rw [z, e1] at td1; cases td1
    have g : ∀ c o, H1 c = some o → c ≠ S → (upd (upd (upd H1 S (.ins a.cS dxS (putF "safe" (V.int 0) (putF "history" (.ref h) [])))) td (.dK [])) S (.ins a.cS dxS (stf h 0 td 0))) c = some o := fun c o e n => by
      rw [upd_ne n, upd_ne (ne_of_none e td1), upd_ne n]; exact e
    have nwS : nw ≠ S := fun z => by rw [z, hS] at nw0; cases nw0
    refine k _ h td dxh bs cl nw kn h0 td0 hbs cl0 nw0 ntb ntn upd_same ⟨g _ _ e1 hS'.symm, g _ _ eb1 bsS.symm, D.nil, g _ _ e2 nwS, dn, g _ _ ec1 clS.symm, True.intro⟩ (by rw [upd_ne tdS, upd_same]) fun c o e n => g c o (f1 c o e) n
end
end My

end
section
set_option linter.all false
set_option Elab.async false
set_option maxRecDepth 100000
set_option maxHeartbeats 2000000
namespace My
open PySem PySem.Spec PyProof.Rows L2 TxM
theorem own_live {i : Nat} {x : Role} (h : own i x) : x ≠ .ot := fun z => by rw [z] at h; exact h
theorem TxnE.ot {a : Ad} {ρ : Rl} {H H' : Hp} {p : Addr} {t : Tx.Txn} {s : Tx.Store} (h : TxnE a ρ H p t s) (k : ∀ c o, H c = some o → ρ c ≠ .ot → H' c = some o) : TxnE a ρ H' p t s :=
  h.fr fun c o e hc => ⟨k c o e (own_ne hc).1, rfl⟩
theorem StE.ot {a : Ad} {ρ : Rl} {H H' : Hp} {S : Addr} {σ : Tx.State} (x : StE a ρ H S σ) (k : ∀ c o, H c = some o → ρ c ≠ .ot → H' c = some o) : StE a ρ H' S σ := by
  obtain ⟨dxS, h, td, dxh, bs, cl, nw, kb, kn, cas, L, begun, x⟩ := x
  have q : ∀ {c : Addr} {o : HO} {r : Role}, H c = some o → ρ c = r → r ≠ .ot → H' c = some o := fun e er n => k _ _ e (by rw [er]; exact n)
  refine ⟨dxS, h, td, dxh, bs, cl, nw, kb, kn, cas, L, begun, q x.ins x.rS (by decide), x.nx, ⟨q x.hist.ins x.rh (by decide), q x.hist.bs x.rbs (by decide), x.hist.ds, q x.hist.nw x.rnw (by decide), x.hist.dn, q x.hist.cl x.rcl (by decide), x.hist.ws.on fun c hc o e => q e (x.rcas c hc) (by decide)⟩, q x.tdo x.rtd (by decide), x.op, fun y hy => (x.txs y hy).ot k, x.rS, x.rh, x.rcl, x.rtd, x.rbs, x.rnw, x.rcas⟩
def mu3 (n : Nat) : L2.St → Hp → Nat := fun (σ : List (Option V)) _ => match σ with
  | _ :: _ :: _ :: some (V.int x) :: _ => ((n : Int) - x).toNat
  | _ => 0
section
variable {P : Program} {w : World} {K : PySem.W.Frag} {mg : Str → Option Value} {base : Heap} {a : Ad}
def sp_answers (K : PySem.W.Frag) (_ : Ad) : Sp := fun vs H Q _ => ∃ (p : Addr) (ns : List Nat) (tc : List Tx.Call), vs = [.ref p] ∧ SqL K H p ((ofN ns).map V.int) ∧ Line ns tc ∧ tc.length ≤ 200 ∧ ns.length ≤ 16000 ∧ ∀ H' q, H' q = some (li (run Tx.start tc)) → Q (.ref q) H'
theorem ok_answers (T : Txt K mg a) : FnOk P w K mg base CX0 8 a.answers a.fd_answers ["calls"] (sp_answers K a) := by
  have sc := sc_answers
  refine T.answers.ok sc (fun vs H Q E h => ?_) (fun cdv A outer s H vs Q E hr h => ?_)
  · obtain ⟨p, ns, tc, rfl, _⟩ := h
    rfl
  · obtain ⟨p, ns, tc, rfl, hS, hl, htc, hns, k⟩ := h
    refine ⟨_, (pss_cons (ps_set (i := 1) sc.nd rfl (Or.inl rfl) (pe_make0 T.mkS (ok_initState T) (hr.mono (by decide)) rfl T.mgS T.b_initState .nil pass0))
      (pss_cons (ps_set (i := 2) sc.nd rfl (Or.inl rfl) (pe_lst pa_nil))
      (pss_cons (ps_set (i := 3) sc.nd rfl (Or.inl rfl) pe_int)
      (pss_cons (ps_while PassesOwn.never (pt_cmpR op_lt (pv 3) (pe_callB call_len_seq (by rfl) T.len PySem.boot_len (pa_cons (pv 0) pa_nil (hs := sE_Name))) (nomark _)) (pss_cons (ps_set (i := 4) sc.nd rfl (Or.inl rfl) (pe_op op_add (pe_op op_add (pv 3) pe_int) (pe_call (ok_count_given T) (hr.mono (by decide)) rfl T.m_count_given T.count_given.kp T.b_count_given .nil pass0 (pa_cons (pv 0) (pa_cons (pv 3) pa_nil (hs := sE_Name)) (hs := sE_Name)))))
      (pss_cons (ps_set (i := 5) sc.nd rfl (Or.inl rfl) (pe_call (ok_answer T) (hr.mono (by decide)) rfl T.m_answer T.answer.kp T.b_answer .nil pass0 (pa_cons (pv 1) (pa_cons (pe_ix ix_list (pv 0) (pv 3) (fun _ _ => rfl)) (pa_cons (pe_slice sl_list (pv 0) (po_some (pe_op op_add (pv 3) pe_int)) (po_some (pv 4))) pa_nil (hs := sE_Subscript)) (hs := sE_Subscript)) (hs := sE_Name))))
      (pss_cons (ps_expr (pe_bm PySem.F.plainAttrs_list PySem.F.slot_list_append PySem.F.type_list_append mt_append (pv 2) (pa_cons (pe_callB call_len_seq (by rfl) T.len PySem.boot_len (pa_cons (pv 5) pa_nil (hs := sE_Name))) pa_nil (hs := sE_Call))))
      (pss_cons (ps_expr (pe_bm PySem.F.plainAttrs_list PySem.F.slot_list_extend PySem.F.type_list_extend mt_extend (pv 2) (pa_cons (pv 5) pa_nil (hs := sE_Name))))
      (pss_one (ps_set (i := 3) sc.nd rfl (Or.inl rfl) (pv 4))))))))
      (pss_one (ps_ret (pv 2))))))), ?_⟩
    intro S dxS hS0 hdx hne
    refine ⟨S, dxS, rfl, upd_same, fun H1 h td dxh bs cl nw kn hh0 htd0 hbs0 hcl0 hnw0 ntb ntn eS hist etd but => ⟨rfl, ?_⟩⟩
    have f1 : ∀ c o, H c = some o → H1 c = some o := fun c o e => but c o (by rw [upd_ne (ne_of_none e hS0), upd_ne (ne_of_none e hdx)]; exact e) (ne_of_none e hS0)
    have z2 : ∀ {c : Addr}, (upd (upd H dxS (.own S)) S (.ins a.cS dxS [])) c = none → H c = none := fun e => free_upd (free_upd e)
    have hS' : h ≠ S := fun z => by rw [z, upd_same] at hh0; cases hh0
    have tS : td ≠ S := fun z => by rw [z, upd_same] at htd0; cases htd0
    have bS : bs ≠ S := fun z => by rw [z, upd_same] at hbs0; cases hbs0
    have cS : cl ≠ S := fun z => by rw [z, upd_same] at hcl0; cases hcl0
    have nS : nw ≠ S := fun z => by rw [z, upd_same] at hnw0; cases hnw0
    have th : td ≠ h := ne_of etd hist.ins (by intro z; cases z)
    have tc' : td ≠ cl := ne_of etd hist.cl (by intro z; cases z)
    have ch : cl ≠ h := ne_of hist.cl hist.ins (by intro z; cases z)
    have bh : bs ≠ h := ne_of hist.bs hist.ins (by intro z; cases z)
    have bc : bs ≠ cl := ne_of hist.bs hist.cl (by intro z; cases z)
    have nh : nw ≠ h := ne_of hist.nw hist.ins (by intro z; cases z)
    have nc : nw ≠ cl := ne_of hist.nw hist.cl (by intro z; cases z)
    -- whose the addresses are
    have r0 : ∃ ρ : Rl, ρ S = .st ∧ ρ h = .hi ∧ ρ cl = .cl ∧ ρ td = .td ∧ ρ bs = .fz ∧ ρ nw = .fz ∧ ∀ c, c ≠ S → c ≠ h → c ≠ cl → c ≠ td → c ≠ bs → c ≠ nw → ρ c = .ot := by
      refine ⟨fun c => if c = S then .st else if c = h then .hi else if c = cl then .cl else if c = td then .td else if c = bs then .fz else if c = nw then .fz else .ot, if_pos rfl, ?_, ?_, ?_, ?_, ?_, fun c n1 n2 n3 n4 n5 n6 => ?_⟩
      · show (if h = S then Role.st else if h = h then .hi else _) = _
        rw [if_neg hS', if_pos rfl]
      · show (if cl = S then Role.st else if cl = h then .hi else if cl = cl then .cl else _) = _
        rw [if_neg cS, if_neg ch, if_pos rfl]
      · show (if td = S then Role.st else if td = h then .hi else if td = cl then .cl else if td = td then .td else _) = _
        rw [if_neg tS, if_neg th, if_neg tc', if_pos rfl]
      · show (if bs = S then Role.st else if bs = h then .hi else if bs = cl then .cl else if bs = td then .td else if bs = bs then .fz else _) = _
        rw [if_neg bS, if_neg bh, if_neg bc, if_neg ntb.symm, if_pos rfl]
      · show (if nw = S then Role.st else if nw = h then .hi else if nw = cl then .cl else if nw = td then .td else if nw = bs then .fz else if nw = nw then .fz else _) = _
        rw [if_neg nS, if_neg nh, if_neg nc, if_neg ntn.symm]
        split
        · rfl
        · rw [if_pos rfl]
      · show (if c = S then Role.st else if c = h then .hi else if c = cl then .cl else if c = td then .td else if c = bs then .fz else if c = nw then .fz else .ot) = _
        rw [if_neg n1, if_neg n2, if_neg n3, if_neg n4, if_neg n5, if_neg n6]
    obtain ⟨ρ0, q1, q2, q3, q4, q5, q6, q7⟩ := r0
    have hE1 : StE a ρ0 H1 S Tx.start := ⟨dxS, h, td, dxh, bs, cl, nw, [], kn, [], [], 0, eS, rfl, hist, etd, rfl, fun y hy => (nomatch hy), q1, q2, q3, q4, q5, q6, fun y hy => (nomatch hy)⟩
    have ot0 : ∀ c o, H c = some o → ρ0 c = .ot := fun c o e => q7 c (ne_of_none e hS0) (ne_of_none e (z2 hh0)) (ne_of_none e (z2 hcl0)) (ne_of_none e (z2 htd0)) (ne_of_none e (z2 hbs0)) (ne_of_none e (z2 hnw0))
    -- told = []; place = 0
    refine ⟨Nat.zero_le _, fun r hr0 => ?_⟩
    have rot : ρ0 r = .ot := q7 r (fun z => by rw [z, eS] at hr0; cases hr0) (fun z => by rw [z, hist.ins] at hr0; cases hr0) (fun z => by rw [z, hist.cl] at hr0; cases hr0) (fun z => by rw [z, etd] at hr0; cases hr0) (fun z => by rw [z, hist.bs] at hr0; cases hr0) (fun z => by rw [z, hist.nw] at hr0; cases hr0)
    have rH : H r = none := by
      cases e : H r with
      | none => rfl
      | some o => rw [f1 _ _ e] at hr0; cases hr0
    refine while_by (fun σ' H' => ∃ (pl cnt : Nat) (σ : Tx.State) (ts : List Tx.Call) (out : List Int) (ρ : Rl) (v4 v5 : Option V), σ' = [some (.ref p), some (.ref S), some (.ref r), some (.int (pl : Int)), v4, v5] ∧ pl ≤ ns.length ∧ Line (ns.drop pl) ts ∧ cnt + ts.length = tc.length ∧ Good cnt σ ∧ σ.book.now ≤ 4294983295 + cnt ∧ StE a ρ H' S σ ∧
        H' r = some (li out) ∧ ρ r = .ot ∧ out.length ≤ cnt * 50001 ∧ run Tx.start tc = out ++ run σ ts ∧ ∀ c o, H c = some o → H' c = some o ∧ ρ c = .ot)
      (mu3 ns.length) ⟨0, 0, Tx.start, tc, [], ρ0, none, none, rfl, Nat.zero_le _, hl, by omega, start_good, by decide, hE1.same (same_upd hr0), upd_same, rot, Nat.zero_le _, rfl, fun c o e => ⟨keep (f1 c o e) hr0, ot0 c o e⟩⟩ ?_
      (fun σ H Q Q' f ⟨v, e1, v2, e2, p, ys, e3, e4, i, j, e5, e6, k, e7, q⟩ => ⟨v, e1, v2, e2, p, ys, e3, e4, i, j, e5, e6, k, e7, f _ _ q⟩)
    rintro σ' H' ⟨pl, cnt, σ, ts, out, ρ, v4, v5, rfl, hpl, hline, hcnt, hgood, hnow, hE, er, ror, hout, hrun, hH⟩
    have hS1 : SqL K H' p ((ofN ns).map V.int) := Same.seq (fun c o e => (hH c o e).1) hS
    refine ⟨_, rfl, _, rfl, p, _, rfl, .inl hS1, _, _, rfl, rfl, _, rfl, ite2 (fun h1 => ?_) fun h1 => ?_⟩
    · have hlt : pl < ns.length := by
        have := of_decide_eq_true h1
        rw [li_len] at this
        omega
      have hne : ns.drop pl ≠ [] := fun z => by
        have := congrArg List.length z
        rw [List.length_drop] at this
        simp at this
        omega
      generalize hdr : ns.drop pl = dr at hline hne
      cases hline with
      | nil => exact (hne rfl).elim
      | @cons c gl rest x ts' hmk hrest =>
        obtain ⟨d1, d2⟩ := drop_at hdr
        have hgl : gl.length + rest.length + 1 + pl = ns.length := by
          have := congrArg List.length hdr
          rw [List.length_drop, List.length_cons, List.length_append] at this
          omega
        have hc200 : cnt + 1 ≤ 200 := by rw [List.length_cons] at hcnt; omega
        have ft := fit_of hgood (by omega) hnow
        refine ⟨_, rfl, _, _, rfl, rfl, _, rfl, _, rfl, p, ns, pl, c, gl, rest, x, rfl, hS1, hdr, hmk, _, _, rfl, rfl, ?_⟩
        have ecut : cutV ((ofN ns).map V.int) (some ((pl + 1 : Nat) : Int)) (some ((pl + 1 + gl.length : Nat) : Int)) = (ofN gl).map V.int := by
          rw [li_cut ns (by omega) (by omega), d2, show pl + 1 + gl.length - (pl + 1) = gl.length by omega, List.take_left']
          rfl
        refine ⟨_, rfl, _, rfl, _, rfl, p, _, _, _, rfl, rfl, hS1, atI_nat (li_at d1), _, rfl, _, rfl, _, _, rfl, rfl, _, rfl, _, rfl, _, rfl, p, _, rfl, hS1, fun g hg => ?_⟩
        have s1 : Same H' (upd H' g (.lst (cutV ((ofN ns).map V.int) (some ((pl + 1 : Nat) : Int)) (some ((pl + 1 + gl.length : Nat) : Int))))) := same_upd hg
        refine ⟨ρ, S, σ, c, g, gl, x, rfl, hE.same s1, upd_same.trans (congrArg (fun z => some (HO.lst z)) ecut), ft, hmk, by omega, fun r1 H2 ρ2 hr1 e1 hE2 kp => ?_⟩
        have hrc : ∀ l, x = .recover l → l.length ≤ 16000 := fun l e => by have := mk_rec hmk l e; omega
        have er2 := kp r _ (s1 _ _ er) ror
        have nr1 : r ≠ r1 := ne_of_none er (free_upd hr1)
        have hans := ans_small (x := x) hgood (by omega)
        have lo : out.length ≤ 199 * 50001 := Nat.le_trans hout (Nat.mul_le_mul_right _ (by omega))
        refine ⟨_, rfl, .inl ⟨rfl, _, SqL.of er2.1⟩, _, rfl, r1, _, rfl, .inl (SqL.of e1), r, _, _, rfl, rfl, er2.1, by rw [List.length_map]; exact Nat.lt_of_le_of_lt lo (by decide), ?_⟩
        refine ⟨_, rfl, .inl ⟨rfl, _, SqL.of upd_same⟩, _, rfl, r, r1, _, _, rfl, rfl, upd_same, by rw [upd_ne nr1.symm]; exact e1, by
          rw [List.length_append, List.length_map, List.length_map]
          exact Nat.le_trans (Nat.add_le_add (Nat.add_le_add_right lo 1) hans) (by decide), ?_⟩
        rw [upd_upd]
        refine ⟨_, rfl, ⟨pl + 1 + gl.length, cnt + 1, (Tx.step σ x).1, ts', out ++ (((TxNeutral.shown (Tx.step σ x).2).length : Int) :: TxNeutral.shown (Tx.step σ x).2), ρ2, _, _, rfl, by omega, ?_, by rw [List.length_cons] at hcnt; omega, step_good hgood hrc, ?_, ?_, ?_, er2.2, ?_, ?_, fun b o e => ?_⟩, ?_⟩
        · have : ns.drop (pl + 1 + gl.length) = rest := by rw [← List.drop_drop, d2, List.drop_left']; rfl
          rw [this]; exact hrest
        · rcases now_step (x := x) ft.book hrc with q | q <;> omega
        · exact hE2.ot fun b o e n => by rw [upd_ne (fun z => n (by rw [z]; exact er2.2))]; exact e
        · rw [upd_same]
          show some (HO.lst _) = some (HO.lst _)
          rw [List.map_append, List.length_map, List.append_assoc]
          rfl
        · rw [List.length_append, List.length_cons, Nat.add_mul, Nat.one_mul]
          omega
        · rw [hrun]
          show out ++ ((((TxNeutral.shown (Tx.step σ x).2).length : Int) :: TxNeutral.shown (Tx.step σ x).2) ++ run (Tx.step σ x).1 ts') = _
          rw [List.append_assoc]
        · have h3 := hH b o e
          have h4 := kp b o (s1 _ _ h3.1) h3.2
          exact ⟨by rw [upd_ne (ne_of_none e rH)]; exact h4.1, h4.2⟩
        · show (((ns.length : Nat) : Int) - ((pl + 1 + gl.length : Nat) : Int)).toNat < (((ns.length : Nat) : Int) - (pl : Int)).toNat
          omega
    · have hge : ns.length ≤ pl := Nat.le_of_not_lt fun z => h1 (decide_eq_true (by rw [li_len]; omega))
      rw [List.drop_eq_nil_of_le hge] at hline
      cases hline
      have e2 : run Tx.start tc = out := by rw [hrun]; exact List.append_nil _
      refine ⟨_, rfl, k H' r ?_⟩
      rw [e2]; exact er
end
end My

end
section
set_option linter.all false
set_option Elab.async false
set_option maxRecDepth 100000
set_option maxHeartbeats 4000000
namespace My
open PySem PySem.Spec PyProof.Rows L2 TxM
theorem all_mk {K : PySem.W.Frag} {h : Heap} {mg : Str → Option Value} {fa : Addr} (X : K.In h) (G : h.Ns mainGlobals mg) (hfa : mg "answers" = some (.ref fa))
    {f0 f1 f2 f3 f4 f5 f6 f7 f8 f9 f10 f11 f12 f13 f14 f15 f16 f17 f18 f19 f20 f21 f22 f23 f24 f25 f26 f27 f28 f29 f30 f31 f32 f33 f34 f35 f36 f37 f38 f39 f40 f41 f42 f43 f44 f45 f46 f47 f48 f49 f50 f51 f52 f53 f54 f55 f56 f57 f58 f59 f60 f61 f62 f63 f64 f65 f66 f67 f68 f69 f70 cH cT cS gG : Addr}
    {od0 an0 od1 an1 od2 an2 od3 an3 od4 an4 od5 an5 od6 an6 od7 an7 od8 an8 od9 an9 od10 an10 od11 an11 od12 an12 od13 an13 od14 an14 od15 an15 od16 an16 od17 an17 od18 an18 od19 an19 od20 an20 od21 an21 od22 an22 od23 an23 od24 an24 od25 an25 od26 an26 od27 an27 od28 an28 od29 an29 od30 an30 od31 an31 od32 an32 od33 an33 od34 an34 od35 an35 od36 an36 od37 an37 od38 an38 od39 an39 od40 an40 od41 an41 od42 an42 od43 an43 od44 an44 od45 an45 od46 an46 od47 an47 od48 an48 od49 an49 od50 an50 od51 an51 od52 an52 od53 an53 od54 an54 od55 an55 od56 an56 od57 an57 od58 an58 od59 an59 od60 an60 od61 an61 od62 an62 od63 an63 od64 an64 od65 an65 od66 an66 od67 an67 od68 an68 od69 an69 od70 an70 : Option Addr}
    {odG : Option Addr} {nG : Nat} {slG : Array (Option Value)}
    {sl0 sl1 sl2 sl3 sl4 sl5 sl6 sl7 sl8 sl9 sl10 sl11 sl12 sl13 sl14 sl15 sl16 sl17 sl18 sl19 sl20 sl21 sl22 sl23 sl24 sl25 sl26 sl27 sl28 sl29 sl30 sl31 sl32 sl33 sl34 sl35 sl36 sl37 sl38 sl39 sl40 sl41 sl42 sl43 sl44 sl45 sl46 sl47 sl48 sl49 sl50 sl51 sl52 sl53 sl54 sl55 sl56 sl57 sl58 sl59 sl60 sl61 sl62 sl63 sl64 sl65 sl66 sl67 sl68 sl69 sl70 : Array (Option Value)}
    {oc0 kV0 dc0 pm0 cd0 ct0 oc1 kV1 dc1 pm1 cd1 ct1 oc2 kV2 dc2 pm2 cd2 ct2 oc3 kV3 dc3 pm3 cd3 ct3 oc4 kV4 dc4 pm4 cd4 ct4 oc5 kV5 dc5 pm5 cd5 ct5 oc6 kV6 dc6 pm6 cd6 ct6 oc7 kV7 dc7 pm7 cd7 ct7 oc8 kV8 dc8 pm8 cd8 ct8 oc9 kV9 dc9 pm9 cd9 ct9 oc10 kV10 dc10 pm10 cd10 ct10 oc11 kV11 dc11 pm11 cd11 ct11 oc12 kV12 dc12 pm12 cd12 ct12 oc13 kV13 dc13 pm13 cd13 ct13 oc14 kV14 dc14 pm14 cd14 ct14 oc15 kV15 dc15 pm15 cd15 ct15 oc16 kV16 dc16 pm16 cd16 ct16 oc17 kV17 dc17 pm17 cd17 ct17 oc18 kV18 dc18 pm18 cd18 ct18 oc19 kV19 dc19 pm19 cd19 ct19 oc20 kV20 dc20 pm20 cd20 ct20 oc21 kV21 dc21 pm21 cd21 ct21 oc22 kV22 dc22 pm22 cd22 ct22 oc23 kV23 dc23 pm23 cd23 ct23 oc24 kV24 dc24 pm24 cd24 ct24 oc25 kV25 dc25 pm25 cd25 ct25 oc26 kV26 dc26 pm26 cd26 ct26 oc27 kV27 dc27 pm27 cd27 ct27 oc28 kV28 dc28 pm28 cd28 ct28 oc29 kV29 dc29 pm29 cd29 ct29 oc30 kV30 dc30 pm30 cd30 ct30 oc31 kV31 dc31 pm31 cd31 ct31 oc32 kV32 dc32 pm32 cd32 ct32 oc33 kV33 dc33 pm33 cd33 ct33 oc34 kV34 dc34 pm34 cd34 ct34 oc35 kV35 dc35 pm35 cd35 ct35 oc36 kV36 dc36 pm36 cd36 ct36 oc37 kV37 dc37 pm37 cd37 ct37 oc38 kV38 dc38 pm38 cd38 ct38 oc39 kV39 dc39 pm39 cd39 ct39 oc40 kV40 dc40 pm40 cd40 ct40 oc41 kV41 dc41 pm41 cd41 ct41 oc42 kV42 dc42 pm42 cd42 ct42 oc43 kV43 dc43 pm43 cd43 ct43 oc44 kV44 dc44 pm44 cd44 ct44 oc45 kV45 dc45 pm45 cd45 ct45 oc46 kV46 dc46 pm46 cd46 ct46 oc47 kV47 dc47 pm47 cd47 ct47 oc48 kV48 dc48 pm48 cd48 ct48 oc49 kV49 dc49 pm49 cd49 ct49 oc50 kV50 dc50 pm50 cd50 ct50 oc51 kV51 dc51 pm51 cd51 ct51 oc52 kV52 dc52 pm52 cd52 ct52 oc53 kV53 dc53 pm53 cd53 ct53 oc54 kV54 dc54 pm54 cd54 ct54 oc55 kV55 dc55 pm55 cd55 ct55 oc56 kV56 dc56 pm56 cd56 ct56 oc57 kV57 dc57 pm57 cd57 ct57 oc58 kV58 dc58 pm58 cd58 ct58 oc59 kV59 dc59 pm59 cd59 ct59 oc60 kV60 dc60 pm60 cd60 ct60 oc61 kV61 dc61 pm61 cd61 ct61 oc62 kV62 dc62 pm62 cd62 ct62 oc63 kV63 dc63 pm63 cd63 ct63 oc64 kV64 dc64 pm64 cd64 ct64 oc65 kV65 dc65 pm65 cd65 ct65 oc66 kV66 dc66 pm66 cd66 ct66 oc67 kV67 dc67 pm67 cd67 ct67 oc68 kV68 dc68 pm68 cd68 ct68 oc69 kV69 dc69 pm69 cd69 ct69 oc70 kV70 dc70 pm70 cd70 ct70 : Value}
    {t_HIGHEST_KEY t_HIGHEST_VALUE t_HIGHEST_BASE t_MOST_KEYS t_MODULUS t_WRONG t_NO_LOG t_STILL_SEEN t_NONE_SUCH t_CLASH t_FULL t_NO_SUCH_NUMBER t_HIGHEST_WAY t_MOST_READS t_MOST_MARKS t_MOST_TRANSACTIONS t_BEGIN t_READ t_RANGE t_WRITE t_DELETE t_MARK t_COMMIT t_ABORT t_AT t_ALL t_CHANGES t_VACUUM t_SYNC t_CRASH t_RECOVER t_SHAPE u0 u1 u2 u3 u4 u5 u6 u7 u8 u9 u10 u11 u12 u13 u14 u15 u16 u17 : Tok}
    (a_cH : PySem.W.nsIn K mainGlobals "History" = some (some (.ref cH)))
    (a_cT : PySem.W.nsIn K mainGlobals "Transaction" = some (some (.ref cT)))
    (a_cS : PySem.W.nsIn K mainGlobals "State" = some (some (.ref cS)))
    (a0 : PySem.W.nsIn K mainGlobals "put" = some (some (.ref f0)))
    (l0 : K.lookup f0 = some ⟨oc0, od0, .func (PySem.W.fnOf "put" "put" (defArgs s_put) (defBody s_put) (defScope s_put) .none kV0 dc0 pm0 an0 cd0 ct0), sl0⟩)
    (c0 : PySem.W.codeIn K cd0 "put" = true)
    (k0 : PySem.W.keepIn K (.ref f0) = true)
    (a1 : PySem.W.nsIn K mainGlobals "with_writes" = some (some (.ref f1)))
    (l1 : K.lookup f1 = some ⟨oc1, od1, .func (PySem.W.fnOf "with_writes" "with_writes" (defArgs s_with_writes) (defBody s_with_writes) (defScope s_with_writes) .none kV1 dc1 pm1 an1 cd1 ct1), sl1⟩)
    (c1 : PySem.W.codeIn K cd1 "with_writes" = true)
    (k1 : PySem.W.keepIn K (.ref f1) = true)
    (a2 : PySem.W.nsIn K mainGlobals "writes_between" = some (some (.ref f2)))
    (l2 : K.lookup f2 = some ⟨oc2, od2, .func (PySem.W.fnOf "writes_between" "writes_between" (defArgs s_writes_between) (defBody s_writes_between) (defScope s_writes_between) .none kV2 dc2 pm2 an2 cd2 ct2), sl2⟩)
    (c2 : PySem.W.codeIn K cd2 "writes_between" = true)
    (k2 : PySem.W.keepIn K (.ref f2) = true)
    (a3 : PySem.W.nsIn K mainGlobals "pairs_of" = some (some (.ref f3)))
    (l3 : K.lookup f3 = some ⟨oc3, od3, .func (PySem.W.fnOf "pairs_of" "pairs_of" (defArgs s_pairs_of) (defBody s_pairs_of) (defScope s_pairs_of) .none kV3 dc3 pm3 an3 cd3 ct3), sl3⟩)
    (c3 : PySem.W.codeIn K cd3 "pairs_of" = true)
    (k3 : PySem.W.keepIn K (.ref f3) = true)
    (a4 : PySem.W.nsIn K mainGlobals "numbers_of" = some (some (.ref f4)))
    (l4 : K.lookup f4 = some ⟨oc4, od4, .func (PySem.W.fnOf "numbers_of" "numbers_of" (defArgs s_numbers_of) (defBody s_numbers_of) (defScope s_numbers_of) .none kV4 dc4 pm4 an4 cd4 ct4), sl4⟩)
    (c4 : PySem.W.codeIn K cd4 "numbers_of" = true)
    (k4 : PySem.W.keepIn K (.ref f4) = true)
    (a5 : PySem.W.nsIn K mainGlobals "value_answer" = some (some (.ref f5)))
    (l5 : K.lookup f5 = some ⟨oc5, od5, .func (PySem.W.fnOf "value_answer" "value_answer" (defArgs s_value_answer) (defBody s_value_answer) (defScope s_value_answer) .none kV5 dc5 pm5 an5 cd5 ct5), sl5⟩)
    (c5 : PySem.W.codeIn K cd5 "value_answer" = true)
    (k5 : PySem.W.keepIn K (.ref f5) = true)
    (a6 : PySem.W.nsIn K mainGlobals "list_answer" = some (some (.ref f6)))
    (l6 : K.lookup f6 = some ⟨oc6, od6, .func (PySem.W.fnOf "list_answer" "list_answer" (defArgs s_list_answer) (defBody s_list_answer) (defScope s_list_answer) .none kV6 dc6 pm6 an6 cd6 ct6), sl6⟩)
    (c6 : PySem.W.codeIn K cd6 "list_answer" = true)
    (k6 : PySem.W.keepIn K (.ref f6) = true)
    (a7 : PySem.W.nsIn K mainGlobals "part_answer" = some (some (.ref f7)))
    (l7 : K.lookup f7 = some ⟨oc7, od7, .func (PySem.W.fnOf "part_answer" "part_answer" (defArgs s_part_answer) (defBody s_part_answer) (defScope s_part_answer) .none kV7 dc7 pm7 an7 cd7 ct7), sl7⟩)
    (c7 : PySem.W.codeIn K cd7 "part_answer" = true)
    (k7 : PySem.W.keepIn K (.ref f7) = true)
    (a8 : PySem.W.nsIn K mainGlobals "check_over" = some (some (.ref f8)))
    (l8 : K.lookup f8 = some ⟨oc8, od8, .func (PySem.W.fnOf "check_over" "check_over" (defArgs s_check_over) (defBody s_check_over) (defScope s_check_over) .none kV8 dc8 pm8 an8 cd8 ct8), sl8⟩)
    (c8 : PySem.W.codeIn K cd8 "check_over" = true)
    (k8 : PySem.W.keepIn K (.ref f8) = true)
    (a9 : PySem.W.nsIn K mainGlobals "log_of" = some (some (.ref f9)))
    (l9 : K.lookup f9 = some ⟨oc9, od9, .func (PySem.W.fnOf "log_of" "log_of" (defArgs s_log_of) (defBody s_log_of) (defScope s_log_of) .none kV9 dc9 pm9 an9 cd9 ct9), sl9⟩)
    (c9 : PySem.W.codeIn K cd9 "log_of" = true)
    (k9 : PySem.W.keepIn K (.ref f9) = true)
    (a10 : PySem.W.nsIn K mainGlobals "store_from" = some (some (.ref f10)))
    (l10 : K.lookup f10 = some ⟨oc10, od10, .func (PySem.W.fnOf "store_from" "store_from" (defArgs s_store_from) (defBody s_store_from) (defScope s_store_from) .none kV10 dc10 pm10 an10 cd10 ct10), sl10⟩)
    (c10 : PySem.W.codeIn K cd10 "store_from" = true)
    (k10 : PySem.W.keepIn K (.ref f10) = true)
    (a11 : PySem.W.nsIn K mainGlobals "is_write" = some (some (.ref f11)))
    (l11 : K.lookup f11 = some ⟨oc11, od11, .func (PySem.W.fnOf "is_write" "is_write" (defArgs s_is_write) (defBody s_is_write) (defScope s_is_write) .none kV11 dc11 pm11 an11 cd11 ct11), sl11⟩)
    (c11 : PySem.W.codeIn K cd11 "is_write" = true)
    (k11 : PySem.W.keepIn K (.ref f11) = true)
    (a12 : PySem.W.nsIn K mainGlobals "writes_from" = some (some (.ref f12)))
    (l12 : K.lookup f12 = some ⟨oc12, od12, .func (PySem.W.fnOf "writes_from" "writes_from" (defArgs s_writes_from) (defBody s_writes_from) (defScope s_writes_from) .none kV12 dc12 pm12 an12 cd12 ct12), sl12⟩)
    (c12 : PySem.W.codeIn K cd12 "writes_from" = true)
    (k12 : PySem.W.keepIn K (.ref f12) = true)
    (a13 : PySem.W.nsIn K mainGlobals "commits_from" = some (some (.ref f13)))
    (l13 : K.lookup f13 = some ⟨oc13, od13, .func (PySem.W.fnOf "commits_from" "commits_from" (defArgs s_commits_from) (defBody s_commits_from) (defScope s_commits_from) .none kV13 dc13 pm13 an13 cd13 ct13), sl13⟩)
    (c13 : PySem.W.codeIn K cd13 "commits_from" = true)
    (k13 : PySem.W.keepIn K (.ref f13) = true)
    (a14 : PySem.W.findIn K (.ref cH) "store_at" = some (some (.ref f14)))
    (i14 : PySem.W.isFn K (.ref f14) = true)
    (l14 : K.lookup f14 = some ⟨oc14, od14, .func (PySem.W.fnOf "store_at" "History.store_at" (defArgs s_store_at_H) (defBody s_store_at_H) (defScope s_store_at_H) .none kV14 dc14 pm14 an14 cd14 ct14), sl14⟩)
    (c14 : PySem.W.codeIn K cd14 "History.store_at" = true)
    (k14 : PySem.W.keepIn K (.ref f14) = true)
    (a15 : PySem.W.findIn K (.ref cH) "now" = some (some (.ref f15)))
    (i15 : PySem.W.isFn K (.ref f15) = true)
    (l15 : K.lookup f15 = some ⟨oc15, od15, .func (PySem.W.fnOf "now" "History.now" (defArgs s_now_H) (defBody s_now_H) (defScope s_now_H) .none kV15 dc15 pm15 an15 cd15 ct15), sl15⟩)
    (c15 : PySem.W.codeIn K cd15 "History.now" = true)
    (k15 : PySem.W.keepIn K (.ref f15) = true)
    (a16 : PySem.W.findIn K (.ref cH) "__init__" = some (some (.ref f16)))
    (i16 : PySem.W.isFn K (.ref f16) = true)
    (l16 : K.lookup f16 = some ⟨oc16, od16, .func (PySem.W.fnOf "__init__" "History.__init__" (defArgs s_initHistory) (defBody s_initHistory) (defScope s_initHistory) .none kV16 dc16 pm16 an16 cd16 ct16), sl16⟩)
    (c16 : PySem.W.codeIn K cd16 "History.__init__" = true)
    (k16 : PySem.W.keepIn K (.ref f16) = true)
    (a17 : PySem.W.nsIn K mainGlobals "history_from" = some (some (.ref f17)))
    (l17 : K.lookup f17 = some ⟨oc17, od17, .func (PySem.W.fnOf "history_from" "history_from" (defArgs s_history_from) (defBody s_history_from) (defScope s_history_from) .none kV17 dc17 pm17 an17 cd17 ct17), sl17⟩)
    (c17 : PySem.W.codeIn K cd17 "history_from" = true)
    (k17 : PySem.W.keepIn K (.ref f17) = true)
    (a18 : PySem.W.findIn K (.ref cH) "tells" = some (some (.ref f18)))
    (i18 : PySem.W.isFn K (.ref f18) = true)
    (l18 : K.lookup f18 = some ⟨oc18, od18, .func (PySem.W.fnOf "tells" "History.tells" (defArgs s_tells_H) (defBody s_tells_H) (defScope s_tells_H) .none kV18 dc18 pm18 an18 cd18 ct18), sl18⟩)
    (c18 : PySem.W.codeIn K cd18 "History.tells" = true)
    (k18 : PySem.W.keepIn K (.ref f18) = true)
    (a19 : PySem.W.nsIn K mainGlobals "value_as_of" = some (some (.ref f19)))
    (l19 : K.lookup f19 = some ⟨oc19, od19, .func (PySem.W.fnOf "value_as_of" "value_as_of" (defArgs s_value_as_of) (defBody s_value_as_of) (defScope s_value_as_of) .none kV19 dc19 pm19 an19 cd19 ct19), sl19⟩)
    (c19 : PySem.W.codeIn K cd19 "value_as_of" = true)
    (k19 : PySem.W.keepIn K (.ref f19) = true)
    (a20 : PySem.W.nsIn K mainGlobals "store_as_of" = some (some (.ref f20)))
    (l20 : K.lookup f20 = some ⟨oc20, od20, .func (PySem.W.fnOf "store_as_of" "store_as_of" (defArgs s_store_as_of) (defBody s_store_as_of) (defScope s_store_as_of) .none kV20 dc20 pm20 an20 cd20 ct20), sl20⟩)
    (c20 : PySem.W.codeIn K cd20 "store_as_of" = true)
    (k20 : PySem.W.keepIn K (.ref f20) = true)
    (a21 : PySem.W.nsIn K mainGlobals "changes" = some (some (.ref f21)))
    (l21 : K.lookup f21 = some ⟨oc21, od21, .func (PySem.W.fnOf "changes" "changes" (defArgs s_changes) (defBody s_changes) (defScope s_changes) .none kV21 dc21 pm21 an21 cd21 ct21), sl21⟩)
    (c21 : PySem.W.codeIn K cd21 "changes" = true)
    (k21 : PySem.W.keepIn K (.ref f21) = true)
    (a22 : PySem.W.findIn K (.ref cS) "sees_below" = some (some (.ref f22)))
    (i22 : PySem.W.isFn K (.ref f22) = true)
    (l22 : K.lookup f22 = some ⟨oc22, od22, .func (PySem.W.fnOf "sees_below" "State.sees_below" (defArgs s_sees_below_S) (defBody s_sees_below_S) (defScope s_sees_below_S) .none kV22 dc22 pm22 an22 cd22 ct22), sl22⟩)
    (c22 : PySem.W.codeIn K cd22 "State.sees_below" = true)
    (k22 : PySem.W.keepIn K (.ref f22) = true)
    (a23 : PySem.W.findIn K (.ref cH) "commits_behind" = some (some (.ref f23)))
    (i23 : PySem.W.isFn K (.ref f23) = true)
    (l23 : K.lookup f23 = some ⟨oc23, od23, .func (PySem.W.fnOf "commits_behind" "History.commits_behind" (defArgs s_commits_behind_H) (defBody s_commits_behind_H) (defScope s_commits_behind_H) .none kV23 dc23 pm23 an23 cd23 ct23), sl23⟩)
    (c23 : PySem.W.codeIn K cd23 "History.commits_behind" = true)
    (k23 : PySem.W.keepIn K (.ref f23) = true)
    (a24 : PySem.W.findIn K (.ref cH) "drop_below" = some (some (.ref f24)))
    (i24 : PySem.W.isFn K (.ref f24) = true)
    (l24 : K.lookup f24 = some ⟨oc24, od24, .func (PySem.W.fnOf "drop_below" "History.drop_below" (defArgs s_drop_below_H) (defBody s_drop_below_H) (defScope s_drop_below_H) .none kV24 dc24 pm24 an24 cd24 ct24), sl24⟩)
    (c24 : PySem.W.codeIn K cd24 "History.drop_below" = true)
    (k24 : PySem.W.keepIn K (.ref f24) = true)
    (a25 : PySem.W.nsIn K mainGlobals "vacuum" = some (some (.ref f25)))
    (l25 : K.lookup f25 = some ⟨oc25, od25, .func (PySem.W.fnOf "vacuum" "vacuum" (defArgs s_vacuum) (defBody s_vacuum) (defScope s_vacuum) .none kV25 dc25 pm25 an25 cd25 ct25), sl25⟩)
    (c25 : PySem.W.codeIn K cd25 "vacuum" = true)
    (k25 : PySem.W.keepIn K (.ref f25) = true)
    (a26 : PySem.W.findIn K (.ref cS) "not_safe" = some (some (.ref f26)))
    (i26 : PySem.W.isFn K (.ref f26) = true)
    (l26 : K.lookup f26 = some ⟨oc26, od26, .func (PySem.W.fnOf "not_safe" "State.not_safe" (defArgs s_not_safe_S) (defBody s_not_safe_S) (defScope s_not_safe_S) .none kV26 dc26 pm26 an26 cd26 ct26), sl26⟩)
    (c26 : PySem.W.codeIn K cd26 "State.not_safe" = true)
    (k26 : PySem.W.keepIn K (.ref f26) = true)
    (a27 : PySem.W.findIn K (.ref cS) "make_all_safe" = some (some (.ref f27)))
    (i27 : PySem.W.isFn K (.ref f27) = true)
    (l27 : K.lookup f27 = some ⟨oc27, od27, .func (PySem.W.fnOf "make_all_safe" "State.make_all_safe" (defArgs s_make_all_safe_S) (defBody s_make_all_safe_S) (defScope s_make_all_safe_S) .none kV27 dc27 pm27 an27 cd27 ct27), sl27⟩)
    (c27 : PySem.W.codeIn K cd27 "State.make_all_safe" = true)
    (k27 : PySem.W.keepIn K (.ref f27) = true)
    (a28 : PySem.W.nsIn K mainGlobals "sync" = some (some (.ref f28)))
    (l28 : K.lookup f28 = some ⟨oc28, od28, .func (PySem.W.fnOf "sync" "sync" (defArgs s_sync) (defBody s_sync) (defScope s_sync) .none kV28 dc28 pm28 an28 cd28 ct28), sl28⟩)
    (c28 : PySem.W.codeIn K cd28 "sync" = true)
    (k28 : PySem.W.keepIn K (.ref f28) = true)
    (a29 : PySem.W.findIn K (.ref cH) "drop_above" = some (some (.ref f29)))
    (i29 : PySem.W.isFn K (.ref f29) = true)
    (l29 : K.lookup f29 = some ⟨oc29, od29, .func (PySem.W.fnOf "drop_above" "History.drop_above" (defArgs s_drop_above_H) (defBody s_drop_above_H) (defScope s_drop_above_H) .none kV29 dc29 pm29 an29 cd29 ct29), sl29⟩)
    (c29 : PySem.W.codeIn K cd29 "History.drop_above" = true)
    (k29 : PySem.W.keepIn K (.ref f29) = true)
    (a30 : PySem.W.findIn K (.ref cS) "lose_what_is_not_safe" = some (some (.ref f30)))
    (i30 : PySem.W.isFn K (.ref f30) = true)
    (l30 : K.lookup f30 = some ⟨oc30, od30, .func (PySem.W.fnOf "lose_what_is_not_safe" "State.lose_what_is_not_safe" (defArgs s_lose_what_is_not_safe_S) (defBody s_lose_what_is_not_safe_S) (defScope s_lose_what_is_not_safe_S) .none kV30 dc30 pm30 an30 cd30 ct30), sl30⟩)
    (c30 : PySem.W.codeIn K cd30 "State.lose_what_is_not_safe" = true)
    (k30 : PySem.W.keepIn K (.ref f30) = true)
    (a31 : PySem.W.nsIn K mainGlobals "crash" = some (some (.ref f31)))
    (l31 : K.lookup f31 = some ⟨oc31, od31, .func (PySem.W.fnOf "crash" "crash" (defArgs s_crash) (defBody s_crash) (defScope s_crash) .none kV31 dc31 pm31 an31 cd31 ct31), sl31⟩)
    (c31 : PySem.W.codeIn K cd31 "crash" = true)
    (k31 : PySem.W.keepIn K (.ref f31) = true)
    (a32 : PySem.W.nsIn K mainGlobals "whole_log" = some (some (.ref f32)))
    (l32 : K.lookup f32 = some ⟨oc32, od32, .func (PySem.W.fnOf "whole_log" "whole_log" (defArgs s_whole_log) (defBody s_whole_log) (defScope s_whole_log) .none kV32 dc32 pm32 an32 cd32 ct32), sl32⟩)
    (c32 : PySem.W.codeIn K cd32 "whole_log" = true)
    (k32 : PySem.W.keepIn K (.ref f32) = true)
    (a33 : PySem.W.findIn K (.ref cS) "take_up" = some (some (.ref f33)))
    (i33 : PySem.W.isFn K (.ref f33) = true)
    (l33 : K.lookup f33 = some ⟨oc33, od33, .func (PySem.W.fnOf "take_up" "State.take_up" (defArgs s_take_up_S) (defBody s_take_up_S) (defScope s_take_up_S) .none kV33 dc33 pm33 an33 cd33 ct33), sl33⟩)
    (c33 : PySem.W.codeIn K cd33 "State.take_up" = true)
    (k33 : PySem.W.keepIn K (.ref f33) = true)
    (a34 : PySem.W.nsIn K mainGlobals "recover" = some (some (.ref f34)))
    (l34 : K.lookup f34 = some ⟨oc34, od34, .func (PySem.W.fnOf "recover" "recover" (defArgs s_recover) (defBody s_recover) (defScope s_recover) .none kV34 dc34 pm34 an34 cd34 ct34), sl34⟩)
    (c34 : PySem.W.codeIn K cd34 "recover" = true)
    (k34 : PySem.W.keepIn K (.ref f34) = true)
    (a35 : PySem.W.nsIn K mainGlobals "shape" = some (some (.ref f35)))
    (l35 : K.lookup f35 = some ⟨oc35, od35, .func (PySem.W.fnOf "shape" "shape" (defArgs s_shape) (defBody s_shape) (defScope s_shape) .none kV35 dc35 pm35 an35 cd35 ct35), sl35⟩)
    (c35 : PySem.W.codeIn K cd35 "shape" = true)
    (k35 : PySem.W.keepIn K (.ref f35) = true)
    (a36 : PySem.W.findIn K (.ref cS) "may_begin" = some (some (.ref f36)))
    (i36 : PySem.W.isFn K (.ref f36) = true)
    (l36 : K.lookup f36 = some ⟨oc36, od36, .func (PySem.W.fnOf "may_begin" "State.may_begin" (defArgs s_may_begin_S) (defBody s_may_begin_S) (defScope s_may_begin_S) .none kV36 dc36 pm36 an36 cd36 ct36), sl36⟩)
    (c36 : PySem.W.codeIn K cd36 "State.may_begin" = true)
    (k36 : PySem.W.keepIn K (.ref f36) = true)
    (a37 : PySem.W.findIn K (.ref cT) "__init__" = some (some (.ref f37)))
    (i37 : PySem.W.isFn K (.ref f37) = true)
    (l37 : K.lookup f37 = some ⟨oc37, od37, .func (PySem.W.fnOf "__init__" "Transaction.__init__" (defArgs s_initTransaction) (defBody s_initTransaction) (defScope s_initTransaction) .none kV37 dc37 pm37 an37 cd37 ct37), sl37⟩)
    (c37 : PySem.W.codeIn K cd37 "Transaction.__init__" = true)
    (k37 : PySem.W.keepIn K (.ref f37) = true)
    (a38 : PySem.W.findIn K (.ref cS) "begin" = some (some (.ref f38)))
    (i38 : PySem.W.isFn K (.ref f38) = true)
    (l38 : K.lookup f38 = some ⟨oc38, od38, .func (PySem.W.fnOf "begin" "State.begin" (defArgs s_begin_S) (defBody s_begin_S) (defScope s_begin_S) .none kV38 dc38 pm38 an38 cd38 ct38), sl38⟩)
    (c38 : PySem.W.codeIn K cd38 "State.begin" = true)
    (k38 : PySem.W.keepIn K (.ref f38) = true)
    (a39 : PySem.W.nsIn K mainGlobals "begin" = some (some (.ref f39)))
    (l39 : K.lookup f39 = some ⟨oc39, od39, .func (PySem.W.fnOf "begin" "begin" (defArgs s_begin) (defBody s_begin) (defScope s_begin) .none kV39 dc39 pm39 an39 cd39 ct39), sl39⟩)
    (c39 : PySem.W.codeIn K cd39 "begin" = true)
    (k39 : PySem.W.keepIn K (.ref f39) = true)
    (a40 : PySem.W.findIn K (.ref cT) "has_written" = some (some (.ref f40)))
    (i40 : PySem.W.isFn K (.ref f40) = true)
    (l40 : K.lookup f40 = some ⟨oc40, od40, .func (PySem.W.fnOf "has_written" "Transaction.has_written" (defArgs s_has_written_T) (defBody s_has_written_T) (defScope s_has_written_T) .none kV40 dc40 pm40 an40 cd40 ct40), sl40⟩)
    (c40 : PySem.W.codeIn K cd40 "Transaction.has_written" = true)
    (k40 : PySem.W.keepIn K (.ref f40) = true)
    (a41 : PySem.W.findIn K (.ref cT) "note_read" = some (some (.ref f41)))
    (i41 : PySem.W.isFn K (.ref f41) = true)
    (l41 : K.lookup f41 = some ⟨oc41, od41, .func (PySem.W.fnOf "note_read" "Transaction.note_read" (defArgs s_note_read_T) (defBody s_note_read_T) (defScope s_note_read_T) .none kV41 dc41 pm41 an41 cd41 ct41), sl41⟩)
    (c41 : PySem.W.codeIn K cd41 "Transaction.note_read" = true)
    (k41 : PySem.W.keepIn K (.ref f41) = true)
    (a42 : PySem.W.findIn K (.ref cT) "value_at" = some (some (.ref f42)))
    (i42 : PySem.W.isFn K (.ref f42) = true)
    (l42 : K.lookup f42 = some ⟨oc42, od42, .func (PySem.W.fnOf "value_at" "Transaction.value_at" (defArgs s_value_at_T) (defBody s_value_at_T) (defScope s_value_at_T) .none kV42 dc42 pm42 an42 cd42 ct42), sl42⟩)
    (c42 : PySem.W.codeIn K cd42 "Transaction.value_at" = true)
    (k42 : PySem.W.keepIn K (.ref f42) = true)
    (a43 : PySem.W.findIn K (.ref cT) "may_read" = some (some (.ref f43)))
    (i43 : PySem.W.isFn K (.ref f43) = true)
    (l43 : K.lookup f43 = some ⟨oc43, od43, .func (PySem.W.fnOf "may_read" "Transaction.may_read" (defArgs s_may_read_T) (defBody s_may_read_T) (defScope s_may_read_T) .none kV43 dc43 pm43 an43 cd43 ct43), sl43⟩)
    (c43 : PySem.W.codeIn K cd43 "Transaction.may_read" = true)
    (k43 : PySem.W.keepIn K (.ref f43) = true)
    (a44 : PySem.W.nsIn K mainGlobals "read" = some (some (.ref f44)))
    (l44 : K.lookup f44 = some ⟨oc44, od44, .func (PySem.W.fnOf "read" "read" (defArgs s_read) (defBody s_read) (defScope s_read) .none kV44 dc44 pm44 an44 cd44 ct44), sl44⟩)
    (c44 : PySem.W.codeIn K cd44 "read" = true)
    (k44 : PySem.W.keepIn K (.ref f44) = true)
    (a45 : PySem.W.findIn K (.ref cT) "seen" = some (some (.ref f45)))
    (i45 : PySem.W.isFn K (.ref f45) = true)
    (l45 : K.lookup f45 = some ⟨oc45, od45, .func (PySem.W.fnOf "seen" "Transaction.seen" (defArgs s_seen_T) (defBody s_seen_T) (defScope s_seen_T) .none kV45 dc45 pm45 an45 cd45 ct45), sl45⟩)
    (c45 : PySem.W.codeIn K cd45 "Transaction.seen" = true)
    (k45 : PySem.W.keepIn K (.ref f45) = true)
    (a46 : PySem.W.nsIn K mainGlobals "read_range" = some (some (.ref f46)))
    (l46 : K.lookup f46 = some ⟨oc46, od46, .func (PySem.W.fnOf "read_range" "read_range" (defArgs s_read_range) (defBody s_read_range) (defScope s_read_range) .none kV46 dc46 pm46 an46 cd46 ct46), sl46⟩)
    (c46 : PySem.W.codeIn K cd46 "read_range" = true)
    (k46 : PySem.W.keepIn K (.ref f46) = true)
    (a47 : PySem.W.findIn K (.ref cT) "write" = some (some (.ref f47)))
    (i47 : PySem.W.isFn K (.ref f47) = true)
    (l47 : K.lookup f47 = some ⟨oc47, od47, .func (PySem.W.fnOf "write" "Transaction.write" (defArgs s_write_T) (defBody s_write_T) (defScope s_write_T) .none kV47 dc47 pm47 an47 cd47 ct47), sl47⟩)
    (c47 : PySem.W.codeIn K cd47 "Transaction.write" = true)
    (k47 : PySem.W.keepIn K (.ref f47) = true)
    (a48 : PySem.W.nsIn K mainGlobals "write" = some (some (.ref f48)))
    (l48 : K.lookup f48 = some ⟨oc48, od48, .func (PySem.W.fnOf "write" "write" (defArgs s_write) (defBody s_write) (defScope s_write) .none kV48 dc48 pm48 an48 cd48 ct48), sl48⟩)
    (c48 : PySem.W.codeIn K cd48 "write" = true)
    (k48 : PySem.W.keepIn K (.ref f48) = true)
    (a49 : PySem.W.findIn K (.ref cT) "take_out" = some (some (.ref f49)))
    (i49 : PySem.W.isFn K (.ref f49) = true)
    (l49 : K.lookup f49 = some ⟨oc49, od49, .func (PySem.W.fnOf "take_out" "Transaction.take_out" (defArgs s_take_out_T) (defBody s_take_out_T) (defScope s_take_out_T) .none kV49 dc49 pm49 an49 cd49 ct49), sl49⟩)
    (c49 : PySem.W.codeIn K cd49 "Transaction.take_out" = true)
    (k49 : PySem.W.keepIn K (.ref f49) = true)
    (a50 : PySem.W.nsIn K mainGlobals "delete" = some (some (.ref f50)))
    (l50 : K.lookup f50 = some ⟨oc50, od50, .func (PySem.W.fnOf "delete" "delete" (defArgs s_delete) (defBody s_delete) (defScope s_delete) .none kV50 dc50 pm50 an50 cd50 ct50), sl50⟩)
    (c50 : PySem.W.codeIn K cd50 "delete" = true)
    (k50 : PySem.W.keepIn K (.ref f50) = true)
    (a51 : PySem.W.findIn K (.ref cT) "may_mark" = some (some (.ref f51)))
    (i51 : PySem.W.isFn K (.ref f51) = true)
    (l51 : K.lookup f51 = some ⟨oc51, od51, .func (PySem.W.fnOf "may_mark" "Transaction.may_mark" (defArgs s_may_mark_T) (defBody s_may_mark_T) (defScope s_may_mark_T) .none kV51 dc51 pm51 an51 cd51 ct51), sl51⟩)
    (c51 : PySem.W.codeIn K cd51 "Transaction.may_mark" = true)
    (k51 : PySem.W.keepIn K (.ref f51) = true)
    (a52 : PySem.W.findIn K (.ref cT) "mark" = some (some (.ref f52)))
    (i52 : PySem.W.isFn K (.ref f52) = true)
    (l52 : K.lookup f52 = some ⟨oc52, od52, .func (PySem.W.fnOf "mark" "Transaction.mark" (defArgs s_mark_T) (defBody s_mark_T) (defScope s_mark_T) .none kV52 dc52 pm52 an52 cd52 ct52), sl52⟩)
    (c52 : PySem.W.codeIn K cd52 "Transaction.mark" = true)
    (k52 : PySem.W.keepIn K (.ref f52) = true)
    (a53 : PySem.W.nsIn K mainGlobals "mark" = some (some (.ref f53)))
    (l53 : K.lookup f53 = some ⟨oc53, od53, .func (PySem.W.fnOf "mark" "mark" (defArgs s_mark) (defBody s_mark) (defScope s_mark) .none kV53 dc53 pm53 an53 cd53 ct53), sl53⟩)
    (c53 : PySem.W.codeIn K cd53 "mark" = true)
    (k53 : PySem.W.keepIn K (.ref f53) = true)
    (a54 : PySem.W.findIn K (.ref cT) "go_back" = some (some (.ref f54)))
    (i54 : PySem.W.isFn K (.ref f54) = true)
    (l54 : K.lookup f54 = some ⟨oc54, od54, .func (PySem.W.fnOf "go_back" "Transaction.go_back" (defArgs s_go_back_T) (defBody s_go_back_T) (defScope s_go_back_T) .none kV54 dc54 pm54 an54 cd54 ct54), sl54⟩)
    (c54 : PySem.W.codeIn K cd54 "Transaction.go_back" = true)
    (k54 : PySem.W.keepIn K (.ref f54) = true)
    (a55 : PySem.W.findIn K (.ref cT) "has_mark" = some (some (.ref f55)))
    (i55 : PySem.W.isFn K (.ref f55) = true)
    (l55 : K.lookup f55 = some ⟨oc55, od55, .func (PySem.W.fnOf "has_mark" "Transaction.has_mark" (defArgs s_has_mark_T) (defBody s_has_mark_T) (defScope s_has_mark_T) .none kV55 dc55 pm55 an55 cd55 ct55), sl55⟩)
    (c55 : PySem.W.codeIn K cd55 "Transaction.has_mark" = true)
    (k55 : PySem.W.keepIn K (.ref f55) = true)
    (a56 : PySem.W.nsIn K mainGlobals "back" = some (some (.ref f56)))
    (l56 : K.lookup f56 = some ⟨oc56, od56, .func (PySem.W.fnOf "back" "back" (defArgs s_back) (defBody s_back) (defScope s_back) .none kV56 dc56 pm56 an56 cd56 ct56), sl56⟩)
    (c56 : PySem.W.codeIn K cd56 "back" = true)
    (k56 : PySem.W.keepIn K (.ref f56) = true)
    (a57 : PySem.W.findIn K (.ref cS) "end" = some (some (.ref f57)))
    (i57 : PySem.W.isFn K (.ref f57) = true)
    (l57 : K.lookup f57 = some ⟨oc57, od57, .func (PySem.W.fnOf "end" "State.end" (defArgs s_end_S) (defBody s_end_S) (defScope s_end_S) .none kV57 dc57 pm57 an57 cd57 ct57), sl57⟩)
    (c57 : PySem.W.codeIn K cd57 "State.end" = true)
    (k57 : PySem.W.keepIn K (.ref f57) = true)
    (a58 : PySem.W.findIn K (.ref cT) "has_read" = some (some (.ref f58)))
    (i58 : PySem.W.isFn K (.ref f58) = true)
    (l58 : K.lookup f58 = some ⟨oc58, od58, .func (PySem.W.fnOf "has_read" "Transaction.has_read" (defArgs s_has_read_T) (defBody s_has_read_T) (defScope s_has_read_T) .none kV58 dc58 pm58 an58 cd58 ct58), sl58⟩)
    (c58 : PySem.W.codeIn K cd58 "Transaction.has_read" = true)
    (k58 : PySem.W.keepIn K (.ref f58) = true)
    (a59 : PySem.W.findIn K (.ref cT) "minds" = some (some (.ref f59)))
    (i59 : PySem.W.isFn K (.ref f59) = true)
    (l59 : K.lookup f59 = some ⟨oc59, od59, .func (PySem.W.fnOf "minds" "Transaction.minds" (defArgs s_minds_T) (defBody s_minds_T) (defScope s_minds_T) .none kV59 dc59 pm59 an59 cd59 ct59), sl59⟩)
    (c59 : PySem.W.codeIn K cd59 "Transaction.minds" = true)
    (k59 : PySem.W.keepIn K (.ref f59) = true)
    (a60 : PySem.W.findIn K (.ref cS) "clash_of" = some (some (.ref f60)))
    (i60 : PySem.W.isFn K (.ref f60) = true)
    (l60 : K.lookup f60 = some ⟨oc60, od60, .func (PySem.W.fnOf "clash_of" "State.clash_of" (defArgs s_clash_of_S) (defBody s_clash_of_S) (defScope s_clash_of_S) .none kV60 dc60 pm60 an60 cd60 ct60), sl60⟩)
    (c60 : PySem.W.codeIn K cd60 "State.clash_of" = true)
    (k60 : PySem.W.keepIn K (.ref f60) = true)
    (a61 : PySem.W.findIn K (.ref cH) "add_commit" = some (some (.ref f61)))
    (i61 : PySem.W.isFn K (.ref f61) = true)
    (l61 : K.lookup f61 = some ⟨oc61, od61, .func (PySem.W.fnOf "add_commit" "History.add_commit" (defArgs s_add_commit_H) (defBody s_add_commit_H) (defScope s_add_commit_H) .none kV61 dc61 pm61 an61 cd61 ct61), sl61⟩)
    (c61 : PySem.W.codeIn K cd61 "History.add_commit" = true)
    (k61 : PySem.W.keepIn K (.ref f61) = true)
    (a62 : PySem.W.nsIn K mainGlobals "commit" = some (some (.ref f62)))
    (l62 : K.lookup f62 = some ⟨oc62, od62, .func (PySem.W.fnOf "commit" "commit" (defArgs s_commit) (defBody s_commit) (defScope s_commit) .none kV62 dc62 pm62 an62 cd62 ct62), sl62⟩)
    (c62 : PySem.W.codeIn K cd62 "commit" = true)
    (k62 : PySem.W.keepIn K (.ref f62) = true)
    (a63 : PySem.W.nsIn K mainGlobals "abort" = some (some (.ref f63)))
    (l63 : K.lookup f63 = some ⟨oc63, od63, .func (PySem.W.fnOf "abort" "abort" (defArgs s_abort) (defBody s_abort) (defScope s_abort) .none kV63 dc63 pm63 an63 cd63 ct63), sl63⟩)
    (c63 : PySem.W.codeIn K cd63 "abort" = true)
    (k63 : PySem.W.keepIn K (.ref f63) = true)
    (a64 : PySem.W.nsIn K mainGlobals "answer_within" = some (some (.ref f64)))
    (l64 : K.lookup f64 = some ⟨oc64, od64, .func (PySem.W.fnOf "answer_within" "answer_within" (defArgs s_answer_within) (defBody s_answer_within) (defScope s_answer_within) .none kV64 dc64 pm64 an64 cd64 ct64), sl64⟩)
    (c64 : PySem.W.codeIn K cd64 "answer_within" = true)
    (k64 : PySem.W.keepIn K (.ref f64) = true)
    (a65 : PySem.W.nsIn K mainGlobals "answer_of_transaction" = some (some (.ref f65)))
    (l65 : K.lookup f65 = some ⟨oc65, od65, .func (PySem.W.fnOf "answer_of_transaction" "answer_of_transaction" (defArgs s_answer_of_transaction) (defBody s_answer_of_transaction) (defScope s_answer_of_transaction) .none kV65 dc65 pm65 an65 cd65 ct65), sl65⟩)
    (c65 : PySem.W.codeIn K cd65 "answer_of_transaction" = true)
    (k65 : PySem.W.keepIn K (.ref f65) = true)
    (a66 : PySem.W.nsIn K mainGlobals "answer_of_past" = some (some (.ref f66)))
    (l66 : K.lookup f66 = some ⟨oc66, od66, .func (PySem.W.fnOf "answer_of_past" "answer_of_past" (defArgs s_answer_of_past) (defBody s_answer_of_past) (defScope s_answer_of_past) .none kV66 dc66 pm66 an66 cd66 ct66), sl66⟩)
    (c66 : PySem.W.codeIn K cd66 "answer_of_past" = true)
    (k66 : PySem.W.keepIn K (.ref f66) = true)
    (a67 : PySem.W.nsIn K mainGlobals "answer" = some (some (.ref f67)))
    (l67 : K.lookup f67 = some ⟨oc67, od67, .func (PySem.W.fnOf "answer" "answer" (defArgs s_answer) (defBody s_answer) (defScope s_answer) .none kV67 dc67 pm67 an67 cd67 ct67), sl67⟩)
    (c67 : PySem.W.codeIn K cd67 "answer" = true)
    (k67 : PySem.W.keepIn K (.ref f67) = true)
    (a68 : PySem.W.nsIn K mainGlobals "count_given" = some (some (.ref f68)))
    (l68 : K.lookup f68 = some ⟨oc68, od68, .func (PySem.W.fnOf "count_given" "count_given" (defArgs s_count_given) (defBody s_count_given) (defScope s_count_given) .none kV68 dc68 pm68 an68 cd68 ct68), sl68⟩)
    (c68 : PySem.W.codeIn K cd68 "count_given" = true)
    (k68 : PySem.W.keepIn K (.ref f68) = true)
    (a69 : PySem.W.findIn K (.ref cS) "__init__" = some (some (.ref f69)))
    (i69 : PySem.W.isFn K (.ref f69) = true)
    (l69 : K.lookup f69 = some ⟨oc69, od69, .func (PySem.W.fnOf "__init__" "State.__init__" (defArgs s_initState) (defBody s_initState) (defScope s_initState) .none kV69 dc69 pm69 an69 cd69 ct69), sl69⟩)
    (c69 : PySem.W.codeIn K cd69 "State.__init__" = true)
    (k69 : PySem.W.keepIn K (.ref f69) = true)
    (a70 : PySem.W.nsIn K mainGlobals "answers" = some (some (.ref f70)))
    (l70 : K.lookup f70 = some ⟨oc70, od70, .func (PySem.W.fnOf "answers" "answers" (defArgs s_answers) (defBody s_answers) (defScope s_answers) .none kV70 dc70 pm70 an70 cd70 ct70), sl70⟩)
    (c70 : PySem.W.codeIn K cd70 "answers" = true)
    (k70 : PySem.W.keepIn K (.ref f70) = true)
    (pg_H : PySem.W.plainGet K cH Str.empty = true)
    (hd_H : PySem.W.hasDictIn K cH = true)
    (po_H : PySem.W.plainOver K cH = true)
    (sa_H : PySem.W.findIn K (.ref cH) "__setattr__" = some (some (.builtin "object.__setattr__")))
    (mk_H : PySem.W.makesIn K cH = true)
    (kc_H : PySem.W.keepIn K (.ref cH) = true)
    (nH_base : PySem.W.findIn K (.ref cH) "base" = some none)
    (nH_base_store : PySem.W.findIn K (.ref cH) "base_store" = some none)
    (nH_commits : PySem.W.findIn K (.ref cH) "commits" = some none)
    (nH_newest : PySem.W.findIn K (.ref cH) "newest" = some none)
    (pg_T : PySem.W.plainGet K cT Str.empty = true)
    (hd_T : PySem.W.hasDictIn K cT = true)
    (po_T : PySem.W.plainOver K cT = true)
    (sa_T : PySem.W.findIn K (.ref cT) "__setattr__" = some (some (.builtin "object.__setattr__")))
    (mk_T : PySem.W.makesIn K cT = true)
    (kc_T : PySem.W.keepIn K (.ref cT) = true)
    (nT_way : PySem.W.findIn K (.ref cT) "way" = some none)
    (nT_sees : PySem.W.findIn K (.ref cT) "sees" = some none)
    (nT_store : PySem.W.findIn K (.ref cT) "store" = some none)
    (nT_writes : PySem.W.findIn K (.ref cT) "writes" = some none)
    (nT_reads : PySem.W.findIn K (.ref cT) "reads" = some none)
    (nT_marks : PySem.W.findIn K (.ref cT) "marks" = some none)
    (pg_S : PySem.W.plainGet K cS Str.empty = true)
    (hd_S : PySem.W.hasDictIn K cS = true)
    (po_S : PySem.W.plainOver K cS = true)
    (sa_S : PySem.W.findIn K (.ref cS) "__setattr__" = some (some (.builtin "object.__setattr__")))
    (mk_S : PySem.W.makesIn K cS = true)
    (kc_S : PySem.W.keepIn K (.ref cS) = true)
    (nS_history : PySem.W.findIn K (.ref cS) "history" = some none)
    (nS_safe : PySem.W.findIn K (.ref cS) "safe" = some none)
    (nS_transactions : PySem.W.findIn K (.ref cS) "transactions" = some none)
    (nS_begun : PySem.W.findIn K (.ref cS) "begun" = some none)
    (g_HIGHEST_KEY : PySem.W.nsIn K mainGlobals "HIGHEST_KEY" = some (some (.int 255 t_HIGHEST_KEY)))
    (g_HIGHEST_VALUE : PySem.W.nsIn K mainGlobals "HIGHEST_VALUE" = some (some (.int 4294967295 t_HIGHEST_VALUE)))
    (g_HIGHEST_BASE : PySem.W.nsIn K mainGlobals "HIGHEST_BASE" = some (some (.int 4294967295 t_HIGHEST_BASE)))
    (g_MOST_KEYS : PySem.W.nsIn K mainGlobals "MOST_KEYS" = some (some (.int 256 t_MOST_KEYS)))
    (g_MODULUS : PySem.W.nsIn K mainGlobals "MODULUS" = some (some (.int 4294967296 t_MODULUS)))
    (g_WRONG : PySem.W.nsIn K mainGlobals "WRONG" = some (some (.int (-1) t_WRONG)))
    (g_NO_LOG : PySem.W.nsIn K mainGlobals "NO_LOG" = some (some (.int (-2) t_NO_LOG)))
    (g_STILL_SEEN : PySem.W.nsIn K mainGlobals "STILL_SEEN" = some (some (.int (-3) t_STILL_SEEN)))
    (g_NONE_SUCH : PySem.W.nsIn K mainGlobals "NONE_SUCH" = some (some (.int (-4) t_NONE_SUCH)))
    (g_CLASH : PySem.W.nsIn K mainGlobals "CLASH" = some (some (.int (-5) t_CLASH)))
    (g_FULL : PySem.W.nsIn K mainGlobals "FULL" = some (some (.int (-6) t_FULL)))
    (g_NO_SUCH_NUMBER : PySem.W.nsIn K mainGlobals "NO_SUCH_NUMBER" = some (some (.int (-7) t_NO_SUCH_NUMBER)))
    (g_HIGHEST_WAY : PySem.W.nsIn K mainGlobals "HIGHEST_WAY" = some (some (.int 1 t_HIGHEST_WAY)))
    (g_MOST_READS : PySem.W.nsIn K mainGlobals "MOST_READS" = some (some (.int 64 t_MOST_READS)))
    (g_MOST_MARKS : PySem.W.nsIn K mainGlobals "MOST_MARKS" = some (some (.int 16 t_MOST_MARKS)))
    (g_MOST_TRANSACTIONS : PySem.W.nsIn K mainGlobals "MOST_TRANSACTIONS" = some (some (.int 8 t_MOST_TRANSACTIONS)))
    (g_BEGIN : PySem.W.nsIn K mainGlobals "BEGIN" = some (some (.int 0 t_BEGIN)))
    (g_READ : PySem.W.nsIn K mainGlobals "READ" = some (some (.int 1 t_READ)))
    (g_RANGE : PySem.W.nsIn K mainGlobals "RANGE" = some (some (.int 2 t_RANGE)))
    (g_WRITE : PySem.W.nsIn K mainGlobals "WRITE" = some (some (.int 3 t_WRITE)))
    (g_DELETE : PySem.W.nsIn K mainGlobals "DELETE" = some (some (.int 4 t_DELETE)))
    (g_MARK : PySem.W.nsIn K mainGlobals "MARK" = some (some (.int 5 t_MARK)))
    (g_COMMIT : PySem.W.nsIn K mainGlobals "COMMIT" = some (some (.int 7 t_COMMIT)))
    (g_ABORT : PySem.W.nsIn K mainGlobals "ABORT" = some (some (.int 8 t_ABORT)))
    (g_AT : PySem.W.nsIn K mainGlobals "AT" = some (some (.int 9 t_AT)))
    (g_ALL : PySem.W.nsIn K mainGlobals "ALL" = some (some (.int 10 t_ALL)))
    (g_CHANGES : PySem.W.nsIn K mainGlobals "CHANGES" = some (some (.int 11 t_CHANGES)))
    (g_VACUUM : PySem.W.nsIn K mainGlobals "VACUUM" = some (some (.int 12 t_VACUUM)))
    (g_SYNC : PySem.W.nsIn K mainGlobals "SYNC" = some (some (.int 13 t_SYNC)))
    (g_CRASH : PySem.W.nsIn K mainGlobals "CRASH" = some (some (.int 14 t_CRASH)))
    (g_RECOVER : PySem.W.nsIn K mainGlobals "RECOVER" = some (some (.int 16 t_RECOVER)))
    (g_SHAPE : PySem.W.nsIn K mainGlobals "SHAPE" = some (some (.int 17 t_SHAPE)))
    (a_GIVEN : PySem.W.nsIn K mainGlobals "GIVEN" = some (some (.ref gG)))
    (l_GIVEN : K.lookup gG = some ⟨.type "tuple", odG, .seq #[.int 1 u0, .int 2 u1, .int 3 u2, .int 3 u3, .int 2 u4, .int 1 u5, .int 2 u6, .int 1 u7, .int 1 u8, .int 2 u9, .int 1 u10, .int 2 u11, .int 1 u12, .int 0 u13, .int 0 u14, .int 0 u15, .int 1 u16, .int 0 u17] nG, slG⟩)
    (z_range : PySem.W.nsIn K mainGlobals "range" = some none)
    (z_len : PySem.W.nsIn K mainGlobals "len" = some none)
    (z_dict : PySem.W.nsIn K mainGlobals "dict" = some none)
    (z_sorted : PySem.W.nsIn K mainGlobals "sorted" = some none)
    (z_enumerate : PySem.W.nsIn K mainGlobals "enumerate" = some none)
    : ∃ a : Ad, Txt K mg a ∧ a.answers = fa := by
  have e0 := hfa.symm.trans (PySem.W.mg_of X G a70)
  have e : fa = f70 := by cases e0; rfl
  have F0 := fun_mk (st := s_put) l0 c0 k0
  have F1 := fun_mk (st := s_with_writes) l1 c1 k1
  have F2 := fun_mk (st := s_writes_between) l2 c2 k2
  have F3 := fun_mk (st := s_pairs_of) l3 c3 k3
  have F4 := fun_mk (st := s_numbers_of) l4 c4 k4
  have F5 := fun_mk (st := s_value_answer) l5 c5 k5
  have F6 := fun_mk (st := s_list_answer) l6 c6 k6
  have F7 := fun_mk (st := s_part_answer) l7 c7 k7
  have F8 := fun_mk (st := s_check_over) l8 c8 k8
  have F9 := fun_mk (st := s_log_of) l9 c9 k9
  have F10 := fun_mk (st := s_store_from) l10 c10 k10
  have F11 := fun_mk (st := s_is_write) l11 c11 k11
  have F12 := fun_mk (st := s_writes_from) l12 c12 k12
  have F13 := fun_mk (st := s_commits_from) l13 c13 k13
  have F14 := fun_mk (st := s_store_at_H) l14 c14 k14
  have F15 := fun_mk (st := s_now_H) l15 c15 k15
  have F16 := fun_mk (st := s_initHistory) l16 c16 k16
  have F17 := fun_mk (st := s_history_from) l17 c17 k17
  have F18 := fun_mk (st := s_tells_H) l18 c18 k18
  have F19 := fun_mk (st := s_value_as_of) l19 c19 k19
  have F20 := fun_mk (st := s_store_as_of) l20 c20 k20
  have F21 := fun_mk (st := s_changes) l21 c21 k21
  have F22 := fun_mk (st := s_sees_below_S) l22 c22 k22
  have F23 := fun_mk (st := s_commits_behind_H) l23 c23 k23
  have F24 := fun_mk (st := s_drop_below_H) l24 c24 k24
  have F25 := fun_mk (st := s_vacuum) l25 c25 k25
  have F26 := fun_mk (st := s_not_safe_S) l26 c26 k26
  have F27 := fun_mk (st := s_make_all_safe_S) l27 c27 k27
  have F28 := fun_mk (st := s_sync) l28 c28 k28
  have F29 := fun_mk (st := s_drop_above_H) l29 c29 k29
  have F30 := fun_mk (st := s_lose_what_is_not_safe_S) l30 c30 k30
  have F31 := fun_mk (st := s_crash) l31 c31 k31
  have F32 := fun_mk (st := s_whole_log) l32 c32 k32
  have F33 := fun_mk (st := s_take_up_S) l33 c33 k33
  have F34 := fun_mk (st := s_recover) l34 c34 k34
  have F35 := fun_mk (st := s_shape) l35 c35 k35
  have F36 := fun_mk (st := s_may_begin_S) l36 c36 k36
  have F37 := fun_mk (st := s_initTransaction) l37 c37 k37
  have F38 := fun_mk (st := s_begin_S) l38 c38 k38
  have F39 := fun_mk (st := s_begin) l39 c39 k39
  have F40 := fun_mk (st := s_has_written_T) l40 c40 k40
  have F41 := fun_mk (st := s_note_read_T) l41 c41 k41
  have F42 := fun_mk (st := s_value_at_T) l42 c42 k42
  have F43 := fun_mk (st := s_may_read_T) l43 c43 k43
  have F44 := fun_mk (st := s_read) l44 c44 k44
  have F45 := fun_mk (st := s_seen_T) l45 c45 k45
  have F46 := fun_mk (st := s_read_range) l46 c46 k46
  have F47 := fun_mk (st := s_write_T) l47 c47 k47
  have F48 := fun_mk (st := s_write) l48 c48 k48
  have F49 := fun_mk (st := s_take_out_T) l49 c49 k49
  have F50 := fun_mk (st := s_delete) l50 c50 k50
  have F51 := fun_mk (st := s_may_mark_T) l51 c51 k51
  have F52 := fun_mk (st := s_mark_T) l52 c52 k52
  have F53 := fun_mk (st := s_mark) l53 c53 k53
  have F54 := fun_mk (st := s_go_back_T) l54 c54 k54
  have F55 := fun_mk (st := s_has_mark_T) l55 c55 k55
  have F56 := fun_mk (st := s_back) l56 c56 k56
  have F57 := fun_mk (st := s_end_S) l57 c57 k57
  have F58 := fun_mk (st := s_has_read_T) l58 c58 k58
  have F59 := fun_mk (st := s_minds_T) l59 c59 k59
  have F60 := fun_mk (st := s_clash_of_S) l60 c60 k60
  have F61 := fun_mk (st := s_add_commit_H) l61 c61 k61
  have F62 := fun_mk (st := s_commit) l62 c62 k62
  have F63 := fun_mk (st := s_abort) l63 c63 k63
  have F64 := fun_mk (st := s_answer_within) l64 c64 k64
  have F65 := fun_mk (st := s_answer_of_transaction) l65 c65 k65
  have F66 := fun_mk (st := s_answer_of_past) l66 c66 k66
  have F67 := fun_mk (st := s_answer) l67 c67 k67
  have F68 := fun_mk (st := s_count_given) l68 c68 k68
  have F69 := fun_mk (st := s_initState) l69 c69 k69
  have F70 := fun_mk (st := s_answers) l70 c70 k70
  refine ⟨{ put := f0, fd_put := PySem.W.fnOf "put" "put" (defArgs s_put) (defBody s_put) (defScope s_put) .none kV0 dc0 pm0 an0 cd0 ct0, with_writes := f1, fd_with_writes := PySem.W.fnOf "with_writes" "with_writes" (defArgs s_with_writes) (defBody s_with_writes) (defScope s_with_writes) .none kV1 dc1 pm1 an1 cd1 ct1, writes_between := f2, fd_writes_between := PySem.W.fnOf "writes_between" "writes_between" (defArgs s_writes_between) (defBody s_writes_between) (defScope s_writes_between) .none kV2 dc2 pm2 an2 cd2 ct2, pairs_of := f3, fd_pairs_of := PySem.W.fnOf "pairs_of" "pairs_of" (defArgs s_pairs_of) (defBody s_pairs_of) (defScope s_pairs_of) .none kV3 dc3 pm3 an3 cd3 ct3, numbers_of := f4, fd_numbers_of := PySem.W.fnOf "numbers_of" "numbers_of" (defArgs s_numbers_of) (defBody s_numbers_of) (defScope s_numbers_of) .none kV4 dc4 pm4 an4 cd4 ct4, value_answer := f5, fd_value_answer := PySem.W.fnOf "value_answer" "value_answer" (defArgs s_value_answer) (defBody s_value_answer) (defScope s_value_answer) .none kV5 dc5 pm5 an5 cd5 ct5, list_answer := f6, fd_list_answer := PySem.W.fnOf "list_answer" "list_answer" (defArgs s_list_answer) (defBody s_list_answer) (defScope s_list_answer) .none kV6 dc6 pm6 an6 cd6 ct6, part_answer := f7, fd_part_answer := PySem.W.fnOf "part_answer" "part_answer" (defArgs s_part_answer) (defBody s_part_answer) (defScope s_part_answer) .none kV7 dc7 pm7 an7 cd7 ct7, check_over := f8, fd_check_over := PySem.W.fnOf "check_over" "check_over" (defArgs s_check_over) (defBody s_check_over) (defScope s_check_over) .none kV8 dc8 pm8 an8 cd8 ct8, log_of := f9, fd_log_of := PySem.W.fnOf "log_of" "log_of" (defArgs s_log_of) (defBody s_log_of) (defScope s_log_of) .none kV9 dc9 pm9 an9 cd9 ct9, store_from := f10, fd_store_from := PySem.W.fnOf "store_from" "store_from" (defArgs s_store_from) (defBody s_store_from) (defScope s_store_from) .none kV10 dc10 pm10 an10 cd10 ct10, is_write := f11, fd_is_write := PySem.W.fnOf "is_write" "is_write" (defArgs s_is_write) (defBody s_is_write) (defScope s_is_write) .none kV11 dc11 pm11 an11 cd11 ct11, writes_from := f12, fd_writes_from := PySem.W.fnOf "writes_from" "writes_from" (defArgs s_writes_from) (defBody s_writes_from) (defScope s_writes_from) .none kV12 dc12 pm12 an12 cd12 ct12, commits_from := f13, fd_commits_from := PySem.W.fnOf "commits_from" "commits_from" (defArgs s_commits_from) (defBody s_commits_from) (defScope s_commits_from) .none kV13 dc13 pm13 an13 cd13 ct13, store_at_H := f14, fd_store_at_H := PySem.W.fnOf "store_at" "History.store_at" (defArgs s_store_at_H) (defBody s_store_at_H) (defScope s_store_at_H) .none kV14 dc14 pm14 an14 cd14 ct14, now_H := f15, fd_now_H := PySem.W.fnOf "now" "History.now" (defArgs s_now_H) (defBody s_now_H) (defScope s_now_H) .none kV15 dc15 pm15 an15 cd15 ct15, initHistory := f16, fd_initHistory := PySem.W.fnOf "__init__" "History.__init__" (defArgs s_initHistory) (defBody s_initHistory) (defScope s_initHistory) .none kV16 dc16 pm16 an16 cd16 ct16, history_from := f17, fd_history_from := PySem.W.fnOf "history_from" "history_from" (defArgs s_history_from) (defBody s_history_from) (defScope s_history_from) .none kV17 dc17 pm17 an17 cd17 ct17, tells_H := f18, fd_tells_H := PySem.W.fnOf "tells" "History.tells" (defArgs s_tells_H) (defBody s_tells_H) (defScope s_tells_H) .none kV18 dc18 pm18 an18 cd18 ct18, value_as_of := f19, fd_value_as_of := PySem.W.fnOf "value_as_of" "value_as_of" (defArgs s_value_as_of) (defBody s_value_as_of) (defScope s_value_as_of) .none kV19 dc19 pm19 an19 cd19 ct19, store_as_of := f20, fd_store_as_of := PySem.W.fnOf "store_as_of" "store_as_of" (defArgs s_store_as_of) (defBody s_store_as_of) (defScope s_store_as_of) .none kV20 dc20 pm20 an20 cd20 ct20, changes := f21, fd_changes := PySem.W.fnOf "changes" "changes" (defArgs s_changes) (defBody s_changes) (defScope s_changes) .none kV21 dc21 pm21 an21 cd21 ct21, sees_below_S := f22, fd_sees_below_S := PySem.W.fnOf "sees_below" "State.sees_below" (defArgs s_sees_below_S) (defBody s_sees_below_S) (defScope s_sees_below_S) .none kV22 dc22 pm22 an22 cd22 ct22, commits_behind_H := f23, fd_commits_behind_H := PySem.W.fnOf "commits_behind" "History.commits_behind" (defArgs s_commits_behind_H) (defBody s_commits_behind_H) (defScope s_commits_behind_H) .none kV23 dc23 pm23 an23 cd23 ct23, drop_below_H := f24, fd_drop_below_H := PySem.W.fnOf "drop_below" "History.drop_below" (defArgs s_drop_below_H) (defBody s_drop_below_H) (defScope s_drop_below_H) .none kV24 dc24 pm24 an24 cd24 ct24, vacuum := f25, fd_vacuum := PySem.W.fnOf "vacuum" "vacuum" (defArgs s_vacuum) (defBody s_vacuum) (defScope s_vacuum) .none kV25 dc25 pm25 an25 cd25 ct25, not_safe_S := f26, fd_not_safe_S := PySem.W.fnOf "not_safe" "State.not_safe" (defArgs s_not_safe_S) (defBody s_not_safe_S) (defScope s_not_safe_S) .none kV26 dc26 pm26 an26 cd26 ct26, make_all_safe_S := f27, fd_make_all_safe_S := PySem.W.fnOf "make_all_safe" "State.make_all_safe" (defArgs s_make_all_safe_S) (defBody s_make_all_safe_S) (defScope s_make_all_safe_S) .none kV27 dc27 pm27 an27 cd27 ct27, sync := f28, fd_sync := PySem.W.fnOf "sync" "sync" (defArgs s_sync) (defBody s_sync) (defScope s_sync) .none kV28 dc28 pm28 an28 cd28 ct28, drop_above_H := f29, fd_drop_above_H := PySem.W.fnOf "drop_above" "History.drop_above" (defArgs s_drop_above_H) (defBody s_drop_above_H) (defScope s_drop_above_H) .none kV29 dc29 pm29 an29 cd29 ct29, lose_what_is_not_safe_S := f30, fd_lose_what_is_not_safe_S := PySem.W.fnOf "lose_what_is_not_safe" "State.lose_what_is_not_safe" (defArgs s_lose_what_is_not_safe_S) (defBody s_lose_what_is_not_safe_S) (defScope s_lose_what_is_not_safe_S) .none kV30 dc30 pm30 an30 cd30 ct30, crash := f31, fd_crash := PySem.W.fnOf "crash" "crash" (defArgs s_crash) (defBody s_crash) (defScope s_crash) .none kV31 dc31 pm31 an31 cd31 ct31, whole_log := f32, fd_whole_log := PySem.W.fnOf "whole_log" "whole_log" (defArgs s_whole_log) (defBody s_whole_log) (defScope s_whole_log) .none kV32 dc32 pm32 an32 cd32 ct32, take_up_S := f33, fd_take_up_S := PySem.W.fnOf "take_up" "State.take_up" (defArgs s_take_up_S) (defBody s_take_up_S) (defScope s_take_up_S) .none kV33 dc33 pm33 an33 cd33 ct33, recover := f34, fd_recover := PySem.W.fnOf "recover" "recover" (defArgs s_recover) (defBody s_recover) (defScope s_recover) .none kV34 dc34 pm34 an34 cd34 ct34, shape := f35, fd_shape := PySem.W.fnOf "shape" "shape" (defArgs s_shape) (defBody s_shape) (defScope s_shape) .none kV35 dc35 pm35 an35 cd35 ct35, may_begin_S := f36, fd_may_begin_S := PySem.W.fnOf "may_begin" "State.may_begin" (defArgs s_may_begin_S) (defBody s_may_begin_S) (defScope s_may_begin_S) .none kV36 dc36 pm36 an36 cd36 ct36, initTransaction := f37, fd_initTransaction := PySem.W.fnOf "__init__" "Transaction.__init__" (defArgs s_initTransaction) (defBody s_initTransaction) (defScope s_initTransaction) .none kV37 dc37 pm37 an37 cd37 ct37, begin_S := f38, fd_begin_S := PySem.W.fnOf "begin" "State.begin" (defArgs s_begin_S) (defBody s_begin_S) (defScope s_begin_S) .none kV38 dc38 pm38 an38 cd38 ct38, begin := f39, fd_begin := PySem.W.fnOf "begin" "begin" (defArgs s_begin) (defBody s_begin) (defScope s_begin) .none kV39 dc39 pm39 an39 cd39 ct39, has_written_T := f40, fd_has_written_T := PySem.W.fnOf "has_written" "Transaction.has_written" (defArgs s_has_written_T) (defBody s_has_written_T) (defScope s_has_written_T) .none kV40 dc40 pm40 an40 cd40 ct40, note_read_T := f41, fd_note_read_T := PySem.W.fnOf "note_read" "Transaction.note_read" (defArgs s_note_read_T) (defBody s_note_read_T) (defScope s_note_read_T) .none kV41 dc41 pm41 an41 cd41 ct41, value_at_T := f42, fd_value_at_T := PySem.W.fnOf "value_at" "Transaction.value_at" (defArgs s_value_at_T) (defBody s_value_at_T) (defScope s_value_at_T) .none kV42 dc42 pm42 an42 cd42 ct42, may_read_T := f43, fd_may_read_T := PySem.W.fnOf "may_read" "Transaction.may_read" (defArgs s_may_read_T) (defBody s_may_read_T) (defScope s_may_read_T) .none kV43 dc43 pm43 an43 cd43 ct43, read := f44, fd_read := PySem.W.fnOf "read" "read" (defArgs s_read) (defBody s_read) (defScope s_read) .none kV44 dc44 pm44 an44 cd44 ct44, seen_T := f45, fd_seen_T := PySem.W.fnOf "seen" "Transaction.seen" (defArgs s_seen_T) (defBody s_seen_T) (defScope s_seen_T) .none kV45 dc45 pm45 an45 cd45 ct45, read_range := f46, fd_read_range := PySem.W.fnOf "read_range" "read_range" (defArgs s_read_range) (defBody s_read_range) (defScope s_read_range) .none kV46 dc46 pm46 an46 cd46 ct46, write_T := f47, fd_write_T := PySem.W.fnOf "write" "Transaction.write" (defArgs s_write_T) (defBody s_write_T) (defScope s_write_T) .none kV47 dc47 pm47 an47 cd47 ct47, write := f48, fd_write := PySem.W.fnOf "write" "write" (defArgs s_write) (defBody s_write) (defScope s_write) .none kV48 dc48 pm48 an48 cd48 ct48, take_out_T := f49, fd_take_out_T := PySem.W.fnOf "take_out" "Transaction.take_out" (defArgs s_take_out_T) (defBody s_take_out_T) (defScope s_take_out_T) .none kV49 dc49 pm49 an49 cd49 ct49, delete := f50, fd_delete := PySem.W.fnOf "delete" "delete" (defArgs s_delete) (defBody s_delete) (defScope s_delete) .none kV50 dc50 pm50 an50 cd50 ct50, may_mark_T := f51, fd_may_mark_T := PySem.W.fnOf "may_mark" "Transaction.may_mark" (defArgs s_may_mark_T) (defBody s_may_mark_T) (defScope s_may_mark_T) .none kV51 dc51 pm51 an51 cd51 ct51, mark_T := f52, fd_mark_T := PySem.W.fnOf "mark" "Transaction.mark" (defArgs s_mark_T) (defBody s_mark_T) (defScope s_mark_T) .none kV52 dc52 pm52 an52 cd52 ct52, mark := f53, fd_mark := PySem.W.fnOf "mark" "mark" (defArgs s_mark) (defBody s_mark) (defScope s_mark) .none kV53 dc53 pm53 an53 cd53 ct53, go_back_T := f54, fd_go_back_T := PySem.W.fnOf "go_back" "Transaction.go_back" (defArgs s_go_back_T) (defBody s_go_back_T) (defScope s_go_back_T) .none kV54 dc54 pm54 an54 cd54 ct54, has_mark_T := f55, fd_has_mark_T := PySem.W.fnOf "has_mark" "Transaction.has_mark" (defArgs s_has_mark_T) (defBody s_has_mark_T) (defScope s_has_mark_T) .none kV55 dc55 pm55 an55 cd55 ct55, back := f56, fd_back := PySem.W.fnOf "back" "back" (defArgs s_back) (defBody s_back) (defScope s_back) .none kV56 dc56 pm56 an56 cd56 ct56, end_S := f57, fd_end_S := PySem.W.fnOf "end" "State.end" (defArgs s_end_S) (defBody s_end_S) (defScope s_end_S) .none kV57 dc57 pm57 an57 cd57 ct57, has_read_T := f58, fd_has_read_T := PySem.W.fnOf "has_read" "Transaction.has_read" (defArgs s_has_read_T) (defBody s_has_read_T) (defScope s_has_read_T) .none kV58 dc58 pm58 an58 cd58 ct58, minds_T := f59, fd_minds_T := PySem.W.fnOf "minds" "Transaction.minds" (defArgs s_minds_T) (defBody s_minds_T) (defScope s_minds_T) .none kV59 dc59 pm59 an59 cd59 ct59, clash_of_S := f60, fd_clash_of_S := PySem.W.fnOf "clash_of" "State.clash_of" (defArgs s_clash_of_S) (defBody s_clash_of_S) (defScope s_clash_of_S) .none kV60 dc60 pm60 an60 cd60 ct60, add_commit_H := f61, fd_add_commit_H := PySem.W.fnOf "add_commit" "History.add_commit" (defArgs s_add_commit_H) (defBody s_add_commit_H) (defScope s_add_commit_H) .none kV61 dc61 pm61 an61 cd61 ct61, commit := f62, fd_commit := PySem.W.fnOf "commit" "commit" (defArgs s_commit) (defBody s_commit) (defScope s_commit) .none kV62 dc62 pm62 an62 cd62 ct62, abort := f63, fd_abort := PySem.W.fnOf "abort" "abort" (defArgs s_abort) (defBody s_abort) (defScope s_abort) .none kV63 dc63 pm63 an63 cd63 ct63, answer_within := f64, fd_answer_within := PySem.W.fnOf "answer_within" "answer_within" (defArgs s_answer_within) (defBody s_answer_within) (defScope s_answer_within) .none kV64 dc64 pm64 an64 cd64 ct64, answer_of_transaction := f65, fd_answer_of_transaction := PySem.W.fnOf "answer_of_transaction" "answer_of_transaction" (defArgs s_answer_of_transaction) (defBody s_answer_of_transaction) (defScope s_answer_of_transaction) .none kV65 dc65 pm65 an65 cd65 ct65, answer_of_past := f66, fd_answer_of_past := PySem.W.fnOf "answer_of_past" "answer_of_past" (defArgs s_answer_of_past) (defBody s_answer_of_past) (defScope s_answer_of_past) .none kV66 dc66 pm66 an66 cd66 ct66, answer := f67, fd_answer := PySem.W.fnOf "answer" "answer" (defArgs s_answer) (defBody s_answer) (defScope s_answer) .none kV67 dc67 pm67 an67 cd67 ct67, count_given := f68, fd_count_given := PySem.W.fnOf "count_given" "count_given" (defArgs s_count_given) (defBody s_count_given) (defScope s_count_given) .none kV68 dc68 pm68 an68 cd68 ct68, initState := f69, fd_initState := PySem.W.fnOf "__init__" "State.__init__" (defArgs s_initState) (defBody s_initState) (defScope s_initState) .none kV69 dc69 pm69 an69 cd69 ct69, answers := f70, fd_answers := PySem.W.fnOf "answers" "answers" (defArgs s_answers) (defBody s_answers) (defScope s_answers) .none kV70 dc70 pm70 an70 cd70 ct70, cH := cH, cT := cT, cS := cS, gGIVEN := gG }, ?_, e.symm⟩
  exact {
    put := F0,
    b_put := F0.binds (ps := ["store", "writes"]) fun _ _ _ _ _ _ us hl => match us, hl with | [_, _], _ => rfl,
    m_put := PySem.W.mg_of X G a0,
    with_writes := F1,
    b_with_writes := F1.binds (ps := ["store", "writes"]) fun _ _ _ _ _ _ us hl => match us, hl with | [_, _], _ => rfl,
    m_with_writes := PySem.W.mg_of X G a1,
    writes_between := F2,
    b_writes_between := F2.binds (ps := ["before", "behind"]) fun _ _ _ _ _ _ us hl => match us, hl with | [_, _], _ => rfl,
    m_writes_between := PySem.W.mg_of X G a2,
    pairs_of := F3,
    b_pairs_of := F3.binds (ps := ["store", "lo", "hi"]) fun _ _ _ _ _ _ us hl => match us, hl with | [_, _, _], _ => rfl,
    m_pairs_of := PySem.W.mg_of X G a3,
    numbers_of := F4,
    b_numbers_of := F4.binds (ps := ["writes"]) fun _ _ _ _ _ _ us hl => match us, hl with | [_], _ => rfl,
    m_numbers_of := PySem.W.mg_of X G a4,
    value_answer := F5,
    b_value_answer := F5.binds (ps := ["value"]) fun _ _ _ _ _ _ us hl => match us, hl with | [_], _ => rfl,
    m_value_answer := PySem.W.mg_of X G a5,
    list_answer := F6,
    b_list_answer := F6.binds (ps := ["first", "numbers"]) fun _ _ _ _ _ _ us hl => match us, hl with | [_, _], _ => rfl,
    m_list_answer := PySem.W.mg_of X G a6,
    part_answer := F7,
    b_part_answer := F7.binds (ps := ["store", "lo", "hi"]) fun _ _ _ _ _ _ us hl => match us, hl with | [_, _, _], _ => rfl,
    m_part_answer := PySem.W.mg_of X G a7,
    check_over := F8,
    b_check_over := F8.binds (ps := ["check", "numbers"]) fun _ _ _ _ _ _ us hl => match us, hl with | [_, _], _ => rfl,
    m_check_over := PySem.W.mg_of X G a8,
    log_of := F9,
    b_log_of := F9.binds (ps := ["history"]) fun _ _ _ _ _ _ us hl => match us, hl with | [_], _ => rfl,
    m_log_of := PySem.W.mg_of X G a9,
    store_from := F10,
    b_store_from := F10.binds (ps := ["pairs"]) fun _ _ _ _ _ _ us hl => match us, hl with | [_], _ => rfl,
    m_store_from := PySem.W.mg_of X G a10,
    is_write := F11,
    b_is_write := F11.binds (ps := ["there", "value"]) fun _ _ _ _ _ _ us hl => match us, hl with | [_, _], _ => rfl,
    m_is_write := PySem.W.mg_of X G a11,
    writes_from := F12,
    b_writes_from := F12.binds (ps := ["numbers"]) fun _ _ _ _ _ _ us hl => match us, hl with | [_], _ => rfl,
    m_writes_from := PySem.W.mg_of X G a12,
    commits_from := F13,
    b_commits_from := F13.binds (ps := ["numbers", "place", "check"]) fun _ _ _ _ _ _ us hl => match us, hl with | [_, _, _], _ => rfl,
    m_commits_from := PySem.W.mg_of X G a13,
    store_at_H := F14,
    b_store_at_H := F14.binds (ps := ["self", "number"]) fun _ _ _ _ _ _ us hl => match us, hl with | [_, _], _ => rfl,
    mt_store_at_H := ⟨a14, i14, k14⟩,
    now_H := F15,
    b_now_H := F15.binds (ps := ["self"]) fun _ _ _ _ _ _ us hl => match us, hl with | [_], _ => rfl,
    mt_now_H := ⟨a15, i15, k15⟩,
    initHistory := F16,
    b_initHistory := F16.binds (ps := ["self", "base", "base_store", "commits"]) fun _ _ _ _ _ _ us hl => match us, hl with | [_, _, _, _], _ => rfl,
    history_from := F17,
    b_history_from := F17.binds (ps := ["numbers"]) fun _ _ _ _ _ _ us hl => match us, hl with | [_], _ => rfl,
    m_history_from := PySem.W.mg_of X G a17,
    tells_H := F18,
    b_tells_H := F18.binds (ps := ["self", "number"]) fun _ _ _ _ _ _ us hl => match us, hl with | [_, _], _ => rfl,
    mt_tells_H := ⟨a18, i18, k18⟩,
    value_as_of := F19,
    b_value_as_of := F19.binds (ps := ["history", "number", "key"]) fun _ _ _ _ _ _ us hl => match us, hl with | [_, _, _], _ => rfl,
    m_value_as_of := PySem.W.mg_of X G a19,
    store_as_of := F20,
    b_store_as_of := F20.binds (ps := ["history", "number"]) fun _ _ _ _ _ _ us hl => match us, hl with | [_, _], _ => rfl,
    m_store_as_of := PySem.W.mg_of X G a20,
    changes := F21,
    b_changes := F21.binds (ps := ["history", "one", "other"]) fun _ _ _ _ _ _ us hl => match us, hl with | [_, _, _], _ => rfl,
    m_changes := PySem.W.mg_of X G a21,
    sees_below_S := F22,
    b_sees_below_S := F22.binds (ps := ["self", "number"]) fun _ _ _ _ _ _ us hl => match us, hl with | [_, _], _ => rfl,
    mt_sees_below_S := ⟨a22, i22, k22⟩,
    commits_behind_H := F23,
    b_commits_behind_H := F23.binds (ps := ["self", "number"]) fun _ _ _ _ _ _ us hl => match us, hl with | [_, _], _ => rfl,
    mt_commits_behind_H := ⟨a23, i23, k23⟩,
    drop_below_H := F24,
    b_drop_below_H := F24.binds (ps := ["self", "number"]) fun _ _ _ _ _ _ us hl => match us, hl with | [_, _], _ => rfl,
    mt_drop_below_H := ⟨a24, i24, k24⟩,
    vacuum := F25,
    b_vacuum := F25.binds (ps := ["state", "number"]) fun _ _ _ _ _ _ us hl => match us, hl with | [_, _], _ => rfl,
    m_vacuum := PySem.W.mg_of X G a25,
    not_safe_S := F26,
    b_not_safe_S := F26.binds (ps := ["self"]) fun _ _ _ _ _ _ us hl => match us, hl with | [_], _ => rfl,
    mt_not_safe_S := ⟨a26, i26, k26⟩,
    make_all_safe_S := F27,
    b_make_all_safe_S := F27.binds (ps := ["self"]) fun _ _ _ _ _ _ us hl => match us, hl with | [_], _ => rfl,
    mt_make_all_safe_S := ⟨a27, i27, k27⟩,
    sync := F28,
    b_sync := F28.binds (ps := ["state"]) fun _ _ _ _ _ _ us hl => match us, hl with | [_], _ => rfl,
    m_sync := PySem.W.mg_of X G a28,
    drop_above_H := F29,
    b_drop_above_H := F29.binds (ps := ["self", "number"]) fun _ _ _ _ _ _ us hl => match us, hl with | [_, _], _ => rfl,
    mt_drop_above_H := ⟨a29, i29, k29⟩,
    lose_what_is_not_safe_S := F30,
    b_lose_what_is_not_safe_S := F30.binds (ps := ["self"]) fun _ _ _ _ _ _ us hl => match us, hl with | [_], _ => rfl,
    mt_lose_what_is_not_safe_S := ⟨a30, i30, k30⟩,
    crash := F31,
    b_crash := F31.binds (ps := ["state"]) fun _ _ _ _ _ _ us hl => match us, hl with | [_], _ => rfl,
    m_crash := PySem.W.mg_of X G a31,
    whole_log := F32,
    b_whole_log := F32.binds (ps := ["history"]) fun _ _ _ _ _ _ us hl => match us, hl with | [_], _ => rfl,
    m_whole_log := PySem.W.mg_of X G a32,
    take_up_S := F33,
    b_take_up_S := F33.binds (ps := ["self", "history"]) fun _ _ _ _ _ _ us hl => match us, hl with | [_, _], _ => rfl,
    mt_take_up_S := ⟨a33, i33, k33⟩,
    recover := F34,
    b_recover := F34.binds (ps := ["state", "numbers"]) fun _ _ _ _ _ _ us hl => match us, hl with | [_, _], _ => rfl,
    m_recover := PySem.W.mg_of X G a34,
    shape := F35,
    b_shape := F35.binds (ps := ["state"]) fun _ _ _ _ _ _ us hl => match us, hl with | [_], _ => rfl,
    m_shape := PySem.W.mg_of X G a35,
    may_begin_S := F36,
    b_may_begin_S := F36.binds (ps := ["self"]) fun _ _ _ _ _ _ us hl => match us, hl with | [_], _ => rfl,
    mt_may_begin_S := ⟨a36, i36, k36⟩,
    initTransaction := F37,
    b_initTransaction := F37.binds (ps := ["self", "way", "sees", "store"]) fun _ _ _ _ _ _ us hl => match us, hl with | [_, _, _, _], _ => rfl,
    begin_S := F38,
    b_begin_S := F38.binds (ps := ["self", "way"]) fun _ _ _ _ _ _ us hl => match us, hl with | [_, _], _ => rfl,
    mt_begin_S := ⟨a38, i38, k38⟩,
    begin := F39,
    b_begin := F39.binds (ps := ["state", "way"]) fun _ _ _ _ _ _ us hl => match us, hl with | [_, _], _ => rfl,
    m_begin := PySem.W.mg_of X G a39,
    has_written_T := F40,
    b_has_written_T := F40.binds (ps := ["self", "key"]) fun _ _ _ _ _ _ us hl => match us, hl with | [_, _], _ => rfl,
    mt_has_written_T := ⟨a40, i40, k40⟩,
    note_read_T := F41,
    b_note_read_T := F41.binds (ps := ["self", "lo", "hi"]) fun _ _ _ _ _ _ us hl => match us, hl with | [_, _, _], _ => rfl,
    mt_note_read_T := ⟨a41, i41, k41⟩,
    value_at_T := F42,
    b_value_at_T := F42.binds (ps := ["self", "key"]) fun _ _ _ _ _ _ us hl => match us, hl with | [_, _], _ => rfl,
    mt_value_at_T := ⟨a42, i42, k42⟩,
    may_read_T := F43,
    b_may_read_T := F43.binds (ps := ["self"]) fun _ _ _ _ _ _ us hl => match us, hl with | [_], _ => rfl,
    mt_may_read_T := ⟨a43, i43, k43⟩,
    read := F44,
    b_read := F44.binds (ps := ["transaction", "key"]) fun _ _ _ _ _ _ us hl => match us, hl with | [_, _], _ => rfl,
    m_read := PySem.W.mg_of X G a44,
    seen_T := F45,
    b_seen_T := F45.binds (ps := ["self"]) fun _ _ _ _ _ _ us hl => match us, hl with | [_], _ => rfl,
    mt_seen_T := ⟨a45, i45, k45⟩,
    read_range := F46,
    b_read_range := F46.binds (ps := ["transaction", "lo", "hi"]) fun _ _ _ _ _ _ us hl => match us, hl with | [_, _, _], _ => rfl,
    m_read_range := PySem.W.mg_of X G a46,
    write_T := F47,
    b_write_T := F47.binds (ps := ["self", "key", "value"]) fun _ _ _ _ _ _ us hl => match us, hl with | [_, _, _], _ => rfl,
    mt_write_T := ⟨a47, i47, k47⟩,
    write := F48,
    b_write := F48.binds (ps := ["transaction", "key", "value"]) fun _ _ _ _ _ _ us hl => match us, hl with | [_, _, _], _ => rfl,
    m_write := PySem.W.mg_of X G a48,
    take_out_T := F49,
    b_take_out_T := F49.binds (ps := ["self", "key"]) fun _ _ _ _ _ _ us hl => match us, hl with | [_, _], _ => rfl,
    mt_take_out_T := ⟨a49, i49, k49⟩,
    delete := F50,
    b_delete := F50.binds (ps := ["transaction", "key"]) fun _ _ _ _ _ _ us hl => match us, hl with | [_, _], _ => rfl,
    m_delete := PySem.W.mg_of X G a50,
    may_mark_T := F51,
    b_may_mark_T := F51.binds (ps := ["self"]) fun _ _ _ _ _ _ us hl => match us, hl with | [_], _ => rfl,
    mt_may_mark_T := ⟨a51, i51, k51⟩,
    mark_T := F52,
    b_mark_T := F52.binds (ps := ["self"]) fun _ _ _ _ _ _ us hl => match us, hl with | [_], _ => rfl,
    mt_mark_T := ⟨a52, i52, k52⟩,
    mark := F53,
    b_mark := F53.binds (ps := ["transaction"]) fun _ _ _ _ _ _ us hl => match us, hl with | [_], _ => rfl,
    m_mark := PySem.W.mg_of X G a53,
    go_back_T := F54,
    b_go_back_T := F54.binds (ps := ["self", "number"]) fun _ _ _ _ _ _ us hl => match us, hl with | [_, _], _ => rfl,
    mt_go_back_T := ⟨a54, i54, k54⟩,
    has_mark_T := F55,
    b_has_mark_T := F55.binds (ps := ["self", "number"]) fun _ _ _ _ _ _ us hl => match us, hl with | [_, _], _ => rfl,
    mt_has_mark_T := ⟨a55, i55, k55⟩,
    back := F56,
    b_back := F56.binds (ps := ["transaction", "number"]) fun _ _ _ _ _ _ us hl => match us, hl with | [_, _], _ => rfl,
    m_back := PySem.W.mg_of X G a56,
    end_S := F57,
    b_end_S := F57.binds (ps := ["self", "number"]) fun _ _ _ _ _ _ us hl => match us, hl with | [_, _], _ => rfl,
    mt_end_S := ⟨a57, i57, k57⟩,
    has_read_T := F58,
    b_has_read_T := F58.binds (ps := ["self", "key"]) fun _ _ _ _ _ _ us hl => match us, hl with | [_, _], _ => rfl,
    mt_has_read_T := ⟨a58, i58, k58⟩,
    minds_T := F59,
    b_minds_T := F59.binds (ps := ["self", "key"]) fun _ _ _ _ _ _ us hl => match us, hl with | [_, _], _ => rfl,
    mt_minds_T := ⟨a59, i59, k59⟩,
    clash_of_S := F60,
    b_clash_of_S := F60.binds (ps := ["self", "transaction"]) fun _ _ _ _ _ _ us hl => match us, hl with | [_, _], _ => rfl,
    mt_clash_of_S := ⟨a60, i60, k60⟩,
    add_commit_H := F61,
    b_add_commit_H := F61.binds (ps := ["self", "writes"]) fun _ _ _ _ _ _ us hl => match us, hl with | [_, _], _ => rfl,
    mt_add_commit_H := ⟨a61, i61, k61⟩,
    commit := F62,
    b_commit := F62.binds (ps := ["state", "number"]) fun _ _ _ _ _ _ us hl => match us, hl with | [_, _], _ => rfl,
    m_commit := PySem.W.mg_of X G a62,
    abort := F63,
    b_abort := F63.binds (ps := ["state", "number"]) fun _ _ _ _ _ _ us hl => match us, hl with | [_, _], _ => rfl,
    m_abort := PySem.W.mg_of X G a63,
    answer_within := F64,
    b_answer_within := F64.binds (ps := ["transaction", "call", "given"]) fun _ _ _ _ _ _ us hl => match us, hl with | [_, _, _], _ => rfl,
    m_answer_within := PySem.W.mg_of X G a64,
    answer_of_transaction := F65,
    b_answer_of_transaction := F65.binds (ps := ["state", "call", "given"]) fun _ _ _ _ _ _ us hl => match us, hl with | [_, _, _], _ => rfl,
    m_answer_of_transaction := PySem.W.mg_of X G a65,
    answer_of_past := F66,
    b_answer_of_past := F66.binds (ps := ["history", "call", "given"]) fun _ _ _ _ _ _ us hl => match us, hl with | [_, _, _], _ => rfl,
    m_answer_of_past := PySem.W.mg_of X G a66,
    answer := F67,
    b_answer := F67.binds (ps := ["state", "call", "given"]) fun _ _ _ _ _ _ us hl => match us, hl with | [_, _, _], _ => rfl,
    m_answer := PySem.W.mg_of X G a67,
    count_given := F68,
    b_count_given := F68.binds (ps := ["calls", "place"]) fun _ _ _ _ _ _ us hl => match us, hl with | [_, _], _ => rfl,
    m_count_given := PySem.W.mg_of X G a68,
    initState := F69,
    b_initState := F69.binds (ps := ["self"]) fun _ _ _ _ _ _ us hl => match us, hl with | [_], _ => rfl,
    answers := F70,
    b_answers := F70.binds (ps := ["calls"]) fun _ _ _ _ _ _ us hl => match us, hl with | [_], _ => rfl,
    m_answers := PySem.W.mg_of X G a70,
    clH := ⟨pg_H, hd_H, po_H, sa_H⟩,
    mkH := ⟨mk_H, a16, i16, kc_H⟩,
    mgH := PySem.W.mg_of X G a_cH,
    nH_base := nH_base,
    nH_base_store := nH_base_store,
    nH_commits := nH_commits,
    nH_newest := nH_newest,
    clT := ⟨pg_T, hd_T, po_T, sa_T⟩,
    mkT := ⟨mk_T, a37, i37, kc_T⟩,
    mgT := PySem.W.mg_of X G a_cT,
    nT_way := nT_way,
    nT_sees := nT_sees,
    nT_store := nT_store,
    nT_writes := nT_writes,
    nT_reads := nT_reads,
    nT_marks := nT_marks,
    clS := ⟨pg_S, hd_S, po_S, sa_S⟩,
    mkS := ⟨mk_S, a69, i69, kc_S⟩,
    mgS := PySem.W.mg_of X G a_cS,
    nS_history := nS_history,
    nS_safe := nS_safe,
    nS_transactions := nS_transactions,
    nS_begun := nS_begun,
    HIGHEST_KEY := ⟨_, PySem.W.mg_of X G g_HIGHEST_KEY⟩,
    HIGHEST_VALUE := ⟨_, PySem.W.mg_of X G g_HIGHEST_VALUE⟩,
    HIGHEST_BASE := ⟨_, PySem.W.mg_of X G g_HIGHEST_BASE⟩,
    MOST_KEYS := ⟨_, PySem.W.mg_of X G g_MOST_KEYS⟩,
    MODULUS := ⟨_, PySem.W.mg_of X G g_MODULUS⟩,
    WRONG := ⟨_, PySem.W.mg_of X G g_WRONG⟩,
    NO_LOG := ⟨_, PySem.W.mg_of X G g_NO_LOG⟩,
    STILL_SEEN := ⟨_, PySem.W.mg_of X G g_STILL_SEEN⟩,
    NONE_SUCH := ⟨_, PySem.W.mg_of X G g_NONE_SUCH⟩,
    CLASH := ⟨_, PySem.W.mg_of X G g_CLASH⟩,
    FULL := ⟨_, PySem.W.mg_of X G g_FULL⟩,
    NO_SUCH_NUMBER := ⟨_, PySem.W.mg_of X G g_NO_SUCH_NUMBER⟩,
    HIGHEST_WAY := ⟨_, PySem.W.mg_of X G g_HIGHEST_WAY⟩,
    MOST_READS := ⟨_, PySem.W.mg_of X G g_MOST_READS⟩,
    MOST_MARKS := ⟨_, PySem.W.mg_of X G g_MOST_MARKS⟩,
    MOST_TRANSACTIONS := ⟨_, PySem.W.mg_of X G g_MOST_TRANSACTIONS⟩,
    BEGIN := ⟨_, PySem.W.mg_of X G g_BEGIN⟩,
    READ := ⟨_, PySem.W.mg_of X G g_READ⟩,
    RANGE := ⟨_, PySem.W.mg_of X G g_RANGE⟩,
    WRITE := ⟨_, PySem.W.mg_of X G g_WRITE⟩,
    DELETE := ⟨_, PySem.W.mg_of X G g_DELETE⟩,
    MARK := ⟨_, PySem.W.mg_of X G g_MARK⟩,
    COMMIT := ⟨_, PySem.W.mg_of X G g_COMMIT⟩,
    ABORT := ⟨_, PySem.W.mg_of X G g_ABORT⟩,
    AT := ⟨_, PySem.W.mg_of X G g_AT⟩,
    ALL := ⟨_, PySem.W.mg_of X G g_ALL⟩,
    CHANGES := ⟨_, PySem.W.mg_of X G g_CHANGES⟩,
    VACUUM := ⟨_, PySem.W.mg_of X G g_VACUUM⟩,
    SYNC := ⟨_, PySem.W.mg_of X G g_SYNC⟩,
    CRASH := ⟨_, PySem.W.mg_of X G g_CRASH⟩,
    RECOVER := ⟨_, PySem.W.mg_of X G g_RECOVER⟩,
    SHAPE := ⟨_, PySem.W.mg_of X G g_SHAPE⟩,
    GIVEN := ⟨fun H => .inr ⟨_, _, _, l_GIVEN, rfl, rfl, by show 18 ≤ sizeLine; decide, (.cons ⟨u0, rfl⟩ (.cons ⟨u1, rfl⟩ (.cons ⟨u2, rfl⟩ (.cons ⟨u3, rfl⟩ (.cons ⟨u4, rfl⟩ (.cons ⟨u5, rfl⟩ (.cons ⟨u6, rfl⟩ (.cons ⟨u7, rfl⟩ (.cons ⟨u8, rfl⟩ (.cons ⟨u9, rfl⟩ (.cons ⟨u10, rfl⟩ (.cons ⟨u11, rfl⟩ (.cons ⟨u12, rfl⟩ (.cons ⟨u13, rfl⟩ (.cons ⟨u14, rfl⟩ (.cons ⟨u15, rfl⟩ (.cons ⟨u16, rfl⟩ (.cons ⟨u17, rfl⟩ .nil))))))))))))))))))⟩, PySem.W.mg_of X G a_GIVEN⟩,
    range := PySem.W.mg_none_of X G z_range,
    len := PySem.W.mg_none_of X G z_len,
    dict := PySem.W.mg_none_of X G z_dict,
    sorted := PySem.W.mg_none_of X G z_sorted,
    enumerate := PySem.W.mg_none_of X G z_enumerate }
/-- answers' promise -/
def spA (K : PySem.W.Frag) : Sp := fun vs H Q _ => ∃ (p : Addr) (ns : List Nat) (tc : List Tx.Call), vs = [.ref p] ∧ SqL K H p ((ofN ns).map V.int) ∧ Line ns tc ∧ tc.length ≤ 200 ∧ ns.length ≤ 16000 ∧ ∀ H' q, H' q = some (li (run Tx.start tc)) → Q (.ref q) H'
theorem whole {P : Program} {w : World} {K : PySem.W.Frag} {mg : Str → Option Value} {a : Ad} (T : Txt K mg a) :
    ∃ fd : FuncData, (∀ (s : Shared) (us : List Value), us.length = (["calls"] : List Str).length → BindsTo s fd ⟨us, []⟩ ((["calls"] : List Str).zip us)) ∧ ∀ base : Heap, FnOk P w K mg base CX0 8 a.answers fd ["calls"] (spA K) := by
  refine ⟨a.fd_answers, fun s us hu => ?_, fun base => ok_answers T⟩
  obtain ⟨oc, od, kV, doc, pm, an, cdv, ct, osl, e, lk, hcd⟩ := T.answers.ex
  rw [e]
  match us, hu with
  | [_], _ => exact .of_eq rfl
end My

end
set_option linter.all false
set_option Elab.async false
/- names that the head would give to quick forms of its heaps, taken here: it goes without them, and the text stays small when it is compiled -/
theorem PySem.W.Fast.tw349655428026183637 : True := trivial
theorem PySem.W.Fast.tw14823533971552561142 : True := trivial
theorem PySem.W.Fast.tw10730387302461139454 : True := trivial
theorem PySem.W.Fast.tw72764362198833448 : True := trivial
theorem PySem.W.Fast.tw11966311263289776567 : True := trivial
theorem PySem.W.Fast.tw8075300796518142480 : True := trivial
theorem PySem.W.Fast.tw11678743625479013845 : True := trivial
theorem PySem.W.Fast.tw10913598933442579122 : True := trivial
theorem PySem.W.Fast.tw2520593762768705529 : True := trivial
theorem PySem.W.Fast.tw17674975675651030618 : True := trivial
theorem PySem.W.Fast.tw14485241489443260356 : True := trivial
theorem PySem.W.Fast.tw15113426820203922794 : True := trivial
theorem PySem.W.Fast.tw12420763166125206611 : True := trivial
theorem PySem.W.Fast.tw2594836414328427506 : True := trivial
theorem PySem.W.Fast.tw657780455416833469 : True := trivial
theorem PySem.W.Fast.tw8524513469513931355 : True := trivial
theorem PySem.W.Fast.tw14331669879302025146 : True := trivial
theorem PySem.W.Fast.tw1609045844440209573 : True := trivial
theorem PySem.W.Fast.tw13414809226529904172 : True := trivial
theorem PySem.W.Fast.tw15086984693220369764 : True := trivial
theorem PySem.W.Fast.tw11760230462685236064 : True := trivial
theorem PySem.W.Fast.tw3080355842242335362 : True := trivial
theorem PySem.W.Fast.tw13120579887292651013 : True := trivial
theorem PySem.W.Fast.tw12106292154617231145 : True := trivial
open PySem PySem.W PyProof.Rows
set_option maxRecDepth 100000 in
set_option maxHeartbeats 0 in
theorem PySem.Challenge.cw_asalone_s01_answers_holds : PySem.Challenge.rw_asalone_s01_answers.Holds := by
  w_on; k_headS; (case hw => exact ⟨[.list []], by decide +kernel, by decide +kernel⟩)
  k_fillS
  refine L2.walk_specK (r := PySem.Challenge.rw_asalone_s01_answers) (k := 8) (CX := L2.CX0) (ps := ["calls"]) (sp := My.spA) (by decide +kernel) rfl rfl ⟨rfl, by decide, by decide⟩ (fun w h Y => PySem.W.kIn_of Y) ?F ?S (fun _ _ _ _ z => z)
  case F =>
    intro w mg fa h Y KX G hmg
    obtain ⟨a, T, ea⟩ : ∃ a : My.Ad, My.Txt (L2.KOf KX) mg a ∧ a.answers = fa := by
      dsimp only [L2.KOf]
      refine' My.all_mk KX G hmg ?a_cH ?a_cT ?a_cS ?a0 ?l0 ?c0 ?k0 ?a1 ?l1 ?c1 ?k1 ?a2 ?l2 ?c2 ?k2 ?a3 ?l3 ?c3 ?k3 ?a4 ?l4 ?c4 ?k4 ?a5 ?l5 ?c5 ?k5 ?a6 ?l6 ?c6 ?k6 ?a7 ?l7 ?c7 ?k7 ?a8 ?l8 ?c8 ?k8 ?a9 ?l9 ?c9 ?k9 ?a10 ?l10 ?c10 ?k10 ?a11 ?l11 ?c11 ?k11 ?a12 ?l12 ?c12 ?k12 ?a13 ?l13 ?c13 ?k13 ?a14 ?i14 ?l14 ?c14 ?k14 ?a15 ?i15 ?l15 ?c15 ?k15 ?a16 ?i16 ?l16 ?c16 ?k16 ?a17 ?l17 ?c17 ?k17 ?a18 ?i18 ?l18 ?c18 ?k18 ?a19 ?l19 ?c19 ?k19 ?a20 ?l20 ?c20 ?k20 ?a21 ?l21 ?c21 ?k21 ?a22 ?i22 ?l22 ?c22 ?k22 ?a23 ?i23 ?l23 ?c23 ?k23 ?a24 ?i24 ?l24 ?c24 ?k24 ?a25 ?l25 ?c25 ?k25 ?a26 ?i26 ?l26 ?c26 ?k26 ?a27 ?i27 ?l27 ?c27 ?k27 ?a28 ?l28 ?c28 ?k28 ?a29 ?i29 ?l29 ?c29 ?k29 ?a30 ?i30 ?l30 ?c30 ?k30 ?a31 ?l31 ?c31 ?k31 ?a32 ?l32 ?c32 ?k32 ?a33 ?i33 ?l33 ?c33 ?k33 ?a34 ?l34 ?c34 ?k34 ?a35 ?l35 ?c35 ?k35 ?a36 ?i36 ?l36 ?c36 ?k36 ?a37 ?i37 ?l37 ?c37 ?k37 ?a38 ?i38 ?l38 ?c38 ?k38 ?a39 ?l39 ?c39 ?k39 ?a40 ?i40 ?l40 ?c40 ?k40 ?a41 ?i41 ?l41 ?c41 ?k41 ?a42 ?i42 ?l42 ?c42 ?k42 ?a43 ?i43 ?l43 ?c43 ?k43 ?a44 ?l44 ?c44 ?k44 ?a45 ?i45 ?l45 ?c45 ?k45 ?a46 ?l46 ?c46 ?k46 ?a47 ?i47 ?l47 ?c47 ?k47 ?a48 ?l48 ?c48 ?k48 ?a49 ?i49 ?l49 ?c49 ?k49 ?a50 ?l50 ?c50 ?k50 ?a51 ?i51 ?l51 ?c51 ?k51 ?a52 ?i52 ?l52 ?c52 ?k52 ?a53 ?l53 ?c53 ?k53 ?a54 ?i54 ?l54 ?c54 ?k54 ?a55 ?i55 ?l55 ?c55 ?k55 ?a56 ?l56 ?c56 ?k56 ?a57 ?i57 ?l57 ?c57 ?k57 ?a58 ?i58 ?l58 ?c58 ?k58 ?a59 ?i59 ?l59 ?c59 ?k59 ?a60 ?i60 ?l60 ?c60 ?k60 ?a61 ?i61 ?l61 ?c61 ?k61 ?a62 ?l62 ?c62 ?k62 ?a63 ?l63 ?c63 ?k63 ?a64 ?l64 ?c64 ?k64 ?a65 ?l65 ?c65 ?k65 ?a66 ?l66 ?c66 ?k66 ?a67 ?l67 ?c67 ?k67 ?a68 ?l68 ?c68 ?k68 ?a69 ?i69 ?l69 ?c69 ?k69 ?a70 ?l70 ?c70 ?k70 ?pg_H ?hd_H ?po_H ?sa_H ?mk_H ?kc_H ?nH_base ?nH_base_store ?nH_commits ?nH_newest ?pg_T ?hd_T ?po_T ?sa_T ?mk_T ?kc_T ?nT_way ?nT_sees ?nT_store ?nT_writes ?nT_reads ?nT_marks ?pg_S ?hd_S ?po_S ?sa_S ?mk_S ?kc_S ?nS_history ?nS_safe ?nS_transactions ?nS_begun ?g_HIGHEST_KEY ?g_HIGHEST_VALUE ?g_HIGHEST_BASE ?g_MOST_KEYS ?g_MODULUS ?g_WRONG ?g_NO_LOG ?g_STILL_SEEN ?g_NONE_SUCH ?g_CLASH ?g_FULL ?g_NO_SUCH_NUMBER ?g_HIGHEST_WAY ?g_MOST_READS ?g_MOST_MARKS ?g_MOST_TRANSACTIONS ?g_BEGIN ?g_READ ?g_RANGE ?g_WRITE ?g_DELETE ?g_MARK ?g_COMMIT ?g_ABORT ?g_AT ?g_ALL ?g_CHANGES ?g_VACUUM ?g_SYNC ?g_CRASH ?g_RECOVER ?g_SHAPE ?a_GIVEN ?l_GIVEN ?z_range ?z_len ?z_dict ?z_sorted ?z_enumerate
      (case a_cH => k_is)
      (case a_cT => k_is)
      (case a_cS => k_is)
      (case a0 => k_is)
      (case l0 => k_is)
      (case c0 => k_is)
      (case k0 => k_is)
      (case a1 => k_is)
      (case l1 => k_is)
      (case c1 => k_is)
      (case k1 => k_is)
      (case a2 => k_is)
      (case l2 => k_is)
      (case c2 => k_is)
      (case k2 => k_is)
      (case a3 => k_is)
      (case l3 => k_is)
      (case c3 => k_is)
      (case k3 => k_is)
      (case a4 => k_is)
      (case l4 => k_is)
      (case c4 => k_is)
      (case k4 => k_is)
      (case a5 => k_is)
      (case l5 => k_is)
      (case c5 => k_is)
      (case k5 => k_is)
      (case a6 => k_is)
      (case l6 => k_is)
      (case c6 => k_is)
      (case k6 => k_is)
      (case a7 => k_is)
      (case l7 => k_is)
      (case c7 => k_is)
      (case k7 => k_is)
      (case a8 => k_is)
      (case l8 => k_is)
      (case c8 => k_is)
      (case k8 => k_is)
      (case a9 => k_is)
      (case l9 => k_is)
      (case c9 => k_is)
      (case k9 => k_is)
      (case a10 => k_is)
      (case l10 => k_is)
      (case c10 => k_is)
      (case k10 => k_is)
      (case a11 => k_is)
      (case l11 => k_is)
      (case c11 => k_is)
      (case k11 => k_is)
      (case a12 => k_is)
      (case l12 => k_is)
      (case c12 => k_is)
      (case k12 => k_is)
      (case a13 => k_is)
      (case l13 => k_is)
      (case c13 => k_is)
      (case k13 => k_is)
      (case a14 => k_is)
      (case i14 => k_is)
      (case l14 => k_is)
      (case c14 => k_is)
      (case k14 => k_is)
      (case a15 => k_is)
      (case i15 => k_is)
      (case l15 => k_is)
      (case c15 => k_is)
      (case k15 => k_is)
      (case a16 => k_is)
      (case i16 => k_is)
      (case l16 => k_is)
      (case c16 => k_is)
      (case k16 => k_is)
      (case a17 => k_is)
      (case l17 => k_is)
      (case c17 => k_is)
      (case k17 => k_is)
      (case a18 => k_is)
      (case i18 => k_is)
      (case l18 => k_is)
      (case c18 => k_is)
      (case k18 => k_is)
      (case a19 => k_is)
      (case l19 => k_is)
      (case c19 => k_is)
      (case k19 => k_is)
      (case a20 => k_is)
      (case l20 => k_is)
      (case c20 => k_is)
      (case k20 => k_is)
      (case a21 => k_is)
      (case l21 => k_is)
      (case c21 => k_is)
      (case k21 => k_is)
      (case a22 => k_is)
      (case i22 => k_is)
      (case l22 => k_is)
      (case c22 => k_is)
      (case k22 => k_is)
      (case a23 => k_is)
      (case i23 => k_is)
      (case l23 => k_is)
      (case c23 => k_is)
      (case k23 => k_is)
      (case a24 => k_is)
      (case i24 => k_is)
      (case l24 => k_is)
      (case c24 => k_is)
      (case k24 => k_is)
      (case a25 => k_is)
      (case l25 => k_is)
      (case c25 => k_is)
      (case k25 => k_is)
      (case a26 => k_is)
      (case i26 => k_is)
      (case l26 => k_is)
      (case c26 => k_is)
      (case k26 => k_is)
      (case a27 => k_is)
      (case i27 => k_is)
      (case l27 => k_is)
      (case c27 => k_is)
      (case k27 => k_is)
      (case a28 => k_is)
      (case l28 => k_is)
      (case c28 => k_is)
      (case k28 => k_is)
      (case a29 => k_is)
      (case i29 => k_is)
      (case l29 => k_is)
      (case c29 => k_is)
      (case k29 => k_is)
      (case a30 => k_is)
      (case i30 => k_is)
      (case l30 => k_is)
      (case c30 => k_is)
      (case k30 => k_is)
      (case a31 => k_is)
      (case l31 => k_is)
      (case c31 => k_is)
      (case k31 => k_is)
      (case a32 => k_is)
      (case l32 => k_is)
      (case c32 => k_is)
      (case k32 => k_is)
      (case a33 => k_is)
      (case i33 => k_is)
      (case l33 => k_is)
      (case c33 => k_is)
      (case k33 => k_is)
      (case a34 => k_is)
      (case l34 => k_is)
      (case c34 => k_is)
      (case k34 => k_is)
      (case a35 => k_is)
      (case l35 => k_is)
      (case c35 => k_is)
      (case k35 => k_is)
      (case a36 => k_is)
      (case i36 => k_is)
      (case l36 => k_is)
      (case c36 => k_is)
      (case k36 => k_is)
      (case a37 => k_is)
      (case i37 => k_is)
      (case l37 => k_is)
      (case c37 => k_is)
      (case k37 => k_is)
      (case a38 => k_is)
      (case i38 => k_is)
      (case l38 => k_is)
      (case c38 => k_is)
      (case k38 => k_is)
      (case a39 => k_is)
      (case l39 => k_is)
      (case c39 => k_is)
      (case k39 => k_is)
      (case a40 => k_is)
      (case i40 => k_is)
      (case l40 => k_is)
      (case c40 => k_is)
      (case k40 => k_is)
      (case a41 => k_is)
      (case i41 => k_is)
      (case l41 => k_is)
      (case c41 => k_is)
      (case k41 => k_is)
      (case a42 => k_is)
      (case i42 => k_is)
      (case l42 => k_is)
      (case c42 => k_is)
      (case k42 => k_is)
      (case a43 => k_is)
      (case i43 => k_is)
      (case l43 => k_is)
      (case c43 => k_is)
      (case k43 => k_is)
      (case a44 => k_is)
      (case l44 => k_is)
      (case c44 => k_is)
      (case k44 => k_is)
      (case a45 => k_is)
      (case i45 => k_is)
      (case l45 => k_is)
      (case c45 => k_is)
      (case k45 => k_is)
      (case a46 => k_is)
      (case l46 => k_is)
      (case c46 => k_is)
      (case k46 => k_is)
      (case a47 => k_is)
      (case i47 => k_is)
      (case l47 => k_is)
      (case c47 => k_is)
      (case k47 => k_is)
      (case a48 => k_is)
      (case l48 => k_is)
      (case c48 => k_is)
      (case k48 => k_is)
      (case a49 => k_is)
      (case i49 => k_is)
      (case l49 => k_is)
      (case c49 => k_is)
      (case k49 => k_is)
      (case a50 => k_is)
      (case l50 => k_is)
      (case c50 => k_is)
      (case k50 => k_is)
      (case a51 => k_is)
      (case i51 => k_is)
      (case l51 => k_is)
      (case c51 => k_is)
      (case k51 => k_is)
      (case a52 => k_is)
      (case i52 => k_is)
      (case l52 => k_is)
      (case c52 => k_is)
      (case k52 => k_is)
      (case a53 => k_is)
      (case l53 => k_is)
      (case c53 => k_is)
      (case k53 => k_is)
      (case a54 => k_is)
      (case i54 => k_is)
      (case l54 => k_is)
      (case c54 => k_is)
      (case k54 => k_is)
      (case a55 => k_is)
      (case i55 => k_is)
      (case l55 => k_is)
      (case c55 => k_is)
      (case k55 => k_is)
      (case a56 => k_is)
      (case l56 => k_is)
      (case c56 => k_is)
      (case k56 => k_is)
      (case a57 => k_is)
      (case i57 => k_is)
      (case l57 => k_is)
      (case c57 => k_is)
      (case k57 => k_is)
      (case a58 => k_is)
      (case i58 => k_is)
      (case l58 => k_is)
      (case c58 => k_is)
      (case k58 => k_is)
      (case a59 => k_is)
      (case i59 => k_is)
      (case l59 => k_is)
      (case c59 => k_is)
      (case k59 => k_is)
      (case a60 => k_is)
      (case i60 => k_is)
      (case l60 => k_is)
      (case c60 => k_is)
      (case k60 => k_is)
      (case a61 => k_is)
      (case i61 => k_is)
      (case l61 => k_is)
      (case c61 => k_is)
      (case k61 => k_is)
      (case a62 => k_is)
      (case l62 => k_is)
      (case c62 => k_is)
      (case k62 => k_is)
      (case a63 => k_is)
      (case l63 => k_is)
      (case c63 => k_is)
      (case k63 => k_is)
      (case a64 => k_is)
      (case l64 => k_is)
      (case c64 => k_is)
      (case k64 => k_is)
      (case a65 => k_is)
      (case l65 => k_is)
      (case c65 => k_is)
      (case k65 => k_is)
      (case a66 => k_is)
      (case l66 => k_is)
      (case c66 => k_is)
      (case k66 => k_is)
      (case a67 => k_is)
      (case l67 => k_is)
      (case c67 => k_is)
      (case k67 => k_is)
      (case a68 => k_is)
      (case l68 => k_is)
      (case c68 => k_is)
      (case k68 => k_is)
      (case a69 => k_is)
      (case i69 => k_is)
      (case l69 => k_is)
      (case c69 => k_is)
      (case k69 => k_is)
      (case a70 => k_is)
      (case l70 => k_is)
      (case c70 => k_is)
      (case k70 => k_is)
      (case pg_H => k_is)
      (case hd_H => k_is)
      (case po_H => k_is)
      (case sa_H => k_is)
      (case mk_H => k_is)
      (case kc_H => k_is)
      (case nH_base => k_is)
      (case nH_base_store => k_is)
      (case nH_commits => k_is)
      (case nH_newest => k_is)
      (case pg_T => k_is)
      (case hd_T => k_is)
      (case po_T => k_is)
      (case sa_T => k_is)
      (case mk_T => k_is)
      (case kc_T => k_is)
      (case nT_way => k_is)
      (case nT_sees => k_is)
      (case nT_store => k_is)
      (case nT_writes => k_is)
      (case nT_reads => k_is)
      (case nT_marks => k_is)
      (case pg_S => k_is)
      (case hd_S => k_is)
      (case po_S => k_is)
      (case sa_S => k_is)
      (case mk_S => k_is)
      (case kc_S => k_is)
      (case nS_history => k_is)
      (case nS_safe => k_is)
      (case nS_transactions => k_is)
      (case nS_begun => k_is)
      (case g_HIGHEST_KEY => k_is)
      (case g_HIGHEST_VALUE => k_is)
      (case g_HIGHEST_BASE => k_is)
      (case g_MOST_KEYS => k_is)
      (case g_MODULUS => k_is)
      (case g_WRONG => k_is)
      (case g_NO_LOG => k_is)
      (case g_STILL_SEEN => k_is)
      (case g_NONE_SUCH => k_is)
      (case g_CLASH => k_is)
      (case g_FULL => k_is)
      (case g_NO_SUCH_NUMBER => k_is)
      (case g_HIGHEST_WAY => k_is)
      (case g_MOST_READS => k_is)
      (case g_MOST_MARKS => k_is)
      (case g_MOST_TRANSACTIONS => k_is)
      (case g_BEGIN => k_is)
      (case g_READ => k_is)
      (case g_RANGE => k_is)
      (case g_WRITE => k_is)
      (case g_DELETE => k_is)
      (case g_MARK => k_is)
      (case g_COMMIT => k_is)
      (case g_ABORT => k_is)
      (case g_AT => k_is)
      (case g_ALL => k_is)
      (case g_CHANGES => k_is)
      (case g_VACUUM => k_is)
      (case g_SYNC => k_is)
      (case g_CRASH => k_is)
      (case g_RECOVER => k_is)
      (case g_SHAPE => k_is)
      (case a_GIVEN => k_is)
      (case l_GIVEN => k_is)
      (case z_range => k_is)
      (case z_len => k_is)
      (case z_dict => k_is)
      (case z_sorted => k_is)
      (case z_enumerate => k_is)
    subst ea
    obtain ⟨fd, hb, hF⟩ := My.whole T
    exact ⟨fd, hb, fun base _ _ => hF base⟩
  case S =>
    intro K H xs a hO hwi hask hx
    cases hx with
    | cons h1 h2 =>
      cases h2
      cases h1 with
      | lst hs ha =>
        have e := L2.ints_dw a.1 _ ha
        subst e
        have q : ((Codec.inLen 0 16000 a.1 && a.1.all (Codec.inInt 0 9223372036854775807)) && true) = true := hwi
        rw [Bool.and_eq_true, Bool.and_eq_true] at q
        have hk : PyWrtxns.answers_asked a.1 = true := hask
        obtain ⟨ns, tc, e1, hl, ht, ea⟩ := TxM.due (fun x hx => (Codec.inInt_iff.mp (List.all_eq_true.mp q.1.2 x hx)).1) hk
        have hlen := (Codec.inNat_iff.mp q.1.1).2
        rw [e1] at hs hlen
        rw [TxM.ofN_length] at hlen
        refine ⟨_, ns, tc, rfl, hs, hl, ht, hlen, fun H' p hp => ?_⟩
        have hp' : H' p = some (.lst ((PyWrtxns.answers a.1).map L2.V.int)) := by rw [ea]; exact hp
        exact .lst (L2.SqL.of hp') (L2.dw_ints _)
#print axioms PySem.Challenge.cw_asalone_s01_answers_holds

