import PyProof.Rows.All
import Wide.All
import OpenK.AllK
import Wide.FinOn
import PyProof.EqAt
import PyProof.EqKinds
import PyProof.TupleCall
import KE.BitLaws
import Open.SpecLaws
import KE.OsHead
import KE.OsGo
import KE.KTryMore
import KE.KItemsList
import PySem.Challenge.RW_relationsheld_s01_answers
import PyProof.ExcBaseAll.Exception
set_option Elab.async false
set_option linter.all false
-- part PpLayerCut
section
set_option Elab.async false
set_option linter.all false
set_option maxRecDepth 100000
namespace L2
open PySem PySem.Spec PyProof.Rows

abbrev Key := Sum Int Str
def keyIs : Key → Value → Bool
  | .inl k, v => Value.isInt k v
  | .inr x, v => Value.isStrOf x v
def keyH (w : World) : Key → Int
  | .inl k => hashInt k
  | .inr x => hashStr w x
theorem keyIs_shape : ∀ {k : Key} {v : Value}, keyIs k v = true → (∃ i t, k = Sum.inl i ∧ v = Value.int i t) ∨ (∃ x t, k = Sum.inr x ∧ v = Value.str x t)
  | .inl i, v, h => by
    obtain ⟨t, e⟩ := Value.isInt_shape (k := i) (v := v) h
    exact .inl ⟨i, t, rfl, e⟩
  | .inr x, v, h => by
    obtain ⟨t, e⟩ := Value.isStrOf_shape (x := x) (v := v) h
    exact .inr ⟨x, t, rfl, e⟩
theorem key_ll (a b : Int) : decide ((Sum.inl a : Key) = Sum.inl b) = (a == b) := by
  by_cases e : a = b
  · subst e; simp
  · have h : ¬ (Sum.inl a : Key) = Sum.inl b := fun q => e (Sum.inl.inj q)
    rw [decide_eq_false h]
    exact (beq_eq_false_iff_ne.mpr e).symm
theorem key_rr (a b : Str) : decide ((Sum.inr a : Key) = Sum.inr b) = decide (a = b) := by
  by_cases e : a = b
  · subst e; simp
  · have h : ¬ (Sum.inr a : Key) = Sum.inr b := fun q => e (Sum.inr.inj q)
    rw [decide_eq_false h, decide_eq_false e]
theorem key_lr (a : Int) (b : Str) : decide ((Sum.inl a : Key) = Sum.inr b) = false := decide_eq_false (fun q => nomatch q)
theorem key_rl (a : Str) (b : Int) : decide ((Sum.inr a : Key) = Sum.inl b) = false := decide_eq_false (fun q => nomatch q)

def mixKind (prog : Program) (w : World) : PySem.KeyKind prog w Key where
  is := keyIs
  hash := keyH w
  inj := fun v a b ha hb => by
    rcases keyIs_shape ha with ⟨i, t, rfl, rfl⟩ | ⟨x, t, rfl, rfl⟩
    · rcases keyIs_shape hb with ⟨j, u, rfl, e⟩ | ⟨y, u, rfl, e⟩
      · injection e with e1 _; rw [e1]
      · exact nomatch e
    · rcases keyIs_shape hb with ⟨j, u, rfl, e⟩ | ⟨y, u, rfl, e⟩
      · exact nomatch e
      · injection e with e1 _; rw [e1]
  byValue := fun k v h => by
    rcases keyIs_shape h with ⟨i, t, rfl, rfl⟩ | ⟨x, t, rfl, rfl⟩ <;> rfl
  pyHash := fun hv h => by
    rcases keyIs_shape hv with ⟨i, t, rfl, rfl⟩ | ⟨x, t, rfl, rfl⟩
    · exact wpAny_pyHash_int h
    · exact wpAny_pyHash_str h
  eqBool := fun hu hv h => by
    rcases keyIs_shape hu with ⟨i, t, rfl, rfl⟩ | ⟨x, t, rfl, rfl⟩
    · rcases keyIs_shape hv with ⟨j, u, rfl, rfl⟩ | ⟨y, u, rfl, rfl⟩
      · rw [key_ll] at h; exact wpAny_eqBool_int h
      · rw [key_lr] at h; exact SeqAt.EqAt.int_str i t y u _ _ _ _ h
    · rcases keyIs_shape hv with ⟨j, u, rfl, rfl⟩ | ⟨y, u, rfl, rfl⟩
      · rw [key_rl] at h; exact SeqAt.EqAt.str_int x t j u _ _ _ _ h
      · rw [key_rr] at h; exact wpAny_eqBool_str h
  «strs» := fun k x t v h => by
    rcases keyIs_shape h with ⟨i, u, rfl, e⟩ | ⟨y, u, rfl, e⟩
    · exact nomatch e
    · injection e with e1 _
      subst e1
      cases v <;> rfl

end L2

namespace L2
open PySem PySem.Spec PyProof.Rows

inductive V where
  | non | bl (b : Bool) | int (i : Int) | str (x : Str) | byt (b : Array UInt8) | flt (b : UInt64) | ref (a : Addr) | ty (n : String)
  deriving DecidableEq

def RelV : V → Value → Prop
  | .non, u => u = Value.none
  | .bl b, u => u = Value.bool b
  | .int i, u => ∃ t, u = Value.int i t
  | .str x, u => ∃ t, u = Value.str x t
  | .byt b, u => ∃ t, u = Value.bytes b t
  | .flt b, u => ∃ t, u = Value.float b t
  | .ref a, u => u = Value.ref a
  | .ty n, u => u = Value.type n

abbrev Vals : List V → List Value → Prop := Paired RelV
theorem Vals.length {xs : List V} {us : List Value} (r : Vals xs us) : xs.length = us.length := Paired.length r
theorem Vals.get : ∀ {xs : List V} {us : List Value} {i : Nat} {x : V}, Vals xs us → xs[i]? = some x → ∃ u, us[i]? = some u ∧ RelV x u
  | _, _, _, _, .nil, e => by simp at e
  | _, _, 0, _, .cons r _, e => by simp at e; subst e; exact ⟨_, rfl, r⟩
  | _, _, i + 1, x, .cons _ t, e => by
    obtain ⟨u, h1, h2⟩ := Vals.get (i := i) (x := x) t (by simpa using e)
    exact ⟨u, by simpa using h1, h2⟩
theorem Vals.append : ∀ {xs ys : List V} {us ws : List Value}, Vals xs us → Vals ys ws → Vals (xs ++ ys) (us ++ ws)
  | _, _, _, _, .nil, s => s
  | _, _, _, _, .cons r t, s => .cons r (Vals.append t s)
theorem Vals.take : ∀ {xs : List V} {us : List Value} (n : Nat), Vals xs us → Vals (xs.take n) (us.take n)
  | _, _, 0, _ => .nil
  | _, _, _ + 1, .nil => .nil
  | _, _, n + 1, .cons r t => .cons r (Vals.take n t)
theorem Vals.drop : ∀ {xs : List V} {us : List Value} (n : Nat), Vals xs us → Vals (xs.drop n) (us.drop n)
  | _, _, 0, r => r
  | _, _, _ + 1, .nil => .nil
  | _, _, n + 1, .cons _ t => Vals.drop n t
def RelO : Option V → Option Value → Prop
  | some v, some u => RelV v u
  | none, none => True
  | _, _ => False
def KV {κ : Type} : List (κ × V) → List (κ × Value) → Prop := Paired fun (p : κ × V) (q : κ × Value) => p.1 = q.1 ∧ RelV p.2 q.2

def kV : Key → V
  | .inl i => .int i
  | .inr x => .str x

inductive HO where
  /-- a list -/
  | lst (xs : List V)
  /-- a tuple (never changes) -/
  | tup (xs : List V)
  /-- a dict whose keys are ints and texts; one whose keys are tuples of ints and texts (the empty one is both) -/
  | dK (kvs : List (Key × V)) | dT (kvs : List (List Key × V))
  /-- a set of ints: its members, its size -/
  | set (S : Int → Bool) (n : Nat)
  /-- an instance of the class at C, its dict at dx, its attributes -/
  | ins (C dx : Addr) (fs : List (Str × V))
  /-- the dict of the instance at x -/
  | own (x : Addr)
  /-- the dict of an exception -/
  | xd (fs : List (Str × V))
  /-- a bound method, f of x -/
  | met (f x : Addr)
  /-- a range object lo, lo + 1, .. below hi -/
  | rng (lo hi : Int)
  /-- a thing that is known to the object (the script; a dict while a loop walks it): read, never written while it is so -/
  | frz (o : Obj) (u : HO)
  /-- a code object's table -/
  | tbl (ps : Array Value)
  /-- any other thing, by what is true of its one object (a def of one's own: SetO a S n := HO.ext fun h => ..) -/
  | ext (φ : Heap → Prop)

abbrev Hp := Addr → Option HO
def upd (H : Hp) (a : Addr) (o : HO) : Hp := fun b => if b = a then some o else H b
theorem upd_same {H : Hp} {a : Addr} {o : HO} : upd H a o a = some o := by unfold upd; rw [if_pos rfl]
theorem upd_ne {H : Hp} {a b : Addr} {o : HO} (h : b ≠ a) : upd H a o b = H b := by unfold upd; rw [if_neg h]
theorem upd_upd {H : Hp} {a : Addr} {o u : HO} : upd (upd H a o) a u = upd H a u := by
  funext b; unfold upd; split <;> rfl
theorem ne_of {H : Hp} {a b : Addr} {o u : HO} (h : H a = some o) (h' : H b = some u) (d : o ≠ u) : a ≠ b := by
  intro e; subst e; rw [h] at h'; exact d (Option.some.inj h')
theorem ne_of_none {H : Hp} {a b : Addr} {o : HO} (h : H a = some o) (h' : H b = none) : a ≠ b := by
  intro e; subst e; rw [h] at h'; cases h'

section
variable (P : Program) (w : World)
def ObjOk (H : Hp) (h : Heap) (a : Addr) : HO → Prop
  | .lst xs => xs.length ≤ sizeLine ∧ ∃ (its : List Value) (n : Nat), Vals xs its ∧ h.get? a = some { cls := .type "list", data := .seq its.toArray n }
  | .tup xs => xs.length ≤ sizeLine ∧ ∃ its : List Value, Vals xs its ∧ IsTup h a its.toArray
  | .dK kvs => kvs.length ≤ sizeLine ∧ (a == sysModules) = false ∧ ∃ vs, KV kvs vs ∧ h.DictOf (mixKind P w) a vs
  | .dT kvs => kvs.length ≤ sizeLine ∧ (a == sysModules) = false ∧ ∃ xs : List (List Key × Addr × Value),
      Paired (fun (p : List Key × V) (q : List Key × Addr × Value) => p.1 = q.1 ∧ H q.2.1 = some (.tup (p.1.map kV)) ∧ RelV p.2 q.2.2) kvs xs ∧
      ∃ o es ep, h.get? a = some o ∧ o.ExactDict ∧ o.data = .dict es ep ∧ es.toList = xs.map (entryOfKey (tupleKind (mixKind P w))) ∧ (xs.map (·.1)).Nodup
  | .set S n => h.SetOf (intKind P w) a S n
  | .ins C dx fs => H dx = some (.own a) ∧ fs.length ≤ 1000 ∧ dx ≠ a ∧ h.get? a = some (PySem.W.instObj C dx) ∧
      ∃ mA, h.Ns1 dx mA ∧ (∀ f, RelO (fs.lookup f) (mA f)) ∧ PySem.Within mA (fs.map (·.1))
  | .own _ => ∃ o, h.get? a = some o
  | .xd fs => ∃ mA, h.Ns1 a mA ∧ ∀ f, RelO (fs.lookup f) (mA f)
  | .rng lo hi => ∃ t u v, h.get? a = some { cls := .type "range", data := .fields #[.int lo t, .int hi u, .int 1 v] }
  | .frz o u => h.get? a = some o ∧ ObjOk H h a u
  | .tbl ps => h.get? a = some { cls := .none, data := .fields ps }
  | .met f x => h.get? a = some (PySem.W.methodObj (.ref f) (.ref x))
  | .ext φ => φ h ∧ (∃ o, h.get? a = some o) ∧ ∀ h1 h2 : Heap, φ h1 → (∀ o, h1.get? a = some o → h2.get? a = some o) → φ h2
def HOk (H : Hp) (h : Heap) : Prop := ∀ a o, H a = some o → ObjOk P w H h a o
end

section
variable {P : Program} {w : World} {H H' : Hp} {h h' : Heap} {a : Addr} {o : HO}
theorem ObjOk.lt (x : ObjOk P w H h a o) : a < h.objs.size := by
  cases o with
  | lst xs => obtain ⟨_, _, _, _, e⟩ := x; exact Heap.lt_size e
  | tup xs => obtain ⟨_, _, _, p⟩ := x; exact p.lt
  | dK kvs => obtain ⟨_, _, _, _, o, _, _, e, _⟩ := x; exact Heap.lt_size e
  | dT kvs => obtain ⟨_, _, _, _, o, _, _, e, _⟩ := x; exact Heap.lt_size e
  | set S n => obtain ⟨o, _, _, _, e, _⟩ := x; exact Heap.lt_size e
  | ins C dx fs => obtain ⟨_, _, _, e, _⟩ := x; exact Heap.lt_size e
  | own y => obtain ⟨_, e⟩ := x; exact Heap.lt_size e
  | xd fs => obtain ⟨_, ⟨_, _, _, e, _⟩, _⟩ := x; exact Heap.lt_size e
  | rng lo hi => obtain ⟨_, _, _, e⟩ := x; exact Heap.lt_size e
  | frz ob u => obtain ⟨e, _⟩ := x; exact Heap.lt_size e
  | tbl ps => exact Heap.lt_size (show h.get? a = some _ from x)
  | met f y => exact Heap.lt_size (show h.get? a = some _ from x)
  | ext φ => obtain ⟨_, ⟨_, e⟩, _⟩ := x; exact Heap.lt_size e
theorem Paired.mapP {α β : Type} {F G : α → β → Prop} : ∀ {l₁ : List α} {l₂ : List β}, Paired F l₁ l₂ → (∀ a b, F a b → G a b) → Paired G l₁ l₂
  | _, _, .nil, _ => .nil
  | _, _, .cons r t, f => .cons (f _ _ r) (Paired.mapP t f)
theorem Paired.imp' {α β : Type} {F G : α → β → Prop} (f : ∀ a b, F a b → G a b) {l₁ : List α} {l₂ : List β} (r : Paired F l₁ l₂) : Paired G l₁ l₂ := Paired.mapP r f
theorem ObjOk.stay (x : ObjOk P w H h a o) (k : ∀ b u, (b = a ∨ H b = some (.own a)) → h.get? b = some u → h'.get? b = some u)
    (ho : ∀ b, H b = some (.own a) → H' b = some (.own a)) (ht : ∀ b xs, H b = some (.tup xs) → H' b = some (.tup xs)) : ObjOk P w H' h' a o := by
  induction o with
  | lst xs => obtain ⟨z, its, n, r, e⟩ := x; exact ⟨z, its, n, r, k _ _ (.inl rfl) e⟩
  | tup xs => obtain ⟨z, its, r, ob, e, c⟩ := x; exact ⟨z, its, r, ob, k _ _ (.inl rfl) e, c⟩
  | dK kvs => obtain ⟨z, y, vs, r, ob, es, ep, e, c⟩ := x; exact ⟨z, y, vs, r, ob, es, ep, k _ _ (.inl rfl) e, c⟩
  | dT kvs =>
    obtain ⟨z, y, xs, r, ob, es, ep, e, c⟩ := x
    exact ⟨z, y, xs, Paired.mapP r fun p q z => ⟨z.1, ht _ _ z.2.1, z.2.2⟩, ob, es, ep, k _ _ (.inl rfl) e, c⟩
  | set S n => obtain ⟨ob, es, ep, t, e, c⟩ := x; exact ⟨ob, es, ep, t, k _ _ (.inl rfl) e, c⟩
  | ins C dx fs =>
    obtain ⟨d, z, ne, e, mA, ⟨od, es, ep, e2, c⟩, r⟩ := x
    exact ⟨ho _ d, z, ne, k _ _ (.inl rfl) e, mA, ⟨od, es, ep, k _ _ (.inr d) e2, c⟩, r⟩
  | own y => obtain ⟨ob, e⟩ := x; exact ⟨ob, k _ _ (.inl rfl) e⟩
  | xd fs => obtain ⟨mA, ⟨od, es, ep, e, c⟩, r⟩ := x; exact ⟨mA, ⟨od, es, ep, k _ _ (.inl rfl) e, c⟩, r⟩
  | rng lo hi => obtain ⟨t, u, v, e⟩ := x; exact ⟨t, u, v, k _ _ (.inl rfl) e⟩
  | frz ob u ih => obtain ⟨e, q⟩ := x; exact ⟨k _ _ (.inl rfl) e, ih q⟩
  | tbl ps =>
    have e : h.get? a = some { cls := .none, data := .fields ps } := x
    show h'.get? a = some { cls := .none, data := .fields ps }
    exact k a _ (.inl rfl) e
  | met f y =>
    have e : h.get? a = some (PySem.W.methodObj (.ref f) (.ref y)) := x
    show h'.get? a = some (PySem.W.methodObj (.ref f) (.ref y))
    exact k a _ (.inl rfl) e
  | ext φ => obtain ⟨p, ⟨o, e⟩, st⟩ := x; exact ⟨st _ _ p fun o q => k _ _ (.inl rfl) q, ⟨o, k _ _ (.inl rfl) e⟩, st⟩
theorem HOk.lt (x : HOk P w H h) (e : H a = some o) : a < h.objs.size := (x a o e).lt
theorem HOk.fresh (x : HOk P w H h) (e : h.objs.size ≤ a) : H a = none := by
  cases q : H a with
  | none => rfl
  | some u => exact absurd (Nat.lt_of_lt_of_le (x.lt q) e) (Nat.lt_irrefl _)
theorem HOk.kept (x : HOk P w H h) (k : ∀ b u, h.get? b = some u → h'.get? b = some u) : HOk P w H h' := fun a o e =>
  (x a o e).stay (fun b u _ q => k b u q) (fun _ q => q) fun _ _ q => q
theorem HOk.laid (x : HOk P w H h) (k : ∀ b u, h.get? b = some u → h'.get? b = some u) (hp : h.objs.size ≤ a) (new : ObjOk P w (upd H a o) h' a o) : HOk P w (upd H a o) h' := fun b u e => by
  have hn := x.fresh hp
  by_cases hb : b = a
  · subst hb; rw [upd_same] at e; cases e; exact new
  · rw [upd_ne hb] at e
    exact (x b u e).stay (fun c v _ q => k c v q) (fun c q => by rw [upd_ne (ne_of_none q hn)]; exact q) fun c xs q => by rw [upd_ne (ne_of_none q hn)]; exact q
end

def Rd (H : Hp) (a : Addr) (u : HO) : Prop := H a = some u ∨ ∃ o, H a = some (.frz o u)
theorem Rd.ok {P : Program} {w : World} {H : Hp} {h : Heap} {a : Addr} {u : HO} (r : Rd H a u) (x : HOk P w H h) : ObjOk P w H h a u := by
  rcases r with r | ⟨o, r⟩
  · exact x a u r
  · obtain ⟨_, q⟩ := x a _ r
    exact q
def Mut : Option HO → Prop
  | some (.lst _) => True
  | some (.dK _) => True
  | some (.dT _) => True
  | some (.set _ _) => True
  | some (.ins _ _ _) => True
  | some (.ext _) => True
  | _ => False
section
variable {P : Program} {w : World} {H : Hp} {h h' : Heap} {x e : Addr} {o' : HO}
theorem HOk.write (ok : HOk P w H h) (mu : Mut (H x)) (he : e = x ∨ H e = some (.own x)) (k : ∀ b u, b ≠ e → h.get? b = some u → h'.get? b = some u) (heo : ∃ u, h'.get? e = some u)
    (new : ObjOk P w (upd H x o') h' x o') : HOk P w (upd H x o') h' := fun b u q => by
  have nown : ∀ c y, H c = some (.own y) → c ≠ x := fun c y r z => by subst z; rw [r] at mu; exact mu
  have ntup : ∀ c xs, H c = some (.tup xs) → c ≠ x := fun c xs r z => by subst z; rw [r] at mu; exact mu
  by_cases hb : b = x
  · subst hb; rw [upd_same] at q; cases q; exact new
  · rw [upd_ne hb] at q
    by_cases hbe : b = e
    · have q' : H b = some (.own x) := by
        rcases he with z | z
        · exact absurd (hbe.trans z) hb
        · rw [hbe]; exact z
      rw [q] at q'; cases q'
      obtain ⟨v, hv⟩ := heo
      exact ⟨v, by rw [hbe]; exact hv⟩
    · refine (ok b u q).stay (fun c v hc r => k c v ?_ r) (fun c r => by rw [upd_ne (nown c b r)]; exact r) fun c xs r => by rw [upd_ne (ntup c xs r)]; exact r
      rcases hc with rfl | hc
      · exact hbe
      · rintro rfl
        rcases he with z | z
        · exact nown c b hc z
        · rw [hc] at z; cases z; exact hb rfl
end

structure Un (fs ex : List Addr) (H H' : Hp) (h h' : Heap) : Prop where
  keep : ∀ b o, h.get? b = some o → H b = none → b ∉ fs → b ∉ ex → h'.get? b = some o
  slot : ∀ b o, h.get? b = some o → H b = none → b ∈ fs → b ∉ ex → ∃ sl, h'.get? b = some { o with slots := sl }
  free : ∀ b o, h.get? b = some o → H b = none → b ∉ ex → H' b = none
  there : ∀ b o, h.get? b = some o → b ∉ ex → ∃ o', h'.get? b = some o'
  tups : ∀ b xs, H b = some (.tup xs) → H' b = some (.tup xs)
  frzs : ∀ b o u, H b = some (.frz o u) → H' b = some (.frz o u)
  tbls : ∀ b ps, H b = some (.tbl ps) → ∃ more, H' b = some (.tbl (ps ++ more))
section
variable {fs fs' ex ex' : List Addr} {H H1 H2 : Hp} {h h1 h2 h' : Heap} {a x e : Addr} {o : HO}
theorem Un.any (u : Un fs ex H H1 h h1) {b : Addr} {ob : Obj} (q : h.get? b = some ob) (n : H b = none) (hx : b ∉ ex) : ∃ sl, h1.get? b = some { ob with slots := sl } := by
  by_cases hb : b ∈ fs
  · exact u.slot b ob q n hb hx
  · exact ⟨ob.slots, u.keep b ob q n hb hx⟩
theorem Un.kept (k : ∀ b u, h.get? b = some u → h'.get? b = some u) : Un fs ex H H h h' :=
  ⟨fun b ob q _ _ _ => k b ob q, fun b ob q _ _ _ => ⟨ob.slots, k b ob q⟩, fun _ _ _ n _ => n, fun b ob q _ => ⟨ob, k b ob q⟩, fun _ _ q => q, fun _ _ _ q => q, fun _ ps q => ⟨#[], by rw [q]; simp⟩⟩
theorem Un.refl : Un fs ex H H h h := Un.kept fun _ _ q => q
theorem Un.laid (k : ∀ b u, h.get? b = some u → h'.get? b = some u) (hp : h.objs.size ≤ a) (hn : H a = none) : Un fs ex H (upd H a o) h h' where
  keep := fun b u q _ _ _ => k b u q
  slot := fun b u q _ _ _ => ⟨u.slots, k b u q⟩
  free := fun b u q n _ => by rw [upd_ne (Nat.ne_of_lt (Nat.lt_of_lt_of_le (Heap.lt_size q) hp))]; exact n
  there := fun b u q _ => ⟨u, k b u q⟩
  tups := fun b xs q => by rw [upd_ne (ne_of_none q hn)]; exact q
  frzs := fun b u xs q => by rw [upd_ne (ne_of_none q hn)]; exact q
  tbls := fun b ps q => ⟨#[], by rw [upd_ne (ne_of_none q hn), q]; simp⟩
theorem Un.write (mu : Mut (H x)) (he : e = x ∨ H e = some (.own x)) (k : ∀ b u, b ≠ e → h.get? b = some u → h'.get? b = some u) (heo : ∃ u, h'.get? e = some u) : Un fs ex H (upd H x o) h h' := by
  have hx : ∀ b, H b = none → b ≠ x := fun b n z => by subst z; rw [n] at mu; exact mu
  have hb : ∀ b, H b = none → b ≠ e := fun b n z => by
    subst z
    rcases he with r | r
    · exact hx b n r
    · rw [n] at r; cases r
  have hm : ∀ b u, H b = some u → ¬ Mut (some u) → b ≠ x := fun b u q nm z => by subst z; rw [q] at mu; exact nm mu
  refine ⟨fun b u q n _ _ => k b u (hb b n) q, fun b u q n _ _ => ⟨u.slots, k b u (hb b n) q⟩, fun b u q n _ => by rw [upd_ne (hx b n)]; exact n, fun b u q _ => ?_,
    fun b xs q => by rw [upd_ne (hm b _ q fun z => z)]; exact q, fun b u xs q => by rw [upd_ne (hm b _ q fun z => z)]; exact q, fun b ps q => ⟨#[], by rw [upd_ne (hm b _ q fun z => z), q]; simp⟩⟩
  by_cases hbe : b = e
  · subst hbe; exact heo
  · exact ⟨u, k b u hbe q⟩
end

def trk (h : Heap) (H : Hp) : List Addr := (List.range h.objs.size).filter fun a => (H a).isSome
def hidT (h : Heap) (H : Hp) : Heap := PySem.W.hideAll h (trk h H)
theorem hidT_size (h : Heap) (H : Hp) : (hidT h H).objs.size = h.objs.size := PySem.W.hideAll_size _ _
theorem hidT_get {h : Heap} {H : Hp} {b : Addr} {o : Obj} (e : h.get? b = some o) (n : H b = none) : (hidT h H).get? b = some o :=
  PySem.W.hideAll_get _ e fun hm => by
    have q : (H b).isSome = true := (List.mem_filter.mp hm).2
    rw [n] at q; simp at q
theorem of_hidT {h : Heap} {H : Hp} {b : Addr} {o : Obj} (e : (hidT h H).get? b = some o) : h.get? b = some o ∧ H b = none := by
  have e' : h.get? b = some o := PySem.W.of_hideAll (trk h H) e
  refine ⟨e', ?_⟩
  cases q : H b with
  | none => rfl
  | some x =>
    have hm : b ∈ trk h H := List.mem_filter.mpr ⟨List.mem_range.mpr (Heap.lt_size e'), by simp [q]⟩
    have z : (hidT h H).get? b = none := PySem.W.hideAll_none (trk h H) hm
    rw [z] at e; cases e

end L2

namespace L2
open PySem PySem.Spec PyProof.Rows

structure Mod (K : PySem.W.Frag) (mg : Str → Option Value) (base : Heap) : Prop where
  kin : K.In base
  glob : base.Ns mainGlobals mg
  blt : ∃ mb, base.Ns builtinsNs mb ∧ ∀ x : Str, x ≠ "__name__" → mb x = bootBuiltins x
  nolimit : base.NoLimit

structure Cx where
  prog : Program
  w : World
  K : PySem.W.Frag
  mg : Str → Option Value
  base : Heap
  A : Around
  N : List Str
  s_0 : Shared
  H_0 : Hp
  env : Env
  outer : List Env
  stack : List Env
  ex : List Addr
  fn : Str → Bool
  calm : Bool
  pn : List (Addr × Obj)
  xe : Value → Shared → Prop
def frs (l : List Env) : List Addr := l.filterMap (·.frame)
abbrev Cx.fs (X : Cx) : List Addr := frs X.outer

def Vis (sc : Scope) (x : Str) : Prop := sc.names.lookup x = some .local ∨ sc.names.lookup x = some .cell ∨ sc.names.lookup x = some .free
def Loc (sc : Scope) (x : Str) : Prop := sc.names.lookup x = some .local ∨ sc.names.lookup x = some .cell
def Look (env : Env) (h : Heap) (m : Str → Option Value) (x : Str) (u : Value) : Prop :=
  (env.kindOf x = some .local ∧ m x = some u) ∨ ((env.kindOf x = some .cell ∨ env.kindOf x = some .free) ∧ ∃ c, env.cells.lookup x = some c ∧ h.IsCell c (some u))

structure Cx.Ok (X : Cx) : Prop where
  mod : Mod X.K X.mg X.base
  kind : X.env.scope.kind = .function
  glob : X.env.globals = mainGlobals
  blt : X.env.builtins = builtinsNs
  above : X.s_0.heap.objs.size ≤ X.env.locals
  inj : ∀ x y c, X.env.cells.lookup x = some c → X.env.cells.lookup y = some c → x = y
  has : ∀ x, (X.env.kindOf x = some .cell ∨ X.env.kindOf x = some .free) → ∃ c, X.env.cells.lookup x = some c
  cab : ∀ x c, X.fn x = true → X.env.cells.lookup x = some c → X.s_0.heap.objs.size ≤ c
  hd : X.calm = true → X.A.handled = none
  frames : X.A.frames = some X.stack
  stk : X.stack = X.outer ∨ (X.stack = X.env :: X.outer ∧ X.env.frame = some X.env.locals)
  exf : ∀ b ∈ X.ex, b ≠ X.env.locals ∧ ∀ x c, X.env.cells.lookup x = some c → c ≠ b
  bs : ∀ b o, X.base.get? b = some o → X.s_0.heap.get? b = some o ∧ X.H_0 b = none
  bsz : X.base.objs.size ≤ X.s_0.heap.objs.size
  noex : ∀ b o, X.base.get? b = some o → b ∉ X.ex
  exfs : ∀ b ∈ X.ex, b ∉ X.fs
  funs : X.s_0.heap.FunFrames X.base X.outer
  frf : ∀ b ∈ X.fs, X.H_0 b = none

structure Inv (X : Cx) (pins : List (Addr × Obj)) (σ : List (Option V)) (H : Hp) (s : Shared) : Prop where
  ok : X.Ok
  os : s.os = X.s_0.os
  bare : AllBare s.gens
  base : Un X.fs X.ex X.H_0 H X.s_0.heap s.heap
  loc : ∃ m, s.heap.Ns X.env.locals m ∧ ∀ (i : Nat) (x : Str) (v : V), X.N[i]? = some x → σ[i]? = some (some v) → Vis X.env.scope x → ∃ u, RelV v u ∧ Look X.env s.heap m x u
  cell : ∀ x c, X.env.cells.lookup x = some c → ∃ v, s.heap.IsCell c v
  free : H X.env.locals = none
  freeC : ∀ x c, X.env.cells.lookup x = some c → H c = none
  pin : ∀ p ∈ X.pn ++ pins, s.heap.get? p.1 = some p.2 ∧ H p.1 = none ∧ p.1 ≠ X.env.locals ∧ p.1 ∉ X.fs ∧ ∀ v, p.2.data ≠ .cell v
  hok : HOk X.prog X.w H s.heap
  len : σ.length = X.N.length

section
variable {X : Cx} {pins : List (Addr × Obj)} {σ : List (Option V)} {H H' : Hp} {s : Shared} {h' : Heap}

theorem Cx.Ok.nofr (ok : X.Ok) {b : Addr} {o : Obj} (e : X.base.get? b = some o) : b ∉ X.fs := fun hb => by
  have := (ok.funs.mem hb).1
  rw [e] at this; cases this
theorem Inv.bs (I : Inv X pins σ H s) : ∀ b o, X.base.get? b = some o → s.heap.get? b = some o ∧ H b = none := fun b o e =>
  ⟨I.base.keep b o (I.ok.bs b o e).1 (I.ok.bs b o e).2 (I.ok.nofr e) (I.ok.noex b o e), I.base.free b o (I.ok.bs b o e).1 (I.ok.bs b o e).2 (I.ok.noex b o e)⟩
theorem Inv.bk (I : Inv X pins σ H s) : ∀ b o, X.base.get? b = some o → s.heap.get? b = some o := fun b o e => (I.bs b o e).1
theorem Inv.mod (I : Inv X pins σ H s) : Mod X.K X.mg X.base := I.ok.mod
theorem Inv.kIn (I : Inv X pins σ H s) : X.K.In s.heap := I.ok.mod.kin.keeps I.bk
theorem Inv.lt (I : Inv X pins σ H s) : X.env.locals < s.heap.objs.size := let ⟨_, hn, _⟩ := I.loc; hn.lt
theorem Inv.sz (I : Inv X pins σ H s) : X.s_0.heap.objs.size ≤ s.heap.objs.size := Nat.le_trans I.ok.above (Nat.le_of_lt I.lt)
theorem Inv.nofs (I : Inv X pins σ H s) {a : Addr} (h : s.heap.objs.size ≤ a) : a ∉ X.fs := fun hb => by
  obtain ⟨_, o, ho, _⟩ := I.ok.funs.mem hb
  exact absurd (Nat.lt_of_lt_of_le (Heap.lt_size ho) (Nat.le_trans I.sz h)) (Nat.lt_irrefl _)
theorem Inv.cne (I : Inv X pins σ H s) : ∀ x c, X.env.cells.lookup x = some c → c ≠ X.env.locals := fun x c e z => by
  obtain ⟨v, o, ho, hd⟩ := I.cell x c e
  obtain ⟨m, ⟨o', es, ep, ho', hd', _⟩, _⟩ := I.loc
  rw [z, ho'] at ho; cases ho; rw [hd'] at hd; cases hd
theorem Inv.funs (I : Inv X pins σ H s) : s.heap.FunFrames X.base X.outer := by
  have all : ∀ (l : List Env), (∀ b ∈ frs l, b ∈ X.fs) → X.s_0.heap.FunFrames X.base l → s.heap.FunFrames X.base l := by
    intro l
    induction l with
    | nil => intro _ _; trivial
    | cons env r ih =>
      intro hs hl
      obtain ⟨hk, ⟨L, o, hf, hn, ho, hd⟩, hr⟩ := hl
      have hL : L ∈ X.fs := hs L (by unfold frs; rw [List.filterMap_cons, hf]; exact List.mem_cons_self)
      obtain ⟨sl, e⟩ := I.base.slot L o ho (I.ok.frf L hL) hL fun z => I.ok.exfs L z hL
      exact ⟨hk, ⟨L, _, hf, hn, e, hd⟩, ih (fun b hb => hs b (by unfold frs; rw [List.filterMap_cons, hf]; exact List.mem_cons_of_mem _ hb)) hr⟩
  exact all X.outer (fun _ hb => hb) I.ok.funs

theorem Inv.stack (I : Inv X pins σ H s) : s.heap.FunFrames X.base X.stack := by
  rcases I.ok.stk with e | ⟨e, hf⟩
  · rw [e]; exact I.funs
  · rw [e]
    obtain ⟨m, hn, _⟩ := I.loc
    refine .cons (by rw [I.ok.kind]; decide) hf hn ?_ I.funs
    exact Heap.get?_none_of_le (Nat.le_trans I.ok.bsz I.ok.above)
theorem Inv.stkSub (I : Inv X pins σ H s) : ∀ b ∈ frs X.stack, b ∈ X.env.locals :: X.fs := fun b hb => by
  rcases I.ok.stk with e | ⟨e, hf⟩
  · rw [e] at hb; exact List.mem_cons_of_mem _ hb
  · rw [e] at hb
    unfold frs at hb
    rw [List.filterMap_cons, hf] at hb
    exact hb
theorem Inv.stkFree (I : Inv X pins σ H s) : ∀ b ∈ frs X.stack, H b = none := fun b hb => by
  rcases List.mem_cons.mp (I.stkSub b hb) with e | hb
  · rw [e]; exact I.free
  · obtain ⟨_, o, ho, _⟩ := I.ok.funs.mem hb
    exact I.base.free b o ho (I.ok.frf b hb) fun z => I.ok.exfs b z hb

theorem Inv.step {g' : Array GenState} {t' : Nat} {d' : Drawn} {ch : List Addr} (I : Inv X pins σ H s)
    (hch : ∀ b ∈ ch, (b ∈ X.ex ∨ X.s_0.heap.objs.size ≤ b) ∧ b ≠ X.env.locals ∧ (∀ x c, X.env.cells.lookup x = some c → c ≠ b) ∧ ∀ p ∈ X.pn ++ pins, p.1 ≠ b)
    (keep : ∀ b o, b ≠ X.env.locals → b ∉ X.fs → b ∉ ch → s.heap.get? b = some o → H b = none → h'.get? b = some o)
    (slot : ∀ b o, b ≠ X.env.locals → b ∈ X.fs → b ∉ ch → s.heap.get? b = some o → H b = none → ∃ sl, h'.get? b = some { o with slots := sl }) (free : ∀ b o, b ∉ ch → s.heap.get? b = some o → H b = none → H' b = none)
    (there : ∀ b o, b ∉ ch → s.heap.get? b = some o → ∃ o', h'.get? b = some o')
    (tups : ∀ b xs, H b = some (.tup xs) → H' b = some (.tup xs)) (frzs : ∀ b o u, H b = some (.frz o u) → H' b = some (.frz o u)) (tbls : ∀ b ps, H b = some (.tbl ps) → ∃ more, H' b = some (.tbl (ps ++ more)))
    (ns : ∀ m, s.heap.Ns X.env.locals m → h'.Ns X.env.locals m) (hok : HOk X.prog X.w H' h') (hg : AllBare g') :
    Inv X pins σ H' { s with heap := h', gens := g', drawn := d', toks := t' } := by
  have neL : ∀ b o, X.s_0.heap.get? b = some o → b ≠ X.env.locals := fun b o e => Nat.ne_of_lt (Nat.lt_of_lt_of_le (Heap.lt_size e) I.ok.above)
  have neC : ∀ b o, X.s_0.heap.get? b = some o → b ∉ X.ex → b ∉ ch := fun b o e hx hb => by
    rcases (hch b hb).1 with z | z
    · exact hx z
    · exact absurd (Nat.lt_of_lt_of_le (Heap.lt_size e) z) (Nat.lt_irrefl _)
  have cellK : ∀ x c, X.env.cells.lookup x = some c → ∀ v, s.heap.IsCell c v → h'.IsCell c v := fun x c e v ⟨o, ho, hd⟩ => by
    have nch : c ∉ ch := fun z => (hch c z).2.2.1 x c e rfl
    by_cases hc : c ∈ X.fs
    · obtain ⟨sl, q⟩ := slot c o (I.cne x c e) hc nch ho (I.freeC x c e)
      exact ⟨_, q, hd⟩
    · exact ⟨o, keep c o (I.cne x c e) hc nch ho (I.freeC x c e), hd⟩
  refine ⟨I.ok, I.os, hg, ⟨fun b o e n hb hx => ?_, fun b o e n hb hx => ?_, fun b o e n hx => ?_, fun b o e hx => ?_, fun b xs e => tups b xs (I.base.tups b xs e), fun b o xs e => frzs b o xs (I.base.frzs b o xs e), fun b ps e => ?_⟩, ?_, fun x c e => ?_, ?_, fun x c e => ?_, fun p hp => ?_, hok, I.len⟩
  · exact keep b o (neL b o e) hb (neC b o e hx) (I.base.keep b o e n hb hx) (I.base.free b o e n hx)
  · obtain ⟨sl, e1⟩ := I.base.slot b o e n hb hx
    obtain ⟨sl', e2⟩ := slot b _ (neL b o e) hb (neC b o e hx) e1 (I.base.free b o e n hx)
    exact ⟨sl', e2⟩
  · obtain ⟨o', e1⟩ := I.base.there b o e hx
    exact free b o' (neC b o e hx) e1 (I.base.free b o e n hx)
  · obtain ⟨o', e1⟩ := I.base.there b o e hx
    exact there b o' (neC b o e hx) e1
  · obtain ⟨m1, e1⟩ := I.base.tbls b ps e
    obtain ⟨m2, e2⟩ := tbls b _ e1
    exact ⟨m1 ++ m2, by rw [e2, Array.append_assoc]⟩
  · obtain ⟨m, hn, hl⟩ := I.loc
    refine ⟨m, ns m hn, fun i x v e1 e2 e3 => ?_⟩
    obtain ⟨u, r, l⟩ := hl i x v e1 e2 e3
    refine ⟨u, r, ?_⟩
    rcases l with l | ⟨k, c, e, z⟩
    · exact .inl l
    · exact .inr ⟨k, c, e, cellK x c e _ z⟩
  · obtain ⟨v, z⟩ := I.cell x c e
    exact ⟨v, cellK x c e v z⟩
  · obtain ⟨m, ⟨o, _, _, ho, _⟩, _⟩ := I.loc
    exact free _ o (fun z => (hch _ z).2.1 rfl) ho I.free
  · obtain ⟨v, o, ho, hd⟩ := I.cell x c e
    exact free c o (fun z => (hch c z).2.2.1 x c e rfl) ho (I.freeC x c e)
  · obtain ⟨e, n, ne, nf, d⟩ := I.pin p hp
    have nch : p.1 ∉ ch := fun z => (hch p.1 z).2.2.2 p hp rfl
    exact ⟨keep p.1 p.2 ne nf nch e n, free p.1 p.2 nch e n, ne, nf, d⟩
theorem Inv.un {t' : Nat} (I : Inv X pins σ H s) (u : Un X.fs [] H H' s.heap h') (hok : HOk X.prog X.w H' h') : Inv X pins σ H' { s with heap := h', toks := t' } := by
  obtain ⟨m, ⟨o, es, ep, ho, r⟩, _⟩ := id I.loc
  obtain ⟨sl, hL⟩ := u.any ho I.free (by simp)
  exact I.step (g' := s.gens) (d' := s.drawn) (ch := []) (fun _ z => nomatch z) (fun b o _ hb _ e n => u.keep b o e n hb (by simp)) (fun b o _ hb _ e n => u.slot b o e n hb (by simp)) (fun b o _ e n => u.free b o e n (by simp)) (fun b o _ e => u.there b o e (by simp)) u.tups u.frzs u.tbls (fun m' hm => by
    obtain ⟨o', es', ep', ho', r'⟩ := hm
    rw [ho] at ho'; cases ho'
    exact ⟨_, es', ep', hL, r'⟩) hok I.bare
theorem Inv.call {g' : Array GenState} {t' : Nat} {d' : Drawn} {ch : List Addr} (I : Inv X pins σ H s) (u : Un (frs X.stack) ch H H' s.heap h') (hok : HOk X.prog X.w H' h') (hg : AllBare g')
    (hch : ∀ b ∈ ch, (b ∈ X.ex ∨ X.s_0.heap.objs.size ≤ b) ∧ b ≠ X.env.locals ∧ (∀ x c, X.env.cells.lookup x = some c → c ≠ b) ∧ ∀ p ∈ X.pn ++ pins, p.1 ≠ b) :
    Inv X pins σ H' { s with heap := h', gens := g', drawn := d', toks := t' } := by
  obtain ⟨m, ⟨o, es, ep, ho, r⟩, _⟩ := id I.loc
  obtain ⟨sl, hL⟩ := u.any ho I.free fun z => (hch _ z).2.1 rfl
  exact I.step (ch := ch) hch (fun b o hL hb hc e n => u.keep b o e n (fun z => (List.mem_cons.mp (I.stkSub b z)).elim hL hb) hc) (fun b o _ _ hc e n => u.any e n hc) (fun b o hc e n => u.free b o e n hc) (fun b o hc e => u.there b o e hc) u.tups u.frzs u.tbls (fun m' hm => by
    obtain ⟨o', es', ep', ho', r'⟩ := hm
    rw [ho] at ho'; cases ho'
    exact ⟨_, es', ep', hL, r'⟩) hok hg
theorem Inv.turned {t' : Nat} {it : Addr} (I : Inv X pins σ H s) (k : ∀ b o, b ≠ it → s.heap.get? b = some o → h'.get? b = some o) (hn : H it = none) (hL : it ≠ X.env.locals)
    (h1 : it ∈ X.ex ∨ X.s_0.heap.objs.size ≤ it) (h2 : ∀ x c, X.env.cells.lookup x = some c → c ≠ it) (h3 : ∀ p ∈ X.pn ++ pins, p.1 ≠ it) : Inv X pins σ H { s with heap := h', toks := t' } := by
  have nit : ∀ b u, H b = some u → b ≠ it := fun b u e z => by rw [z, hn] at e; cases e
  refine I.step (g' := s.gens) (d' := s.drawn) (ch := [it]) (fun b hb => ?_) (fun b o _ _ hc e _ => k b o (fun z => hc (by simp [z])) e) (fun b o _ _ hc e _ => ⟨o.slots, k b o (fun z => hc (by simp [z])) e⟩) (fun _ _ _ _ n => n)
    (fun b o hc e => ⟨o, k b o (fun z => hc (by simp [z])) e⟩) (fun _ _ e => e) (fun _ _ _ e => e) (fun b ps e => ⟨#[], by rw [e]; simp⟩) (fun m hm => ?_) (fun b u e => ?_) I.bare
  · have e : b = it := by simpa using hb
    subst e
    exact ⟨h1, hL, h2, h3⟩
  · obtain ⟨o, es, ep, ho, r⟩ := hm
    exact ⟨o, es, ep, k _ o (Ne.symm hL) ho, r⟩
  · refine (I.hok b u e).stay (fun c v hc q => k c v ?_ q) (fun _ q => q) fun _ _ q => q
    rcases hc with z | z
    · rw [z]; exact nit b u e
    · exact nit c _ z
theorem Inv.tok (I : Inv X pins σ H s) (t : Nat) : Inv X pins σ H { s with toks := t } := I.un (h' := s.heap) (t' := t) Un.refl I.hok
theorem Inv.kept {t' : Nat} (I : Inv X pins σ H s) (k : ∀ b u, s.heap.get? b = some u → h'.get? b = some u) : Inv X pins σ H { s with heap := h', toks := t' } := I.un (Un.kept k) (I.hok.kept k)
theorem Inv.laid {a : Addr} {o : HO} {t' : Nat} (I : Inv X pins σ H s) (k : ∀ b u, s.heap.get? b = some u → h'.get? b = some u) (hp : s.heap.objs.size ≤ a) (new : ObjOk X.prog X.w (upd H a o) h' a o) :
    Inv X pins σ (upd H a o) { s with heap := h', toks := t' } := I.un (Un.laid k hp (I.hok.fresh hp)) (I.hok.laid k hp new)
theorem Inv.write {x e : Addr} {o : HO} {t' : Nat} (I : Inv X pins σ H s) (mu : Mut (H x)) (he : e = x ∨ H e = some (.own x)) (k : ∀ b u, b ≠ e → s.heap.get? b = some u → h'.get? b = some u) (heo : ∃ u, h'.get? e = some u)
    (new : ObjOk X.prog X.w (upd H x o) h' x o) : Inv X pins σ (upd H x o) { s with heap := h', toks := t' } := I.un (Un.write mu he k heo) (I.hok.write mu he k heo new)
theorem Inv.weak {σ' : List (Option V)} (I : Inv X pins σ H s) (hl : σ'.length = σ.length) (w : ∀ (i : Nat) v, σ'[i]? = some (some v) → σ[i]? = some (some v)) : Inv X pins σ' H s :=
  ⟨I.ok, I.os, I.bare, I.base, let ⟨m, hn, hl'⟩ := I.loc; ⟨m, hn, fun i x v e1 e2 e3 => hl' i x v e1 (w i v e2) e3⟩, I.cell, I.free, I.freeC, I.pin, I.hok, hl.trans I.len⟩
theorem Inv.pins_of {pins' : List (Addr × Obj)} (I : Inv X pins σ H s) (h : ∀ p ∈ pins', s.heap.get? p.1 = some p.2 ∧ H p.1 = none ∧ p.1 ≠ X.env.locals ∧ p.1 ∉ X.fs ∧ ∀ v, p.2.data ≠ .cell v) : Inv X pins' σ H s :=
  ⟨I.ok, I.os, I.bare, I.base, I.loc, I.cell, I.free, I.freeC, fun p hp => (List.mem_append.mp hp).elim (fun z => I.pin p (List.mem_append_left _ z)) (h p), I.hok, I.len⟩

theorem nodup_ix {N : List Str} (hN : N.Nodup) {i j : Nat} {x : Str} (a : N[i]? = some x) (b : N[j]? = some x) : i = j := by
  obtain ⟨h1, e1⟩ := List.getElem?_eq_some_iff.mp a
  obtain ⟨h2, e2⟩ := List.getElem?_eq_some_iff.mp b
  exact (List.getElem_inj hN).mp (e1.trans e2.symm)

theorem store_ok2 {M : Model} {A : Around} {E : Value → Shared → Prop} {i : Nat} {x : Str} {v : V} {u : Value} {Q : Unit → Shared → Prop} (I : Inv X pins σ H s) (hN : X.N.Nodup) (hi : X.N[i]? = some x) (hx : Loc X.env.scope x) (r : RelV v u)
    (h : ∀ s', Inv X pins (σ.set i (some v)) H s' → (∃ a, Heap.SameBut a s.heap s'.heap ∧ (a = X.env.locals ∨ X.env.cells.lookup x = some a)) → Q () s') (hf : X.fn x = true ∨ X.env.scope.names.lookup x = some .local := by first | exact .inl rfl | exact .inr rfl | assumption) : wpAny M A (storeName X.env x u) Q E s := by
  obtain ⟨m, hn, hl⟩ := id I.loc
  have hcls : (X.env.scope.kind == .class || (X.env.scope.kind == .module && X.env.locals != X.env.globals)) = false := by rw [I.ok.kind]; rfl
  have hiσ : i < σ.length := by rw [I.len]; exact (List.getElem?_eq_some_iff.mp hi).1
  have cne := I.cne
  have tracked : ∀ {a : Addr} {h' : Heap}, (∃ o, s.heap.get? a = some o ∧ H a = none) → Heap.SameBut a s.heap h' → HOk X.prog X.w H h' := fun {a h'} ha hs b ob e => by
    obtain ⟨_, _, hfree⟩ := ha
    refine (I.hok b ob e).stay (fun c w' hc q => (hs.2 c ?_).trans q) (fun _ q => q) fun _ _ q => q
    rintro rfl
    rcases hc with rfl | hc
    · rw [hfree] at e; cases e
    · rw [hfree] at hc; cases hc
  rcases hx with hk | hk
  · refine wpAny_storeName_local hk hn (fun h' hn' hs => ?_) hcls
    obtain ⟨oL, _, _, hoL, _⟩ := id hn
    refine h _ ⟨I.ok, I.os, I.bare, ⟨fun b o e n hb hx => ?_, fun b o e n hb hx => ?_, I.base.free, fun b o e hx => ?_, I.base.tups, I.base.frzs, I.base.tbls⟩, ⟨_, hn', fun j y v' e1 e2 e3 => ?_⟩, fun y c e => ?_, I.free, I.freeC, fun p hp => ?_, tracked ⟨oL, hoL, I.free⟩ hs, by simpa using I.len⟩ ⟨_, hs, .inl rfl⟩
    · exact (hs.2 b (Nat.ne_of_lt (Nat.lt_of_lt_of_le (Heap.lt_size e) I.ok.above))).trans (I.base.keep b o e n hb hx)
    · obtain ⟨sl, e1⟩ := I.base.slot b o e n hb hx
      exact ⟨sl, (hs.2 b (Nat.ne_of_lt (Nat.lt_of_lt_of_le (Heap.lt_size e) I.ok.above))).trans e1⟩
    · obtain ⟨o', e1⟩ := I.base.there b o e hx
      exact ⟨o', (hs.2 b (Nat.ne_of_lt (Nat.lt_of_lt_of_le (Heap.lt_size e) I.ok.above))).trans e1⟩
    · by_cases hj : j = i
      · subst hj
        rw [hi] at e1; cases e1
        rw [List.getElem?_set_self hiσ] at e2
        cases e2
        exact ⟨u, r, .inl ⟨hk, by simp⟩⟩
      · rw [List.getElem?_set_ne (Ne.symm hj)] at e2
        obtain ⟨u', r', q⟩ := hl j y v' e1 e2 e3
        refine ⟨u', r', ?_⟩
        rcases q with ⟨k, e⟩ | ⟨k, c, e, z⟩
        · refine .inl ⟨k, ?_⟩
          have : y ≠ x := fun e => hj (nodup_ix hN e1 (e ▸ hi))
          simp [this, e]
        · exact .inr ⟨k, c, e, z.sameBut hs (cne y c e)⟩
    · obtain ⟨w', z⟩ := I.cell y c e
      exact ⟨w', z.sameBut hs (cne y c e)⟩
    · obtain ⟨e, n, ne, nf, d⟩ := I.pin p hp
      exact ⟨(hs.2 p.1 ne).trans e, n, ne, nf, d⟩
  · have hfn : X.fn x = true := by
      rcases hf with z | z
      · exact z
      · rw [z] at hk; cases hk
    obtain ⟨c, hc⟩ := I.ok.has x (.inl hk)
    obtain ⟨w', z⟩ := I.cell x c hc
    refine wpAny_storeName_cell I.ok.kind hk hc z (fun h' hc' hs => ?_)
    obtain ⟨oc, hoc, hocd⟩ := id z
    refine h { s with heap := h' } ⟨I.ok, I.os, I.bare, ⟨fun b o e n hb hx => ?_, fun b o e n hb hx => ?_, I.base.free, fun b o e hx => ?_, I.base.tups, I.base.frzs, I.base.tbls⟩, ⟨m, hn.sameBut hs (Ne.symm (cne x c hc)), fun j y v' e1 e2 e3 => ?_⟩, fun y c' e => ?_, I.free, I.freeC, fun p hp => ?_, tracked ⟨oc, hoc, I.freeC x c hc⟩ hs, by simpa using I.len⟩ ⟨c, hs, .inr hc⟩
    · exact (hs.2 b (Nat.ne_of_lt (Nat.lt_of_lt_of_le (Heap.lt_size e) (I.ok.cab x c hfn hc)))).trans (I.base.keep b o e n hb hx)
    · obtain ⟨sl, e1⟩ := I.base.slot b o e n hb hx
      exact ⟨sl, (hs.2 b (Nat.ne_of_lt (Nat.lt_of_lt_of_le (Heap.lt_size e) (I.ok.cab x c hfn hc)))).trans e1⟩
    · obtain ⟨o', e1⟩ := I.base.there b o e hx
      exact ⟨o', (hs.2 b (Nat.ne_of_lt (Nat.lt_of_lt_of_le (Heap.lt_size e) (I.ok.cab x c hfn hc)))).trans e1⟩
    · by_cases hj : j = i
      · subst hj
        rw [hi] at e1; cases e1
        rw [List.getElem?_set_self hiσ] at e2
        cases e2
        exact ⟨u, r, .inr ⟨.inl hk, c, hc, hc'⟩⟩
      · rw [List.getElem?_set_ne (Ne.symm hj)] at e2
        obtain ⟨u', r', q⟩ := hl j y v' e1 e2 e3
        refine ⟨u', r', ?_⟩
        rcases q with q | ⟨k, c', e, z'⟩
        · exact .inl q
        · refine .inr ⟨k, c', e, z'.sameBut hs ?_⟩
          rintro rfl
          exact hj (nodup_ix hN e1 (I.ok.inj _ _ _ e hc ▸ hi))
    · by_cases hcc : c' = c
      · subst hcc; exact ⟨_, hc'⟩
      · obtain ⟨w2, z2⟩ := I.cell y c' e
        exact ⟨w2, z2.sameBut hs hcc⟩
    · obtain ⟨e, n, ne, nf, d⟩ := I.pin p hp
      refine ⟨(hs.2 p.1 ?_).trans e, n, ne, nf, d⟩
      intro q
      rw [q, hoc] at e
      have q' : oc = p.2 := Option.some.inj e
      exact d w' (by rw [← q']; exact hocd)
theorem store_ok {M : Model} {A : Around} {E : Value → Shared → Prop} {i : Nat} {x : Str} {v : V} {u : Value} {Q : Unit → Shared → Prop} (I : Inv X pins σ H s) (hN : X.N.Nodup) (hi : X.N[i]? = some x) (hx : Loc X.env.scope x) (r : RelV v u)
    (h : ∀ s', Inv X pins (σ.set i (some v)) H s' → Q () s') (hf : X.fn x = true ∨ X.env.scope.names.lookup x = some .local := by first | exact .inl rfl | exact .inr rfl | assumption) : wpAny M A (storeName X.env x u) Q E s :=
  store_ok2 I hN hi hx r (fun s' I' _ => h s' I') hf
theorem Inv.call' {s' : Shared} {ch : List Addr} (I : Inv X pins σ H s) (ho : s'.os = s.os) (u : Un (frs X.stack) ch H H' s.heap s'.heap) (hok : HOk X.prog X.w H' s'.heap) (hg : AllBare s'.gens)
    (hch : ∀ b ∈ ch, (b ∈ X.ex ∨ X.s_0.heap.objs.size ≤ b) ∧ b ≠ X.env.locals ∧ (∀ x c, X.env.cells.lookup x = some c → c ≠ b) ∧ ∀ p ∈ X.pn ++ pins, p.1 ≠ b) : Inv X pins σ H' s' := by
  obtain ⟨h', g', d', t', o'⟩ := s'
  have e : o' = s.os := ho
  subst e
  exact I.call (g' := g') (t' := t') (d' := d') u hok hg hch
end

abbrev XK := Value → Option Addr → Hp → Prop
abbrev St := List (Option V)
abbrev VK := V → Hp → Prop
abbrev TE := St → Hp → VK → Prop
abbrev TT := St → Hp → (Bool → Hp → Prop) → Prop
abbrev TA := St → Hp → (List V → Hp → Prop) → Prop
structure Ends where
  nx : St → Hp → Prop
  rt : VK
  bk : St → Hp → Prop := fun _ _ => False
  ct : St → Hp → Prop := fun _ _ => False
abbrev TS := Ends → St → Hp → Prop

def EP (X : Cx) (pins : List (Addr × Obj)) (σ : St) (Q : VK) (u : Value) (s' : Shared) : Prop := ∃ v H', Inv X pins σ H' s' ∧ RelV v u ∧ Q v H'
def TP (X : Cx) (pins : List (Addr × Obj)) (σ : St) (Q : Bool → Hp → Prop) (b : Bool) (s' : Shared) : Prop := ∃ H', Inv X pins σ H' s' ∧ Q b H'
def AP (X : Cx) (pins : List (Addr × Obj)) (σ : St) (Q : List V → Hp → Prop) (us : List Value) (s' : Shared) : Prop := ∃ vs H', Inv X pins σ H' s' ∧ Vals vs us ∧ Q vs H'
def SP (X : Cx) (pins : List (Addr × Obj)) (D : Ends) (f : Flow) (s' : Shared) : Prop :=
  match f with
  | .next => ∃ σ' H', Inv X pins σ' H' s' ∧ D.nx σ' H'
  | .brk => ∃ σ' H', Inv X pins σ' H' s' ∧ D.bk σ' H'
  | .cont => ∃ σ' H', Inv X pins σ' H' s' ∧ D.ct σ' H'
  | .ret u => ∃ v σ' H', Inv X pins σ' H' s' ∧ RelV v u ∧ D.rt v H'

def PE (X : Cx) (e : Expr) (t : TE) : Prop :=
  ∀ (pins : List (Addr × Obj)) (s : Shared) (σ : St) (H : Hp) (Q : VK), Inv X pins σ H s → t σ H Q → wpAny (model X.prog X.w) X.A (eval e X.env) (EP X pins σ Q) X.xe s
def PT (X : Cx) (e : Expr) (t : TT) : Prop :=
  ∀ (pins : List (Addr × Obj)) (s : Shared) (σ : St) (H : Hp) (Q : Bool → Hp → Prop), Inv X pins σ H s → t σ H Q → wpAny (model X.prog X.w) X.A (isTrue e X.env (eval e X.env)) (TP X pins σ Q) X.xe s
def PW (X : Cx) (e : Expr) (t : TT) : Prop :=
  ∀ (whole : Sem Value) (pins : List (Addr × Obj)) (s : Shared) (σ : St) (H : Hp) (Q : Bool → Hp → Prop), Inv X pins σ H s → t σ H Q → wpAny (model X.prog X.w) X.A (isTrue e X.env whole) (TP X pins σ Q) X.xe s
theorem PW.pt {X : Cx} {e : Expr} {t : TT} (h : PW X e t) : PT X e t := h _
def PA (X : Cx) (es : List Expr) (t : TA) : Prop :=
  ∀ (pos : Pos) (pins : List (Addr × Obj)) (s : Shared) (σ : St) (H : Hp) (Q : List V → Hp → Prop), Inv X pins σ H s → t σ H Q → wpAny (model X.prog X.w) X.A (spliced (backTo pos (starEach es X.env))) (AP X pins σ Q) X.xe s
def PS (X : Cx) (st : Stmt) (t : TS) : Prop :=
  ∀ (pins : List (Addr × Obj)) (s : Shared) (σ : St) (H : Hp) (D : Ends), Inv X pins σ H s → t D σ H → wpAny (model X.prog X.w) X.A (exec st X.env) (SP X pins D) X.xe s
def PSs (X : Cx) (st : List Stmt) (t : TS) : Prop :=
  ∀ (pins : List (Addr × Obj)) (s : Shared) (σ : St) (H : Hp) (D : Ends), Inv X pins σ H s → t D σ H → wpAny (model X.prog X.w) X.A (execs st X.env) (SP X pins D) X.xe s
theorem thn {α : Type} {t : Sem α} {Q Q' : α → Shared → Prop} {M : Model} {A : Around} {E : Value → Shared → Prop} {s : Shared} (h : wpAny M A t Q E s) (hQ : ∀ a s, Q a s → Q' a s) : wpAny M A t Q' E s := wpAny_mono h hQ fun _ _ x => x
end L2

namespace L2
open PySem PySem.Spec PyProof.Rows
section
variable {X : Cx}

def tVar (i : Nat) : TE := fun σ H Q => ∃ v, σ[i]? = some (some v) ∧ Q v H
def tC (v : V) : TE := fun _ H Q => Q v H
theorem pe_var {i : Nat} {x : Str} {pos : Pos} (hN : X.N[i]? = some x) (hv : Vis X.env.scope x) (hd : (x == ("__debug__" : Str)) = false := by decide) (hcd : (x == ("__classdict__" : Str)) = false := by decide) : PE X (.Name x pos) (tVar i) := by
  intro pins s σ H Q I h
  obtain ⟨v, e, h⟩ := h
  obtain ⟨m, hn, hl⟩ := I.loc
  obtain ⟨u, r, l⟩ := hl i x v hN e hv
  have fin : EP X pins σ Q u s := ⟨v, H, I, r, h⟩
  rcases l with ⟨hk, hm⟩ | ⟨hk, c, hc, hcell⟩
  · exact wpAny_Name (wpAny_loadName_local I.ok.kind hk hn hm fin) hd
  · rcases hk with hk | hk
    · exact wpAny_Name (wpAny_loadName_cell I.ok.kind hk hc hcell fin) hd
    · exact wpAny_Name (wpAny_loadName_free I.ok.kind hk hc hcell fin hcd) hd
theorem pe_int {i j pos} : PE X (.Constant (.int i) j pos) (tC (.int i)) := fun _ _ _ H _ I h => wpAny_Constant_int ⟨.int i, H, I.tok _, ⟨_, rfl⟩, h⟩
theorem pe_bl {b j pos} : PE X (.Constant (.bool b) j pos) (tC (.bl b)) := fun _ _ _ H _ I h => Constant_bool ⟨.bl b, H, I, rfl, h⟩
theorem pe_non {j pos} : PE X (.Constant .none j pos) (tC .non) := fun _ _ _ H _ I h => Constant_none ⟨.non, H, I, rfl, h⟩
def Gl (X : Cx) (x : Str) : Prop := X.env.kindOf x = some .globalImplicit
theorem ld_glob {E : Value → Shared → Prop} {pins : List (Addr × Obj)} {s : Shared} {σ : St} {H : Hp} {x : Str} {u : Value} {pos : Pos} {Q : Value → Shared → Prop} (I : Inv X pins σ H s) (hg : Gl X x) (hm : X.mg x = some u) (h : Q u s)
    (hd : (x == ("__debug__" : Str)) = false := by decide) : wpAny (model X.prog X.w) X.A (eval (.Name x pos) X.env) Q E s :=
  Calls.Name_function_global I.ok.kind hg (Calls.loadGlobal_global (by rw [I.ok.glob]; exact I.mod.glob.keeps I.bk) hm h) hd
theorem ld_blt {E : Value → Shared → Prop} {pins : List (Addr × Obj)} {s : Shared} {σ : St} {H : Hp} {x : Str} {u : Value} {pos : Pos} {Q : Value → Shared → Prop} (I : Inv X pins σ H s) (hg : Gl X x) (hm : X.mg x = none) (hv : bootBuiltins x = some u) (h : Q u s)
    (hn : x ≠ "__name__" := by decide) (hd : (x == ("__debug__" : Str)) = false := by decide) : wpAny (model X.prog X.w) X.A (eval (.Name x pos) X.env) Q E s := by
  obtain ⟨mb, h1, h2⟩ := I.mod.blt
  exact Calls.Name_function_global I.ok.kind hg (Calls.loadGlobal_builtin (by rw [I.ok.glob]; exact I.mod.glob.keeps I.bk) hm (by rw [I.ok.blt]; exact h1.keeps I.bk) ((h2 x hn).trans hv) h) hd
theorem pe_glob {x : Str} {v : V} {u : Value} {pos : Pos} (hg : Gl X x) (hm : X.mg x = some u) (r : RelV v u) (hd : (x == ("__debug__" : Str)) = false := by decide) : PE X (.Name x pos) (tC v) :=
  fun _ _ _ H _ I h => ld_glob I hg hm ⟨v, H, I, r, h⟩ hd
variable {a b : Expr} {ta tb : TE} {pos : Pos}
def PC (X : Cx) (op : CmpOp) (a b : Expr) (t : TE) : Prop :=
  ∀ (pins : List (Addr × Obj)) (s : Shared) (σ : St) (H : Hp) (Q : VK), Inv X pins σ H s → t σ H Q →
    wpAny (model X.prog X.w) X.A (eval a X.env) (fun v s₁ => wpAny (model X.prog X.w) X.A (eval b X.env) (fun u s₂ => wpAny (model X.prog X.w) X.A (compareOp op v u) (EP X pins σ Q) X.xe s₂) X.xe s₁) X.xe s
theorem nobehind (b : Expr) {op : CmpOp} (h : op ≠ .In) (h2 : op ≠ .NotIn) : behindInMarks op b = false := by
  have e1 : (op == CmpOp.In) = false := by cases op <;> first | rfl | exact absurd rfl h
  have e2 : (op == CmpOp.NotIn) = false := by cases op <;> first | rfl | exact absurd rfl h2
  cases b <;> simp [behindInMarks, e1, e2]
def tIsN (ta : TE) : TE := fun σ H Q => ta σ H fun x H1 => Q (.bl (decide (x = .non))) H1
def tNotN (ta : TE) : TE := fun σ H Q => ta σ H fun x H1 => Q (.bl (!decide (x = .non))) H1
theorem RelV.none_iff {x : V} {v : Value} (r : RelV x v) : (v == Value.none) = decide (x = .non) := by
  cases x with
  | non => cases r; rfl
  | bl _ => cases r; rfl
  | int _ => obtain ⟨t, rfl⟩ := r; rfl
  | str _ => obtain ⟨t, rfl⟩ := r; rfl
  | byt _ => obtain ⟨t, rfl⟩ := r; rfl
  | flt _ => obtain ⟨t, rfl⟩ := r; rfl
  | ref _ => cases r; rfl
  | ty _ => cases r; rfl
theorem pc_isN {j pos'} (ha : PE X a ta) : PC X .Is a (.Constant .none j pos') (tIsN ta) := by
  intro pins s σ H Q I h
  refine thn (ha pins s σ H _ I h) fun v s1 ⟨x, H1, I1, r1, q1⟩ => ?_
  exact Constant_none (is_none_gen ⟨.bl _, H1, I1, by rw [r1.none_iff]; rfl, q1⟩)
theorem pc_notN {j pos'} (ha : PE X a ta) : PC X .IsNot a (.Constant .none j pos') (tNotN ta) := by
  intro pins s σ H Q I h
  refine thn (ha pins s σ H _ I h) fun v s1 ⟨x, H1, I1, r1, q1⟩ => ?_
  exact Constant_none (isnot_none_gen ⟨.bl _, H1, I1, by rw [r1.none_iff]; rfl, q1⟩)
def tB (t : TE) : TT := fun σ H Q => t σ H fun x H1 => ∃ c, x = .bl c ∧ Q c H1
theorem pt_cmp {op : CmpOp} {t : TE} (h : PC X op a b t) (h1 : behindInMarks op b = false := by first | exact nobehind _ (by decide) (by decide) | rfl) : PT X (.Compare a [op] [b] pos) (tB t) := by
  intro pins s σ H Q I hw
  refine wpAny_isTrue_Compare1 (thn (h pins s σ H _ I hw) fun v s1 h1 => thn h1 fun u s2 h2 => thn h2 fun c s3 ⟨x, H1, I1, r1, q1⟩ => ?_) h1
  obtain ⟨d, rfl, q⟩ := q1
  cases r1
  exact wpAny_truthy_bool ⟨H1, I1, q⟩
theorem pt_val {e : Expr} {t : TE} (h : PE X e t) (he : ∀ whole, isTrue e X.env whole = (do let v ← whole; standAt e.pos; holding [v] (truthy v)) := by intro _; rfl) : PT X e (tB t) := by
  intro pins s σ H Q I hw
  refine isTrue_plain (thn (h pins s σ H _ I hw) fun v s1 ⟨x, H1, I1, r1, q1⟩ => ?_) (he _)
  obtain ⟨d, rfl, q⟩ := q1
  cases r1
  exact wpAny_truthy_bool ⟨H1, I1, q⟩

variable {tA tB' : TT} {rest : List Expr}
def tAnd (t u : TT) : TT := fun σ H Q => t σ H fun c H1 => if c = true then u σ H1 Q else Q false H1
def tOr (t u : TT) : TT := fun σ H Q => t σ H fun c H1 => if c = true then Q true H1 else u σ H1 Q
def tNot (t : TT) : TT := fun σ H Q => t σ H fun c H1 => Q (!c) H1
theorem pw_and1 (ha : PT X a tA) : PW X (.BoolOp .And [a] pos) tA := by
  intro wh pins s σ H Q I h
  refine isTrue_and (thn (ha pins s σ H Q I h) fun c s1 e => ?_)
  cases c with
  | true => exact isTrue_and_nil e
  | false => exact e
theorem pw_or1 (ha : PT X a tA) : PW X (.BoolOp .Or [a] pos) tA := by
  intro wh pins s σ H Q I h
  refine isTrue_or (thn (ha pins s σ H Q I h) fun c s1 e => ?_)
  cases c with
  | false => exact isTrue_or_nil e
  | true => exact e
theorem pw_and (ha : PT X a tA) (hb : PW X (.BoolOp .And (b :: rest) pos) tB') : PW X (.BoolOp .And (a :: b :: rest) pos) (tAnd tA tB') := by
  intro wh pins s σ H Q I h
  refine isTrue_and (thn (ha pins s σ H _ I h) fun c s1 ⟨H1, I1, q1⟩ => ?_)
  cases c with
  | true => exact hb wh pins s1 σ H1 Q I1 q1
  | false => exact ⟨H1, I1, q1⟩
theorem pw_or (ha : PT X a tA) (hb : PW X (.BoolOp .Or (b :: rest) pos) tB') : PW X (.BoolOp .Or (a :: b :: rest) pos) (tOr tA tB') := by
  intro wh pins s σ H Q I h
  refine isTrue_or (thn (ha pins s σ H _ I h) fun c s1 ⟨H1, I1, q1⟩ => ?_)
  cases c with
  | true => exact ⟨H1, I1, q1⟩
  | false => exact hb wh pins s1 σ H1 Q I1 q1
theorem pt_not (ha : PT X a tA) : PT X (.UnaryOp .Not a pos) (tNot tA) := by
  intro pins s σ H Q I h
  exact isTrue_not (ha pins s σ H (fun c H1 => Q (!c) H1) I h)
def tAndV (ta tb : TE) : TE := fun σ H Q => ta σ H fun x H1 => ∃ c, x = .bl c ∧ if c = true then tb σ H1 Q else Q (.bl false) H1
def tOrV (ta tb : TE) : TE := fun σ H Q => ta σ H fun x H1 => ∃ c, x = .bl c ∧ if c = true then Q (.bl true) H1 else tb σ H1 Q
theorem pe_one {op} {t : TE} (h : PE X a t) : PE X (.BoolOp op [a] pos) t := fun pins s σ H Q I hw => BoolOp_one (h pins s σ H Q I hw)
theorem pe_and (ha : PE X a ta) (hb : PE X (.BoolOp .And (b :: rest) pos) tb) : PE X (.BoolOp .And (a :: b :: rest) pos) (tAndV ta tb) := by
  intro pins s σ H Q I h
  refine BoolOp_and (thn (ha pins s σ H _ I h) fun v s1 ⟨x, H1, I1, r1, q1⟩ => ?_)
  obtain ⟨c, rfl, q1⟩ := q1
  cases r1
  refine wpAny_truthy_bool ?_
  cases c with
  | true => exact hb pins s1 σ H1 Q I1 q1
  | false => exact ⟨.bl false, H1, I1, rfl, q1⟩
theorem pe_or (ha : PE X a ta) (hb : PE X (.BoolOp .Or (b :: rest) pos) tb) : PE X (.BoolOp .Or (a :: b :: rest) pos) (tOrV ta tb) := by
  intro pins s σ H Q I h
  refine BoolOp_or (thn (ha pins s σ H _ I h) fun v s1 ⟨x, H1, I1, r1, q1⟩ => ?_)
  obtain ⟨c, rfl, q1⟩ := q1
  cases r1
  refine wpAny_truthy_bool ?_
  cases c with
  | false => exact hb pins s1 σ H1 Q I1 q1
  | true => exact ⟨.bl true, H1, I1, rfl, q1⟩
def tIf (t : TT) (ta tb : TE) : TE := fun σ H Q => t σ H fun c H1 => if c = true then ta σ H1 Q else tb σ H1 Q
theorem pe_ifExp {c : Expr} (hc : PT X c tA) (ha : PE X a ta) (hb : PE X b tb) : PE X (.IfExp c a b pos) (tIf tA ta tb) := by
  intro pins s σ H Q I h
  refine wpAny_IfExp (thn (hc pins s σ H _ I h) fun d s1 ⟨H1, I1, q1⟩ => ?_)
  cases d with
  | true => exact ha pins s1 σ H1 Q I1 q1
  | false => exact hb pins s1 σ H1 Q I1 q1
end
end L2

namespace L2
open PySem PySem.Spec PyProof.Rows

def SqL (K : PySem.W.Frag) (H : Hp) (a : Addr) (xs : List V) : Prop :=
  Rd H a (.lst xs) ∨
    ∃ (o : Obj) (its : Array Value) (n : Nat), K.lookup a = some o ∧ o.cls = .type "list" ∧ o.dict = none ∧ o.data = .seq its n ∧ its.size ≤ sizeLine ∧ Vals xs its.toList
def SqT (K : PySem.W.Frag) (H : Hp) (a : Addr) (xs : List V) : Prop :=
  Rd H a (.tup xs) ∨
    ∃ (o : Obj) (its : Array Value) (n : Nat), K.lookup a = some o ∧ o.cls = .type "tuple" ∧ o.data = .seq its n ∧ its.size ≤ sizeLine ∧ Vals xs its.toList
def absV : Value → Option V
  | .none => some .non
  | .bool b => some (.bl b)
  | .int i _ => some (.int i)
  | .str x _ => some (.str x)
  | .bytes b _ => some (.byt b)
  | .float b _ => some (.flt b)
  | .ref a => some (.ref a)
  | .type n => some (.ty n)
  | _ => none
theorem RelV.abs {x : V} {u : Value} (r : RelV x u) : absV u = some x := by
  cases x with
  | non => cases r; rfl
  | bl _ => cases r; rfl
  | int _ => obtain ⟨t, rfl⟩ := r; rfl
  | str _ => obtain ⟨t, rfl⟩ := r; rfl
  | byt _ => obtain ⟨t, rfl⟩ := r; rfl
  | flt _ => obtain ⟨t, rfl⟩ := r; rfl
  | ref _ => cases r; rfl
  | ty _ => cases r; rfl
theorem RelV.inj {x y : V} {u : Value} (r : RelV x u) (q : RelV y u) : x = y := Option.some.inj (r.abs.symm.trans q.abs)
theorem Vals.inj : ∀ {xs ys : List V} {us : List Value}, Vals xs us → Vals ys us → xs = ys
  | _, _, _, .nil, .nil => rfl
  | _, _, _, .cons r t, .cons r' t' => by rw [r.inj r', Vals.inj t t']
section
variable {X : Cx} {pins : List (Addr × Obj)} {σ : St} {H : Hp} {s : Shared} {a : Addr} {xs ys : List V}
theorem SqL.of {K : PySem.W.Frag} (h : H a = some (.lst xs)) : SqL K H a xs := .inl (.inl h)
theorem SqT.of {K : PySem.W.Frag} (h : H a = some (.tup xs)) : SqT K H a xs := .inl (.inl h)
theorem Inv.list (I : Inv X pins σ H s) (h : SqL X.K H a xs) : ∃ its : List Value, Vals xs its ∧ PlainL s.heap a its.toArray ∧ xs.length ≤ sizeLine := by
  rcases h with h | ⟨o, its, n, hk, hc, hd, hs, hz, r⟩
  · obtain ⟨z, its, n, r, e⟩ := h.ok I.hok
    exact ⟨its, r, ⟨_, n, e, rfl, rfl, rfl⟩, z⟩
  · refine ⟨its.toList, r, ⟨o, n, I.kIn a o hk, hc, hd, by simpa using hs⟩, ?_⟩
    have e := r.length
    simp only [Array.length_toList] at e
    omega
theorem Inv.tuple (I : Inv X pins σ H s) (h : SqT X.K H a xs) : ∃ its : List Value, Vals xs its ∧ IsTup s.heap a its.toArray ∧ xs.length ≤ sizeLine := by
  rcases h with h | ⟨o, its, n, hk, hc, hs, hz, r⟩
  · obtain ⟨z, its, r, p⟩ := h.ok I.hok
    exact ⟨its, r, p, z⟩
  · refine ⟨its.toList, r, ⟨o, I.kIn a o hk, hc, n, by simpa using hs⟩, ?_⟩
    have e := r.length
    simp only [Array.length_toList] at e
    omega
theorem Inv.list_inj (I : Inv X pins σ H s) (h : SqL X.K H a xs) (h' : SqL X.K H a ys) : xs = ys := by
  obtain ⟨its, r, ⟨o, n, e, _, _, d⟩, _⟩ := I.list h
  obtain ⟨its', r', ⟨o', n', e', _, _, d'⟩, _⟩ := I.list h'
  rw [e] at e'; cases e'
  rw [d] at d'
  injection d' with d1 _
  have : its = its' := by simpa using congrArg Array.toList d1
  subst this
  exact r.inj r'
theorem Inv.tuple_inj (I : Inv X pins σ H s) (h : SqT X.K H a xs) (h' : SqT X.K H a ys) : xs = ys := by
  obtain ⟨its, r, ⟨o, e, _, n, d⟩, _⟩ := I.tuple h
  obtain ⟨its', r', ⟨o', e', _, n', d'⟩, _⟩ := I.tuple h'
  rw [e] at e'; cases e'
  rw [d] at d'
  injection d' with d1 _
  have : its = its' := by simpa using congrArg Array.toList d1
  subst this
  exact r.inj r'
end

abbrev Cx.wish (X : Cx) (E : Value → Shared → Prop) : Cx := { X with xe := E }
abbrev Cx.nox (X : Cx) : Cx := X.wish fun _ _ => False
theorem Cx.Ok.wish {X : Cx} (ok : X.Ok) (E : Value → Shared → Prop) : (X.wish E).Ok :=
  ⟨ok.mod, ok.kind, ok.glob, ok.blt, ok.above, ok.inj, ok.has, ok.cab, ok.hd, ok.frames, ok.stk, ok.exf, ok.bs, ok.bsz, ok.noex, ok.exfs, ok.funs, ok.frf⟩
theorem Cx.Ok.unwish {X : Cx} {E : Value → Shared → Prop} (ok : (X.wish E).Ok) : X.Ok :=
  ⟨ok.mod, ok.kind, ok.glob, ok.blt, ok.above, ok.inj, ok.has, ok.cab, ok.hd, ok.frames, ok.stk, ok.exf, ok.bs, ok.bsz, ok.noex, ok.exfs, ok.funs, ok.frf⟩
section
variable {X : Cx} {pins : List (Addr × Obj)} {σ : St} {H : Hp} {s : Shared} {E : Value → Shared → Prop}
theorem Inv.wish (I : Inv X pins σ H s) (E : Value → Shared → Prop) : Inv (X.wish E) pins σ H s := ⟨I.ok.wish E, I.os, I.bare, I.base, I.loc, I.cell, I.free, I.freeC, I.pin, I.hok, I.len⟩
theorem Inv.unwish (I : Inv (X.wish E) pins σ H s) : Inv X pins σ H s := ⟨I.ok.unwish, I.os, I.bare, I.base, I.loc, I.cell, I.free, I.freeC, I.pin, I.hok, I.len⟩
theorem SP.unwish {D : Ends} {f : Flow} {s' : Shared} (h : SP (X.wish E) pins D f s') : SP X pins D f s' := by
  cases f with
  | next => obtain ⟨σ', H', I, q⟩ := h; exact ⟨σ', H', I.unwish, q⟩
  | brk => obtain ⟨σ', H', I, q⟩ := h; exact ⟨σ', H', I.unwish, q⟩
  | cont => obtain ⟨σ', H', I, q⟩ := h; exact ⟨σ', H', I.unwish, q⟩
  | ret u => obtain ⟨v, σ', H', I, r, q⟩ := h; exact ⟨v, σ', H', I.unwish, r, q⟩
theorem PSs.nox {st : List Stmt} {t : TS} (h : PSs X.nox st t) : PSs X st t := fun pins s σ H D I hw =>
  wpAny_mono (h pins s σ H D (I.wish _) hw) (fun _ _ q => q.unwish) fun _ _ z => False.elim z
end

section
variable {X : Cx} {st : Stmt} {rest : List Stmt} {t u : TS} {e : Expr} {te : TE} {pos : Pos}
def tNext : TS := fun D σ H => D.nx σ H
def tSeq (t u : TS) : TS := fun D σ H => t { D with nx := u D } σ H
theorem pss_nil : PSs X [] tNext := fun _ _ σ H _ I h => wpAny_execs_nil ⟨σ, H, I, h⟩
theorem pss_cons (h1 : PS X st t) (h2 : PSs X rest u) : PSs X (st :: rest) (tSeq t u) := by
  intro pins s σ H D I h
  refine wpAny_execs_cons (thn (h1 pins s σ H { D with nx := u D } I h) fun f s1 q => ?_)
  cases f with
  | next =>
    obtain ⟨σ', H', I', q⟩ := q
    exact h2 pins s1 σ' H' D I' q
  | ret v => exact q
  | brk => exact q
  | cont => exact q
theorem pss_one (h1 : PS X st t) : PSs X [st] t := by
  intro pins s σ H D I h
  refine wpAny_execs_cons (thn (h1 pins s σ H D I h) fun f s1 q => ?_)
  cases f with
  | next => exact wpAny_execs_nil q
  | ret v => exact q
  | brk => exact q
  | cont => exact q
theorem Inv.quiet {pins : List (Addr × Obj)} {σ : St} {H : Hp} {s : Shared} (I : Inv X pins σ H s) : interactive X.env = false := by simp [interactive, I.ok.kind]
def tDrop (te : TE) : TS := fun D σ H => te σ H fun _ H1 => D.nx σ H1
theorem ps_expr (he : PE X e te) (hs : swapsWith e none pos.line X.env = pure false := by rfl) : PS X (.Expr e pos) (tDrop te) := by
  intro pins s σ H D I h
  exact wpAny_Expr_any (thn (he pins s σ H _ I h) fun v s1 ⟨x, H1, I1, r1, q1⟩ => ⟨σ, H1, I1, q1⟩) I.quiet hs
def tRet (te : TE) : TS := fun D σ H => te σ H D.rt
theorem ps_ret (he : PE X e te) : PS X (.Return (some e) pos) (tRet te) := by
  intro pins s σ H D I h
  exact wpAny_Return_some (thn (he pins s σ H _ I h) fun v s1 ⟨x, H1, I1, r1, q1⟩ => ⟨x, σ, H1, I1, r1, q1⟩)
def tIfS (c : TT) (t u : TS) : TS := fun D σ H => c σ H fun b H1 => if b = true then t D σ H1 else u D σ H1
theorem ps_if {c : Expr} {a b : List Stmt} {tc : TT} (hc : PT X c tc) (ha : PSs X a t) (hb : PSs X b u) : PS X (.If c a b pos) (tIfS tc t u) := by
  intro pins s σ H D I h
  refine wpAny_If (thn (hc pins s σ H _ I h) fun d s1 ⟨H1, I1, q1⟩ => ?_)
  cases d with
  | true => exact ha pins s1 σ H1 D I1 q1
  | false => exact hb pins s1 σ H1 D I1 q1
end

abbrev TG := V → St → Hp → (St → Hp → Prop) → Prop
abbrev TGs := List V → St → Hp → (St → Hp → Prop) → Prop
def PG (X : Cx) (target : Expr) (t : TG) : Prop :=
  ∀ (pins : List (Addr × Obj)) (s : Shared) (σ : St) (H : Hp) (v : V) (u : Value) (Q : St → Hp → Prop), Inv X pins σ H s → RelV v u → t v σ H Q →
    wpAny (model X.prog X.w) X.A (assign target X.env u) (fun _ s' => ∃ σ' H', Inv X pins σ' H' s' ∧ Q σ' H') X.xe s
def PGs (X : Cx) (ts : List Expr) (t : TGs) : Prop :=
  ∀ (pins : List (Addr × Obj)) (s : Shared) (σ : St) (H : Hp) (vs : List V) (us : List Value) (Q : St → Hp → Prop), Inv X pins σ H s → Vals vs us → t vs σ H Q →
    wpAny (model X.prog X.w) X.A (assignInOrder ((assignEach ts X.env).map (·.2)) us) (fun _ s' => ∃ σ' H', Inv X pins σ' H' s' ∧ Q σ' H') X.xe s
abbrev TIp := V → V → Hp → VK → Prop
def PIp (X : Cx) (op : Operator) (t : TIp) : Prop :=
  ∀ (pins : List (Addr × Obj)) (s : Shared) (σ : St) (H : Hp) (x y : V) (v u : Value) (Q : VK), Inv X pins σ H s → RelV x v → RelV y u → t x y H Q →
    wpAny (model X.prog X.w) X.A (inplaceOp op v u) (EP X pins σ Q) X.xe s
section
variable {X : Cx} {pos : Pos}
def gName (i : Nat) : TG := fun v σ H Q => Q (σ.set i (some v)) H
theorem pg_name {i : Nat} {x : Str} (hN : X.N.Nodup) (hi : X.N[i]? = some x) (hx : Loc X.env.scope x) (hf : X.fn x = true ∨ X.env.scope.names.lookup x = some .local := by first | exact .inl rfl | exact .inr rfl | assumption) : PG X (.Name x pos) (gName i) := by
  intro pins s σ H v u Q I r h
  exact wpAny_assign_Name (store_ok I hN hi hx r (fun s' I' => ⟨_, H, I', h⟩) hf)
def gNil : TGs := fun vs σ H Q => vs = [] ∧ Q σ H
def gCons (t : TG) (u : TGs) : TGs := fun vs σ H Q => ∃ v r, vs = v :: r ∧ t v σ H fun σ' H' => u r σ' H' Q
theorem pgs_nil : PGs X [] gNil := by
  intro pins s σ H vs us Q I r h
  obtain ⟨e, h⟩ := h
  subst e
  cases r
  exact assignInOrder_nil ⟨σ, H, I, h⟩
theorem pgs_cons {e : Expr} {es : List Expr} {t : TG} {u : TGs} (h1 : PG X e t) (h2 : PGs X es u)
    (hs : (assignEach (e :: es) X.env).map (·.2) = assign e X.env :: (assignEach es X.env).map (·.2) := by rfl) : PGs X (e :: es) (gCons t u) := by
  intro pins s σ H vs us Q I r h
  obtain ⟨v, vr, e1, h⟩ := h
  subst e1
  cases r with
  | cons r rr =>
    rw [hs]
    refine assignInOrder_cons (thn (h1 pins s σ H _ _ _ I r h) fun _ s1 ⟨σ1, H1, I1, q1⟩ => ?_)
    exact h2 pins s1 σ1 H1 _ _ Q I1 rr q1
def gTup (K : PySem.W.Frag) (n : Nat) (t : TGs) : TG := fun v σ H Q => ∃ a xs, v = .ref a ∧ SqT K H a xs ∧ xs.length = n ∧ t xs σ H Q
theorem pg_tup {es : List Expr} {k : Nat} {t : TGs} {n : Nat} (hc : X.calm = true) (h : PGs X es t)
    (hn : (assignEach es X.env).length = n := by rfl) (hst : (assignEach es X.env).findIdx? (·.1) = none := by rfl) : PG X (.Tuple es k pos) (gTup X.K n t) := by
  intro pins s σ H v u Q I r hw
  obtain ⟨a, xs, e1, hq, hl, hw⟩ := hw
  subst e1
  cases r
  obtain ⟨its, rv, ht, hz⟩ := I.tuple hq
  refine assign_Tuple_tuple (I.ok.hd hc) ht (by simp [hn, ← hl, rv.length]) hst fun h' hx => ?_
  have I1 : Inv X pins σ H { s with heap := h' } := I.kept (t' := s.toks) fun b o e => hx b o (Nat.ne_of_lt (Heap.lt_size e)) e
  exact h pins _ σ H xs _ Q I1 (by simpa using rv) hw
def tAsg (te : TE) (g : TG) : TS := fun D σ H => te σ H fun x H1 => g x σ H1 D.nx
theorem ps_set {i : Nat} {x : Str} {e : Expr} {te : TE} {pos' : Pos} (hN : X.N.Nodup) (hi : X.N[i]? = some x) (hx : Loc X.env.scope x) (he : PE X e te) (hs : swapsWith e (some (.Name x pos')) pos.line X.env = pure false := by rfl) (hf : X.fn x = true ∨ X.env.scope.names.lookup x = some .local := by first | exact .inl rfl | exact .inr rfl | assumption) :
    PS X (.Assign [.Name x pos'] e pos) (tAsg te (gName i)) := by
  intro pins s σ H D I h
  refine wpAny_Assign_Name (thn (he pins s σ H _ I h) fun v s1 ⟨y, H1, I1, r1, q1⟩ => ?_) hs
  exact store_ok I1 hN hi hx r1 (fun s2 I2 => ⟨_, H1, I2, q1⟩) hf
def tAug (i : Nat) (te : TE) (ti : TIp) : TS := fun D σ H => ∃ x, σ[i]? = some (some x) ∧ te σ H fun y H1 => ti x y H1 fun z H2 => D.nx (σ.set i (some z)) H2
theorem ps_aug {i : Nat} {x : Str} {e : Expr} {te : TE} {op : Operator} {ti : TIp} {pos' : Pos} (hN : X.N.Nodup) (hi : X.N[i]? = some x) (hx : Loc X.env.scope x) (he : PE X e te) (ho : PIp X op ti) (hf : X.fn x = true ∨ X.env.scope.names.lookup x = some .local := by first | exact .inl rfl | exact .inr rfl | assumption) :
    PS X (.AugAssign (.Name x pos') op e pos) (tAug i te ti) := by
  intro pins s σ H D I h
  obtain ⟨v, e1, h⟩ := h
  obtain ⟨m, hn, hl⟩ := I.loc
  have vis : Vis X.env.scope x := by rcases hx with k | k; exact .inl k; exact .inr (.inl k)
  obtain ⟨u, r, l⟩ := hl i x v hi e1 vis
  refine wpAny_AugAssign_Name ?_
  have go : wpAny (model X.prog X.w) X.A (eval e X.env) (fun w s₂ => wpAny (model X.prog X.w) X.A (inplaceOp op u w) (fun r s₃ => wpAny (model X.prog X.w) X.A (storeName X.env x r) (fun _ => SP X pins D .next) X.xe s₃) X.xe s₂) X.xe s := by
    refine thn (he pins s σ H _ I h) fun w s1 ⟨y, H1, I1, r1, q1⟩ => ?_
    refine thn (ho pins s1 σ H1 v y u w _ I1 r r1 q1) fun z s2 ⟨zv, H2, I2, r2, q2⟩ => ?_
    exact store_ok I2 hN hi hx r2 (fun s3 I3 => ⟨_, H2, I3, q2⟩) hf
  rcases l with ⟨hk, hm⟩ | ⟨hk, c, hc, hcell⟩
  · exact wpAny_loadName_local I.ok.kind hk hn hm go
  · rcases hk with hk | hk
    · exact wpAny_loadName_cell I.ok.kind hk hc hcell go
    · rcases hx with k | k
      · have : X.env.scope.names.lookup x = some .free := hk
        rw [k] at this; cases this
      · have : X.env.scope.names.lookup x = some .free := hk
        rw [k] at this; cases this
def ipI (f : Int → Int → Int) : TIp := fun x y H Q => ∃ i j, x = .int i ∧ y = .int j ∧ Q (.int (f i j)) H
theorem ip_add : PIp X .Add (ipI fun i j => i + j) := by
  intro pins s σ H x y v u Q I r1 r2 h
  obtain ⟨i, j, e1, e2, q⟩ := h
  subst e1; subst e2
  obtain ⟨t, rfl⟩ := r1
  obtain ⟨t', rfl⟩ := r2
  exact iadd_int ⟨.int _, H, I.tok _, ⟨_, rfl⟩, q⟩
theorem ip_sub : PIp X .Sub (ipI fun i j => i - j) := by
  intro pins s σ H x y v u Q I r1 r2 h
  obtain ⟨i, j, e1, e2, q⟩ := h
  subst e1; subst e2
  obtain ⟨t, rfl⟩ := r1
  obtain ⟨t', rfl⟩ := r2
  exact isub_int ⟨.int _, H, I.tok _, ⟨_, rfl⟩, q⟩
end

section
variable {X : Cx} {pos : Pos}
def tWhile (c : TT) (tb : TS) : TS := fun D σ H => ∃ W : Nat → St → Hp → Prop, (∃ m, W m σ H) ∧ ∀ m σ H, W m σ H →
  c σ H fun b H1 => if b = true then ∃ N : St → Hp → Prop, (∀ σ' H', N σ' H' → ∃ m', m' < m ∧ W m' σ' H') ∧ tb { D with nx := N, ct := N, bk := D.nx } σ H1 else D.nx σ H1
theorem ps_while {c : Expr} {body : List Stmt} {tc : TT} {tb : TS} (hp : PassesOwn (model X.prog X.w) X.A X.env X.xe) (hc : PT X c tc) (hb : PSs X body tb) : PS X (.While c body [] pos) (tWhile tc tb) := by
  intro pins s σ H D I h
  obtain ⟨W, ⟨m0, w0⟩, turn⟩ := h
  refine wpAny_While (codeAny_whileLoop (fun n s' => ∃ σ' H', Inv X pins σ' H' s' ∧ W n σ' H') ?_ m0 ⟨σ, H, I, w0⟩)
  rintro n s1 ⟨σ1, H1, I1, w1⟩
  refine wpAny_passesOwn hp (thn (hc pins s1 σ1 H1 _ I1 (turn n σ1 H1 w1)) fun b s2 ⟨H2, I2, q2⟩ => ?_)
  cases b with
  | true =>
    obtain ⟨N, hN, q2⟩ := q2
    rw [if_pos rfl]
    refine wpAny_passesOwn hp (thn (hb pins s2 σ1 H2 _ I2 q2) fun f s3 q3 => ?_)
    cases f with
    | next =>
      obtain ⟨σ3, H3, I3, n3⟩ := q3
      obtain ⟨m', hm, w3⟩ := hN σ3 H3 n3
      exact ⟨m', hm, σ3, H3, I3, w3⟩
    | cont =>
      obtain ⟨σ3, H3, I3, n3⟩ := q3
      obtain ⟨m', hm, w3⟩ := hN σ3 H3 n3
      exact ⟨m', hm, σ3, H3, I3, w3⟩
    | brk => exact q3
    | ret v => exact q3
  | false =>
    rw [if_neg Bool.false_ne_true]
    exact wpAny_execs_nil ⟨σ1, H2, I2, q2⟩
end

structure It where
  go : Nat → Hp → Prop
  yld : Nat → Hp → V → Hp → Prop
  stop : Nat → Hp → Prop
def FpOk (X : Cx) (pins : List (Addr × Obj)) (H : Hp) (b : Addr) : Prop :=
  H b = none ∧ b ≠ X.env.locals ∧ b ∉ X.fs ∧ (b ∈ X.ex ∨ X.s_0.heap.objs.size ≤ b) ∧ (∀ x c, X.env.cells.lookup x = some c → c ≠ b) ∧ ∀ p ∈ X.pn ++ pins, p.1 ≠ b
theorem Inv.fpOk {X : Cx} {pins : List (Addr × Obj)} {σ : St} {H H' : Hp} {s : Shared} {b : Addr} (I : Inv X pins σ H s) (hb : s.heap.objs.size ≤ b) (hn : H' b = none) : FpOk X pins H' b := by
  refine ⟨hn, Nat.ne_of_gt (Nat.lt_of_lt_of_le I.lt hb), I.nofs hb, .inr (Nat.le_trans I.sz hb), fun x c e z => ?_, fun p hp z => ?_⟩
  · obtain ⟨v, q⟩ := I.cell x c e
    exact absurd (Nat.lt_of_lt_of_le q.lt (by rw [z]; exact hb)) (Nat.lt_irrefl _)
  · exact absurd (Nat.lt_of_lt_of_le (Heap.lt_size (I.pin p hp).1) (by rw [z]; exact hb)) (Nat.lt_irrefl _)
structure Turn (P : Program) (w : World) (K : PySem.W.Frag) (tg : Expr) (J : It) (fp : List Addr) (it : Addr) (tn : Nat → Heap → Prop) : Prop where
  mem : it ∈ fp
  obj : ∀ i h, tn i h → ∀ b ∈ fp, ∃ o, h.get? b = some o ∧ ∀ v, o.data ≠ .cell v
  keep : ∀ i h h', tn i h → (∀ b ∈ fp, ∀ o, h.get? b = some o → h'.get? b = some o) → tn i h'
  item : ∀ (X : Cx), X.prog = P → X.w = w → X.K = K → X.calm = true → ∀ (i : Nat) (pins : List (Addr × Obj)) (s : Shared) (σ : St) (H : Hp) (E : Value → Shared → Prop), Inv X pins σ H s → (∀ b ∈ fp, FpOk X pins H b) → tn i s.heap → J.go i H →
    wpAny (model P w) X.A (pyNext (.ref it)) (fun r s1 => ∃ u, r = some u ∧
      wpAny (model P w) X.A (letOwnedTupleGo tg (.ref it) u) (fun _ s2 => ∃ x H', Inv X pins σ H' s2 ∧ RelV x u ∧ J.yld i H x H' ∧ tn (i + 1) s2.heap ∧ ∀ b ∈ fp, H' b = none) E s1) E s
  done : ∀ (X : Cx), X.prog = P → X.w = w → X.K = K → X.calm = true → ∀ (i : Nat) (pins : List (Addr × Obj)) (s : Shared) (σ : St) (H : Hp) (E : Value → Shared → Prop), Inv X pins σ H s → (∀ b ∈ fp, FpOk X pins H b) → tn i s.heap → J.stop i H →
    wpAny (model P w) X.A (pyNext (.ref it)) (fun r s1 => r = none ∧ Inv X pins σ H s1) E s
  self : ∀ (A : Around) (i : Nat) (s : Shared) (Q : Value → Shared → Prop) (E : Value → Shared → Prop), tn i s.heap → Q (.ref it) s → wpAny (model P w) A (pyIter (.ref it)) Q E s
abbrev TI := St → Hp → (It → Hp → Prop) → Prop
def PIE (X : Cx) (pins : List (Addr × Obj)) (σ : St) (tg : Expr) (R : It → Hp → Prop) (itv : Value) (s2 : Shared) : Prop :=
  ∃ (it : Addr) (fp : List Addr) (tn : Nat → Heap → Prop) (J : It) (H' : Hp), itv = .ref it ∧ Inv X pins σ H' s2 ∧ Turn X.prog X.w X.K tg J fp it tn ∧ tn 0 s2.heap ∧ (∀ b ∈ fp, FpOk X pins H' b) ∧ R J H'
def PI (X : Cx) (tg iter : Expr) (wi : TI) : Prop :=
  ∀ (pins : List (Addr × Obj)) (s : Shared) (σ : St) (H : Hp) (R : It → Hp → Prop), Inv X pins σ H s → wi σ H R →
    wpAny (model X.prog X.w) X.A (eval iter X.env) (fun v s1 => wpAny (model X.prog X.w) X.A (pyIter v) (PIE X pins σ tg R) X.xe s1) X.xe s

theorem go_of {M : Model} {A : Around} {E : Value → Shared → Prop} {s : Shared} {tg : Expr} {it : Addr} {u : Value} {o : Obj} {n : String} {vs : Array Value} {Q : Unit → Shared → Prop} (ho : s.heap.get? it = some o) (hc : o.cls = .type n) (hd : o.data = .fields vs)
    (hn : ["enumerate", "zip", "dict_itemiterator", "dict_reverseitemiterator", "odict_iterator", "itertools.zip_longest", "itertools.pairwise"].contains n = false) (hQ : Q () s) : wpAny M A (letOwnedTupleGo tg (.ref it) u) Q E s := by
  unfold letOwnedTupleGo
  cases tg <;> first
    | exact wpAny_pure hQ
    | (cases u <;> first
        | exact wpAny_pure hQ
        | (refine wpAny_bind (wpAny_load ho ?_)
           rw [hc, hd]
           show wpAny M A (if (["enumerate", "zip", "dict_itemiterator", "dict_reverseitemiterator", "odict_iterator", "itertools.zip_longest", "itertools.pairwise"].contains n && vs[0]? == some (rawInt _)) = true then _ else _) Q E s
           rw [if_neg (by intro h; rw [hn, Bool.false_and] at h; cases h)]
           exact wpAny_pure hQ))

def Itl (K : PySem.W.Frag) (a : Addr) : It :=
  ⟨fun i H => ∃ xs x, SqL K H a xs ∧ xs[i]? = some x, fun i H x H' => H' = H ∧ ∀ xs, SqL K H a xs → xs[i]? = some x, fun i H => ∃ xs, SqL K H a xs ∧ xs.length ≤ i⟩
def Itt (K : PySem.W.Frag) (a : Addr) : It :=
  ⟨fun i H => ∃ xs x, SqT K H a xs ∧ xs[i]? = some x, fun i H x H' => H' = H ∧ ∀ xs, SqT K H a xs → xs[i]? = some x, fun i H => ∃ xs, SqT K H a xs ∧ xs.length ≤ i⟩
def Itr (lo : Int) (n : Nat) : It := ⟨fun i _ => i < n, fun i H x H' => H' = H ∧ x = .int (lo + i), fun i _ => n ≤ i⟩
theorem turn_list {P : Program} {w : World} {K : PySem.W.Frag} {tg : Expr} (a it : Addr) : Turn P w K tg (Itl K a) [it] it (fun i h => h.IsListIter it a i) where
  mem := by simp
  obj := fun i h st b hb => by
    have e : b = it := by simpa using hb
    subst e
    obtain ⟨o, e, c, d⟩ := st
    exact ⟨o, e, fun v z => by rw [d] at z; cases z⟩
  keep := fun i h h' st k => st.at fun o e => k it (by simp) o e
  item := by
    intro X hP hw hK hc i pins s σ H E I hf st hg
    subst hP hw hK
    obtain ⟨xs, x, hq, hx⟩ := hg
    obtain ⟨its, rv, p, hz⟩ := I.list hq
    obtain ⟨u, hu, ru⟩ := rv.get hx
    obtain ⟨f0, f1, f2, f3, f4, f5⟩ := hf it (by simp)
    refine wpAny_pyNext_list_item st p.isList (x := u) (by simpa using hu) fun h' st' sb => ?_
    have I1 : Inv X pins σ H { s with heap := h' } := I.turned (t' := s.toks) (fun b o hb e => (sb.2 b hb).trans e) f0 f1 f3 f4 f5
    obtain ⟨o, e, c, d⟩ := id st'
    exact ⟨u, rfl, go_of (s := { s with heap := h' }) e c d (by decide) ⟨x, H, I1, ru, ⟨rfl, fun ys hy => by rw [I.list_inj hy hq]; exact hx⟩, st', fun b hb => (hf b hb).1⟩⟩
  done := by
    intro X hP hw hK hc i pins s σ H E I hf st hg
    subst hP hw hK
    obtain ⟨xs, hq, hx⟩ := hg
    obtain ⟨its, rv, p, hz⟩ := I.list hq
    obtain ⟨f0, f1, f2, f3, f4, f5⟩ := hf it (by simp)
    have hl := rv.length
    exact wpAny_pyNext_list_end (I.ok.hd hc) st p.isList (by simp; omega) fun h' eb => ⟨rfl, I.turned (t' := s.toks) (fun b o hb e => eb b o hb e) f0 f1 f3 f4 f5⟩
  self := fun _ _ _ _ _ st h => wpAny_pyIter_listiter st h
theorem turn_tuple {P : Program} {w : World} {K : PySem.W.Frag} {tg : Expr} (a it : Addr) : Turn P w K tg (Itt K a) [it] it (fun i h => h.IsTupleIter it a i) where
  mem := by simp
  obj := fun i h st b hb => by
    have e : b = it := by simpa using hb
    subst e
    obtain ⟨o, e, c, d⟩ := st
    exact ⟨o, e, fun v z => by rw [d] at z; cases z⟩
  keep := fun i h h' st k => st.at fun o e => k it (by simp) o e
  item := by
    intro X hP hw hK hc i pins s σ H E I hf st hg
    subst hP hw hK
    obtain ⟨xs, x, hq, hx⟩ := hg
    obtain ⟨its, rv, p, hz⟩ := I.tuple hq
    obtain ⟨u, hu, ru⟩ := rv.get hx
    obtain ⟨f0, f1, f2, f3, f4, f5⟩ := hf it (by simp)
    refine wpAny_pyNext_tuple_item st (show s.heap.IsTuple a its.toArray from p) (x := u) (by simpa using hu) fun h' st' sb => ?_
    have I1 : Inv X pins σ H { s with heap := h' } := I.turned (t' := s.toks) (fun b o hb e => (sb.2 b hb).trans e) f0 f1 f3 f4 f5
    obtain ⟨o, e, c, d⟩ := id st'
    exact ⟨u, rfl, go_of (s := { s with heap := h' }) e c d (by decide) ⟨x, H, I1, ru, ⟨rfl, fun ys hy => by rw [I.tuple_inj hy hq]; exact hx⟩, st', fun b hb => (hf b hb).1⟩⟩
  done := by
    intro X hP hw hK hc i pins s σ H E I hf st hg
    subst hP hw hK
    obtain ⟨xs, hq, hx⟩ := hg
    obtain ⟨its, rv, p, hz⟩ := I.tuple hq
    obtain ⟨f0, f1, f2, f3, f4, f5⟩ := hf it (by simp)
    have hl := rv.length
    exact wpAny_pyNext_tuple_end (I.ok.hd hc) st (show s.heap.IsTuple a its.toArray from p) (by simp; omega) fun h' eb => ⟨rfl, I.turned (t' := s.toks) (fun b o hb e => eb b o hb e) f0 f1 f3 f4 f5⟩
  self := fun _ _ _ _ _ st h => wpAny_pyIter_tupleiter st h
theorem turn_range {P : Program} {w : World} {K : PySem.W.Frag} {tg : Expr} (it : Addr) (lo : Int) (n : Nat) : Turn P w K tg (Itr lo n) [it] it (fun i h => IsRangeIter h it (lo + (i : Nat) * 1) ((n : Int) - (i : Nat)) 1) where
  mem := by simp
  obj := fun i h st b hb => by
    have e : b = it := by simpa using hb
    subst e
    exact ⟨_, st, fun v z => by
      have z' : Data.fields _ = Data.cell v := z
      cases z'⟩
  keep := fun i h h' st k => k it (by simp) _ st
  item := by
    intro X hP hw hK hc i pins s σ H E I hf st hg
    subst hP hw hK
    obtain ⟨f0, f1, f2, f3, f4, f5⟩ := hf it (by simp)
    have W := Walks.range (prog := X.prog) (w := X.w) (I.ok.hd hc) it lo 1 n
    refine W.item i s _ _ hg st fun v h' tk hv st' kk => ?_
    obtain ⟨t, rfl⟩ := hv
    have I1 : Inv X pins σ H { s with heap := h', toks := tk } := I.turned (fun b o hb e => kk b o (by simpa using hb) e) f0 f1 f3 f4 f5
    refine ⟨_, rfl, go_of (s := { s with heap := h', toks := tk }) (n := "range_iterator") st' rfl rfl (by decide) ⟨.int (lo + i), H, I1, ⟨t, ?_⟩, ⟨rfl, rfl⟩, st', fun b hb => (hf b hb).1⟩⟩
    rw [Int.mul_one]
  done := by
    intro X hP hw hK hc i pins s σ H E I hf st hg
    subst hP hw hK
    obtain ⟨f0, f1, f2, f3, f4, f5⟩ := hf it (by simp)
    exact wpAny_pyNext_range_end (I.ok.hd hc) st (by have : n ≤ i := hg; omega) fun h' eb => ⟨rfl, I.turned (t' := s.toks) (fun b o hb e => eb b o hb e) f0 f1 f3 f4 f5⟩
  self := fun _ _ _ _ _ st h => wpAny_pyIter_rangeiter st h
end L2

namespace L2
open PySem PySem.Spec PyProof.Rows
section
variable {X : Cx} {tg : Expr}
def iList (K : PySem.W.Frag) (tl : TE) : TI := fun σ H R => tl σ H fun x H1 => ∃ a, x = .ref a ∧ (∃ xs, SqL K H1 a xs) ∧ R (Itl K a) H1
def iTup (K : PySem.W.Frag) (tl : TE) : TI := fun σ H R => tl σ H fun x H1 => ∃ a, x = .ref a ∧ (∃ xs, SqT K H1 a xs) ∧ R (Itt K a) H1
theorem pi_list {l : Expr} {tl : TE} (hl : PE X l tl) : PI X tg l (iList X.K tl) := by
  intro pins s σ H R I h
  refine thn (hl pins s σ H _ I h) fun v s1 ⟨x, H1, I1, r1, q1⟩ => ?_
  obtain ⟨a, e, ⟨xs, hq⟩, q⟩ := q1
  subst e
  cases r1
  obtain ⟨its, rv, p, hz⟩ := I1.list hq
  refine wpAny_pyIter_list p.isList ?_
  refine ⟨s1.heap.objs.size, [s1.heap.objs.size], _, _, H1, rfl, I1.kept (t' := s1.toks) fun b o e => Heap.get?_push_of_some _ e, turn_list a _, ⟨_, Heap.get?_push_size _ rfl, rfl, rfl⟩, fun b hb => ?_, q⟩
  have e : b = s1.heap.objs.size := by simpa using hb
  subst e
  exact I1.fpOk (Nat.le_refl _) (I1.hok.fresh (Nat.le_refl _))
theorem pi_tup {l : Expr} {tl : TE} (hl : PE X l tl) : PI X tg l (iTup X.K tl) := by
  intro pins s σ H R I h
  refine thn (hl pins s σ H _ I h) fun v s1 ⟨x, H1, I1, r1, q1⟩ => ?_
  obtain ⟨a, e, ⟨xs, hq⟩, q⟩ := q1
  subst e
  cases r1
  obtain ⟨its, rv, p, hz⟩ := I1.tuple hq
  refine wpAny_pyIter_tuple (show s1.heap.IsTuple a its.toArray from p) ?_
  refine ⟨s1.heap.objs.size, [s1.heap.objs.size], _, _, H1, rfl, I1.kept (t' := s1.toks) fun b o e => Heap.get?_push_of_some _ e, turn_tuple a _, ⟨_, Heap.get?_push_size _ rfl, rfl, rfl⟩, fun b hb => ?_, q⟩
  have e : b = s1.heap.objs.size := by simpa using hb
  subst e
  exact I1.fpOk (Nat.le_refl _) (I1.hok.fresh (Nat.le_refl _))
theorem range_it {pins : List (Addr × Obj)} {σ : St} {H : Hp} {s : Shared} {R : It → Hp → Prop} {E : Value → Shared → Prop} {lo hi : Int} {t u v : Tok} {tk : Nat} (I : Inv X pins σ H s) (h1 : -(2 ^ 62) ≤ lo) (h2 : lo < 2 ^ 62) (h3 : -(2 ^ 62) ≤ hi) (h4 : hi < 2 ^ 62)
    (q : R (Itr lo (hi - lo).toNat) H) : wpAny (model X.prog X.w) X.A (pyIter (.ref s.heap.objs.size)) (PIE X pins σ tg R) E { s with heap := s.heap.push { cls := .type "range", data := .fields #[.int lo t, .int hi u, .int 1 v] }, toks := tk } := by
  refine wpAny_pyIter_range (IsRange.new ..) (small_one h1 h2 h3 h4) ?_
  have I1 : Inv X pins σ H { s with heap := s.heap.push { cls := .type "range", data := .fields #[.int lo t, .int hi u, .int 1 v] }, toks := tk } := I.kept fun b o e => Heap.get?_push_of_some _ e
  refine ⟨(s.heap.push { cls := .type "range", data := .fields #[.int lo t, .int hi u, .int 1 v] }).objs.size, [(s.heap.push { cls := .type "range", data := .fields #[.int lo t, .int hi u, .int 1 v] }).objs.size], _, _, H, rfl,
    I1.kept (t' := tk) fun b o e => Heap.get?_push_of_some _ e, turn_range _ lo (hi - lo).toNat, ?_, fun b hb => ?_, q⟩
  · have e1 : lo + ((0 : Nat) : Int) * 1 = lo := by simp
    have e2 : (((hi - lo).toNat : Nat) : Int) - ((0 : Nat) : Int) = Builtin.Range.rangeSize lo hi 1 := by rw [rangeSize_one]; split <;> omega
    show IsRangeIter _ _ (lo + ((0 : Nat) : Int) * 1) ((((hi - lo).toNat : Nat) : Int) - ((0 : Nat) : Int)) 1
    rw [e1, e2]
    exact Heap.get?_push_size _ rfl
  · have e : b = (s.heap.push { cls := .type "range", data := .fields #[.int lo t, .int hi u, .int 1 v] }).objs.size := by simpa using hb
    subst e
    exact I1.fpOk (Nat.le_refl _) (I1.hok.fresh (Nat.le_refl _))
def iRng1 (ta : TA) : TI := fun σ H R => ta σ H fun vs H1 => ∃ j : Int, vs = [.int j] ∧ -(2 ^ 62) ≤ j ∧ j < 2 ^ 62 ∧ R (Itr 0 j.toNat) H1
theorem pi_range1 {a : Expr} {ta : TA} {p pos : Pos} (hg : Gl X "range") (hm : X.mg "range" = none) (ha : PA X [a] ta) (hs : starEach [a] X.env = [(false, eval a X.env)] := by rfl) : PI X tg (.Call (.Name "range" p) [a] [] pos) (iRng1 ta) := by
  intro pins s σ H R I h
  refine Call_ (ld_blt I hg hm boot_range (PyProof.Rows.callWith_type1 (thn (ha pos pins s σ H _ I h) fun us s1 ⟨vs, H1, I1, r1, q1⟩ => ?_) hs rfl))
  obtain ⟨j, e, q1, q2, q⟩ := q1
  subst e
  cases r1 with
  | cons r rr =>
    cases rr
    obtain ⟨t, rfl⟩ := r
    exact call_range_1 (range_it I1 (by omega) (by omega) q1 q2 (by simpa using q))
def tFor (wi : TI) (g : TG) (tb : TS) : TS := fun D σ H => wi σ H fun J H1 => ∃ W : Nat → Nat → St → Hp → Prop, (∃ m, W 0 m σ H1) ∧ ∀ i m σ H, W i m σ H →
  (J.stop i H ∧ D.nx σ H) ∨ (J.go i H ∧ ∃ N : St → Hp → Prop, (∀ σ' H', N σ' H' → ∃ m', m' < m ∧ W (i + 1) m' σ' H') ∧ ∀ x H', J.yld i H x H' → g x σ H' fun σ2 H2 => tb { D with nx := N, ct := N, bk := D.nx } σ2 H2)
def pinsAt (fp : List Addr) (h : Heap) : List (Addr × Obj) := fp.filterMap fun b => (h.get? b).map fun o => (b, o)
theorem mem_pinsAt {fp : List Addr} {h : Heap} {b : Addr} {o : Obj} (hb : b ∈ fp) (e : h.get? b = some o) : (b, o) ∈ pinsAt fp h := List.mem_filterMap.mpr ⟨b, hb, by rw [e]; rfl⟩
theorem of_pinsAt {fp : List Addr} {h : Heap} {p : Addr × Obj} (hp : p ∈ pinsAt fp h) : p.1 ∈ fp ∧ h.get? p.1 = some p.2 := by
  obtain ⟨b, hb, e⟩ := List.mem_filterMap.mp hp
  cases q : h.get? b with
  | none => rw [q] at e; cases e
  | some o =>
    rw [q] at e
    have e' : (b, o) = p := Option.some.inj e
    subst e'
    exact ⟨hb, q⟩
theorem Inv.pinned {pins : List (Addr × Obj)} {σ : St} {H : Hp} {s : Shared} {fp : List Addr} (I : Inv X pins σ H s) (hf : ∀ b ∈ fp, FpOk X pins H b) (ho : ∀ b ∈ fp, ∃ o, s.heap.get? b = some o ∧ ∀ v, o.data ≠ .cell v) : Inv X (pins ++ pinsAt fp s.heap) σ H s :=
  I.pins_of fun p hp => (List.mem_append.mp hp).elim (fun z => I.pin p (List.mem_append_right _ z)) fun z => by
    obtain ⟨hb, e⟩ := of_pinsAt z
    obtain ⟨f0, f1, f2, _⟩ := hf p.1 hb
    obtain ⟨o, e', d⟩ := ho p.1 hb
    rw [e] at e'; cases e'
    exact ⟨e, f0, f1, f2, d⟩
theorem Inv.unpinned {pins pl : List (Addr × Obj)} {σ : St} {H : Hp} {s : Shared} (I : Inv X (pins ++ pl) σ H s) : Inv X pins σ H s := I.pins_of fun p hp => I.pin p (List.mem_append_right _ (List.mem_append_left _ hp))
theorem ps_for {iter : Expr} {body : List Stmt} {wi : TI} {g : TG} {tb : TS} {pos : Pos} (hp : PassesOwn (model X.prog X.w) X.A X.env X.xe) (hc : X.calm = true) (hi : PI X tg iter wi) (hg : PG X tg g) (hb : PSs X body tb)
    (hs : ∀ x, foldedSetIterable iter X.env x = pure x := by intro _; rfl) : PS X (.For tg iter body [] pos) (tFor wi g tb) := by
  intro pins s σ H D I h
  refine wpAny_For (thn (hi pins s σ H _ I h) fun v s1 h1 => thn h1 fun itv s2 h2 => ?_) hs
  obtain ⟨it, fp, tn, J, H2, e, I2, T, st2, f2, W, ⟨m0, w0⟩, turn⟩ := h2
  subst e
  -- what stays true of the iterator's objects through the loop
  have stat : ∀ {H' : Hp}, (∀ b ∈ fp, H' b = none) → ∀ b ∈ fp, FpOk X pins H' b := fun hn b hb => ⟨hn b hb, (f2 b hb).2⟩
  refine codeAny_forLoop_any (fun n s' => ∃ i σ' H', Inv X pins σ' H' s' ∧ tn i s'.heap ∧ (∀ b ∈ fp, H' b = none) ∧ W i n σ' H') ?_ m0 ⟨0, σ, H2, I2, st2, fun b hb => (f2 b hb).1, w0⟩
  rintro n s3 ⟨i, σ3, H3, I3, st3, fr3, w3⟩
  rcases turn i n σ3 H3 w3 with ⟨stop, qn⟩ | ⟨go, N, hN, step⟩
  · refine wpAny_passesOwn hp (thn (T.done X rfl rfl rfl hc i pins s3 σ3 H3 X.xe I3 (stat fr3) st3 stop) fun r s4 ⟨hr, I4⟩ => ?_)
    subst hr
    exact wpAny_execs_nil ⟨σ3, H3, I4, qn⟩
  · refine wpAny_passesOwn hp (thn (T.item X rfl rfl rfl hc i pins s3 σ3 H3 X.xe I3 (stat fr3) st3 go) fun r s4 ⟨u, hr, h4⟩ => ?_)
    subst hr
    refine wpAny_passesOwn hp (thn h4 fun _ s5 ⟨x, H5, I5, r5, y5, st5, fr5⟩ => ?_)
    have I5' := I5.pinned (stat fr5) (T.obj _ _ st5)
    refine wpAny_passesOwn hp (thn (hg _ s5 σ3 H5 x u _ I5' r5 (step x H5 y5)) fun _ s6 ⟨σ6, H6, I6, q6⟩ => ?_)
    refine wpAny_passesOwn hp (thn (hb _ s6 σ6 H6 _ I6 q6) fun f s7 q7 => ?_)
    have again : ∀ {σ7 : St} {H7 : Hp}, Inv X (pins ++ pinsAt fp s5.heap) σ7 H7 s7 → N σ7 H7 → ∃ m, m < n ∧ ∃ i σ' H', Inv X pins σ' H' s7 ∧ tn i s7.heap ∧ (∀ b ∈ fp, H' b = none) ∧ W i m σ' H' := fun {σ7 H7} I7 n7 => by
      obtain ⟨m', hm, w7⟩ := hN σ7 H7 n7
      refine ⟨m', hm, i + 1, σ7, H7, I7.unpinned, T.keep _ _ _ st5 fun b hb o e => (I7.pin (b, o) (List.mem_append_right _ (List.mem_append_right _ (mem_pinsAt hb e)))).1, fun b hb => ?_, w7⟩
      obtain ⟨o, e, d⟩ := T.obj _ _ st5 b hb
      exact (I7.pin (b, o) (List.mem_append_right _ (List.mem_append_right _ (mem_pinsAt hb e)))).2.1
    cases f with
    | next => obtain ⟨σ7, H7, I7, n7⟩ := q7; exact again I7 n7
    | cont => obtain ⟨σ7, H7, I7, n7⟩ := q7; exact again I7 n7
    | brk => obtain ⟨σ7, H7, I7, q7⟩ := q7; exact ⟨σ7, H7, I7.unpinned, q7⟩
    | ret v => obtain ⟨x7, σ7, H7, I7, r7, q7⟩ := q7; exact ⟨x7, σ7, H7, I7.unpinned, r7, q7⟩
end

theorem for_list {K : PySem.W.Frag} {a : Addr} {xs : List V} {g : TG} {tb : TS} {D : Ends} {σ : St} {H : Hp} (Pv : Nat → St → Hp → Prop) (h0 : Pv 0 σ H) (hl : ∀ i σ H, i ≤ xs.length → Pv i σ H → SqL K H a xs)
    (hs : ∀ i x σ H, xs[i]? = some x → Pv i σ H → g x σ H fun σ2 H2 => tb { D with nx := Pv (i + 1), ct := Pv (i + 1), bk := D.nx } σ2 H2) (hd : ∀ σ H, Pv xs.length σ H → D.nx σ H) :
    ∃ W : Nat → Nat → St → Hp → Prop, (∃ m, W 0 m σ H) ∧ ∀ i m σ H, W i m σ H →
      ((Itl K a).stop i H ∧ D.nx σ H) ∨ ((Itl K a).go i H ∧ ∃ N : St → Hp → Prop, (∀ σ' H', N σ' H' → ∃ m', m' < m ∧ W (i + 1) m' σ' H') ∧ ∀ x H', (Itl K a).yld i H x H' → g x σ H' fun σ2 H2 => tb { D with nx := N, ct := N, bk := D.nx } σ2 H2) := by
  refine ⟨fun i m σ H => m = xs.length - i ∧ i ≤ xs.length ∧ Pv i σ H, ⟨xs.length, by simp, Nat.zero_le _, h0⟩, ?_⟩
  rintro i m σ H ⟨rfl, hi, p⟩
  have q := hl i σ H hi p
  by_cases hlt : i < xs.length
  · refine .inr ⟨⟨xs, xs[i], q, by simp [hlt]⟩, Pv (i + 1), fun σ' H' p' => ⟨xs.length - (i + 1), by omega, rfl, hlt, p'⟩, fun x H' y => ?_⟩
    obtain ⟨e, y⟩ := y
    subst e
    exact hs i x σ _ (y xs q) p
  · have e : i = xs.length := by omega
    subst e
    exact .inl ⟨⟨xs, q, Nat.le_refl _⟩, hd σ H p⟩
theorem for_range {lo : Int} {n : Nat} {g : TG} {tb : TS} {D : Ends} {σ : St} {H : Hp} (Pv : Nat → St → Hp → Prop) (h0 : Pv 0 σ H)
    (hs : ∀ i σ H, i < n → Pv i σ H → g (.int (lo + i)) σ H fun σ2 H2 => tb { D with nx := Pv (i + 1), ct := Pv (i + 1), bk := D.nx } σ2 H2) (hd : ∀ σ H, Pv n σ H → D.nx σ H) :
    ∃ W : Nat → Nat → St → Hp → Prop, (∃ m, W 0 m σ H) ∧ ∀ i m σ H, W i m σ H →
      ((Itr lo n).stop i H ∧ D.nx σ H) ∨ ((Itr lo n).go i H ∧ ∃ N : St → Hp → Prop, (∀ σ' H', N σ' H' → ∃ m', m' < m ∧ W (i + 1) m' σ' H') ∧ ∀ x H', (Itr lo n).yld i H x H' → g x σ H' fun σ2 H2 => tb { D with nx := N, ct := N, bk := D.nx } σ2 H2) := by
  refine ⟨fun i m σ H => m = n - i ∧ i ≤ n ∧ Pv i σ H, ⟨n, by simp, Nat.zero_le _, h0⟩, ?_⟩
  rintro i m σ H ⟨rfl, hi, p⟩
  by_cases hlt : i < n
  · refine .inr ⟨hlt, Pv (i + 1), fun σ' H' p' => ⟨n - (i + 1), by omega, rfl, hlt, p'⟩, fun x H' y => ?_⟩
    obtain ⟨e, y⟩ := y
    subst e y
    exact hs i σ _ hlt p
  · have e : i = n := by omega
    subst e
    exact .inl ⟨Nat.le_refl _, hd σ H p⟩
theorem while_by {c : TT} {tb : TS} {D : Ends} {σ : St} {H : Hp} (Pv : St → Hp → Prop) (μ : St → Hp → Nat) (h0 : Pv σ H)
    (hs : ∀ σ H, Pv σ H → c σ H fun b H1 => if b = true then tb { D with nx := fun σ' H' => Pv σ' H' ∧ μ σ' H' < μ σ H, ct := fun σ' H' => Pv σ' H' ∧ μ σ' H' < μ σ H, bk := D.nx } σ H1 else D.nx σ H1)
    (mono : ∀ σ H Q Q', (∀ b H1, Q b H1 → Q' b H1) → c σ H Q → c σ H Q') : tWhile c tb D σ H := by
  refine ⟨fun m σ H => m = μ σ H ∧ Pv σ H, ⟨_, rfl, h0⟩, ?_⟩
  rintro m σ H ⟨rfl, p⟩
  refine mono σ H _ _ (fun b H1 q => ?_) (hs σ H p)
  cases b with
  | true => exact ⟨_, fun σ' H' ⟨p', l⟩ => ⟨_, l, rfl, p'⟩, q⟩
  | false => exact q
end L2

namespace L2
open PySem PySem.Spec PyProof.Rows

abbrev R2 := V → V → Hp → VK → Prop
def OpR (X : Cx) (f : Value → Value → Sem Value) (r : R2) : Prop :=
  ∀ (pins : List (Addr × Obj)) (s : Shared) (σ : St) (H : Hp) (x y : V) (v u : Value) (Q : VK), Inv X pins σ H s → RelV x v → RelV y u → r x y H Q →
    wpAny (model X.prog X.w) X.A (f v u) (EP X pins σ Q) X.xe s
def UnR (X : Cx) (f : Value → Sem Value) (r : V → Hp → VK → Prop) : Prop :=
  ∀ (pins : List (Addr × Obj)) (s : Shared) (σ : St) (H : Hp) (x : V) (v : Value) (Q : VK), Inv X pins σ H s → RelV x v → r x H Q →
    wpAny (model X.prog X.w) X.A (f v) (EP X pins σ Q) X.xe s
def CallR (X : Cx) (f : Value) (r : List V → Hp → VK → Prop) : Prop :=
  ∀ (pins : List (Addr × Obj)) (s : Shared) (σ : St) (H : Hp) (xs : List V) (us : List Value) (Q : VK), Inv X pins σ H s → Vals xs us → r xs H Q →
    wpAny (model X.prog X.w) X.A (call f us) (EP X pins σ Q) X.xe s
def TruR (X : Cx) (r : V → Hp → (Bool → Hp → Prop) → Prop) : Prop :=
  ∀ (pins : List (Addr × Obj)) (s : Shared) (σ : St) (H : Hp) (x : V) (v : Value) (Q : Bool → Hp → Prop), Inv X pins σ H s → RelV x v → r x H Q →
    wpAny (model X.prog X.w) X.A (truthy v) (TP X pins σ Q) X.xe s

def tOp (r : R2) (ta tb : TE) : TE := fun σ H Q => ta σ H fun x H1 => tb σ H1 fun y H2 => r x y H2 Q
def tUn (r : V → Hp → VK → Prop) (ta : TE) : TE := fun σ H Q => ta σ H fun x H1 => r x H1 Q
def rI (C : Int → Int → Prop) (g : Int → Int → V) : R2 := fun x y H Q => ∃ i j, x = .int i ∧ y = .int j ∧ C i j ∧ Q (g i j) H
def rI0 (g : Int → Int → V) : R2 := fun x y H Q => ∃ i j, x = .int i ∧ y = .int j ∧ Q (g i j) H
def rU (g : Int → V) : V → Hp → VK → Prop := fun x H Q => ∃ i, x = .int i ∧ Q (g i) H

section
variable {X : Cx} {a b c : Expr} {ta tb tc : TE} {pos : Pos}

theorem binT (ha : PE X a ta) (hb : PE X b tb) {pins : List (Addr × Obj)} {s : Shared} {σ : St} {H : Hp} {R : V → V → Hp → Prop} (I : Inv X pins σ H s)
    (h : ta σ H fun x H1 => tb σ H1 fun y H2 => R x y H2) {Q : Value → Shared → Prop} {f : Value → Value → Sem Value}
    (hf : ∀ v u s2 x y H2, Inv X pins σ H2 s2 → RelV x v → RelV y u → R x y H2 → wpAny (model X.prog X.w) X.A (f v u) Q X.xe s2) :
    wpAny (model X.prog X.w) X.A (eval a X.env) (fun v s₁ => wpAny (model X.prog X.w) X.A (eval b X.env) (fun u s₂ => wpAny (model X.prog X.w) X.A (f v u) Q X.xe s₂) X.xe s₁) X.xe s := by
  refine thn (ha pins s σ H _ I h) fun v s1 ⟨x, H1, I1, r1, q1⟩ => ?_
  refine thn (hb pins s1 σ H1 _ I1 q1) fun u s2 ⟨y, H2, I2, r2, q2⟩ => ?_
  exact hf v u s2 x y H2 I2 r1 r2 q2

theorem pe_op {op : Operator} {r : R2} (ho : OpR X (binaryOp op) r) (ha : PE X a ta) (hb : PE X b tb) : PE X (.BinOp a op b pos) (tOp r ta tb) := by
  intro pins s σ H Q I h
  exact wpAny_BinOp (binT ha hb I h fun v u s2 x y H2 I2 rx ry q => ho pins s2 σ H2 x y v u Q I2 rx ry q)
theorem pe_un {op : UnaryOp} {r : V → Hp → VK → Prop} (ho : UnR X (unaryOp op) r) (ha : PE X a ta) : PE X (.UnaryOp op a pos) (tUn r ta) := by
  intro pins s σ H Q I h
  exact UnaryOp_ (thn (ha pins s σ H _ I h) fun v s1 ⟨x, H1, I1, r1, q1⟩ => ho pins s1 σ H1 x v Q I1 r1 q1)
theorem opI {f : Value → Value → Sem Value} {C : Int → Int → Prop} {g : Int → Int → Int}
    (rule : ∀ (i j : Int) (t u : Tok) (s : Shared) (Q : Value → Shared → Prop) (E : Value → Shared → Prop), C i j → Q (.int (g i j) s.toks) { s with toks := s.toks + 1 } → wpAny (model X.prog X.w) X.A (f (.int i t) (.int j u)) Q E s) :
    OpR X f (rI C fun i j => .int (g i j)) := by
  intro pins s σ H x y v u Q I rx ry h
  obtain ⟨i, j, rfl, rfl, hc, q⟩ := h
  obtain ⟨t, rfl⟩ := rx
  obtain ⟨t', rfl⟩ := ry
  exact rule i j t t' s _ _ hc ⟨.int (g i j), H, I.tok _, ⟨_, rfl⟩, q⟩
theorem opI0 {f : Value → Value → Sem Value} {g : Int → Int → Int}
    (rule : ∀ (i j : Int) (t u : Tok) (s : Shared) (Q : Value → Shared → Prop) (E : Value → Shared → Prop), Q (.int (g i j) s.toks) { s with toks := s.toks + 1 } → wpAny (model X.prog X.w) X.A (f (.int i t) (.int j u)) Q E s) :
    OpR X f (rI0 fun i j => .int (g i j)) := by
  intro pins s σ H x y v u Q I rx ry h
  obtain ⟨i, j, rfl, rfl, q⟩ := h
  obtain ⟨t, rfl⟩ := rx
  obtain ⟨t', rfl⟩ := ry
  exact rule i j t t' s _ _ ⟨.int (g i j), H, I.tok _, ⟨_, rfl⟩, q⟩
theorem opB0 {f : Value → Value → Sem Value} {g : Int → Int → Bool}
    (rule : ∀ (i j : Int) (t u : Tok) (s : Shared) (Q : Value → Shared → Prop) (E : Value → Shared → Prop), Q (.bool (g i j)) s → wpAny (model X.prog X.w) X.A (f (.int i t) (.int j u)) Q E s) :
    OpR X f (rI0 fun i j => .bl (g i j)) := by
  intro pins s σ H x y v u Q I rx ry h
  obtain ⟨i, j, rfl, rfl, q⟩ := h
  obtain ⟨t, rfl⟩ := rx
  obtain ⟨t', rfl⟩ := ry
  exact rule i j t t' s _ _ ⟨.bl (g i j), H, I, rfl, q⟩

def CDiv (i j : Int) : Prop := 0 < j ∧ j < 1073741824
def CMul (i j : Int) : Prop := (-(2 ^ 64) < i ∧ i < 2 ^ 64) ∨ (-(2 ^ 64) < j ∧ j < 2 ^ 64)
theorem CMul.ok {i j : Int} (h : CMul i j) : IntMulOk i j := by
  rcases h with ⟨h1, h2⟩ | ⟨h1, h2⟩
  · exact .of_left (intBits_le_64 h1 h2)
  · exact .of_right (intBits_le_64 h1 h2)
theorem op_add : OpR X (binaryOp .Add) (rI0 fun i j => .int (i + j)) := opI0 fun _ _ _ _ _ _ _ q => add_int q
theorem op_sub : OpR X (binaryOp .Sub) (rI0 fun i j => .int (i - j)) := opI0 fun _ _ _ _ _ _ _ q => sub_int q
theorem op_mul : OpR X (binaryOp .Mult) (rI CMul fun i j => .int (i * j)) := opI fun _ _ _ _ _ _ _ hc q => mul_int q hc.ok
theorem op_fdiv : OpR X (binaryOp .FloorDiv) (rI CDiv fun i j => .int (i / j)) := opI fun i j _ _ _ _ _ hc q => by
  have h1 : (0 : Int) < j := hc.1
  have h2 : j < 1073741824 := hc.2
  exact floordiv_int (by omega) (by rw [Int.fdiv_eq_ediv_of_nonneg i (by omega)]; exact q) (.inl (PyProof.noPylong_small (by omega)))
theorem op_mod : OpR X (binaryOp .Mod) (rI (fun _ j => 0 < j) fun i j => .int (i % j)) := opI fun i j _ _ _ _ _ hc q => by
  have h1 : (0 : Int) < j := hc
  exact mod_int' (by omega) (by rw [Int.fmod_eq_emod_of_nonneg i (by omega)]; exact q)
theorem iop_mul : OpR X (inplaceOp .Mult) (rI CMul fun i j => .int (i * j)) := opI fun _ _ _ _ _ _ _ hc q => imul_int q hc.ok
theorem iop_fdiv : OpR X (inplaceOp .FloorDiv) (rI CDiv fun i j => .int (i / j)) := opI fun i j _ _ _ _ _ hc q => by
  have h1 : (0 : Int) < j := hc.1
  have h2 : j < 1073741824 := hc.2
  exact ifloordiv_int (by omega) (by rw [Int.fdiv_eq_ediv_of_nonneg i (by omega)]; exact q) (.inl (PyProof.noPylong_small (by omega)))
theorem unI {f : Value → Sem Value} {g : Int → Int}
    (rule : ∀ (i : Int) (t : Tok) (s : Shared) (Q : Value → Shared → Prop) (E : Value → Shared → Prop), Q (.int (g i) s.toks) { s with toks := s.toks + 1 } → wpAny (model X.prog X.w) X.A (f (.int i t)) Q E s) :
    UnR X f (rU fun i => .int (g i)) := by
  intro pins s σ H x v Q I rx h
  obtain ⟨i, rfl, q⟩ := h
  obtain ⟨t, rfl⟩ := rx
  exact rule i t s _ _ ⟨.int (g i), H, I.tok _, ⟨_, rfl⟩, q⟩
theorem un_neg : UnR X (unaryOp .USub) (rU fun i => .int (-i)) := unI fun _ _ _ _ _ q => neg_int q
end

def scal : V → V → Bool
  | .non, .non => true | .non, .int _ => true | .int _, .non => true | .non, .bl _ => true | .bl _, .non => true | .non, .str _ => true | .str _, .non => true
  | .int _, .int _ => true | .bl _, .bl _ => true | .str _, .str _ => true | .byt _, .byt _ => true
  | .int _, .str _ => true | .str _, .int _ => true | .bl _, .str _ => true | .str _, .bl _ => true
  | _, _ => false
def rEq : R2 := fun x y H Q => scal x y = true ∧ Q (.bl (decide (x = y))) H
def rNe : R2 := fun x y H Q => scal x y = true ∧ Q (.bl (!decide (x = y))) H

theorem dec_int {i j : Int} : decide (V.int i = V.int j) = (i == j) := by
  rw [Bool.eq_iff_iff]
  simp
theorem dec_bl {i j : Bool} : decide (V.bl i = V.bl j) = (i == j) := by
  rw [Bool.eq_iff_iff]
  simp
theorem dec_str {i j : Str} : decide (V.str i = V.str j) = (i == j) := by
  rw [Bool.eq_iff_iff]
  simp
theorem dec_byt {i j : Array UInt8} : decide (V.byt i = V.byt j) = (i.toList == j.toList) := by
  rw [Bool.eq_iff_iff]
  cases i
  cases j
  simp

section
variable {X : Cx} {a b c : Expr} {ta tb tc : TE} {pos : Pos}
theorem fin_bl {pins : List (Addr × Obj)} {σ : St} {H : Hp} {s : Shared} {Q : VK} {k k' : Bool} (I : Inv X pins σ H s) (q : Q (.bl k) H) (e : k = k') : EP X pins σ Q (.bool k') s := by
  subst e
  exact ⟨.bl k, H, I, rfl, q⟩
theorem op_eq : OpR X (compareOp .Eq) rEq := by
  intro pins s σ H x y v u Q I rx ry h
  obtain ⟨hs, q⟩ := h
  cases x with
  | non =>
    cases rx
    cases y with
    | non => cases ry; exact PySem.EqNone.eq_none_none (fin_bl I q (by simp))
    | bl j => cases ry; exact PySem.EqNone.eq_none_bool (fin_bl I q (by simp))
    | int j => obtain ⟨t', rfl⟩ := ry; exact PySem.EqNone.eq_none_int (fin_bl I q (by simp))
    | str j => obtain ⟨t', rfl⟩ := ry; exact PySem.EqNone.eq_none_str (fin_bl I q (by simp))
    | _ => exact absurd (show false = true from hs) Bool.false_ne_true
  | bl i =>
    cases rx
    cases y with
    | non => cases ry; exact PySem.EqNone.eq_bool_none (fin_bl I q (by simp))
    | bl j => cases ry; exact eq_bool (fin_bl I q dec_bl)
    | str j => obtain ⟨t', rfl⟩ := ry; exact PySem.EqMixed.eq_bool_str (fin_bl I q (by simp))
    | _ => exact absurd (show false = true from hs) Bool.false_ne_true
  | int i =>
    obtain ⟨t, rfl⟩ := rx
    cases y with
    | non => cases ry; exact PySem.EqNone.eq_int_none (fin_bl I q (by simp))
    | int j => obtain ⟨t', rfl⟩ := ry; exact eq_int (fin_bl I q dec_int)
    | str j => obtain ⟨t', rfl⟩ := ry; exact PySem.EqMixed.eq_int_str (fin_bl I q (by simp))
    | _ => exact absurd (show false = true from hs) Bool.false_ne_true
  | str i =>
    obtain ⟨t, rfl⟩ := rx
    cases y with
    | non => cases ry; exact PySem.EqNone.eq_str_none (fin_bl I q (by simp))
    | bl j => cases ry; exact PySem.EqMixed.eq_str_bool (fin_bl I q (by simp))
    | int j => obtain ⟨t', rfl⟩ := ry; exact PySem.EqMixed.eq_str_int (fin_bl I q (by simp))
    | str j => obtain ⟨t', rfl⟩ := ry; exact eq_str (fin_bl I q dec_str)
    | _ => exact absurd (show false = true from hs) Bool.false_ne_true
  | byt i =>
    obtain ⟨t, rfl⟩ := rx
    cases y with
    | byt j => obtain ⟨t', rfl⟩ := ry; exact PySem.W.eq_bytes (fin_bl I q dec_byt)
    | _ => exact absurd (show false = true from hs) Bool.false_ne_true
  | _ => cases y <;> exact absurd (show false = true from hs) Bool.false_ne_true
theorem op_ne : OpR X (compareOp .NotEq) rNe := by
  intro pins s σ H x y v u Q I rx ry h
  obtain ⟨hs, q⟩ := h
  cases x with
  | non =>
    cases rx
    cases y with
    | non => cases ry; exact PySem.EqNone.ne_none_none (fin_bl I q (by simp))
    | bl j => cases ry; exact PySem.EqNone.ne_none_bool (fin_bl I q (by simp))
    | int j => obtain ⟨t', rfl⟩ := ry; exact PySem.EqNone.ne_none_int (fin_bl I q (by simp))
    | str j => obtain ⟨t', rfl⟩ := ry; exact PySem.EqNone.ne_none_str (fin_bl I q (by simp))
    | _ => exact absurd (show false = true from hs) Bool.false_ne_true
  | bl i =>
    cases rx
    cases y with
    | non => cases ry; exact PySem.EqNone.ne_bool_none (fin_bl I q (by simp))
    | bl j => cases ry; exact ne_bool (fin_bl I q (congrArg not dec_bl))
    | str j => obtain ⟨t', rfl⟩ := ry; exact PySem.EqMixed.ne_bool_str (fin_bl I q (by simp))
    | _ => exact absurd (show false = true from hs) Bool.false_ne_true
  | int i =>
    obtain ⟨t, rfl⟩ := rx
    cases y with
    | non => cases ry; exact PySem.EqNone.ne_int_none (fin_bl I q (by simp))
    | int j => obtain ⟨t', rfl⟩ := ry; exact ne_int (fin_bl I q (congrArg not dec_int))
    | str j => obtain ⟨t', rfl⟩ := ry; exact PySem.EqMixed.ne_int_str (fin_bl I q (by simp))
    | _ => exact absurd (show false = true from hs) Bool.false_ne_true
  | str i =>
    obtain ⟨t, rfl⟩ := rx
    cases y with
    | non => cases ry; exact PySem.EqNone.ne_str_none (fin_bl I q (by simp))
    | bl j => cases ry; exact PySem.EqMixed.ne_str_bool (fin_bl I q (by simp))
    | int j => obtain ⟨t', rfl⟩ := ry; exact PySem.EqMixed.ne_str_int (fin_bl I q (by simp))
    | str j => obtain ⟨t', rfl⟩ := ry; exact ne_str (fin_bl I q (congrArg not dec_str))
    | _ => exact absurd (show false = true from hs) Bool.false_ne_true
  | byt i =>
    obtain ⟨t, rfl⟩ := rx
    cases y with
    | byt j => obtain ⟨t', rfl⟩ := ry; exact PySem.W.ne_bytes (fin_bl I q (congrArg not dec_byt))
    | _ => exact absurd (show false = true from hs) Bool.false_ne_true
  | _ => cases y <;> exact absurd (show false = true from hs) Bool.false_ne_true

theorem op_lt : OpR X (compareOp .Lt) (rI0 fun i j => .bl (decide (i < j))) := opB0 fun _ _ _ _ _ _ _ q => lt_int q
theorem op_le : OpR X (compareOp .LtE) (rI0 fun i j => .bl (decide (i ≤ j))) := opB0 fun _ _ _ _ _ _ _ q => le_int q
theorem op_gt : OpR X (compareOp .Gt) (rI0 fun i j => .bl (decide (j < i))) := opB0 fun _ _ _ _ _ _ _ q => gt_int q
theorem op_ge : OpR X (compareOp .GtE) (rI0 fun i j => .bl (decide (j ≤ i))) := opB0 fun _ _ _ _ _ _ _ q => ge_int q
theorem nomark (b : Expr) {op : CmpOp} (h : op ≠ .In := by decide) (h2 : op ≠ .NotIn := by decide) : behindInMarks op b = false := by
  have e1 : (op == CmpOp.In) = false := by cases op <;> first | rfl | exact absurd rfl h
  have e2 : (op == CmpOp.NotIn) = false := by cases op <;> first | rfl | exact absurd rfl h2
  cases b <;> simp [behindInMarks, e1, e2]
theorem pe_cmpR {op : CmpOp} {r : R2} (ho : OpR X (compareOp op) r) (ha : PE X a ta) (hb : PE X b tb) (hm : behindInMarks op b = false) : PE X (.Compare a [op] [b] pos) (tOp r ta tb) := by
  intro pins s σ H Q I h
  exact wpAny_Compare1 (binT ha hb I h fun v u s2 x y H2 I2 rx ry q => ho pins s2 σ H2 x y v u Q I2 rx ry q) hm
def tTest (t : TE) : TT := fun σ H Q => t σ H fun x H' => ∃ k, x = .bl k ∧ Q k H'
theorem pt_cmpR {op : CmpOp} {r : R2} (ho : OpR X (compareOp op) r) (ha : PE X a ta) (hb : PE X b tb) (hm : behindInMarks op b = false) : PT X (.Compare a [op] [b] pos) (tTest (tOp r ta tb)) := by
  intro pins s σ H Q I h
  refine wpAny_isTrue_Compare1 (thn (ha pins s σ H _ I h) fun v s1 ⟨x, H1, I1, r1, q1⟩ => thn (hb pins s1 σ H1 _ I1 q1) fun u s2 ⟨y, H2, I2, r2, q2⟩ =>
    thn (ho pins s2 σ H2 x y v u _ I2 r1 r2 q2) fun c s3 ⟨z, H3, I3, r3, k, e, q3⟩ => ?_) hm
  subst e
  cases r3
  exact wpAny_truthy_bool ⟨H3, I3, q3⟩
def TruV (K : PySem.W.Frag) (x : V) (H : Hp) (k : Bool) : Prop :=
  match x with
  | .non => k = false
  | .bl b => k = b
  | .int i => k = (i != 0)
  | .str y => y.length ≤ sizeLine ∧ k = ((y.length : Int) != 0)
  | .byt y => y.size ≤ sizeLine ∧ k = ((y.size : Int) != 0)
  | .ref p => (∃ xs, SqL K H p xs ∧ k = !xs.isEmpty) ∨ (∃ xs, SqT K H p xs ∧ k = !xs.isEmpty) ∨ ∃ kvs, H p = some (.dK kvs) ∧ k = !kvs.isEmpty
  | _ => False
theorem isEmpty_kv {κ : Type} {kvs : List (κ × V)} {vs : List (κ × Value)} (r : KV kvs vs) : (!vs.isEmpty) = !kvs.isEmpty := by
  cases r <;> rfl
theorem isEmpty_of {xs : List V} {its : List Value} (r : Vals xs its) : (!its.toArray.isEmpty) = !xs.isEmpty := by
  cases r <;> simp
theorem line63 : (sizeLine : Nat) < 2 ^ 63 := by rw [sizeLine_eq]; decide
theorem tru_ok : TruR X (fun x H Q => ∃ k, TruV X.K x H k ∧ Q k H) := by
  intro pins s σ H x v Q I rx h
  obtain ⟨k, e, q⟩ := h
  have hl := line63
  have hs : sizeLine = 16777216 := sizeLine_eq
  cases x with
  | non =>
    cases rx
    have e' : k = false := e
    subst e'
    exact truthy_none ⟨H, I, q⟩
  | bl b =>
    cases rx
    have e' : k = b := e
    subst e'
    exact wpAny_truthy_bool ⟨H, I, q⟩
  | int i =>
    obtain ⟨t, rfl⟩ := rx
    have e' : k = (i != 0) := e
    subst e'
    exact PySem.P.truthy_int ⟨H, I, q⟩
  | str y =>
    obtain ⟨t, rfl⟩ := rx
    obtain ⟨hy, e'⟩ : y.length ≤ sizeLine ∧ k = ((y.length : Int) != 0) := e
    subst e'
    exact PySem.P.truthy_str (by omega) ⟨H, I.tok _, q⟩
  | byt y =>
    obtain ⟨t, rfl⟩ := rx
    obtain ⟨hy, e'⟩ : y.size ≤ sizeLine ∧ k = ((y.size : Int) != 0) := e
    subst e'
    exact PySem.W.truthy_bytes (by omega) ⟨H, I.tok _, q⟩
  | ref p =>
    cases rx
    have e' : (∃ xs, SqL X.K H p xs ∧ k = !xs.isEmpty) ∨ (∃ xs, SqT X.K H p xs ∧ k = !xs.isEmpty) ∨ ∃ kvs, H p = some (.dK kvs) ∧ k = !kvs.isEmpty := e
    rcases e' with ⟨xs, hx, e'⟩ | ⟨xs, hx, e'⟩ | ⟨kvs, hx, e'⟩
    · subst e'
      obtain ⟨its, r, pl, hz⟩ := I.list hx
      have hlen := r.length
      exact wpAny_truthy_list pl.isList (by simp only [List.size_toArray]; omega) ⟨H, I.tok _, by rw [isEmpty_of r]; exact q⟩
    · subst e'
      obtain ⟨its, r, pl, hz⟩ := I.tuple hx
      have hlen := r.length
      exact truthy_tuple pl (by simp only [List.size_toArray]; omega) ⟨H, I.tok _, by rw [isEmpty_of r]; exact q⟩
    · subst e'
      obtain ⟨hz, hS, vs, r, m⟩ : kvs.length ≤ sizeLine ∧ (p == sysModules) = false ∧ ∃ vs, KV kvs vs ∧ s.heap.DictOf (mixKind X.prog X.w) p vs := I.hok p _ hx
      have hlen : kvs.length = vs.length := Paired.length r
      exact wpAny_truthy_dict hS m (by omega) ⟨H, I.tok _, by rw [isEmpty_kv r]; exact q⟩
  | _ => exact (show False from e).elim
theorem pt_truth (ha : PE X a ta) (he : ∀ whole, isTrue a X.env whole = (do let v ← whole; standAt a.pos; holding [v] (truthy v))) :
    PT X a (fun σ H Q => ta σ H fun x H' => ∃ k, TruV X.K x H' k ∧ Q k H') := by
  intro pins s σ H Q I h
  exact isTrue_plain (thn (ha pins s σ H _ I h) fun v s1 ⟨x, H1, I1, r1, q1⟩ => tru_ok pins s1 σ H1 x v Q I1 r1 q1) (he _)

theorem vals1 {x : V} {us : List Value} (r : Vals [x] us) : ∃ u, us = [u] ∧ RelV x u := by
  cases r with
  | cons r1 r2 => cases r2; exact ⟨_, rfl, r1⟩
theorem call_abs : CallR X (.builtin "abs") (fun xs H Q => ∃ i, xs = [.int i] ∧ Q (.int (if i < 0 then -i else i)) H) := by
  intro pins s σ H xs us Q I r h
  obtain ⟨i, rfl, q⟩ := h
  obtain ⟨u, rfl, t, rfl⟩ := vals1 r
  exact call_abs_int fun u tk => ⟨.int (if i < 0 then -i else i), H, I.tok _, ⟨_, rfl⟩, q⟩
end
end L2

namespace L2
open PySem PySem.Spec PyProof.Rows

structure ObjM (h : Heap) (x dx C : Addr) (mA : Str → Option Value) : Prop where
  obj : h.get? x = some (PySem.W.instObj C dx)
  ns : h.Ns1 dx mA
  ne : dx ≠ x

theorem lookIn_ns {h : Heap} {dx : Addr} {mA : Str → Option Value} (n : h.Ns1 dx mA) : ∃ od, h.get? dx = some od ∧ ∀ name, PySem.W.lookIn name od = some (mA name) := by
  obtain ⟨o, es, ep, ho, hd, hk, _, hm⟩ := n
  refine ⟨o, ho, fun name => ?_⟩
  have e := hm name
  unfold nsFind findBy at e
  rw [← Array.find?_toList] at e
  unfold PySem.W.lookIn
  rw [hd]
  dsimp only
  split
  · rename_i y q
    rw [q] at e
    exact congrArg some e
  · rename_i q
    rw [q] at e
    have a : es.toList.any (·.refKey) = false := by
      rw [List.any_eq_false]
      intro y hy
      obtain ⟨z, t, hkey⟩ := hk y (Array.mem_toList_iff.mp hy)
      simp [DictEntry.refKey, hkey]
    have a' : ¬ es.toList.any (·.refKey) = true := by rw [a]; exact Bool.false_ne_true
    rw [if_neg a']
    exact congrArg some e

theorem ObjM.look {h : Heap} {x dx C : Addr} {mA : Str → Option Value} (I : ObjM h x dx C mA) : ∃ od, PySem.W.InstAt h x (PySem.W.instObj C dx) C (some od) ∧ ∀ name, PySem.W.lookIn name od = some (mA name) :=
  let ⟨od, ho, hl⟩ := lookIn_ns I.ns
  ⟨od, ⟨I.obj, rfl, rfl, ho⟩, hl⟩

section
variable {prog : Program} {w : World} {A : Around} {E : Value → Shared → Prop} {s : Shared} {K : PySem.W.Frag} {x dx C f : Addr} {mA : Str → Option Value} {name : Str} {v : Value}

theorem get_map {expr : Bool} {Q : Value → Shared → Prop} (X : K.In s.heap) (I : ObjM s.heap x dx C mA) (hg : PySem.W.plainGet K C name = true) (hh : PySem.W.hasDictIn K C = true)
    (ha : PySem.W.findIn K (.ref C) name = some none) (hv : mA name = some v) (hv' : PySem.W.handedIn v = true) (h : Q v { s with toks := s.toks + 1 }) :
    wpAny (model prog w) A (getAttr (.ref x) name expr) Q E s := by
  obtain ⟨od, J, hl⟩ := I.look
  exact PySem.W.get_value X J (PySem.W.plainGet_of hg).1 (PySem.W.findObj_own hh ha rfl (by rw [hl, hv])) hv' h

theorem get_meth {pl : Sem Bool} {Q : Value × List Value → Shared → Prop} (X : K.In s.heap) (I : ObjM s.heap x dx C mA) (hg : PySem.W.plainGet K C name = true)
    (hf : PySem.W.findIn K (.ref C) name = some (some (.ref f))) (ht : PySem.W.isFn K (.ref f) = true) (hv : mA name = none) (h : Q (.ref f, [.ref x]) s) :
    wpAny (model prog w) A (getMethod (.ref x) name pl) Q E s := by
  obtain ⟨od, J, hl⟩ := I.look
  exact PySem.W.method_fn X J (PySem.W.plainGet_of hg).1 (PySem.W.plainGet_of hg).2 hf (beq_iff_eq.mp ht) (by show (PySem.W.lookIn name od).map (·.isSome) = some false; rw [hl, hv]; rfl) h

theorem set_map {ns : List Str} {Q : Unit → Shared → Prop} (X : K.In s.heap) (I : ObjM s.heap x dx C mA)
    (hs : PySem.W.findIn K (.ref C) "__setattr__" = some (some (.builtin "object.__setattr__"))) (hp : PySem.W.plainOver K C = true) (ht : PySem.W.takerIn K C name = some none) (hh : PySem.W.hasDictIn K C = true)
    (hw : PySem.Within mA ns) (hsz : ns.length ≤ sizeLine)
    (h : ∀ h', ObjM h' x dx C (fun y => if y = name then some v else mA y) → Heap.SameBut dx s.heap h' → Q () { s with heap := h', toks := s.toks + 2 }) :
    wpAny (model prog w) A (setAttr (.ref x) name v) Q E s := by
  obtain ⟨od, J, hl⟩ := I.look
  refine PySem.W.set_plain X J hs (PySem.W.osa_open (s := { s with toks := s.toks + 1 }) (r := none) X J hp ht fun b => ?_)
  obtain ⟨cd, hc, hd'⟩ := PySem.W.any_some hh
  have hx : s.heap.get? x = some ⟨.ref C, some dx, .plain, #[]⟩ := I.obj
  refine wpAny_bind (wpAny_pure (wpAny_bind (wpAny_bind (wpAny_loadPart hx (wpAny_bind (PySem.W.Looks.here (s := { s with toks := s.toks + 1 }) (PySem.W.looks_clsIn X hc) ?_))))))
  rw [hd']
  refine wpAny_pure (a := some dx) (wpAny_bind (wpAny_pure (wpAny_bind ?_)))
  refine wpAny_nsSet1 (s := { s with toks := s.toks + 1 }) I.ns fun h' hn2 hs2 => ?_
  obtain ⟨oD, esD, epD, hoD, hdD, hcD⟩ := hn2.count (PySem.Within.cons name v hw)
  refine wpAny_bind (wpAny_lookBehind hoD (by rw [hdD]; exact pastItsLine_dict (Nat.le_trans hcD (by rw [List.length_cons]; omega))) ?_)
  exact wpAny_pure (h _ ⟨(hs2.2 _ (Ne.symm I.ne)).trans I.obj, hn2, I.ne⟩ hs2)

theorem make_map {R : Result → Shared → Prop} {vs : List Value} {kw : List (Str × Value)} (X : K.In s.heap) (hm : PySem.W.makesIn K C = true)
    (hi : PySem.W.findIn K (.ref C) "__init__" = some (some (.ref f))) (hf : PySem.W.typeIn K (.ref f) = some (.type "function"))
    (h : codeAny (model prog w) (A.under (.builtin "type.__call__" ⟨.ref C :: vs, kw⟩)) (.call (.ref f) ⟨.ref (s.heap.objs.size + 1) :: vs, kw⟩) (PySem.W.InitBack (s.heap.objs.size + 1) R)
      { s with heap := (s.heap.push PySem.W.emptyDict).push (PySem.W.instObj C s.heap.objs.size) }) :
    codeAny (model prog w) A (.call (.ref C) ⟨vs, kw⟩) R s := by
  obtain ⟨hh, g, d, t, os⟩ := s
  exact PySem.W.make_core (PySem.W.makes_of X hm) (PySem.W.looks_findIn X hi) (fun self => PySem.W.bind_fn X self hf) (.inl rfl) h
end

def putF (f : Str) (v : V) : List (Str × V) → List (Str × V)
  | [] => [(f, v)]
  | (g, x) :: r => if g = f then (g, v) :: r else (g, x) :: putF f v r
theorem lookup_putF (f g : Str) (v : V) : ∀ fs : List (Str × V), (putF f v fs).lookup g = if g = f then some v else fs.lookup g
  | [] => by
    show List.lookup g [(f, v)] = _
    by_cases h : g = f
    · have hb : (g == f) = true := beq_iff_eq.mpr h
      simp only [List.lookup, hb, if_pos h]
    · have hb : (g == f) = false := beq_eq_false_iff_ne.mpr h
      simp only [List.lookup, hb, if_neg h]
  | (k, x) :: r => by
    have ih := lookup_putF f g v r
    rw [show putF f v ((k, x) :: r) = (if k = f then (k, v) :: r else (k, x) :: putF f v r) from rfl]
    by_cases hk : k = f
    · rw [if_pos hk]
      by_cases h : g = k
      · have hb : (g == k) = true := beq_iff_eq.mpr h
        simp only [List.lookup, hb, if_pos (h.trans hk)]
      · have hb : (g == k) = false := beq_eq_false_iff_ne.mpr h
        simp only [List.lookup, hb, if_neg (fun e : g = f => h (e.trans hk.symm))]
    · rw [if_neg hk]
      by_cases h : g = k
      · have hb : (g == k) = true := beq_iff_eq.mpr h
        simp only [List.lookup, hb, if_neg (fun e : g = f => hk (h.symm.trans e))]
      · have hb : (g == k) = false := beq_eq_false_iff_ne.mpr h
        simp only [List.lookup, hb]
        exact ih
theorem keys_putF (f : Str) (v : V) : ∀ fs : List (Str × V), f ∈ (putF f v fs).map (·.1) ∧ ∀ g, g ∈ fs.map (·.1) → g ∈ (putF f v fs).map (·.1)
  | [] => ⟨by simp [putF], fun g h => by simp at h⟩
  | (k, x) :: r => by
    obtain ⟨i1, i2⟩ := keys_putF f v r
    rw [show putF f v ((k, x) :: r) = (if k = f then (k, v) :: r else (k, x) :: putF f v r) from rfl]
    by_cases hk : k = f
    · rw [if_pos hk]
      subst hk
      exact ⟨by simp, fun g h => by simpa using h⟩
    · rw [if_neg hk]
      refine ⟨?_, fun g h => ?_⟩
      · rw [List.map_cons]
        exact List.mem_cons_of_mem _ i1
      · rw [List.map_cons] at h ⊢
        rcases List.mem_cons.mp h with e | e
        · exact List.mem_cons.mpr (.inl e)
        · exact List.mem_cons_of_mem _ (i2 g e)
theorem length_putF (f : Str) (v : V) : ∀ fs : List (Str × V), (putF f v fs).length ≤ fs.length + 1
  | [] => by simp [putF]
  | (k, x) :: r => by
    have ih := length_putF f v r
    rw [show putF f v ((k, x) :: r) = (if k = f then (k, v) :: r else (k, x) :: putF f v r) from rfl]
    by_cases hk : k = f
    · rw [if_pos hk, List.length_cons, List.length_cons]; omega
    · rw [if_neg hk, List.length_cons, List.length_cons]; omega

theorem RelO.some_of {v : V} {o : Option Value} (r : RelO (some v) o) : ∃ u, o = some u ∧ RelV v u := by
  cases o with
  | none => exact (show False from r).elim
  | some u => exact ⟨u, rfl, r⟩
theorem RelO.none_of {o : Option Value} (r : RelO none o) : o = none := by
  cases o with
  | none => rfl
  | some u => exact (show False from r).elim
theorem handed_of {v : V} {u : Value} (r : RelV v u) : PySem.W.handedIn u = true := by
  cases v with
  | non => cases (show u = Value.none from r); rfl
  | bl b => cases (show u = Value.bool b from r); rfl
  | int i => obtain ⟨t, e⟩ := (show ∃ t, u = Value.int i t from r); cases e; rfl
  | str x => obtain ⟨t, e⟩ := (show ∃ t, u = Value.str x t from r); cases e; rfl
  | byt b => obtain ⟨t, e⟩ := (show ∃ t, u = Value.bytes b t from r); cases e; rfl
  | flt b => obtain ⟨t, e⟩ := (show ∃ t, u = Value.float b t from r); cases e; rfl
  | ref a => cases (show u = Value.ref a from r); rfl
  | ty n => cases (show u = Value.type n from r); rfl

section
variable {P : Program} {w : World} {H H' : Hp} {h h' : Heap} {a C dx : Addr} {fs fs' : List (Str × V)}
theorem ins_get (hok : HOk P w H h) (e : H a = some (.ins C dx fs)) : ∃ mA, ObjM h a dx C mA ∧ (∀ f, RelO (fs.lookup f) (mA f)) ∧ PySem.Within mA (fs.map (·.1)) ∧ fs.length ≤ 1000 ∧ H dx = some (.own a) := by
  obtain ⟨d, z, ne, ob, mA, n, r, q⟩ := (show ObjOk P w H h a (.ins C dx fs) from hok a _ e)
  exact ⟨mA, ⟨ob, n, ne⟩, r, q, z, d⟩
end

structure Cls (K : PySem.W.Frag) (C : Addr) : Prop where
  pg : PySem.W.plainGet K C Str.empty = true
  hd : PySem.W.hasDictIn K C = true
  po : PySem.W.plainOver K C = true
  sa : PySem.W.findIn K (.ref C) "__setattr__" = some (some (.builtin "object.__setattr__"))
theorem Cls.get {K : PySem.W.Frag} {C : Addr} (c : Cls K C) (f : Str) : PySem.W.plainGet K C f = true := c.pg
def NoAttr (K : PySem.W.Frag) (C : Addr) (f : Str) : Prop := PySem.W.findIn K (.ref C) f = some none
theorem NoAttr.taker {K : PySem.W.Frag} {C : Addr} {f : Str} (n : NoAttr K C f) : PySem.W.takerIn K C f = some none := by
  unfold PySem.W.takerIn
  rw [show PySem.W.findIn K (.ref C) f = some none from n]
  rfl
structure Con (K : PySem.W.Frag) (C : Addr) (f : Str) (v : V) (u : Value) : Prop where
  at_ : PySem.W.findIn K (.ref C) f = some (some u)
  rel : RelV v u
  get : PySem.W.specialIn K u "__get__" = some none
  cp : PySem.W.copiedNames.contains f = false
structure Meth (K : PySem.W.Frag) (C : Addr) (m : Str) (f : Addr) : Prop where
  at_ : PySem.W.findIn K (.ref C) m = some (some (.ref f))
  fn : PySem.W.isFn K (.ref f) = true
  kp : PySem.W.keepIn K (.ref f) = true

section
variable {X : Cx} {pins : List (Addr × Obj)} {σ : St} {H : Hp} {s : Shared} {a C dx : Addr} {fs : List (Str × V)} {f : Str} {v : V} {A : Around} {E : Value → Shared → Prop}

theorem getattr_ok {b : Bool} {Q : Value → Shared → Prop} (I : Inv X pins σ H s) (e : H a = some (.ins C dx fs)) (c : Cls X.K C) (n : NoAttr X.K C f) (l : fs.lookup f = some v)
    (h : ∀ u s', Inv X pins σ H s' → RelV v u → Q u s') : wpAny (model X.prog X.w) A (getAttr (.ref a) f b) Q E s := by
  obtain ⟨mA, O, r, _, _, _⟩ := ins_get I.hok e
  obtain ⟨u, hu, ru⟩ := RelO.some_of (v := v) (o := mA f) (by rw [← l]; exact r f)
  exact get_map I.kIn O (c.get f) c.hd n hu (handed_of ru) (h u _ (I.tok _) ru)

theorem getmeth_ok {m : Str} {g : Addr} {pl : Sem Bool} {Q : Value × List Value → Shared → Prop} (I : Inv X pins σ H s) (e : H a = some (.ins C dx fs)) (c : Cls X.K C) (k : Meth X.K C m g) (l : fs.lookup m = none)
    (h : Q (.ref g, [.ref a]) s) : wpAny (model X.prog X.w) A (getMethod (.ref a) m pl) Q E s := by
  obtain ⟨mA, O, r, _, _, _⟩ := ins_get I.hok e
  have hn : mA m = none := RelO.none_of (by rw [← l]; exact r m)
  exact get_meth I.kIn O (c.get m) k.at_ k.fn hn h

theorem setattr_ok {y : V} {u : Value} {Q : Unit → Shared → Prop} (I : Inv X pins σ H s) (e : H a = some (.ins C dx fs)) (c : Cls X.K C) (n : NoAttr X.K C f) (hl : fs.length < 1000) (ry : RelV y u)
    (h : ∀ s', Inv X pins σ (upd H a (.ins C dx (putF f y fs))) s' → Q () s') : wpAny (model X.prog X.w) A (setAttr (.ref a) f u) Q E s := by
  obtain ⟨mA, O, r, wi, _, ho⟩ := ins_get I.hok e
  have hz : (fs.map (·.1)).length ≤ sizeLine := by rw [List.length_map, sizeLine_eq]; omega
  refine set_map I.kIn O c.sa c.po n.taker c.hd wi hz fun h' O' sb => h _ ?_
  have hd : ∃ o, h'.get? dx = some o := let ⟨o, _, _, e', _⟩ := O'.ns; ⟨o, e'⟩
  refine I.write (x := a) (e := dx) (by rw [e]; exact True.intro) (.inr ho) (fun b q hb z => (sb.2 b hb).trans z) hd ?_
  refine ⟨by rw [upd_ne O.ne]; exact ho, ?_, O.ne, O'.obj, _, O'.ns, fun g => ?_, fun g hg => ?_⟩
  · have := length_putF f y fs; omega
  · show RelO ((putF f y fs).lookup g) (if g = f then some u else mA g)
    rw [lookup_putF]
    by_cases q : g = f
    · rw [if_pos q, if_pos q]; exact ry
    · rw [if_neg q, if_neg q]; exact r g
  · by_cases q : g = f
    · rw [q]; exact (keys_putF f y fs).1
    · refine (keys_putF f y fs).2 g (wi g fun z => hg ?_)
      show (if g = f then some u else mA g) = none
      rw [if_neg q]; exact z

theorem Inv.made (I : Inv X pins σ H s) : Inv X pins σ (upd (upd H s.heap.objs.size (.own (s.heap.objs.size + 1))) (s.heap.objs.size + 1) (.ins C s.heap.objs.size []))
    { s with heap := (s.heap.push PySem.W.emptyDict).push (PySem.W.instObj C s.heap.objs.size) } := by
  have e1 : (s.heap.push PySem.W.emptyDict).get? s.heap.objs.size = some PySem.W.emptyDict := Heap.get?_push_size s.heap rfl
  have e2 : ((s.heap.push PySem.W.emptyDict).push (PySem.W.instObj C s.heap.objs.size)).get? (s.heap.objs.size + 1) = some (PySem.W.instObj C s.heap.objs.size) := by
    have := Heap.get?_push_size (s.heap.push PySem.W.emptyDict) (o := PySem.W.instObj C s.heap.objs.size) rfl
    rwa [Heap.size_push] at this
  have e3 : (s.heap.push PySem.W.emptyDict).Ns s.heap.objs.size (fun _ => none) := ⟨PySem.W.emptyDict, #[], _, e1, rfl, (fun e he => absurd he (by simp)), fun _ => rfl⟩
  have I1 := I.laid (a := s.heap.objs.size) (o := .own (s.heap.objs.size + 1)) (h' := s.heap.push PySem.W.emptyDict) (t' := s.toks) (fun b u q => Heap.get?_push_of_some _ q) (Nat.le_refl _) ⟨_, e1⟩
  refine I1.laid (a := s.heap.objs.size + 1) (o := .ins C s.heap.objs.size []) (t' := s.toks) (fun b u q => Heap.get?_push_of_some _ q) (Nat.le_of_eq (Heap.size_push _ _)) ?_
  have ne : s.heap.objs.size ≠ s.heap.objs.size + 1 := Nat.ne_of_lt (Nat.lt_succ_self _)
  refine ⟨by rw [upd_ne ne, upd_same], Nat.zero_le _, ne, e2, fun _ => none, (Heap.Ns1.of_empty e3).at fun o q => Heap.get?_push_of_some _ q, fun _ => True.intro, fun y hy => absurd rfl hy⟩

theorem attr_of {prog : Program} {w : World} {env : Env} {e : Expr} {f : Str} {pos : Pos} {s : Shared} {Q : Value → Shared → Prop} (hb : attributeBase e f env (eval e env) = eval e env)
    (h : wpAny (model prog w) A (eval e env) (fun o s₁ => wpAny (model prog w) A (getAttr o f true) Q E s₁) E s) : wpAny (model prog w) A (eval (.Attribute e f pos) env) Q E s :=
  Attribute_any_ h (by rw [arm_eval_Attribute, hb])
end

def tFld (K : PySem.W.Frag) (ta : TE) (f : Str) : TE := fun σ H Q => ta σ H fun x H1 => ∃ a C dx fs v, x = .ref a ∧ H1 a = some (.ins C dx fs) ∧ Cls K C ∧ NoAttr K C f ∧ fs.lookup f = some v ∧ Q v H1
def sFld (K : PySem.W.Frag) (ta tv : TE) (f : Str) : TS := fun D σ H => tv σ H fun y H1 => ta σ H1 fun x H2 => ∃ a C dx fs, x = .ref a ∧ H2 a = some (.ins C dx fs) ∧ Cls K C ∧ NoAttr K C f ∧ fs.length < 1000 ∧
  D.nx σ (upd H2 a (.ins C dx (putF f y fs)))
def InOp (X : Cx) (op : Operator) (rd : V → V → Hp → VK → Prop) : Prop :=
  ∀ (pins : List (Addr × Obj)) (s : Shared) (σ : St) (H : Hp) (x y : V) (u v : Value) (Q : VK), Inv X pins σ H s → RelV x u → RelV y v → rd x y H Q → wpAny (model X.prog X.w) X.A (inplaceOp op u v) (EP X pins σ Q) X.xe s
def sFldAug (K : PySem.W.Frag) (ta tv : TE) (rd : V → V → Hp → VK → Prop) (f : Str) : TS := fun D σ H => ta σ H fun x H1 => ∃ a C dx fs v, x = .ref a ∧ H1 a = some (.ins C dx fs) ∧ Cls K C ∧ NoAttr K C f ∧ fs.lookup f = some v ∧
  tv σ H1 fun y H2 => rd v y H2 fun z H3 => ∃ dx' fs', H3 a = some (.ins C dx' fs') ∧ fs'.length < 1000 ∧ D.nx σ (upd H3 a (.ins C dx' (putF f z fs')))

section
variable {X : Cx} {o e value : Expr} {f : Str} {pos pos' tpos : Pos} {ta tv : TE}
theorem pe_fld (he : PE X e ta) (hb : attributeBase e f X.env (eval e X.env) = eval e X.env) : PE X (.Attribute e f pos) (tFld X.K ta f) := by
  intro pins s σ H Q I h
  refine attr_of hb (thn (he pins s σ H _ I h) fun u s1 ⟨x, H1, I1, rx, a, C, dx, fs, v, ex, ea, c, n, l, q⟩ => ?_)
  subst ex
  obtain rfl : u = Value.ref a := rx
  exact getattr_ok I1 ea c n l fun u' s2 I2 ru => ⟨v, H1, I2, ru, q⟩
theorem ps_fld (ha : PE X o ta) (hv : PE X value tv) (hs : swapsWith value (some (.Attribute o f pos')) pos.line X.env = pure false) : PS X (.Assign [.Attribute o f pos'] value pos) (sFld X.K ta tv f) := by
  intro pins s σ H D I h
  refine plainObj_wpAny_Assign_Attribute (thn (hv pins s σ H _ I h) fun u s1 ⟨y, H1, I1, ry, q⟩ => thn (ha pins s1 σ H1 _ I1 q) fun ov s2 ⟨x, H2, I2, rx, a, C, dx, fs, ex, ea, c, n, l, q2⟩ => ?_) hs
  subst ex
  obtain rfl : ov = Value.ref a := rx
  exact setattr_ok I2 ea c n l ry fun s3 I3 => ⟨σ, _, I3, q2⟩
theorem ps_fldaug {op : Operator} {rd : V → V → Hp → VK → Prop} (ha : PE X o ta) (hv : PE X value tv) (hop : InOp X op rd) : PS X (.AugAssign (.Attribute o f tpos) op value pos) (sFldAug X.K ta tv rd f) := by
  intro pins s σ H D I h
  refine wpAny_AugAssign_AttributeAny (thn (ha pins s σ H _ I h) fun ov s1 ⟨x, H1, I1, rx, a, C, dx, fs, v, ex, ea, c, n, l, q⟩ => ?_)
  subst ex
  obtain rfl : ov = Value.ref a := rx
  refine getattr_ok I1 ea c n l fun u s2 I2 ru => thn (hv pins s2 σ H1 _ I2 q) fun w3 s3 ⟨y, H2, I3, ry, q3⟩ => thn (hop pins s3 σ H2 v y u w3 _ I3 ru ry q3) fun w4 s4 ⟨z, H3, I4, rz, dx', fs', ea', l', q4⟩ => ?_
  exact setattr_ok I4 ea' c n l' rz fun s5 I5 => ⟨σ, _, I5, q4⟩
def rAdd : V → V → Hp → VK → Prop := fun x y H Q => ∃ i j, x = .int i ∧ y = .int j ∧ Q (.int (i + j)) H
theorem in_add : InOp X .Add rAdd := by
  rintro pins s σ H x y u v Q I rx ry ⟨i, j, rfl, rfl, q⟩
  obtain ⟨t, rfl⟩ := (show ∃ t, u = Value.int i t from rx)
  obtain ⟨t', rfl⟩ := (show ∃ t', v = Value.int j t' from ry)
  exact PyProof.Rows.iadd_int ⟨.int (i + j), H, I.tok _, ⟨_, rfl⟩, q⟩
end

section
variable {X : Cx} {pins : List (Addr × Obj)} {σ : St} {H : Hp} {s : Shared} {A : Around} {E : Value → Shared → Prop} {Q : Value → Shared → Prop} {c : Value} {b : Bool}
inductive TyOf (K : PySem.W.Frag) (H : Hp) : V → Value → Prop where
  | non : TyOf K H .non (.type "NoneType")
  | bl (x : Bool) : TyOf K H (.bl x) (.type "bool")
  | int (i : Int) : TyOf K H (.int i) (.type "int")
  | str (x : Str) : TyOf K H (.str x) (.type "str")
  | flt (x : UInt64) : TyOf K H (.flt x) (.type "float")
  | lst {a : Addr} {xs : List V} (e : H a = some (.lst xs)) : TyOf K H (.ref a) (.type "list")
  | frz {a : Addr} {o : Obj} {xs : List V} (e : H a = some (.frz o (.lst xs))) : TyOf K H (.ref a) (.type "list")
  | tup {a : Addr} {xs : List V} (e : H a = some (.tup xs)) : TyOf K H (.ref a) (.type "tuple")
  | dK {a : Addr} {kvs : List (Key × V)} (e : H a = some (.dK kvs)) : TyOf K H (.ref a) (.type "dict")
  | dT {a : Addr} {kvs : List (List Key × V)} (e : H a = some (.dT kvs)) : TyOf K H (.ref a) (.type "dict")
  | ins {a C dx : Addr} {fs : List (Str × V)} (e : H a = some (.ins C dx fs)) (cl : Cls K C) (ha : PySem.W.findIn K (.ref C) "__class__" = some (some (.builtin "object.__class__")))
      (hn : PySem.W.specialIn K (.builtin "object.__class__") "__get__" = some (some (.builtin "getset_descriptor.__get__"))) (htk : PySem.W.takesIn K (.builtin "object.__class__") = some true)
      (hm : PySem.W.mroIn K C (.type "object") = some true) : TyOf K H (.ref a) (.ref C)
end
end L2

namespace L2
open PySem PySem.Spec PyProof.Rows

structure Room (k : Nat) (A : Around) : Prop where
  hd : A.handled = none
  dp : A.depth + 3 * k + 5 < recursionLimit
  un : A.units + 16 * k + 200 < cLine
theorem Room.mono {j k : Nat} {A : Around} (r : Room k A) (h : j ≤ k) : Room j A := ⟨r.hd, by have := r.dp; omega, by have := r.un; omega⟩
theorem Room.deeper {k : Nat} {A : Around} (r : Room (k + 1) A) (env : Env) : Room k (A.deeper env) :=
  ⟨r.hd, by have := r.dp; show A.depth + 1 + 3 * k + 5 < _; omega, by have := r.un; show A.units + 3 + 16 * k + 200 < _; omega⟩
theorem make_depth {A : Around} {C : Addr} {us : List Value} {kw : List (Str × Value)} : (A.under (.builtin "type.__call__" ⟨.ref C :: us, kw⟩)).depth = A.depth + 1 := by
  first | rfl | simp [Around.under, Code.weight, Code.isCreation, Code.isGuard, Code.isCaller, Code.frames, Code.isFrame, guardIds]
theorem make_units {A : Around} {C : Addr} {us : List Value} {kw : List (Str × Value)} : (A.under (.builtin "type.__call__" ⟨.ref C :: us, kw⟩)).units = A.units + 1 := by
  first | rfl | simp [Around.under, Code.cUnits, Code.frames, Code.isFrame]
theorem Room.make {k : Nat} {A : Around} (r : Room (k + 1) A) (C : Addr) (us : List Value) (kw : List (Str × Value)) : Room k (A.under (.builtin "type.__call__" ⟨.ref C :: us, kw⟩)) :=
  ⟨r.hd, by have := r.dp; rw [make_depth]; omega, by have := r.un; rw [make_units]; omega⟩
theorem Room.depth {k : Nat} {A : Around} (r : Room k A) : A.depth < recursionLimit := by have := r.dp; omega
theorem Room.units {k : Nat} {A : Around} (r : Room k A) : A.units + 64 < cLine := by have := r.un; omega
theorem Room.units0 {k : Nat} {A : Around} (r : Room k A) : A.units < cLine := by have := r.un; omega

def tNil : TA := fun _ H Q => Q [] H
def tCons (ta : TE) (tr : TA) : TA := fun σ H Q => ta σ H fun x H1 => tr σ H1 fun xs H2 => Q (x :: xs) H2
section
variable {X : Cx} {e : Expr} {es : List Expr} {te : TE} {t : TA} {pos : Pos}
theorem pa_nil : PA X [] tNil := fun _ _ _ _ H Q I h => Calls.spliced_nil ⟨[], H, I, .nil, h⟩
theorem pa_cons (ha : PE X e te) (hr : PA X es t) (hs : starEach (e :: es) X.env = (false, eval e X.env) :: starEach es X.env := by rfl) : PA X (e :: es) (tCons te t) := by
  intro pos pins s σ H Q I h
  rw [hs]
  show wpAny _ _ (spliced ((false, eval e X.env) :: backTo pos (starEach es X.env))) _ _ s
  refine Calls.spliced_cons (thn (ha pins s σ H _ I h) fun u s1 ⟨x, H1, I1, r1, q1⟩ => ?_)
  exact thn (hr pos pins s1 σ H1 _ I1 q1) fun us s2 ⟨xs, H2, I2, r2, q2⟩ => ⟨x :: xs, H2, I2, .cons r1 r2, q2⟩

def tTup (t : TA) : TE := fun σ H Q => t σ H fun xs H1 => xs.length ≤ sizeLine ∧ ∀ p, H1 p = none → Q (.ref p) (upd H1 p (.tup xs))
def tLst (t : TA) : TE := fun σ H Q => t σ H fun xs H1 => xs.length ≤ sizeLine ∧ ∀ p, H1 p = none → Q (.ref p) (upd H1 p (.lst xs))
theorem pe_tup {x1} (h : PA X es t) : PE X (.Tuple es x1 pos) (tTup t) := by
  intro pins s σ H Q I hq
  refine wpAny_Tuple_spliced (thn (h pos pins s σ H _ I hq) fun us s1 ⟨xs, H1, I1, r, z, q⟩ => ⟨by rw [← r.length]; exact z, ?_⟩)
  have hf : H1 s1.heap.objs.size = none := I1.hok.fresh (Nat.le_refl _)
  refine ⟨.ref s1.heap.objs.size, upd H1 s1.heap.objs.size (.tup xs), I1.laid (t' := s1.toks) (fun b u e => Heap.get?_push_of_some _ e) (Nat.le_refl _) ?_, rfl, q _ hf⟩
  exact ⟨z, us, r, ⟨_, Heap.get?_push_size _ rfl, rfl, _, rfl⟩⟩
theorem pe_lst (h : PA X es t) : PE X (.List es pos) (tLst t) := by
  intro pins s σ H Q I hq
  refine wpAny_List_spliced (thn (h pos pins s σ H _ I hq) fun us s1 ⟨xs, H1, I1, r, z, q⟩ => ⟨by rw [← r.length]; exact z, ?_⟩)
  have hf : H1 s1.heap.objs.size = none := I1.hok.fresh (Nat.le_refl _)
  refine ⟨.ref s1.heap.objs.size, upd H1 s1.heap.objs.size (.lst xs), I1.laid (t' := s1.toks) (fun b u e => Heap.get?_push_of_some _ e) (Nat.le_refl _) ?_, rfl, q _ hf⟩
  exact ⟨z, us, 0, r, Heap.get?_push_size _ rfl⟩
end

abbrev Sp := List V → Hp → VK → XK → Prop
abbrev CXT := List Env → Hp → Shared → XK → Value → Shared → Prop

structure Env0 (P : Program) (w : World) (K : PySem.W.Frag) (mg : Str → Option Value) (base : Heap) (A : Around) (outer : List Env) (s : Shared) (H : Hp) : Prop where
  frames : A.frames = some outer
  mod : Mod K mg base
  bs : ∀ b o, base.get? b = some o → s.heap.get? b = some o ∧ H b = none
  bsz : base.objs.size ≤ s.heap.objs.size
  funs : s.heap.FunFrames base outer
  frf : ∀ b ∈ frs outer, H b = none
  hok : HOk P w H s.heap
  bare : AllBare s.gens
def CE (outer : List Env) (P : Program) (w : World) (H : Hp) (s : Shared) (Q : VK) (u : Value) (s' : Shared) : Prop :=
  ∃ v H', s'.os = s.os ∧ AllBare s'.gens ∧ Un (frs outer) [] H H' s.heap s'.heap ∧ HOk P w H' s'.heap ∧ RelV v u ∧ Q v H'
def CR (CX : CXT) (outer : List Env) (P : Program) (w : World) (H : Hp) (s : Shared) (Q : VK) (E : XK) (r : Result) (s' : Shared) : Prop :=
  match r with
  | .ok (.ret u) => CE outer P w H s Q u s'
  | .ok _ => False
  | .error e => CX outer H s E e s'
structure FnOk (P : Program) (w : World) (K : PySem.W.Frag) (mg : Str → Option Value) (base : Heap) (CX : CXT) (k : Nat) (f : Addr) (fd : FuncData) (ps : List Str) (sp : Sp) : Prop where
  len : ∀ vs H Q E, sp vs H Q E → vs.length = ps.length
  run : ∀ (A : Around) (outer : List Env) (s : Shared) (H : Hp) (args : Args) (us : List Value) (vs : List V) (Q : VK) (E : XK), Room k A → Env0 P w K mg base A outer s H → BindsTo s fd args (ps.zip us) → Vals vs us → sp vs H Q E →
    codeAny (model P w) A (.call (.ref f) args) (CR CX outer P w H s Q E) s
theorem Env0.make {P : Program} {w : World} {K : PySem.W.Frag} {mg : Str → Option Value} {base : Heap} {A : Around} {outer : List Env} {s : Shared} {H : Hp} (e : Env0 P w K mg base A outer s H) (C : Addr) (us : List Value) (kw : List (Str × Value)) :
    Env0 P w K mg base (A.under (.builtin "type.__call__" ⟨.ref C :: us, kw⟩)) outer s H := ⟨by first | exact e.frames | (simpa [Around.under, Code.envs, Code.isFrame, pushEnvs] using e.frames), e.mod, e.bs, e.bsz, e.funs, e.frf, e.hok, e.bare⟩
section
variable {X : Cx} {pins : List (Addr × Obj)} {σ : St} {H : Hp} {s s' : Shared}
theorem Inv.env0 (I : Inv X pins σ H s) : Env0 X.prog X.w X.K X.mg X.base X.A X.stack s H :=
  ⟨I.ok.frames, I.ok.mod, I.bs, Nat.le_trans I.ok.bsz I.sz, I.stack, I.stkFree, I.hok, I.bare⟩
theorem Inv.after {Q : VK} {u : Value} (I : Inv X pins σ H s) (h : CE X.stack X.prog X.w H s Q u s') : EP X pins σ Q u s' := by
  obtain ⟨v, H', os, bare, un, hok, r, q⟩ := h
  obtain ⟨hh, g, d, t, os'⟩ := s'
  obtain rfl : os' = s.os := os
  exact ⟨v, H', I.call (h' := hh) (g' := g) (d' := d) (t' := t) (ch := []) un hok bare (fun b z => absurd z (by simp)), r, q⟩
end

def tCall (sp : Sp) (dvs : List V) (E : XK) (t : TA) : TE := fun σ H Q => t σ H fun vs H1 => sp (vs ++ dvs) H1 Q E
def tMeth (C : Addr) (m : Str) (sp : Sp) (dvs : List V) (E : XK) (ta : TE) (t : TA) : TE := fun σ H Q => ta σ H fun x H1 => ∃ a dx fs, x = .ref a ∧ H1 a = some (.ins C dx fs) ∧ fs.lookup m = none ∧
  t σ H1 fun vs H2 => sp (x :: (vs ++ dvs)) H2 Q E
def tMake (C : Addr) (sp : Sp) (dvs : List V) (E : XK) (t : TA) : TE := fun σ H Q => t σ H fun vs H1 => ∀ x dx, H1 x = none → H1 dx = none → dx ≠ x →
  sp (.ref x :: (vs ++ dvs)) (upd (upd H1 dx (.own x)) x (.ins C dx [])) (fun v H2 => v = .non ∧ Q (.ref x) H2) E

def Binds (K : PySem.W.Frag) (fd : FuncData) (ps : List Str) (ds : List Value) : Prop :=
  ∀ (s : Shared) (us : List Value), K.In s.heap → (us ++ ds).length = ps.length → BindsTo s fd ⟨us, []⟩ (ps.zip (us ++ ds))
theorem Binds.all {K : PySem.W.Frag} {fd : FuncData} {ps : List Str} (h : ∀ us : List Value, us.length = ps.length → bindArgs fd ⟨us, []⟩ = pure (ps.zip us)) : Binds K fd ps [] := fun s us _ hl => by
  rw [List.append_nil] at hl ⊢
  exact .of_eq (h us hl)

def Passes (CX : CXT) (X : Cx) (E : XK) : Prop := ∀ (pins : List (Addr × Obj)) (σ : St) (H : Hp) (s : Shared) (e : Value) (s' : Shared), Inv X pins σ H s → CX X.stack H s E e s' → X.xe e s'

section
variable {X : Cx} {CX : CXT} {k : Nat} {f C : Addr} {fd : FuncData} {ps : List Str} {sp : Sp} {dvs : List V} {ds : List Value} {E : XK} {x m : Str} {p pos apos : Pos} {e o : Expr} {es : List Expr} {ta : TE} {t : TA}

theorem run_fn {pins : List (Addr × Obj)} {σ : St} {H : Hp} {s : Shared} {Q : VK} {us : List Value} {vs : List V} (F : FnOk X.prog X.w X.K X.mg X.base CX k f fd ps sp) (hr : Room k X.A) (hb : Binds X.K fd ps ds) (hd : Vals dvs ds) (hx : Passes CX X E)
    (I : Inv X pins σ H s) (r : Vals vs us) (h : sp (vs ++ dvs) H Q E) : wpAny (model X.prog X.w) X.A (call (.ref f) us) (EP X pins σ Q) X.xe s := by
  have r2 : Vals (vs ++ dvs) (us ++ ds) := r.append hd
  have hl : (us ++ ds).length = ps.length := by rw [← r2.length]; exact F.len _ _ _ _ h
  refine wpAny_call (codeAny_mono (F.run X.A X.stack s H ⟨us, []⟩ (us ++ ds) (vs ++ dvs) Q E hr I.env0 (hb s us I.kIn hl) r2 h) fun r s' hq => ?_)
  cases r with
  | error e => exact hx pins σ H s e s' I hq
  | ok fl =>
    cases fl with
    | ret u => exact I.after hq
    | next => exact False.elim hq
    | brk => exact False.elim hq
    | cont => exact False.elim hq

theorem pe_call (F : FnOk X.prog X.w X.K X.mg X.base CX k f fd ps sp) (hr : Room k X.A) (hg : Gl X x) (hm : X.mg x = some (.ref f)) (hk : PySem.W.keepIn X.K (.ref f) = true) (hb : Binds X.K fd ps ds) (hd : Vals dvs ds) (hx : Passes CX X E)
    (ha : PA X (e :: es) t) (hdb : (x == ("__debug__" : Str)) = false := by decide) (he : starEach (e :: es) X.env = (false, eval e X.env) :: starEach es X.env := by rfl) (hpl : (backTo pos (starEach es X.env)).any (·.1) = false := by rfl) :
    PE X (.Call (.Name x p) (e :: es) [] pos) (tCall sp dvs E t) := by
  intro pins s σ H Q I h
  refine wpAny_Call_Name_kw (ld_glob I hg hm ?_ hdb)
  refine PySem.W.callWith_K (h₀ := X.base) I.ok.mod.kin hk (thn (ha pos pins s σ H _ I h) fun us s1 ⟨vs, H1, I1, r, q⟩ => ⟨I1.kIn, ?_⟩) he hpl
  exact run_fn F hr hb hd hx I1 r q
theorem pe_meth {pl : Sem Bool} (he : PE X o ta) (c : Cls X.K C) (hm : Meth X.K C m f) (F : FnOk X.prog X.w X.K X.mg X.base CX k f fd ps sp) (hr : Room k X.A) (hb : Binds X.K fd ps ds) (hd : Vals dvs ds) (hx : Passes CX X E) (ha : PA X (e :: es) t)
    (hst : starEach (e :: es) X.env = (false, eval e X.env) :: starEach es X.env := by rfl) (hpl : (backTo pos (starEach es X.env)).any (·.1) = false := by rfl)
    (ht : eval (.Call (.Attribute o m apos) (e :: es) [] pos) X.env = (do
      let ov ← eval o X.env
      standAt apos.atName
      let (f, first) ← holding [ov] (getMethod ov m pl)
      callWith pos f first (backTo pos (starEach (e :: es) X.env)) (backToKw pos (keywordEach [] X.env))) := by rfl) :
    PE X (.Call (.Attribute o m apos) (e :: es) [] pos) (tMeth C m sp dvs E ta t) := by
  intro pins s σ H Q I h
  refine PySem.W.methodCall_KW (pl := pl) (thn (he pins s σ H _ I h) fun u s1 ⟨x, H1, I1, rx, a, dx, fs, ex, ea, l, q⟩ => ?_) ht
  subst ex
  obtain rfl : u = Value.ref a := rx
  refine getmeth_ok I1 ea c hm l ?_
  refine PySem.W.callWith_K (first := [.ref a]) (h₀ := X.base) I.ok.mod.kin hm.kp (thn (ha pos pins s1 σ H1 _ I1 q) fun us s2 ⟨vs, H2, I2, r, q2⟩ => ⟨I2.kIn, ?_⟩) hst hpl
  exact run_fn (us := .ref a :: us) (vs := .ref a :: vs) F hr hb hd hx I2 (.cons rfl r) q2
theorem pe_meth0 {pl : Sem Bool} (he : PE X o ta) (c : Cls X.K C) (hm : Meth X.K C m f) (F : FnOk X.prog X.w X.K X.mg X.base CX k f fd ps sp) (hr : Room k X.A) (hb : Binds X.K fd ps ds) (hd : Vals dvs ds) (hx : Passes CX X E)
    (ht : eval (.Call (.Attribute o m apos) [] [] pos) X.env = (do
      let ov ← eval o X.env
      standAt apos.atName
      let (f, first) ← holding [ov] (getMethod ov m pl)
      callWith pos f first (backTo pos (starEach [] X.env)) (backToKw pos (keywordEach [] X.env))) := by rfl) :
    PE X (.Call (.Attribute o m apos) [] [] pos) (tMeth C m sp dvs E ta tNil) := by
  intro pins s σ H Q I h
  refine PySem.W.methodCall_KW (pl := pl) (thn (he pins s σ H _ I h) fun u s1 ⟨x, H1, I1, rx, a, dx, fs, ex, ea, l, q⟩ => ?_) ht
  subst ex
  obtain rfl : u = Value.ref a := rx
  refine getmeth_ok I1 ea c hm l ?_
  exact PySem.W.callWith_K0 (first := [.ref a]) I1.kIn hm.kp (run_fn (us := [.ref a]) (vs := [.ref a]) F hr hb hd hx I1 (.cons rfl .nil) q)

structure Mk (K : PySem.W.Frag) (C f : Addr) : Prop where
  makes : PySem.W.makesIn K C = true
  init : PySem.W.findIn K (.ref C) "__init__" = some (some (.ref f))
  fn : PySem.W.isFn K (.ref f) = true
  kp : PySem.W.keepIn K (.ref C) = true

theorem run_make {pins : List (Addr × Obj)} {σ : St} {H : Hp} {s : Shared} {Q : VK} {us : List Value} {vs : List V} (M : Mk X.K C f) (F : FnOk X.prog X.w X.K X.mg X.base CX k f fd ps sp) (hr : Room (k + 1) X.A) (hb : Binds X.K fd ps ds) (hd : Vals dvs ds)
    (hx : Passes CX X E) (I : Inv X pins σ H s) (r : Vals vs us)
    (h : ∀ x dx, H x = none → H dx = none → dx ≠ x → sp (.ref x :: (vs ++ dvs)) (upd (upd H dx (.own x)) x (.ins C dx [])) (fun v H2 => v = .non ∧ Q (.ref x) H2) E) :
    wpAny (model X.prog X.w) X.A (call (.ref C) us) (EP X pins σ Q) X.xe s := by
  have hq := h (s.heap.objs.size + 1) s.heap.objs.size (I.hok.fresh (Nat.le_succ _)) (I.hok.fresh (Nat.le_refl _)) (Nat.ne_of_lt (Nat.lt_succ_self _))
  have I2 := Inv.made (C := C) I
  have r2 : Vals (V.ref (s.heap.objs.size + 1) :: (vs ++ dvs)) (Value.ref (s.heap.objs.size + 1) :: (us ++ ds)) := .cons rfl (r.append hd)
  have hl : (Value.ref (s.heap.objs.size + 1) :: us ++ ds).length = ps.length := by
    have e := r2.length
    rw [F.len _ _ _ _ hq] at e
    exact e.symm
  refine wpAny_call (make_map (f := f) I.kIn M.makes M.init (beq_iff_eq.mp M.fn) (codeAny_mono (F.run _ X.stack _ _ ⟨Value.ref (s.heap.objs.size + 1) :: us, []⟩ (Value.ref (s.heap.objs.size + 1) :: (us ++ ds)) _ _ E (hr.make C us [])
    (I2.env0.make C us []) (hb _ (Value.ref (s.heap.objs.size + 1) :: us) I2.kIn hl) r2 hq) fun r s' hq' => ?_))
  cases r with
  | error e => exact hx pins σ _ _ e s' I2 hq'
  | ok fl =>
    cases fl with
    | ret u =>
      obtain ⟨v, H', I3, rv, ev, q3⟩ := I2.after hq'
      subst ev
      exact ⟨rv, ⟨V.ref (s.heap.objs.size + 1), H', I3, rfl, q3⟩⟩
    | next => exact False.elim hq'
    | brk => exact False.elim hq'
    | cont => exact False.elim hq'
theorem pe_make (M : Mk X.K C f) (F : FnOk X.prog X.w X.K X.mg X.base CX k f fd ps sp) (hr : Room (k + 1) X.A) (hg : Gl X x) (hm : X.mg x = some (.ref C)) (hb : Binds X.K fd ps ds) (hd : Vals dvs ds) (hx : Passes CX X E)
    (ha : PA X (e :: es) t) (hdb : (x == ("__debug__" : Str)) = false := by decide) (he : starEach (e :: es) X.env = (false, eval e X.env) :: starEach es X.env := by rfl) (hpl : (backTo pos (starEach es X.env)).any (·.1) = false := by rfl) :
    PE X (.Call (.Name x p) (e :: es) [] pos) (tMake C sp dvs E t) := by
  intro pins s σ H Q I h
  refine wpAny_Call_Name_kw (ld_glob I hg hm ?_ hdb)
  refine PySem.W.callWith_K (h₀ := X.base) I.ok.mod.kin M.kp (thn (ha pos pins s σ H _ I h) fun us s1 ⟨vs, H1, I1, r, q⟩ => ⟨I1.kIn, ?_⟩) he hpl
  exact run_make M F hr hb hd hx I1 r q
theorem pe_make0 (M : Mk X.K C f) (F : FnOk X.prog X.w X.K X.mg X.base CX k f fd ps sp) (hr : Room (k + 1) X.A) (hg : Gl X x) (hm : X.mg x = some (.ref C)) (hb : Binds X.K fd ps ds) (hd : Vals dvs ds) (hx : Passes CX X E)
    (hdb : (x == ("__debug__" : Str)) = false := by decide) : PE X (.Call (.Name x p) [] [] pos) (tMake C sp dvs E tNil) := by
  intro pins s σ H Q I h
  refine wpAny_Call_Name_kw (ld_glob I hg hm ?_ hdb)
  exact PySem.W.callWith_K0 I.kIn M.kp (run_make (us := []) M F hr hb hd hx I .nil h)
end

section
variable {X : Cx} {CX : CXT} {k : Nat} {f C : Addr} {fd : FuncData} {ps ks : List Str} {sp : Sp} {E : XK} {x m : Str} {p pos apos kpos : Pos} {e o : Expr} {es : List Expr} {kws : List Keyword} {te ta : TE} {t tk : TA} {nm : Option Str}
structure KBinds (K : PySem.W.Frag) (fd : FuncData) (ps ks : List Str) (g : List Value → List Value → List Value) (gV : List V → List V → List V) : Prop where
  to : ∀ (s : Shared) (us ws : List Value), K.In s.heap → (g us ws).length = ps.length → BindsTo s fd ⟨us, ks.zip ws⟩ (ps.zip (g us ws))
  rel : ∀ {vs : List V} {us : List Value} {zs : List V} {ws : List Value}, Vals vs us → Vals zs ws → Vals (gV vs zs) (g us ws)
variable {g : List Value → List Value → List Value} {gV : List V → List V → List V}
end

structure FnScope (N P : List Str) (sc : Scope) : Prop where
  kind : sc.kind = .function
  co : sc.isCoroutine = false
  gen : sc.isGenerator = false
  nd : N.Nodup
  pre : N.take P.length = P
  par : ∀ x ∈ P, sc.names.lookup x = some .local ∨ sc.names.lookup x = some .cell
  nofree : ∀ y ∈ sc.names, y.2 ≠ .free

theorem bindL_out {kindOf : Str → Option NameKind} {x : Str} : ∀ {binds : List (Str × Value)} {m : Str → Option Value}, (∀ v, (x, v) ∉ binds) → bindL kindOf binds m x = m x
  | [], _, _ => rfl
  | (n, v) :: r, m, h => by
    unfold bindL
    rw [bindL_out fun w hw => h w (List.mem_cons_of_mem _ hw)]
    split
    · have : x ≠ n := by rintro rfl; exact h v List.mem_cons_self
      simp [this]
    · rfl
theorem bindC_out {kindOf : Str → Option NameKind} {x : Str} : ∀ {binds : List (Str × Value)} {m : Str → Option Value}, (∀ v, (x, v) ∉ binds) → bindC kindOf binds m x = m x
  | [], _, _ => rfl
  | (n, v) :: r, m, h => by
    unfold bindC
    rw [bindC_out fun w hw => h w (List.mem_cons_of_mem _ hw)]
    split
    · rfl
    · have : x ≠ n := by rintro rfl; exact h v List.mem_cons_self
      simp [this]
theorem bindL_get {kindOf : Str → Option NameKind} {x : Str} {v : Value} : ∀ {P : List Str} {vs : List Value} {i : Nat} {m : Str → Option Value}, P.Nodup → P[i]? = some x → vs[i]? = some v → kindOf x = some .local →
    bindL kindOf (P.zip vs) m x = some v
  | [], _, _, _, _, h, _, _ => by simp at h
  | _ :: _, [], _, _, _, _, h, _ => by simp at h
  | p :: P, w :: vs, 0, m, nd, h1, h2, hk => by
    simp at h1 h2; subst h1; subst h2
    show bindL kindOf ((p, w) :: P.zip vs) m p = _
    unfold bindL
    rw [bindL_out fun v hv => (List.nodup_cons.mp nd).1 (List.of_mem_zip hv).1, if_pos hk]
    simp
  | p :: P, w :: vs, i + 1, m, nd, h1, h2, hk => by
    show bindL kindOf ((p, w) :: P.zip vs) m x = _
    unfold bindL
    exact bindL_get (i := i) (List.nodup_cons.mp nd).2 (by simpa using h1) (by simpa using h2) hk
theorem bindC_get {kindOf : Str → Option NameKind} {x : Str} {v : Value} : ∀ {P : List Str} {vs : List Value} {i : Nat} {m : Str → Option Value}, P.Nodup → P[i]? = some x → vs[i]? = some v → kindOf x ≠ some .local →
    bindC kindOf (P.zip vs) m x = some v
  | [], _, _, _, _, h, _, _ => by simp at h
  | _ :: _, [], _, _, _, _, h, _ => by simp at h
  | p :: P, w :: vs, 0, m, nd, h1, h2, hk => by
    simp at h1 h2; subst h1; subst h2
    show bindC kindOf ((p, w) :: P.zip vs) m p = _
    unfold bindC
    rw [bindC_out fun v hv => (List.nodup_cons.mp nd).1 (List.of_mem_zip hv).1, if_neg hk]
    simp
  | p :: P, w :: vs, i + 1, m, nd, h1, h2, hk => by
    show bindC kindOf ((p, w) :: P.zip vs) m x = _
    unfold bindC
    exact bindC_get (i := i) (List.nodup_cons.mp nd).2 (by simpa using h1) (by simpa using h2) hk

def start (N : List Str) (vs : List V) : St := vs.map some ++ List.replicate (N.length - vs.length) none

def cxOf (CX : CXT) (P : Program) (w : World) (K : PySem.W.Frag) (mg : Str → Option Value) (base : Heap) (N : List Str) (qual : Str) (scope : Scope) (f : Addr) (cd : Value) (A : Around) (outer : List Env) (s : Shared) (H : Hp) (E : XK) : Cx where
  prog := P
  w := w
  K := K
  mg := mg
  base := base
  A := A.deeper (envOfC qual scope s.heap.objs.size f cd)
  N := N
  s_0 := s
  H_0 := H
  env := envOfC qual scope s.heap.objs.size f cd
  outer := outer
  stack := envOfC qual scope s.heap.objs.size f cd :: outer
  ex := []
  calm := true
  fn := fun _ => true
  pn := []
  xe := fun e s' => wpAny (model P w) (A.deeper (envOfC qual scope s.heap.objs.size f cd)) (leaving (envOfC qual scope s.heap.objs.size f cd) e) (fun _ s'' => CX outer H s E e s'') (fun e' s'' => CX outer H s E e' s'') s'

theorem cell_has {sc : Scope} {n : Nat} {x : Str} (h : sc.names.lookup x = some .cell) : ∃ c, (cellsFrom n sc.names []).lookup x = some c := by
  have q := PySem.W.cellsFrom_some sc.names n [] (.inl h)
  exact Option.isSome_iff_exists.mp q

theorem inv_start {CX : CXT} {P : Program} {w : World} {K : PySem.W.Frag} {mg : Str → Option Value} {base : Heap} {N ps : List Str} {qual : Str} {scope : Scope} {f : Addr} {cd : Value} {A : Around} {outer : List Env} {s s1 : Shared} {H : Hp} {E : XK} {us : List Value} {vs : List V}
    (S : FnScope N ps scope) (hd : A.handled = none) (e0 : Env0 P w K mg base A outer s H) (hl : vs.length = ps.length) (r : Vals vs us)
    (x : InCallC s s.heap.objs.size (bindL (envOfC qual scope s.heap.objs.size f cd).kindOf (ps.zip us) fun _ => none) (cellsFrom (s.heap.objs.size + 1) scope.names []) (bindC (envOfC qual scope s.heap.objs.size f cd).kindOf (ps.zip us) fun _ => none) s1) :
    Inv (cxOf CX P w K mg base N qual scope f cd A outer s H E) [] (start N vs) H s1 := by
  have hpl : ps.length ≤ N.length := by have := congrArg List.length S.pre; rw [List.length_take] at this; omega
  obtain ⟨h1, tk, rfl, hk⟩ := x.done
  have noA : ∀ b : Addr, b ∉ (cxOf CX P w K mg base N qual scope f cd A outer s H E).ex := fun b z => absurd (show b ∈ ([] : List Addr) from z) (by simp)
  refine ⟨⟨e0.mod, S.kind, rfl, rfl, Nat.le_refl _, fun y z c h1 h2 => ?_, fun y hy => ?_, fun y c _ h => ?_, fun _ => hd, Around.frames_deeper e0.frames, .inr ⟨rfl, rfl⟩, fun b z => absurd z (noA b), e0.bs, e0.bsz, fun b _ _ => noA b, fun b z => absurd z (noA b), e0.funs, e0.frf⟩,
    rfl, e0.bare, Un.kept hk, ⟨_, x.toInCall.ns, fun i y v h1 h2 h3 => ?_⟩, fun y c h => ⟨_, x.cell y c h⟩, e0.hok.fresh (Nat.le_refl _), fun y c h => ?_, fun p hp => absurd (show p ∈ ([] : List (Addr × Obj)) from hp) (by simp), e0.hok.kept hk, ?_⟩
  · exact name_of_addr x.apart (PySem.mem_of_lookup h1) (PySem.mem_of_lookup h2)
  · have hy : scope.names.lookup y = some .cell ∨ scope.names.lookup y = some .free := hy
    rcases hy with hy | hy
    · exact cell_has hy
    · exact absurd rfl (S.nofree _ (PySem.mem_of_lookup hy))
  · exact Nat.le_of_lt (x.above y c (PySem.mem_of_lookup h))
  · have hi : i < vs.length := by
      unfold start at h2
      by_cases hi : i < vs.length
      · exact hi
      · rw [List.getElem?_append_right (by simpa using hi)] at h2
        rw [List.getElem?_replicate] at h2
        split at h2 <;> cases h2
    have ha : vs[i]? = some v := by
      unfold start at h2
      rw [List.getElem?_append_left (by simpa using hi), List.getElem?_map] at h2
      cases e : vs[i]? with
      | none => rw [e] at h2; cases h2
      | some a => rw [e] at h2; cases h2; rfl
    obtain ⟨u, hu, rv⟩ := r.get ha
    have hp : ps[i]? = some y := by
      rw [← S.pre, List.getElem?_take_of_lt (by omega)]; exact h1
    have ndP : ps.Nodup := by rw [← S.pre]; exact S.nd.sublist (List.take_sublist _ _)
    refine ⟨u, rv, ?_⟩
    rcases S.par y (List.mem_of_getElem? hp) with k | k
    · exact .inl ⟨k, bindL_get ndP hp hu k⟩
    · obtain ⟨c, e⟩ := cell_has (n := s.heap.objs.size + 1) k
      refine .inr ⟨.inl k, c, e, ?_⟩
      have q := x.cell y c e
      rw [bindC_get ndP hp hu (by show scope.names.lookup y ≠ _; rw [k]; decide)] at q
      exact q
  · exact e0.hok.fresh (Nat.le_of_lt (x.above y c (PySem.mem_of_lookup h)))
  · unfold start
    show _ = N.length
    rw [List.length_append, List.length_map, List.length_replicate]
    omega

theorem fn_of {CX : CXT} {P : Program} {w : World} {K : PySem.W.Frag} {mg : Str → Option Value} {base : Heap} {k : Nat} {f : Addr} {name qual : Str} {params : Arguments} {body : List Stmt} {scope : Scope} {dV kV doc pm cdv ct oc : Value} {an od : Option Addr}
    {osl : Array (Option Value)} {N ps : List Str} {sp : Sp} (lk : K.lookup f = some ⟨oc, od, .func (PySem.W.fnOf name qual params body scope dV kV doc pm an cdv ct), osl⟩) (hcd : PySem.W.codeIn K cdv qual = true) (S : FnScope N ps scope)
    (len : ∀ vs H Q E, sp vs H Q E → vs.length = ps.length)
    (hbody : ∀ (A : Around) (outer : List Env) (s : Shared) (H : Hp) (vs : List V) (Q : VK) (E : XK), Room k (A.deeper (envOfC qual scope s.heap.objs.size f cdv)) → sp vs H Q E →
      ∃ t, PSs (cxOf CX P w K mg base N qual scope f cdv A outer s H E) body t ∧ t { nx := fun _ H' => Q .non H', rt := Q } (start N vs) H) :
    FnOk P w K mg base CX (k + 1) f (PySem.W.fnOf name qual params body scope dV kV doc pm an cdv ct) ps sp := by
  refine ⟨len, fun A outer s H args us vs Q E hr e0 hb r hsp => ?_⟩
  have hl := len _ _ _ _ hsp
  have KX : K.In s.heap := e0.mod.kin.keeps fun b o e => (e0.bs b o e).1
  have lim : s.heap.NoLimit := e0.mod.nolimit.keeps fun b o e => (e0.bs b o e).1
  have hkind : ∀ y ∈ ps.zip us, scope.names.lookup y.1 = some .local ∨ (scope.names.lookup y.1 = some .cell ∧ ((cellsFrom (s.heap.objs.size + 1) scope.names []).lookup y.1).isSome = true) := fun ⟨n, v⟩ hy => by
    rcases S.par n (List.of_mem_zip hy).1 with q | q
    · exact .inl q
    · exact .inr ⟨q, PySem.W.cellsFrom_some _ _ _ (.inl q)⟩
  refine codeAny_call_function hr.depth (KX _ _ lk) rfl S.co S.gen rfl (PySem.W.codeRec_of KX hcd) (hb _ _ _ _ ?_)
  refine wpAny_newFunctionEnv_cells S.kind hkind fun env he s1 x => ?_
  subst he
  refine ⟨lim.keeps x.toInCall.keep, codeAny_func ?_⟩
  obtain ⟨t, ht, hq⟩ := hbody A outer s H vs Q E (hr.deeper _) hsp
  have I : Inv (cxOf CX P w K mg base N qual scope f cdv A outer s H E) [] (start N vs) H s1 := inv_start S hr.hd e0 hl r x
  refine wpAny_mono (ht [] s1 (start N vs) H _ I hq) (fun fl s' hs => ?_) fun e s' hs => hs
  have fin : ∀ {σ' : St} {H' : Hp} {v : V} {u : Value}, Inv (cxOf CX P w K mg base N qual scope f cdv A outer s H E) [] σ' H' s' → RelV v u → Q v H' → CE outer P w H s Q u s' :=
    fun {σ' H' v u} J rv q => ⟨v, H', J.os, J.bare, J.base, J.hok, rv, q⟩
  cases fl with
  | ret u =>
    obtain ⟨v, σ', H', J, rv, q⟩ := hs
    exact fin J rv q
  | next =>
    obtain ⟨σ', H', J, q⟩ := hs
    exact fin (v := V.non) (u := Value.none) J rfl q
  | brk =>
    obtain ⟨_, _, _, q⟩ := hs
    exact False.elim q
  | cont =>
    obtain ⟨_, _, _, q⟩ := hs
    exact False.elim q
end L2

namespace L2
open PySem PySem.Spec PyProof.Rows
section
variable {X : Cx} {x : Str} {p pos : Pos} {e : Expr} {es : List Expr} {t : TA} {id T : String} {r : List V → Hp → VK → Prop}

def tCB (r : List V → Hp → VK → Prop) (t : TA) : TE := fun σ H Q => t σ H fun vs H1 => r vs H1 Q
theorem pe_callB (hc : CallR X (.builtin id) r) (hg : Gl X x) (hm : X.mg x = none) (hv : bootBuiltins x = some (.builtin id)) (ha : PA X (e :: es) t) (hn : x ≠ "__name__" := by decide) (hdb : (x == ("__debug__" : Str)) = false := by decide)
    (he : starEach (e :: es) X.env = (false, eval e X.env) :: starEach es X.env := by rfl) (hpl : (backTo pos (starEach es X.env)).any (·.1) = false := by rfl) : PE X (.Call (.Name x p) (e :: es) [] pos) (tCB r t) := by
  intro pins s σ H Q I h
  refine wpAny_Call_Name_kw (ld_blt I hg hm hv ?_ hn hdb)
  exact PyProof.Rows.callWith_builtin1 (thn (ha pos pins s σ H _ I h) fun us s1 ⟨vs, H1, I1, r1, q1⟩ => hc pins s1 σ H1 vs us Q I1 r1 q1) he hpl
theorem pe_callTy (hc : CallR X (.type T) r) (hg : Gl X x) (hm : X.mg x = none) (hv : bootBuiltins x = some (.type T)) (ha : PA X (e :: es) t) (hn : x ≠ "__name__" := by decide) (hdb : (x == ("__debug__" : Str)) = false := by decide)
    (he : starEach (e :: es) X.env = (false, eval e X.env) :: starEach es X.env := by rfl) (hpl : (backTo pos (starEach es X.env)).any (·.1) = false := by rfl) : PE X (.Call (.Name x p) (e :: es) [] pos) (tCB r t) := by
  intro pins s σ H Q I h
  refine wpAny_Call_Name_kw (ld_blt I hg hm hv ?_ hn hdb)
  exact PyProof.Rows.callWith_type1 (thn (ha pos pins s σ H _ I h) fun us s1 ⟨vs, H1, I1, r1, q1⟩ => hc pins s1 σ H1 vs us Q I1 r1 q1) he hpl
end
end L2

namespace HT
open PySem PyProof.Rows

section
open PySem.SeqAt
open PySem.AutoSeq1 (wpAny_loadPart')
open PySem.MeetsSeq PySem.MeetsSeq2 PySem.MeetsSeq3

end

section
variable {prog : Program} {w : World} {A : Around} {E : Value → Shared → Prop} {s : Shared}

def sIx (n d : Nat) : Option Int → Nat
  | none => d
  | some v => if v < 0 then (v + (n : Int)).toNat else min v.toNat n
theorem sIx_none (n d : Nat) : sIx n d none = d := rfl
theorem sIx_nat (n d k : Nat) : sIx n d (some (k : Int)) = min k n := by
  show (if (k : Int) < 0 then ((k : Int) + (n : Int)).toNat else min (k : Int).toNat n) = min k n
  rw [if_neg (by omega), Int.toNat_natCast]
end
end HT

namespace L2
open PySem PySem.Spec PyProof.Rows

abbrev TO := St → Hp → (Option Int → Hp → Prop) → Prop
def PO (X : Cx) (e : Option Expr) (t : TO) : Prop :=
  ∀ (pins : List (Addr × Obj)) (s : Shared) (σ : St) (H : Hp) (Q : Option Int → Hp → Prop), Inv X pins σ H s → t σ H Q →
    wpAny (model X.prog X.w) X.A (evalPart e X.env) (fun u s' => ∃ o H', Inv X pins σ H' s' ∧ IsPart u o ∧ Q o H') X.xe s
def tNoPart : TO := fun _ H Q => Q none H
def tPart (t : TE) : TO := fun σ H Q => t σ H fun x H1 => ∃ i, x = .int i ∧ Q (some i) H1

section
variable {X : Cx} {e : Expr} {te : TE} {lo hi : Option Expr} {tl th : TO} {pos p2 : Pos}

theorem po_none : PO X none tNoPart := by
  intro pins s σ H Q I h
  rw [evalPart_none]
  exact wpAny_pure ⟨none, H, I, .none, h⟩
theorem po_some (h : PE X e te) : PO X (some e) (tPart te) := by
  intro pins s σ H Q I hw
  rw [evalPart_some]
  refine thn (h pins s σ H _ I hw) fun u s1 ⟨x, H1, I1, r1, q1⟩ => ?_
  obtain ⟨i, rfl, q⟩ := q1
  obtain ⟨t, rfl⟩ := r1
  exact ⟨some i, H1, I1, .int i t, q⟩

def SlR (X : Cx) (r : V → Option Int → Option Int → Hp → VK → Prop) : Prop :=
  ∀ (pins : List (Addr × Obj)) (s : Shared) (σ : St) (H : Hp) (x : V) (v vl vu : Value) (lo hi : Option Int) (sl : Addr) (Q : VK), Inv X pins σ H s → RelV x v → s.heap.IsSliceOf sl vl vu .none → IsPart vl lo → IsPart vu hi → r x lo hi H Q →
    ∃ T id, typeLookup (.type T) "__getitem__" = pure (some (.builtin id)) ∧ s.TypeIs v T ∧ wpAny (model X.prog X.w) X.A (getItem v (.ref sl)) (EP X pins σ Q) X.xe s
def tSl (r : V → Option Int → Option Int → Hp → VK → Prop) (te : TE) (tl th : TO) : TE := fun σ H Q => te σ H fun x H1 => tl σ H1 fun l H2 => th σ H2 fun u H3 => r x l u H3 Q
theorem pe_slice {r : V → Option Int → Option Int → Hp → VK → Prop} (hr : SlR X r) (he : PE X e te) (hl : PO X lo tl) (hu : PO X hi th) : PE X (.Subscript e (.Slice lo hi none p2) pos) (tSl r te tl th) := by
  intro pins s σ H Q I h
  refine Subscript_ (thn (he pins s σ H _ I h) fun v s1 ⟨x, H1, I1, r1, q1⟩ => ?_)
  refine wpAny_Slice (thn (hl pins s1 σ H1 _ I1 q1) fun vl s2 ⟨l, H2, I2, pl, q2⟩ => thn (hu pins s2 σ H2 _ I2 q2) fun vu s3 ⟨u, H3, I3, pu, q3⟩ => ?_)
  rw [evalPart_none]
  refine wpAny_pure ?_
  have I4 : Inv X pins σ H3 { s3 with heap := s3.heap.push { cls := .type "slice", data := .fields #[vl, vu, .none] } } := I3.kept (t' := s3.toks) fun b ob q => Heap.get?_push_of_some _ q
  obtain ⟨T, id, hT, ht, hg⟩ := hr pins { s3 with heap := s3.heap.push { cls := .type "slice", data := .fields #[vl, vu, .none] } } σ H3 x v vl vu l u s3.heap.objs.size Q I4 r1 (Heap.IsSliceOf.new ..) pl pu q3
  show wpAny (model X.prog X.w) X.A (subscriptTail e (.Slice lo hi none p2) v (.ref s3.heap.objs.size)) (EP X pins σ Q) X.xe { s3 with heap := s3.heap.push { cls := .type "slice", data := .fields #[vl, vu, .none] } }
  exact tail_any (ops := [.ref s3.heap.objs.size, v]) ht hT hg (by with_unfolding_all rfl)

def cutV (xs : List V) (lo hi : Option Int) : List V := (xs.drop (HT.sIx xs.length 0 lo)).take (HT.sIx xs.length xs.length hi - HT.sIx xs.length 0 lo)
theorem cutV_length (xs : List V) (lo hi : Option Int) : (cutV xs lo hi).length ≤ xs.length := by
  unfold cutV
  rw [List.length_take, List.length_drop]
  omega
end
end L2

namespace L2
open PySem PySem.Spec PyProof.Rows

def ixN (n : Nat) (i : Int) : Option Nat := if 0 ≤ i then (if i < n then some i.toNat else none) else if -(n : Int) ≤ i then some (i + n).toNat else none
def atI {α : Type} (xs : List α) (i : Int) : Option α := (ixN xs.length i).bind fun j => xs[j]?
theorem ixN_seq {n : Nat} {i : Int} {j : Nat} (h : ixN n i = some j) : seqIndex? i n = some j ∧ j < n ∧ -(n : Int) ≤ i ∧ i < n := by
  unfold ixN at h
  by_cases h0 : 0 ≤ i
  · rw [if_pos h0] at h
    by_cases h1 : i < n
    · rw [if_pos h1] at h
      have e : i.toNat = j := Option.some.inj h
      exact ⟨by rw [seqIndex_of h0 h1, e], by omega, by omega, h1⟩
    · rw [if_neg h1] at h; cases h
  · rw [if_neg h0] at h
    by_cases h1 : -(n : Int) ≤ i
    · rw [if_pos h1] at h
      have e : (i + n).toNat = j := Option.some.inj h
      exact ⟨by rw [seqIndex_neg (by omega) h1, e], by omega, h1, by omega⟩
    · rw [if_neg h1] at h; cases h
theorem atI_get {α : Type} {xs : List α} {i : Int} {v : α} (h : atI xs i = some v) : ∃ j, seqIndex? i xs.length = some j ∧ xs[j]? = some v ∧ j < xs.length ∧ -(xs.length : Int) ≤ i ∧ i < xs.length := by
  unfold atI at h
  cases e : ixN xs.length i with
  | none => rw [e] at h; cases h
  | some j =>
    rw [e] at h
    obtain ⟨h1, h2, h3, h4⟩ := ixN_seq e
    exact ⟨j, h1, h, h2, h3, h4⟩
theorem atI_nat {α : Type} {xs : List α} {j : Nat} {v : α} (h : xs[j]? = some v) : atI xs (j : Int) = some v := by
  have hj : j < xs.length := (List.getElem?_eq_some_iff.mp h).1
  have e : ixN xs.length (j : Int) = some j := by
    unfold ixN
    rw [if_pos (by omega), if_pos (by omega)]; simp
  unfold atI; rw [e]; exact h
def PlainIx (b : Expr) : Prop := ∀ o i, subscripted b false o i = operate [o, i] (getItem o i)
def IxR (X : Cx) (r : R2) : Prop :=
  ∀ (value slice : Expr) (pins : List (Addr × Obj)) (s : Shared) (σ : St) (H : Hp) (x y : V) (v u : Value) (Q : VK), Inv X pins σ H s → RelV x v → RelV y u → r x y H Q →
    subscripted slice false v u = operate [v, u] (getItem v u) → wpAny (model X.prog X.w) X.A (subscriptTail value slice v u) (EP X pins σ Q) X.xe s
def MtR (X : Cx) (id : String) (r : V → List V → Hp → VK → Prop) : Prop :=
  ∀ (pins : List (Addr × Obj)) (s : Shared) (σ : St) (H : Hp) (x : V) (xs : List V) (v : Value) (us : List Value) (Q : VK), Inv X pins σ H s → RelV x v → Vals xs us → r x xs H Q →
    wpAny (model X.prog X.w) X.A (call (.builtin id) (v :: us)) (EP X pins σ Q) X.xe s
section
variable {X : Cx} {a b : Expr} {ta tb : TE} {pos : Pos}
theorem pe_ix {r : R2} (hr : IxR X r) (ha : PE X a ta) (hb : PE X b tb) (hs : PlainIx b) : PE X (.Subscript a b pos) (tOp r ta tb) := by
  intro pins s σ H Q I h
  exact Subscript_ (binT ha hb I h fun v u s2 x y H2 I2 rx ry q => hr a b pins s2 σ H2 x y v u Q I2 rx ry q (hs _ _))

def rIxL (K : PySem.W.Frag) : R2 := fun x y H Q => ∃ p xs i v, x = .ref p ∧ y = .int i ∧ SqL K H p xs ∧ atI xs i = some v ∧ Q v H
def rIxT (K : PySem.W.Frag) : R2 := fun x y H Q => ∃ p xs i v, x = .ref p ∧ y = .int i ∧ SqT K H p xs ∧ atI xs i = some v ∧ Q v H
theorem ix_list : IxR X (rIxL X.K) := by
  intro value slice pins s σ H x y v u Q I rx ry h hs
  obtain ⟨p, xs, i, z, rfl, rfl, hq, he, q⟩ := h
  cases rx
  obtain ⟨t, rfl⟩ := ry
  obtain ⟨its, r, pl, hz⟩ := I.list hq
  obtain ⟨j, h1, h2, h3, h4, h5⟩ := atI_get he
  obtain ⟨w, ew, rw'⟩ := r.get h2
  have hl := r.length
  have hn := line63
  have fin : EP X pins σ Q w s := ⟨z, H, I, rw', q⟩
  by_cases h0 : 0 ≤ i
  · have hj : i.toNat = j := by
      rw [seqIndex_of h0 h5] at h1
      exact Option.some.inj h1
    exact item_listR pl.isList h0 (by omega) (by rw [hj]; simpa using ew) fin hs
  · have hj : (i + (its.toArray.size : Int)).toNat = j := by
      rw [seqIndex_neg (by omega) h4] at h1
      rw [List.size_toArray, ← hl]
      exact Option.some.inj h1
    exact subscriptTail_builtinR (x := w) pl.isList.typeIs slot_list_getitem.lookup
      (wpAny_getItem_list_neg (Q := fun r s' => r = w ∧ EP X pins σ Q r s') pl.isList (by omega) (by rw [List.size_toArray] <;> omega) (by omega) (by rw [hj]; simpa using ew) ⟨rfl, fin⟩) hs
theorem ix_tup : IxR X (rIxT X.K) := by
  intro value slice pins s σ H x y v u Q I rx ry h hs
  obtain ⟨p, xs, i, z, rfl, rfl, hq, he, q⟩ := h
  cases rx
  obtain ⟨t, rfl⟩ := ry
  obtain ⟨its, r, pl, hz⟩ := I.tuple hq
  obtain ⟨j, h1, h2, h3, h4, h5⟩ := atI_get he
  obtain ⟨w, ew, rw'⟩ := r.get h2
  have hl := r.length
  have hn := line63
  have fin : EP X pins σ Q w s := ⟨z, H, I, rw', q⟩
  exact subscriptTail_builtinR (x := w) pl.typeIs slot_tuple_getitem.lookup
    (getItem_tuple (j := j) (Q := fun r s' => r = w ∧ EP X pins σ Q r s') pl (by omega) (by omega) (by rw [List.size_toArray, ← hl]; exact h1) (by simpa using ew) ⟨rfl, fin⟩) hs
theorem slice_bounds (lo hi : Option Int) (n : Nat) : (sliceBounds lo hi none n).1 = ((HT.sIx n 0 lo : Nat) : Int) ∧ (sliceBounds lo hi none n).2.1 = ((HT.sIx n n hi : Nat) : Int) ∧ (sliceBounds lo hi none n).2.2 = 1 := by
  refine ⟨?_, ?_, rfl⟩
  · cases lo with
    | none => simp [sliceBounds, HT.sIx]
    | some i =>
      simp only [sliceBounds, HT.sIx, Option.getD_none, show (1 : Int) > 0 by decide, if_true]
      by_cases h : i < 0
      · simp only [h, if_true] <;> omega
      · simp only [h, if_false] <;> omega
  · cases hi with
    | none => simp [sliceBounds, HT.sIx]
    | some i =>
      simp only [sliceBounds, HT.sIx, Option.getD_none, show (1 : Int) > 0 by decide, if_true]
      by_cases h : i < 0
      · simp only [h, if_true] <;> omega
      · simp only [h, if_false] <;> omega
theorem slicePick_cut (its : List Value) (lo hi : Option Int) : slicePick its.toArray lo hi none = ((its.drop (HT.sIx its.length 0 lo)).take (HT.sIx its.length its.length hi - HT.sIx its.length 0 lo)).toArray := by
  obtain ⟨h1, h2, h3⟩ := slice_bounds lo hi its.toArray.size
  unfold slicePick
  rw [h1, h2, h3]
  simp only [sliceRange_one, pick_run, List.size_toArray] <;> rfl
def rSlL (K : PySem.W.Frag) : V → Option Int → Option Int → Hp → VK → Prop := fun x lo hi H Q => ∃ a xs, x = .ref a ∧ SqL K H a xs ∧ ∀ p, H p = none → Q (.ref p) (upd H p (.lst (cutV xs lo hi)))
theorem sl_list : SlR X (rSlL X.K) := by
  intro pins s σ H x v vl vu lo hi sl Q I rx hs pl pu h
  obtain ⟨a, xs, rfl, hx, q⟩ := h
  cases rx
  obtain ⟨its, r, ht, hz⟩ := I.list hx
  have hlen := r.length
  refine ⟨"list", _, slot_list_getitem.lookup, ht.isList.typeIs, ?_⟩
  refine wpAny_getItem_list_slice ht.isList hs pl pu .none (by simp) ?_ (by rw [List.size_toArray] <;> omega)
  rw [slicePick_cut, ← hlen]
  refine ⟨.ref s.heap.objs.size, _, I.laid (t' := s.toks) (o := .lst (cutV xs lo hi)) (fun b ob q => Heap.get?_push_of_some _ q) (Nat.le_refl _) ?_, rfl, q _ (I.hok.fresh (Nat.le_refl _))⟩
  exact ⟨Nat.le_trans (cutV_length xs lo hi) hz, _, 0, (r.drop (HT.sIx xs.length 0 lo)).take (HT.sIx xs.length xs.length hi - HT.sIx xs.length 0 lo), Heap.get?_push_size _ rfl⟩

def flatV : V → Bool
  | .non => true
  | .bl _ => true
  | .int _ => true
  | .str _ => true
  | _ => false
def eqV : V → V → Bool
  | .non, .non => true
  | .bl a, .bl b => a == b
  | .bl a, .int b => (if a then 1 else 0) == b
  | .int a, .bl b => a == (if b then 1 else 0)
  | .int a, .int b => a == b
  | .str a, .str b => a == b
  | _, _ => false
theorem eqAt_V {A : Around} {s : Shared} {y x : V} {u v : Value} (ry : RelV y u) (rx : RelV x v) (fy : flatV y = true) (fx : flatV x = true) : SeqAt.EqAt A s u v (eqV y x) := by
  cases y with
  | non =>
    cases ry
    cases x with
    | non => cases rx; exact SeqAt.EqAt.same _
    | bl b => cases rx; exact SeqAt.EqAt.none_bool b
    | int b => obtain ⟨t, rfl⟩ := rx; exact SeqAt.EqAt.none_int b t
    | str b => obtain ⟨t, rfl⟩ := rx; exact SeqAt.EqAt.none_str b t
    | _ => exact absurd (show false = true from fx) Bool.false_ne_true
  | bl a =>
    cases ry
    cases x with
    | non => cases rx; exact SeqAt.EqAt.bool_none a
    | bl b => cases rx; exact SeqAt.EqAt.bool_bool a b
    | int b => obtain ⟨t, rfl⟩ := rx; exact SeqAt.EqAt.bool_int a b t
    | str b => obtain ⟨t, rfl⟩ := rx; exact SeqAt.EqAt.bool_str a b t
    | _ => exact absurd (show false = true from fx) Bool.false_ne_true
  | int a =>
    obtain ⟨t', rfl⟩ := ry
    cases x with
    | non => cases rx; exact SeqAt.EqAt.int_none a t'
    | bl b => cases rx; exact SeqAt.EqAt.int_bool a t' b
    | int b => obtain ⟨t, rfl⟩ := rx; exact SeqAt.EqAt.int_int a t' b t
    | str b => obtain ⟨t, rfl⟩ := rx; exact SeqAt.EqAt.int_str a t' b t
    | _ => exact absurd (show false = true from fx) Bool.false_ne_true
  | str a =>
    obtain ⟨t', rfl⟩ := ry
    cases x with
    | non => cases rx; exact SeqAt.EqAt.str_none a t'
    | bl b => cases rx; exact SeqAt.EqAt.str_bool a t' b
    | int b => obtain ⟨t, rfl⟩ := rx; exact SeqAt.EqAt.str_int a t' b t
    | str b => obtain ⟨t, rfl⟩ := rx; exact SeqAt.EqAt.str_str a t' b t
    | _ => exact absurd (show false = true from fx) Bool.false_ne_true
  | _ => exact absurd (show false = true from fy) Bool.false_ne_true
def eqU (x : V) (u : Value) : Bool := match u with
  | .none => eqV .non x
  | .bool b => eqV (.bl b) x
  | .int i _ => eqV (.int i) x
  | .str z _ => eqV (.str z) x
  | _ => false
theorem eqU_of {x y : V} {u : Value} (r : RelV y u) (f : flatV y = true) : eqU x u = eqV y x := by
  cases y with
  | non => cases r; rfl
  | bl b => cases r; rfl
  | int i => obtain ⟨t, rfl⟩ := r; rfl
  | str z => obtain ⟨t, rfl⟩ := r; rfl
  | _ => exact absurd (show false = true from f) Bool.false_ne_true
theorem any_eqU {x : V} : ∀ {xs : List V} {us : List Value}, Vals xs us → xs.all flatV = true → us.any (eqU x) = xs.any fun y => eqV y x
  | _, _, .nil, _ => rfl
  | y :: xs, u :: us, .cons r t, f => by
    rw [List.all_cons, Bool.and_eq_true] at f
    rw [List.any_cons, List.any_cons, eqU_of r f.1, any_eqU t f.2]
theorem mem_eqAt {A : Around} {s : Shared} {x : V} {v : Value} (rx : RelV x v) (fx : flatV x = true) : ∀ {xs : List V} {us : List Value}, Vals xs us → xs.all flatV = true → ∀ u ∈ us, SeqAt.EqAt A s u v (eqU x u)
  | _, _, .nil, _ => fun u hu => by cases hu
  | y :: xs, u :: us, .cons r t, f => fun u' hu => by
    rw [List.all_cons, Bool.and_eq_true] at f
    rcases List.mem_cons.mp hu with rfl | hu
    · rw [eqU_of r f.1]; exact eqAt_V r rx f.1 fx
    · exact mem_eqAt rx fx t f.2 u' hu
def inV (x : V) (xs : List V) : Bool := xs.any fun y => eqV y x
def rIn (K : PySem.W.Frag) (neg : Bool) : R2 := fun x y H Q => ∃ p xs, y = .ref p ∧ (SqL K H p xs ∨ SqT K H p xs) ∧ flatV x = true ∧ xs.all flatV = true ∧ Q (.bl (if neg then !inV x xs else inV x xs)) H
theorem op_in_seq : OpR X (compareOp .In) (rIn X.K false) := by
  intro pins s σ H x y v u Q I rx ry h
  obtain ⟨p, xs, rfl, hq, fx, fs, q⟩ := h
  cases ry
  rcases hq with hq | hq
  · obtain ⟨its, r, pl, hz⟩ := I.list hq
    refine SeqAt.in_listAt (eqU x) pl.isList (fun w hw => mem_eqAt rx fx r fs w (by simpa using hw)) ⟨.bl _, H, I, rfl, ?_⟩
    rw [show its.toArray.any (eqU x) = its.any (eqU x) by simp, any_eqU r fs]
    exact q
  · obtain ⟨its, r, pl, hz⟩ := I.tuple hq
    refine SeqAt.in_tupleAt (eqU x) pl (fun w hw => mem_eqAt rx fx r fs w (by simpa using hw)) ⟨.bl _, H, I, rfl, ?_⟩
    rw [show its.toArray.any (eqU x) = its.any (eqU x) by simp, any_eqU r fs]
    exact q
theorem op_notIn_seq : OpR X (compareOp .NotIn) (rIn X.K true) := by
  intro pins s σ H x y v u Q I rx ry h
  obtain ⟨p, xs, rfl, hq, fx, fs, q⟩ := h
  cases ry
  rcases hq with hq | hq
  · obtain ⟨its, r, pl, hz⟩ := I.list hq
    refine SeqAt.notIn_listAt (eqU x) pl.isList (fun w hw => mem_eqAt rx fx r fs w (by simpa using hw)) ⟨.bl _, H, I, rfl, ?_⟩
    rw [show its.toArray.any (eqU x) = its.any (eqU x) by simp, any_eqU r fs]
    exact q
  · obtain ⟨its, r, pl, hz⟩ := I.tuple hq
    refine SeqAt.notIn_tupleAt (eqU x) pl (fun w hw => mem_eqAt rx fx r fs w (by simpa using hw)) ⟨.bl _, H, I, rfl, ?_⟩
    rw [show its.toArray.any (eqU x) = its.any (eqU x) by simp, any_eqU r fs]
    exact q
theorem call_len_seq : CallR X (.builtin "len") (fun xs H Q => ∃ p ys, xs = [.ref p] ∧ (SqL X.K H p ys ∨ SqT X.K H p ys) ∧ Q (.int ys.length) H) := by
  intro pins s σ H xs us Q I r h
  obtain ⟨p, ys, rfl, hq, q⟩ := h
  obtain ⟨u, rfl, rx⟩ := vals1 r
  cases rx
  have hn := line63
  rcases hq with hq | hq
  · obtain ⟨its, r', pl, hz⟩ := I.list hq
    have hlen := r'.length
    exact Calls.call_len_list pl.isList (by simp only [List.size_toArray] <;> omega) ⟨.int ys.length, H, I.tok _, ⟨s.toks + 1, by rw [List.size_toArray, hlen]⟩, q⟩
  · obtain ⟨its, r', pl, hz⟩ := I.tuple hq
    have hlen := r'.length
    exact len_tuple pl (by simp only [List.size_toArray] <;> omega) ⟨.int ys.length, H, I.tok _, ⟨s.toks + 1, by rw [List.size_toArray, hlen]⟩, q⟩
theorem call_list_of : CallR X (.type "list") (fun xs H Q => ∃ p ys, xs = [.ref p] ∧ (SqL X.K H p ys ∨ SqT X.K H p ys) ∧ ∀ l, H l = none → Q (.ref l) (upd H l (.lst ys))) := by
  intro pins s σ H xs us Q I r h
  obtain ⟨p, ys, rfl, hq, q⟩ := h
  obtain ⟨u, rfl, rx⟩ := vals1 r
  cases rx
  have fin : ∀ (its : List Value), Vals ys its → ys.length ≤ sizeLine → ∀ (h' : Heap) (c' : Nat), (∀ b o', s.heap.get? b = some o' → h'.get? b = some o') →
      h'.get? s.heap.objs.size = some { cls := .type "list", dict := none, data := .seq its.toArray c', slots := #[] } → EP X pins σ Q (.ref s.heap.objs.size) { s with heap := h' } := fun its r' hz h' c' kp e =>
    ⟨.ref s.heap.objs.size, _, I.laid (t' := s.toks) kp (Nat.le_refl _) (show ObjOk X.prog X.w _ h' _ (.lst ys) from ⟨hz, its, c', r', e⟩), rfl, q _ (I.hok.fresh (Nat.le_refl _))⟩
  rcases hq with hq | hq
  · obtain ⟨its, r', pl, hz⟩ := I.list hq
    have hlen := r'.length
    obtain ⟨o, ho, hc, n, hd⟩ := pl.isList
    exact call_list_seq p (.inl rfl) ho hc hd (fun h' c' kp e => fin its r' hz h' c' kp e) (by simp only [List.size_toArray] <;> omega)
  · obtain ⟨its, r', pl, hz⟩ := I.tuple hq
    have hlen := r'.length
    obtain ⟨o, ho, hc, n, hd⟩ := pl
    exact call_list_seq p (.inr rfl) ho hc hd (fun h' c' kp e => fin its r' hz h' c' kp e) (by simp only [List.size_toArray] <;> omega)
def tyV (K : PySem.W.Frag) (T : String) (x : V) (H : Hp) : Prop := match x with
  | .str _ => T = "str"
  | .int _ => T = "int"
  | .ref p => (T = "list" ∧ ∃ xs, SqL K H p xs) ∨ (T = "tuple" ∧ ∃ o, K.lookup p = some o ∧ o.cls = .type "tuple" ∧ o.dict = none) ∨
      (T = "dict" ∧ ((∃ kvs, H p = some (.dK kvs)) ∨ ∃ kvs, H p = some (.dT kvs))) ∨ (T = "set" ∧ ∃ S n, H p = some (.set S n))
  | _ => False
theorem tyV_is {pins : List (Addr × Obj)} {σ : St} {H : Hp} {s : Shared} {T : String} {x : V} {v : Value} (I : Inv X pins σ H s) (r : RelV x v) (ty : tyV X.K T x H) :
    s.TypeIs v T ∧ ∀ a, v = .ref a → ∃ ob, s.heap.get? a = some ob ∧ ob.dict = none := by
  cases x with
  | str z =>
    obtain ⟨t, rfl⟩ := r
    cases (show T = "str" from ty)
    exact ⟨typeIs_str s z t, fun _ e => nomatch e⟩
  | int i =>
    obtain ⟨t, rfl⟩ := r
    cases (show T = "int" from ty)
    exact ⟨typeIs_int s i t, fun _ e => nomatch e⟩
  | ref p =>
    cases r
    rcases ty with ⟨rfl, xs, hq⟩ | ⟨rfl, o, hk, hc, hd⟩ | ⟨rfl, hk⟩ | ⟨rfl, S, n, hk⟩
    · obtain ⟨its, _, pl, _⟩ := I.list hq
      refine ⟨pl.isList.typeIs, fun a e => ?_⟩
      cases e
      obtain ⟨o, n, e, c, hd, _⟩ := pl
      exact ⟨o, e, hd⟩
    · refine ⟨⟨o, I.kIn p o hk, hc⟩, fun a e => ?_⟩
      cases e
      exact ⟨o, I.kIn _ o hk, hd⟩
    · have z : ∃ o, s.heap.get? p = some o ∧ o.ExactDict := by
        rcases hk with ⟨kvs, hk⟩ | ⟨kvs, hk⟩
        · obtain ⟨_, _, _, _, o, _, _, e, ex, _⟩ := I.hok p _ hk
          exact ⟨o, e, ex⟩
        · obtain ⟨_, _, _, _, o, _, _, e, ex, _⟩ := I.hok p _ hk
          exact ⟨o, e, ex⟩
      obtain ⟨o, e, ex⟩ := z
      refine ⟨⟨o, e, ex.1⟩, fun a e2 => ?_⟩
      cases e2
      exact ⟨o, e, ex.2.1⟩
    · obtain ⟨o, _, _, _, e, ex, _⟩ := I.hok p _ hk
      refine ⟨⟨o, e, ex.1⟩, fun a e2 => ?_⟩
      cases e2
      exact ⟨o, e, ex.2.1⟩
  | _ => exact False.elim ty
def tBM (K : PySem.W.Frag) (T : String) (r : V → List V → Hp → VK → Prop) (to : TE) (t : TA) : TE := fun σ H Q => to σ H fun x H1 => tyV K T x H1 ∧ t σ H1 fun xs H2 => r x xs H2 Q
variable {o e : Expr} {es : List Expr} {to : TE} {t : TA} {name : Str} {apos cpos : Pos} {T id : String} {r : V → List V → Hp → VK → Prop}
theorem pe_bm (pa : PlainAttrs T) (slot : Slot T name id) (hty : typeOf (.builtin id) = pure (.type "method_descriptor")) (hm : MtR X id r) (ho : PE X o to) (ha : PA X (e :: es) t)
    (hbase : attributeBase o name X.env (eval o X.env) = eval o X.env := by rfl)
    (hfew : ((backTo cpos (starEach (e :: es) X.env)).all (fun x => !x.1) && (backToKw cpos (keywordEach [] X.env)).all (fun x => x.1.isSome)
      && decide ((e :: es).length + ([] : List Keyword).length + (if ([] : List Keyword).isEmpty then 0 else 1) < 30)) = true := by rfl)
    (hline : (apos.endLine == cpos.line) = true := by rfl) (hs : starEach (e :: es) X.env = (false, eval e X.env) :: starEach es X.env := by rfl) (hplain : (backTo cpos (starEach es X.env)).any (·.1) = false := by rfl) :
    PE X (.Call (.Attribute o name apos) (e :: es) [] cpos) (tBM X.K T r to t) := by
  intro pins s σ H Q I h
  refine wpAny_Call_method_late hbase hfew hline rfl (thn (ho pins s σ H _ I h) fun v s1 ⟨x, H1, I1, r1, ty, q1⟩ => ?_)
  obtain ⟨h1, h2⟩ := tyV_is I1 r1 ty
  refine ⟨T, id, pa, slot, hty, h1, h2, ?_⟩
  have hA := ha cpos pins s1 σ H1 _ I1 q1
  rw [hs] at hA ⊢
  refine Calls.callWith_builtin (by show (false || (backTo cpos (starEach es X.env)).any (·.1)) = false; rw [hplain] <;> rfl) (Calls.evalArgs_plain ?_)
  exact thn hA fun us s2 ⟨vs, H2, I2, r2, q2⟩ => hm pins s2 σ H2 x vs v us Q I2 r1 r2 q2
end
end L2

namespace L2
open PySem PySem.Spec PyProof.Rows

def MtM (X : Cx) (id : String) (r : V → List V → Hp → VK → Prop) : Prop :=
  ∀ (pins : List (Addr × Obj)) (s : Shared) (σ : St) (H : Hp) (x : V) (xs : List V) (v : Value) (us : List Value) (Q : VK), Inv X pins σ H s → RelV x v → Vals xs us → r x xs H Q →
    wpAny (model X.prog X.w) X.A (call (.builtin id) (v :: us)) (EP X pins σ Q) X.xe s

theorem Vals.one : ∀ {x : V} {us : List Value}, Vals [x] us → ∃ u, us = [u] ∧ RelV x u
  | _, _, .cons r .nil => ⟨_, rfl, r⟩
section
variable {X : Cx} {pins : List (Addr × Obj)} {σ : St} {H : Hp} {s : Shared} {l b : Addr} {xs ys zs : List V}

theorem Inv.lset {its its' : List Value} {n : Nat} {f : Array Value → Array Value} {t' : Nat} (I : Inv X pins σ H s) (hH : H l = some (.lst xs))
    (e : s.heap.get? l = some { cls := .type "list", data := .seq its.toArray n }) (hf : f its.toArray = its'.toArray) (hv : Vals ys its') (hz : ys.length ≤ sizeLine) :
    Inv X pins σ (upd H l (.lst ys)) { s with heap := s.heap.update l (Obj.mapSeq f), toks := t' } := by
  have q := PySem.IsL.update e f
  rw [hf] at q
  refine I.write (x := l) (e := l) (by rw [hH]; exact trivial) (.inl rfl) (fun b' u hb hu => (Heap.get?_update_other s.heap (Obj.mapSeq f) (Ne.symm hb)).trans hu) ⟨_, q⟩ ?_
  exact ⟨hz, its', _, hv, q⟩
theorem Inv.lnew {its : List Value} {t' : Nat} (I : Inv X pins σ H s) (hv : Vals ys its) (hz : ys.length ≤ sizeLine) :
    Inv X pins σ (upd H s.heap.objs.size (.lst ys)) { s with heap := s.heap.push { cls := .type "list", data := .seq its.toArray }, toks := t' } :=
  I.laid (fun _ _ q => Heap.get?_push_of_some _ q) (Nat.le_refl _) ⟨hz, its, 0, hv, Heap.get?_push_size _ rfl⟩
theorem Inv.fresh (I : Inv X pins σ H s) : H s.heap.objs.size = none := I.hok.fresh (Nat.le_refl _)
theorem Inv.lstM (I : Inv X pins σ H s) (hH : H l = some (.lst xs)) : xs.length ≤ sizeLine ∧ ∃ (its : List Value) (n : Nat), Vals xs its ∧ xs.length = its.length ∧ s.heap.get? l = some { cls := .type "list", data := .seq its.toArray n } := by
  obtain ⟨z, its, n, r, e⟩ := I.hok l _ hH
  exact ⟨z, its, n, r, r.length, e⟩

theorem notLongL {n : Nat} (h : n ≤ sizeLine) : Builtin.List.listTooLong n = false := by
  unfold Builtin.List.listTooLong
  exact decide_eq_false (by omega)
end

section
variable {X : Cx}

def rAppend : V → List V → Hp → VK → Prop := fun x vs H Q => ∃ l xs y, x = .ref l ∧ vs = [y] ∧ H l = some (.lst xs) ∧ xs.length < sizeLine ∧ Q .non (upd H l (.lst (xs ++ [y])))
theorem mt_append : MtM X "list.append" rAppend := by
  intro pins s σ H x vs v us Q I rx rv h
  obtain ⟨l, xs, y, rfl, rfl, hH, hz, q⟩ := h
  cases rx
  obtain ⟨u, rfl, ru⟩ := rv.one
  obtain ⟨z, its, n, r, hl, e⟩ := I.lstM hH
  refine call_meets F.slot_list_append ⟨_, e, rfl⟩ F.entry_list_append (F.args_list_append_2 _ _) (PySem.list_append l its.toArray n u (by rw [List.size_toArray]; omega)) ⟨e, ?_⟩
  refine ⟨.non, _, I.lset (its' := its ++ [u]) hH e (by simp) (r.append (.cons ru .nil)) ?_, rfl, q⟩
  rw [List.length_append, List.length_singleton]
  omega

def rExtend : V → List V → Hp → VK → Prop := fun x vs H Q => ∃ l b xs zs, x = .ref l ∧ vs = [.ref b] ∧ H l = some (.lst xs) ∧ H b = some (.lst zs) ∧ xs.length + zs.length ≤ sizeLine ∧ Q .non (upd H l (.lst (xs ++ zs)))
theorem mt_extend : MtM X "list.extend" rExtend := by
  intro pins s σ H x vs v us Q I rx rv h
  obtain ⟨l, b, xs, zs, rfl, rfl, hH, hB, hz, q⟩ := h
  cases rx
  obtain ⟨u, rfl, ru⟩ := rv.one
  cases ru
  obtain ⟨z, its, n, r, hl, e⟩ := I.lstM hH
  obtain ⟨z2, its2, n2, r2, hl2, e2⟩ := I.lstM hB
  have hsz : its.toArray.size + its2.toArray.size ≤ sizeLine := by rw [List.size_toArray, List.size_toArray]; omega
  have hlong : ¬ (!its.toArray.isEmpty && Builtin.List.listTooLong (its.toArray.size + its2.toArray.size)) = true := by
    rw [notLongL hsz, Bool.and_false]
    exact Bool.false_ne_true
  refine call_meets F.slot_list_extend ⟨_, e, rfl⟩ F.entry_list_extend (F.args_list_extend_2 _ _)
    (AutoSeq1.list_extend_list_list_0 l its.toArray n b its2.toArray n2 hlong (by rw [List.size_toArray]; omega) (by omega)) ⟨e, e2, ?_⟩
  refine ⟨.non, _, I.lset (its' := its ++ its2) hH e (by simp) (r.append r2) ?_, rfl, q⟩
  rw [List.length_append]
  omega

def rCat : R2 := fun x y H Q => ∃ l b xs zs, x = .ref l ∧ y = .ref b ∧ H l = some (.lst xs) ∧ H b = some (.lst zs) ∧ xs.length + zs.length ≤ sizeLine ∧ ∀ p, H p = none → Q (.ref p) (upd H p (.lst (xs ++ zs)))
theorem op_cat : OpR X (binaryOp .Add) rCat := by
  intro pins s σ H x y v u Q I rx ry h
  obtain ⟨l, b, xs, zs, rfl, rfl, hH, hB, hz, q⟩ := h
  cases rx
  cases ry
  obtain ⟨z, its, n, r, hl, e⟩ := I.lstM hH
  obtain ⟨z2, its2, n2, r2, hl2, e2⟩ := I.lstM hB
  refine PySem.P.add_list e e2 ?_ (by rw [List.size_toArray, List.size_toArray]; omega)
  have ea : its.toArray ++ its2.toArray = (its ++ its2).toArray := by simp
  rw [ea]
  exact ⟨.ref _, _, I.lnew (t' := s.toks) (r.append r2) (by rw [List.length_append]; omega), rfl, q _ I.fresh⟩
end

section
variable {prog : Program} {w : World} {A : Around} {E : Value → Shared → Prop} {s : Shared}
set_option maxRecDepth 100000 in
end

section
variable {X : Cx}
end
end L2

namespace L2
open PySem PySem.Spec PyProof.Rows

theorem Vals.ints : ∀ {ns : List Int} {us : List Value}, Vals (ns.map V.int) us → IntsAre us ns
  | [], us, h => by
    rw [List.map_nil] at h
    cases h
    exact IntsAre.nil
  | n :: ns, us, h => by
    rw [List.map_cons] at h
    cases h with
    | cons r t =>
      obtain ⟨k, rfl⟩ := r
      exact IntsAre.cons n k (Vals.ints t)
theorem vals_of_ints : ∀ {us : List Value} {ns : List Int}, IntsAre us ns → Vals (ns.map V.int) us
  | _, _, .nil => by rw [List.map_nil]; exact Paired.nil
  | _, _, .cons n t h => by rw [List.map_cons]; exact Paired.cons (show RelV (V.int n) (Value.int n t) from ⟨t, rfl⟩) (vals_of_ints h)
theorem Vals.bls : ∀ {bs : List Bool} {us : List Value}, Vals (bs.map V.bl) us → us = bs.map Value.bool
  | [], us, h => by
    rw [List.map_nil] at h
    cases h
    rfl
  | b :: bs, us, h => by
    rw [List.map_cons] at h
    cases h with
    | cons r t =>
      cases r
      rw [Vals.bls t, List.map_cons]
theorem Vals.ref1 {a : Addr} {us : List Value} (r : Vals [V.ref a] us) : us = [Value.ref a] := by
  cases r with
  | cons r t =>
    cases t
    cases r
    rfl
section
variable {prog : Program} {w : World} {A : Around} {E : Value → Shared → Prop} {s : Shared} {l : Addr} {its : List Value} {ns : List Int} {Q : Value → Shared → Prop}
theorem sum_raw (hh : A.handled = none) (hl : s.heap.IsList l its.toArray) (hi : IntsAre its ns)
    (h : ∀ h' tk t', (∀ b o, s.heap.get? b = some o → h'.get? b = some o) → Q (.int ns.sum t') { s with heap := h', toks := tk }) : wpAny (model prog w) A (call (.builtin "sum") [.ref l]) Q E s := by
  obtain ⟨xs, e⟩ := hi.allInts.items
  have hn : numsOf (intItems xs).toList = ns := by rw [← e]; exact hi.numsOf
  rw [nums_intItems] at hn
  rw [e] at hl
  refine PySem.sum_intListG hh hl fun h' tk t' hk => ?_
  have := h h' tk t' hk
  rw [preSum_eq, List.take_of_length_le (by simp), hn]; exact this
theorem max_raw (hh : A.handled = none) (hl : s.heap.IsList l its.toArray) (hi : IntsAre its ns) (hne : 0 < ns.length)
    (h : ∀ h' tk M t', (∀ b o, s.heap.get? b = some o → h'.get? b = some o) → M ∈ ns → (∀ a, a ∈ ns → a ≤ M) → Q (.int M t') { s with heap := h', toks := tk }) : wpAny (model prog w) A (call (.builtin "max") [.ref l]) Q E s := by
  obtain ⟨xs, e⟩ := hi.allInts.items
  have hn : numsOf (intItems xs).toList = ns := by rw [← e]; exact hi.numsOf
  rw [nums_intItems] at hn
  subst hn
  rw [e] at hl
  have hsz : 0 < xs.size := by simpa using hne
  refine PySem.max_intList hh hl hsz fun v h' tk hv hk => ?_
  obtain ⟨t, rfl⟩ := intItems_at hv
  obtain ⟨h1, h2⟩ := argBest_gt (numAt xs) (xs.size - 1)
  refine h h' tk _ t hk ?_ fun a ha => ?_
  · rw [numAt_eq]; exact PySem.getD_mem (by rw [List.length_map, Array.length_toList]; omega)
  · obtain ⟨j, hj, rfl⟩ := mem_getD ha
    rw [List.length_map, Array.length_toList] at hj
    rw [← numAt_eq]; exact h2 j (by omega)
theorem min_raw (hh : A.handled = none) (hl : s.heap.IsList l its.toArray) (hi : IntsAre its ns) (hne : 0 < ns.length)
    (h : ∀ h' tk M t', (∀ b o, s.heap.get? b = some o → h'.get? b = some o) → M ∈ ns → (∀ a, a ∈ ns → M ≤ a) → Q (.int M t') { s with heap := h', toks := tk }) : wpAny (model prog w) A (call (.builtin "min") [.ref l]) Q E s := by
  obtain ⟨xs, e⟩ := hi.allInts.items
  have hn : numsOf (intItems xs).toList = ns := by rw [← e]; exact hi.numsOf
  rw [nums_intItems] at hn
  subst hn
  rw [e] at hl
  have hsz : 0 < xs.size := by simpa using hne
  refine PySem.min_intList hh hl hsz fun v h' tk hv hk => ?_
  obtain ⟨t, rfl⟩ := intItems_at hv
  obtain ⟨h1, h2⟩ := argBest_lt (numAt xs) (xs.size - 1)
  refine h h' tk _ t hk ?_ fun a ha => ?_
  · rw [numAt_eq]; exact PySem.getD_mem (by rw [List.length_map, Array.length_toList]; omega)
  · obtain ⟨j, hj, rfl⟩ := mem_getD ha
    rw [List.length_map, Array.length_toList] at hj
    rw [← numAt_eq]; exact h2 j (by omega)
end

section
variable {X : Cx}
def rSum (K : PySem.W.Frag) : List V → Hp → VK → Prop := fun vs H Q => ∃ (a : Addr) (ns : List Int), vs = [V.ref a] ∧ SqL K H a (ns.map V.int) ∧ Q (.int ns.sum) H
def rMax (K : PySem.W.Frag) : List V → Hp → VK → Prop := fun vs H Q => ∃ (a : Addr) (ns : List Int), vs = [V.ref a] ∧ SqL K H a (ns.map V.int) ∧ 0 < ns.length ∧ ∀ m, m ∈ ns → (∀ y, y ∈ ns → y ≤ m) → Q (.int m) H
def rMin (K : PySem.W.Frag) : List V → Hp → VK → Prop := fun vs H Q => ∃ (a : Addr) (ns : List Int), vs = [V.ref a] ∧ SqL K H a (ns.map V.int) ∧ 0 < ns.length ∧ ∀ m, m ∈ ns → (∀ y, y ∈ ns → m ≤ y) → Q (.int m) H
theorem cr_sum (hc : X.calm = true) : CallR X (.builtin "sum") (rSum X.K) := by
  intro pins s σ H vs us Q I r h
  obtain ⟨a, ns, rfl, hs, q⟩ := h
  obtain ⟨its, rv, hl, _⟩ := I.list hs
  rw [Vals.ref1 r]
  exact sum_raw (I.ok.hd hc) hl.isList rv.ints fun h' tk t' hk => ⟨.int _, H, I.kept hk, ⟨_, rfl⟩, q⟩
theorem cr_max (hc : X.calm = true) : CallR X (.builtin "max") (rMax X.K) := by
  intro pins s σ H vs us Q I r h
  obtain ⟨a, ns, rfl, hs, hne, q⟩ := h
  obtain ⟨its, rv, hl, _⟩ := I.list hs
  rw [Vals.ref1 r]
  exact max_raw (I.ok.hd hc) hl.isList rv.ints hne fun h' tk m t' hk h1 h2 => ⟨.int _, H, I.kept hk, ⟨_, rfl⟩, q m h1 h2⟩
theorem cr_min (hc : X.calm = true) : CallR X (.builtin "min") (rMin X.K) := by
  intro pins s σ H vs us Q I r h
  obtain ⟨a, ns, rfl, hs, hne, q⟩ := h
  obtain ⟨its, rv, hl, _⟩ := I.list hs
  rw [Vals.ref1 r]
  exact min_raw (I.ok.hd hc) hl.isList rv.ints hne fun h' tk m t' hk h1 h2 => ⟨.int _, H, I.kept hk, ⟨_, rfl⟩, q m h1 h2⟩

def rSorted (K : PySem.W.Frag) : List V → Hp → VK → Prop := fun vs H Q => ∃ (a : Addr) (ns : List Int), vs = [V.ref a] ∧ SqL K H a (ns.map V.int) ∧ ns.length < 64 ∧
  ∀ (ns' : List Int) (p : Addr), ns'.Perm ns → ns'.Pairwise (· ≤ ·) → H p = none → Q (.ref p) (upd H p (.lst (ns'.map V.int)))
theorem small64 {n : Nat} (h : n < 64) : n ≤ sizeLine := by rw [sizeLine_eq]; omega
theorem cr_sorted : CallR X (.builtin "sorted") (rSorted X.K) := by
  intro pins s σ H vs us Q I r h
  obtain ⟨a, ns, rfl, hs, h64, q⟩ := h
  obtain ⟨its, rv, hl, _⟩ := I.list hs
  rw [Vals.ref1 r]
  have hi := rv.ints
  refine PyProof.Rows.sorted_ints hl.isList hi (by rw [hi.length]; exact h64) fun out ns' h1 h2 h3 => ?_
  obtain ⟨ep, he'⟩ := PyProof.Rows.sortedAll_at s.heap its out
  have hlen : (ns'.map V.int).length ≤ sizeLine := by rw [List.length_map, h2.length_eq]; exact small64 h64
  exact ⟨.ref _, upd H (s.heap.objs.size + 1) (.lst (ns'.map V.int)), I.laid (t' := s.toks) (fun _ _ => PyProof.Rows.sortedAll_old) (Nat.le_succ _) ⟨hlen, out.toList, ep, vals_of_ints h1, he'⟩, rfl, q ns' _ h2 h3 (I.hok.fresh (Nat.le_succ _))⟩
end

section
variable {X : Cx}
end

section
variable {X : Cx}
end

theorem iter_any {prog : Program} {w : World} {A : Around} {E : Value → Shared → Prop} {s : Shared} {l : Addr} {items : Array Value} {Q : Value → Shared → Prop} (hl : s.heap.IsList l items)
    (h : ∀ s₂ : Shared, s₂ = { s with heap := s.heap.push { cls := .type "list_iterator", data := .fields #[.ref l, .int 0 0] } } →
      (s₂.heap.IsListIter s.heap.objs.size l 0 ∧ s₂.heap.IsList l items) → l ≠ s.heap.objs.size → Q (.ref s.heap.objs.size) s₂) : wpAny (model prog w) A (pyIter (.ref l)) Q E s := by
  have hlt : l < s.heap.objs.size := by obtain ⟨_, e, _⟩ := hl; exact Heap.lt_size e
  exact wpAny_pyIter_list hl (h _ rfl ⟨⟨_, Heap.get?_push_size _ rfl, rfl, rfl⟩, hl.push _⟩ (Nat.ne_of_lt hlt))
theorem truth_bools {prog : Program} {w : World} {A : Around} {bs : List Bool} {its : List Value} (e : its = bs.map Value.bool) :
    TruthOf prog w A (fun i v => its.toArray[i]? = some v) (fun i => bs.getD i false) := fun i v s Q E hv hq => by
  have hv' : its[i]? = some v := by simpa using hv
  rw [e, List.getElem?_map] at hv'
  obtain ⟨b, hb, rfl⟩ := Option.map_eq_some_iff.mp hv'
  have hg : bs.getD i false = b := by rw [List.getD_eq_getElem?_getD, hb] <;> rfl
  have hq' : Q (bs.getD i false) s := hq
  rw [hg] at hq'
  exact wpAny_truthy_bool hq'
theorem all_range : ∀ bs : List Bool, (List.range bs.length).all (fun i => bs.getD i false) = bs.all id
  | [] => rfl
  | b :: bs => by
    rw [List.length_cons, List.range_succ_eq_map, List.all_cons, List.all_map, List.all_cons, ← all_range bs]
    all_goals rfl
section
variable {X : Cx}
def rAll (K : PySem.W.Frag) : List V → Hp → VK → Prop := fun vs H Q => ∃ (a : Addr) (bs : List Bool), vs = [V.ref a] ∧ SqL K H a (bs.map V.bl) ∧ Q (.bl (bs.all id)) H
theorem cr_all (hc : X.calm = true) : CallR X (.builtin "all") (rAll X.K) := by
  intro pins s σ H vs us Q I r h
  obtain ⟨a, bs, rfl, hs, q⟩ := h
  obtain ⟨its, rv, hl, _⟩ := I.list hs
  rw [Vals.ref1 r]
  have hb := rv.bls
  refine call_all_walk (iter_any hl.isList fun s₂ e2 st hne => ?_)
  subst e2
  refine ⟨_, _, _, _, _, _, _, rfl, Walks.list (A := X.A.in1) (I.ok.hd hc) _ a hne its.toArray, st, truth_bools hb, fun h' tk hk => ?_⟩
  refine ⟨.bl _, H, I.kept fun b o eo => hk b o (fun hmem => ?_) (Heap.get?_push_of_some _ eo), ?_, q⟩
  · rcases List.mem_cons.mp hmem with e1 | hmem
    · exact absurd (e1 ▸ Heap.lt_size eo) (Nat.lt_irrefl _)
    · cases hmem
  · show Value.bool _ = Value.bool _
    rw [← all_range, hb, List.size_toArray, List.length_map]
end

mutual
inductive Dp (K : PySem.W.Frag) (H : Hp) : V → PyData → Prop
  | non : Dp K H .non .none
  | bl (b : Bool) : Dp K H (.bl b) (.bool b)
  | int (i : Int) : Dp K H (.int i) (.int i)
  | str (x : Str) : Dp K H (.str x) (.str x)
  | lst {a : Addr} {xs : List V} {ds : List PyData} : SqL K H a xs → DpAll K H xs ds → Dp K H (.ref a) (.list ds)
  | tup {a : Addr} {xs : List V} {ds : List PyData} : SqT K H a xs → DpAll K H xs ds → Dp K H (.ref a) (.tuple ds)
inductive DpAll (K : PySem.W.Frag) (H : Hp) : List V → List PyData → Prop
  | nil : DpAll K H [] []
  | cons {v : V} {vs : List V} {d : PyData} {ds : List PyData} : Dp K H v d → DpAll K H vs ds → DpAll K H (v :: vs) (d :: ds)
end
section
variable {X : Cx} {pins : List (Addr × Obj)} {σ : St} {H : Hp} {s : Shared}
mutual
theorem Dp.reads (I : Inv X pins σ H s) : ∀ (d : PyData) (v : V) (u : Value), Dp X.K H v d → RelV v u → ∃ as, Reads s.heap u d as
  | .none, _, _, h, r => by
    cases h
    cases r
    exact ⟨_, Reads.none⟩
  | .bool b, _, _, h, r => by
    cases h
    cases r
    exact ⟨_, Reads.bool b⟩
  | .int i, _, _, h, r => by
    cases h
    obtain ⟨t, rfl⟩ := r
    exact ⟨_, Reads.int i t⟩
  | .str x, _, _, h, r => by
    cases h
    obtain ⟨t, rfl⟩ := r
    exact ⟨_, Reads.str x t⟩
  | .list ds, _, _, h, r => by
    cases h with
    | lst hs ha =>
      cases r
      obtain ⟨its, rv, ⟨o, n, ho, hc, _, hd⟩, _⟩ := I.list hs
      obtain ⟨as, hr⟩ := Dp.readsAll I ds _ its ha rv
      exact ⟨_, Reads.list ho hc hd hr⟩
  | .tuple ds, _, _, h, r => by
    cases h with
    | tup hs ha =>
      cases r
      obtain ⟨its, rv, ⟨o, ho, hc, n, hd⟩, _⟩ := I.tuple hs
      obtain ⟨as, hr⟩ := Dp.readsAll I ds _ its ha rv
      exact ⟨_, Reads.tuple ho hc hd hr⟩
  | .dict _, _, _, h, _ => by cases h
theorem Dp.readsAll (I : Inv X pins σ H s) : ∀ (ds : List PyData) (vs : List V) (us : List Value), DpAll X.K H vs ds → Vals vs us → ∃ as, ReadsAll s.heap us ds as
  | [], _, _, h, r => by
    cases h
    cases r
    exact ⟨_, ReadsAll.nil⟩
  | d :: ds, _, _, h, r => by
    cases h with
    | cons h1 h2 =>
      cases r with
      | cons r1 r2 =>
        obtain ⟨as, q1⟩ := Dp.reads I d _ _ h1 r1
        obtain ⟨bs, q2⟩ := Dp.readsAll I ds _ _ h2 r2
        exact ⟨_, ReadsAll.cons q1 q2⟩
end
end
section
variable {X : Cx}
def rEqD (K : PySem.W.Frag) : R2 := fun x y H Q => ∃ d e, Dp K H x d ∧ Dp K H y e ∧ SeqAt.shaped d = true ∧ SeqAt.shaped e = true ∧ Q (.bl (PyData.eqv d e)) H
theorem op_eqD (hu : X.A.units + 64 < cLine) : OpR X (compareOp .Eq) (rEqD X.K) := by
  intro pins s σ H x y v u Q I rx ry h
  obtain ⟨d, e, hd, he, sd, se, q⟩ := h
  obtain ⟨as, r1⟩ := Dp.reads I d x v hd rx
  obtain ⟨bs, r2⟩ := Dp.reads I e y u he ry
  exact SeqAt.compareEq_shaped r1 r2 sd se hu ⟨.bl _, H, I, rfl, q⟩
end
end L2

namespace L2
open PySem PySem.Spec PyProof.Rows
abbrev CellAt (h : Heap) (c : Addr) (v : Option Value) : Prop := h.IsCell c v
def relS (scope sc : Scope) : Scope :=
  { scope with names := scope.names.map fun (n, k) => if (k == .free && sc.kind == .function && sc.names.lookup n == some .cell) then (n, .cell) else (n, k) }

def cloFrom (cells : List (Str × Addr)) : List (Str × NameKind) → List (Str × Addr) → List (Str × Addr)
  | [], acc => acc
  | (n, k) :: r, acc => if k == .free then cloFrom cells r ((n, (cells.lookup n).getD 0) :: acc) else cloFrom cells r acc

theorem closure_loop (env : Env) (f : Str × NameKind → List (Str × Addr) → Sem (ForInStep (List (Str × Addr))))
    (hf : ∀ n k c, f (n, k) c = if k == .free then (do let a ← cellOf env n; pure (.yield ((n, a) :: c))) else pure (.yield c)) :
    ∀ (names : List (Str × NameKind)) (acc : List (Str × Addr)), (∀ y ∈ names, y.2 = .free → ∃ c, env.cells.lookup y.1 = some c) → forIn names acc f = pure (cloFrom env.cells names acc)
  | [], acc, _ => by rw [List.forIn_nil]; rfl
  | (n, k) :: r, acc, h => by
    rw [List.forIn_cons, hf]
    have ih := fun acc => closure_loop env f hf r acc fun y hy => h y (List.mem_cons_of_mem _ hy)
    unfold cloFrom
    by_cases hk : (k == NameKind.free) = true
    · rw [if_pos hk, if_pos hk]
      obtain ⟨c, hc⟩ := h (n, k) List.mem_cons_self (by simpa using hk)
      have e : cellOf env n = pure c := by unfold cellOf; rw [hc]
      rw [e]
      have e2 : (env.cells.lookup n).getD 0 = c := by rw [hc]; rfl
      rw [e2]
      exact ih _
    · rw [if_neg hk, if_neg hk]
      exact ih _
theorem closure_ok {scope : Scope} {env : Env} (h : ∀ y ∈ scope.names, y.2 = .free → ∃ c, env.cells.lookup y.1 = some c) : closureFor scope env = pure (cloFrom env.cells scope.names []) := by
  simp only [closureFor]
  rw [closure_loop env _ (fun n k c => rfl) scope.names [] h]
  rfl

theorem mem_lookup {α : Type} : ∀ {l : List (Str × α)} {n : Str} {c : α}, (n, c) ∈ l → ∃ c', l.lookup n = some c'
  | (k, v) :: r, n, c, h => by
    rw [List.lookup_cons]
    cases hb : n == k with
    | true => exact ⟨_, rfl⟩
    | false =>
      rcases List.mem_cons.mp h with e | h
      · cases e; simp at hb
      · exact mem_lookup h

theorem cloFrom_mem {cells : List (Str × Addr)} : ∀ {names : List (Str × NameKind)} {acc : List (Str × Addr)} {n : Str} {c : Addr}, (n, c) ∈ cloFrom cells names acc → (n, c) ∈ acc ∨ ((n, .free) ∈ names ∧ c = (cells.lookup n).getD 0)
  | [], _, _, _, h => .inl h
  | (m, k) :: r, acc, n, c, h => by
    unfold cloFrom at h
    split at h
    · rename_i hk
      have hk : k = .free := by simpa using hk
      rcases cloFrom_mem h with h | ⟨h1, h2⟩
      · rcases List.mem_cons.mp h with e | h
        · cases e; exact .inr ⟨hk ▸ List.mem_cons_self, rfl⟩
        · exact .inl h
      · exact .inr ⟨List.mem_cons_of_mem _ h1, h2⟩
    · rcases cloFrom_mem h with h | ⟨h1, h2⟩
      · exact .inl h
      · exact .inr ⟨List.mem_cons_of_mem _ h1, h2⟩
theorem cloFrom_acc {cells : List (Str × Addr)} : ∀ {names : List (Str × NameKind)} {acc : List (Str × Addr)} {p : Str × Addr}, p ∈ acc → p ∈ cloFrom cells names acc
  | [], _, _, h => h
  | (m, k) :: r, acc, p, h => by
    unfold cloFrom
    split
    · exact cloFrom_acc (List.mem_cons_of_mem _ h)
    · exact cloFrom_acc h
theorem cloFrom_has {cells : List (Str × Addr)} : ∀ {names : List (Str × NameKind)} {acc : List (Str × Addr)} {n : Str}, (n, .free) ∈ names → (n, (cells.lookup n).getD 0) ∈ cloFrom cells names acc
  | (m, k) :: r, acc, n, h => by
    unfold cloFrom
    rcases List.mem_cons.mp h with e | h
    · cases e
      exact cloFrom_acc List.mem_cons_self
    · split
      · exact cloFrom_has h
      · exact cloFrom_has h

theorem cells_mem : ∀ {names : List (Str × NameKind)} {h : Heap} {acc : List (Str × Addr)} {x : Str} {c : Addr}, (x, c) ∈ cellsFrom h.objs.size names acc →
    (x, c) ∈ acc ∨ ((x, .cell) ∈ names ∧ h.objs.size ≤ c ∧ CellAt (pushCells h names) c none)
  | [], _, _, _, _, h => .inl h
  | (n, k) :: r, h, acc, x, c, hm => by
    unfold cellsFrom at hm
    unfold pushCells
    split at hm
    · rename_i hk
      rw [if_pos hk]
      have hk : k = .cell := by simpa using hk
      rw [← Heap.size_push h { cls := .type "cell", data := .cell none }] at hm
      rcases cells_mem hm with hm | ⟨h1, h2, h3⟩
      · rcases List.mem_cons.mp hm with e | hm
        · cases e
          exact .inr ⟨hk ▸ List.mem_cons_self, Nat.le_refl _, _, pushCells_keeps r _ _ _ (Heap.get?_push_size _ rfl), rfl⟩
        · exact .inl hm
      · rw [Heap.size_push] at h2
        exact .inr ⟨List.mem_cons_of_mem _ h1, Nat.le_of_succ_le h2, h3⟩
    · rename_i hk
      rw [if_neg hk]
      rcases cells_mem hm with hm | ⟨h1, h2, h3⟩
      · exact .inl hm
      · exact .inr ⟨List.mem_cons_of_mem _ h1, h2, h3⟩
theorem cells_acc : ∀ {names : List (Str × NameKind)} {n : Nat} {acc : List (Str × Addr)} {p : Str × Addr}, p ∈ acc → p ∈ cellsFrom n names acc
  | [], _, _, _, h => h
  | (m, k) :: r, n, acc, p, h => by
    unfold cellsFrom
    split
    · exact cells_acc (List.mem_cons_of_mem _ h)
    · exact cells_acc h
theorem cells_has : ∀ {names : List (Str × NameKind)} {n : Nat} {acc : List (Str × Addr)} {x : Str}, (x, .cell) ∈ names → ∃ c, (x, c) ∈ cellsFrom n names acc
  | (m, k) :: r, n, acc, x, h => by
    unfold cellsFrom
    rcases List.mem_cons.mp h with e | h
    · cases e
      exact ⟨n, cells_acc List.mem_cons_self⟩
    · split
      · exact cells_has h
      · exact cells_has h
theorem cells_inj : ∀ {names : List (Str × NameKind)} {h : Heap} {acc : List (Str × Addr)} {x y : Str} {c : Addr}, (∀ p ∈ acc, p.2 < h.objs.size) → (∀ x y c, (x, c) ∈ acc → (y, c) ∈ acc → x = y) →
    (x, c) ∈ cellsFrom h.objs.size names acc → (y, c) ∈ cellsFrom h.objs.size names acc → x = y
  | [], _, _, _, _, _, _, hi, h1, h2 => hi _ _ _ h1 h2
  | (n, k) :: r, h, acc, x, y, c, hl, hi, h1, h2 => by
    unfold cellsFrom at h1 h2
    split at h1
    · rename_i hk
      rw [if_pos hk] at h2
      rw [← Heap.size_push h { cls := .type "cell", data := .cell none }] at h1 h2
      refine cells_inj (h := h.push _) (fun p hp => ?_) (fun x y c a b => ?_) h1 h2
      · rw [Heap.size_push]
        rcases List.mem_cons.mp hp with rfl | hp
        · exact Nat.lt_succ_self _
        · exact Nat.lt_succ_of_lt (hl p hp)
      · rcases List.mem_cons.mp a with e | a <;> rcases List.mem_cons.mp b with e' | b
        · cases e; cases e'; rfl
        · cases e; exact absurd (hl _ b) (Nat.lt_irrefl _)
        · cases e'; exact absurd (hl _ a) (Nat.lt_irrefl _)
        · exact hi _ _ _ a b
    · rename_i hk
      rw [if_neg hk] at h2
      exact cells_inj hl hi h1 h2

theorem newEnv_comp {M : Model} {A : Around} {E : Value → Shared → Prop} {s : Shared} {scope : Scope} {globals : Addr} {closure : List (Str × Addr)} {qual : Str} {func : Option Addr} {code : Value} {around : Env} {builtins : Addr} {Q : Env → Shared → Prop}
    (h : Q (newEnv scope s.heap.objs.size globals (cellsFrom (s.heap.objs.size + 1) scope.names closure) qual func code (some around) builtins)
      { s with heap := pushCells (s.heap.push { cls := .type "dict", data := .dict #[] }) scope.names }) :
    wpAny M A (newFunctionEnv scope globals closure [] qual func code (some around) builtins) Q E s := by
  simp only [newFunctionEnv, Option.isSome_some, if_true]
  refine wpAny_bind (wpAny_alloc ?_)
  refine wpAny_bind (wpAny_layCells _ (fun n k c => rfl) scope.names closure _ _ ?_)
  rw [show ({ s with heap := s.heap.push { cls := .type "dict", data := .dict #[] } } : Shared).heap.objs.size = s.heap.objs.size + 1 from Heap.size_push ..]
  rw [List.forIn_nil]
  exact wpAny_bind (wpAny_pure (wpAny_pure h))

theorem lookup_relS {sc : Scope} : ∀ {names : List (Str × NameKind)} {x : Str} {k : NameKind},
    (names.map fun (n, k) => if (k == NameKind.free && sc.kind == .function && sc.names.lookup n == some .cell) then (n, NameKind.cell) else (n, k)).lookup x = some k →
    ∃ k', names.lookup x = some k' ∧ (k = k' ∨ (k' = .free ∧ k = .cell))
  | [], _, _, h => by simp at h
  | (n, k₀) :: r, x, k, h => by
    have ih := @lookup_relS sc r x k
    have h' : List.lookup x ((if (k₀ == NameKind.free && sc.kind == .function && sc.names.lookup n == some .cell) = true then (n, NameKind.cell) else (n, k₀)) :: (r.map _)) = some k := h
    cases hx : x == n with
    | true =>
      simp only [List.lookup_cons, hx]
      by_cases hc : (k₀ == NameKind.free && sc.kind == .function && sc.names.lookup n == some .cell) = true
      · rw [if_pos hc] at h'
        simp only [List.lookup_cons, hx] at h'
        cases h'
        simp only [Bool.and_eq_true, beq_iff_eq] at hc
        exact ⟨k₀, rfl, .inr ⟨hc.1.1, rfl⟩⟩
      · rw [if_neg hc] at h'
        simp only [List.lookup_cons, hx] at h'
        cases h'
        exact ⟨_, rfl, .inl rfl⟩
    | false =>
      simp only [List.lookup_cons, hx]
      by_cases hc : (k₀ == NameKind.free && sc.kind == .function && sc.names.lookup n == some .cell) = true
      · rw [if_pos hc] at h'
        simp only [List.lookup_cons, hx] at h'
        exact ih h'
      · rw [if_neg hc] at h'
        simp only [List.lookup_cons, hx] at h'
        exact ih h'
structure BlkOk (N : List Str) (sc scope : Scope) (own : List (Str × Nat)) : Prop where
  kind : scope.kind = .function
  uniq : ∀ y ∈ scope.names, scope.names.lookup y.1 = some y.2
  ix : ∀ p ∈ own, N[p.2]? = some p.1
  free : ∀ y ∈ scope.names, y.2 = .free → sc.names.lookup y.1 = some .cell ∨ sc.names.lookup y.1 = some .free
  own : ∀ y ∈ scope.names, y.2 = .local ∨ y.2 = .cell → y.1 ∈ own.map (·.1) ∨ y.1 ∉ N
def wipe (σ : St) : List Nat → St
  | [] => σ
  | v :: vs => (wipe σ vs).set v none
theorem wipe_length (σ : St) : ∀ vs : List Nat, (wipe σ vs).length = σ.length
  | [] => rfl
  | v :: vs => by unfold wipe; rw [List.length_set, wipe_length σ vs]
theorem wipe_some {σ : St} {i : Nat} {x : V} : ∀ {vs : List Nat}, (wipe σ vs)[i]? = some (some x) → σ[i]? = some (some x) ∧ i ∉ vs
  | [], h => ⟨h, by simp⟩
  | v :: vs, h => by
    unfold wipe at h
    by_cases hi : v = i
    · subst hi
      by_cases hv : v < (wipe σ vs).length
      · rw [List.getElem?_set_self hv] at h; cases h
      · rw [List.getElem?_eq_none (by simpa using hv)] at h; cases h
    · rw [List.getElem?_set_ne hi] at h
      obtain ⟨h1, h2⟩ := wipe_some h
      exact ⟨h1, by simp only [List.mem_cons, not_or]; exact ⟨fun e => hi e.symm, h2⟩⟩

abbrev Cx.blk (X : Cx) (s : Shared) (H : Hp) (scope : Scope) (cenv : Env) (fp : List Addr) : Cx := { X with s_0 := s, H_0 := H, env := cenv, outer := X.stack, ex := fp, fn := fun x => scope.names.lookup x == some .cell, pn := [], xe := fun _ _ => False }
section
variable {X : Cx} {pins : List (Addr × Obj)} {σ : St} {H : Hp} {s : Shared}
theorem block_start {scope : Scope} {own : List (Str × Nat)} {fp : List Addr} (I : Inv X pins σ H s) (ok : BlkOk X.N X.env.scope scope own) (hN : X.N.Nodup) (hfp : ∀ b ∈ fp, FpOk X pins H b ∧ b < s.heap.objs.size) :
    Inv (X.blk s H scope (compEnvC scope (cellsFrom (s.heap.objs.size + 1) scope.names (cloFrom X.env.cells scope.names [])) s.heap.objs.size X.env) fp) [] (wipe σ (own.map (·.2))) H { s with heap := pushCells (s.heap.push { cls := .type "dict", data := .dict #[] }) scope.names } := by
  have hfree : ∀ y ∈ scope.names, y.2 = .free → ∃ c, X.env.cells.lookup y.1 = some c := fun y hy e => by
    rcases ok.free y hy e with k | k
    · exact I.ok.has _ (.inl k)
    · exact I.ok.has _ (.inr k)
  generalize hcenv : compEnvC scope (cellsFrom (s.heap.objs.size + 1) scope.names (cloFrom X.env.cells scope.names [])) s.heap.objs.size X.env = cenv
  have kp : ∀ b o, s.heap.get? b = some o → (pushCells (s.heap.push { cls := .type "dict", data := .dict #[] }) scope.names).get? b = some o := fun b o e => pushCells_keeps _ _ _ _ (Heap.get?_push_of_some _ e)
  have hL : cenv.locals = s.heap.objs.size := by rw [← hcenv]; rfl
  have hcl : cenv.cells = cellsFrom (s.heap.objs.size + 1) scope.names (cloFrom X.env.cells scope.names []) := by rw [← hcenv]; rfl
  have hsc : cenv.scope = relS scope X.env.scope := by rw [← hcenv]; rfl
  rw [← Heap.size_push s.heap { cls := .type "dict", data := .dict #[] }] at hcl
  have cm : ∀ {y c}, (y, c) ∈ cloFrom X.env.cells scope.names [] → X.env.cells.lookup y = some c ∧ c < s.heap.objs.size := fun {y c} hm => by
    rcases cloFrom_mem hm with hm | ⟨h1, rfl⟩
    · cases hm
    · obtain ⟨c, hc⟩ := hfree _ h1 rfl
      rw [hc]
      obtain ⟨w, z⟩ := I.cell _ _ hc
      exact ⟨rfl, z.lt⟩
  have mem : ∀ {y c}, cenv.cells.lookup y = some c → (X.env.cells.lookup y = some c ∧ c < s.heap.objs.size) ∨ (s.heap.objs.size + 1 ≤ c ∧ CellAt (pushCells (s.heap.push { cls := .type "dict", data := .dict #[] }) scope.names) c none) := fun {y c} e => by
    rw [hcl] at e
    rcases cells_mem (PySem.mem_of_lookup e) with hm | ⟨_, h2, h3⟩
    · exact .inl (cm hm)
    · rw [Heap.size_push] at h2; exact .inr ⟨h2, h3⟩
  have look : ∀ {y}, scope.names.lookup y = some .free → ∃ c, cenv.cells.lookup y = some c ∧ X.env.cells.lookup y = some c := fun {y} hl => by
    have hy : (y, NameKind.free) ∈ scope.names := PySem.mem_of_lookup hl
    obtain ⟨c', e'⟩ := mem_lookup (cells_acc (names := scope.names) (n := (s.heap.push { cls := .type "dict", data := .dict #[] }).objs.size) (cloFrom_has (cells := X.env.cells) (acc := []) hy))
    rw [← hcl] at e'
    refine ⟨c', e', ?_⟩
    rw [hcl] at e'
    rcases cells_mem (PySem.mem_of_lookup e') with hm | ⟨h1, _, _⟩
    · exact (cm hm).1
    · have := ok.uniq _ h1
      rw [hl] at this; cases this
  have okB : (X.blk s H scope cenv fp).Ok := by
    refine ⟨I.ok.mod, by show cenv.scope.kind = _; rw [hsc]; exact ok.kind, by show cenv.globals = _; rw [← hcenv]; exact I.ok.glob, by show cenv.builtins = _; rw [← hcenv]; exact I.ok.blt, by show s.heap.objs.size ≤ cenv.locals; rw [hL]; exact Nat.le_refl _,
      fun y z c e1 e2 => ?_, fun y hy => ?_, fun y c z e => ?_, I.ok.hd, I.ok.frames, .inl rfl, fun b hb => ⟨?_, fun y c e z => ?_⟩, I.bs, Nat.le_trans I.ok.bsz I.sz, fun b o e hb => ?_, fun b hb z => ?_, I.stack, I.stkFree⟩
    · have e1 : cenv.cells.lookup y = some c := e1
      have e2 : cenv.cells.lookup z = some c := e2
      rw [hcl] at e1 e2
      refine cells_inj (fun p hp => ?_) (fun y z c a b => I.ok.inj y z c (cm a).1 (cm b).1) (PySem.mem_of_lookup e1) (PySem.mem_of_lookup e2)
      rw [Heap.size_push]
      exact Nat.lt_succ_of_lt (cm (y := p.1) (c := p.2) hp).2
    · show ∃ c, cenv.cells.lookup y = some c
      have key : ∀ k, cenv.kindOf y = some k → (k = .cell ∨ k = .free) → ∃ c, cenv.cells.lookup y = some c := fun k hk hk' => by
        unfold Env.kindOf at hk
        rw [hsc] at hk
        obtain ⟨k', e, r⟩ := lookup_relS hk
        have : k' = .cell ∨ k' = .free := by
          rcases r with rfl | ⟨rfl, _⟩
          · exact hk'
          · exact .inr rfl
        rcases this with rfl | rfl
        · obtain ⟨c, hm⟩ := cells_has (n := (s.heap.push { cls := .type "dict", data := .dict #[] }).objs.size) (acc := cloFrom X.env.cells scope.names []) (PySem.mem_of_lookup e)
          obtain ⟨c', e'⟩ := mem_lookup hm
          exact ⟨c', by rw [hcl]; exact e'⟩
        · obtain ⟨c, h1, _⟩ := look e
          exact ⟨c, h1⟩
      rcases hy with hy | hy
      · exact key _ hy (.inl rfl)
      · exact key _ hy (.inr rfl)
    · have z : (scope.names.lookup y == some NameKind.cell) = true := z
      have z : scope.names.lookup y = some .cell := by simpa using z
      have e : cenv.cells.lookup y = some c := e
      rw [hcl] at e
      rcases cells_mem (PySem.mem_of_lookup e) with hm | ⟨_, h2, _⟩
      · rcases cloFrom_mem hm with hm | ⟨h1, _⟩
        · cases hm
        · have q := ok.uniq _ h1
          rw [z] at q; cases q
      · rw [Heap.size_push] at h2
        exact Nat.le_of_succ_le h2
    · show b ≠ cenv.locals
      rw [hL]; exact Nat.ne_of_lt (hfp b hb).2
    · have e : cenv.cells.lookup y = some c := e
      rcases mem e with ⟨h1, _⟩ | ⟨h1, _⟩
      · exact (hfp b hb).1.2.2.2.2.1 y c h1 z
      · have h2 : s.heap.objs.size + 1 ≤ b := by rw [← z]; exact h1
        exact absurd (Nat.lt_of_lt_of_le (hfp b hb).2 (Nat.le_of_succ_le h2)) (Nat.lt_irrefl _)
    · rcases (hfp b hb).1.2.2.2.1 with z | z
      · exact I.ok.noex b o e z
      · exact absurd (Nat.lt_of_lt_of_le (Heap.lt_size e) (Nat.le_trans I.ok.bsz z)) (Nat.lt_irrefl _)
    · rcases List.mem_cons.mp (I.stkSub b z) with z | z
      · exact (hfp b hb).1.2.1 z
      · exact (hfp b hb).1.2.2.1 z
  refine ⟨okB, rfl, I.bare, Un.kept kp, ⟨fun _ => none, ?_, fun i y av e1 e2 e3 => ?_⟩, fun y c e => ?_, ?_, fun y c e => ?_, fun p hp => ?_, I.hok.kept kp, by rw [wipe_length]; exact I.len⟩
  · show Heap.Ns _ cenv.locals _
    rw [hL]
    exact Heap.Ns.keeps (Heap.Ns.new ..) fun b o e => pushCells_keeps _ _ _ _ e
  · obtain ⟨e2, hne⟩ := wipe_some e2
    have hfr : scope.names.lookup y = some .free ∧ (cenv.kindOf y = some .cell ∨ cenv.kindOf y = some .free) := by
      have key : ∀ k, cenv.scope.names.lookup y = some k → k = .local ∨ k = .cell ∨ k = .free → scope.names.lookup y = some .free ∧ (cenv.kindOf y = some .cell ∨ cenv.kindOf y = some .free) := fun k hk hk' => by
        have hk0 := hk
        rw [hsc] at hk
        obtain ⟨k', e, r⟩ := lookup_relS hk
        have no : ¬ (k' = .local ∨ k' = .cell) := fun hh => by
          rcases ok.own _ (PySem.mem_of_lookup e) hh with e' | e'
          · obtain ⟨p, hp, hpy⟩ := List.mem_map.mp e'
            have e3 := ok.ix p hp
            have : p.1 = y := hpy
            rw [this] at e3
            exact hne (List.mem_map.mpr ⟨p, hp, nodup_ix hN e3 e1⟩)
          · exact e' (List.mem_of_getElem? e1)
        rcases r with rfl | ⟨rfl, rfl⟩
        · rcases hk' with rfl | rfl | rfl
          · exact absurd (.inl rfl) no
          · exact absurd (.inr rfl) no
          · exact ⟨e, .inr hk0⟩
        · exact ⟨e, .inl hk0⟩
      have e3 : Vis cenv.scope y := e3
      rcases e3 with e3 | e3 | e3
      · exact key _ e3 (.inl rfl)
      · exact key _ e3 (.inr (.inl rfl))
      · exact key _ e3 (.inr (.inr rfl))
    obtain ⟨m, hn, hl⟩ := I.loc
    have hvis : Vis X.env.scope y := (ok.free _ (PySem.mem_of_lookup hfr.1) rfl).elim (fun k => .inr (.inl k)) (fun k => .inr (.inr k))
    obtain ⟨w, r, q⟩ := hl i y av e1 e2 hvis
    refine ⟨w, r, .inr ⟨hfr.2, ?_⟩⟩
    obtain ⟨c, h1, h2⟩ := look hfr.1
    rcases q with ⟨k, _⟩ | ⟨_, c', e', z⟩
    · have k : X.env.scope.names.lookup y = some .local := k
      rcases ok.free _ (PySem.mem_of_lookup hfr.1) rfl with k' | k' <;> rw [show X.env.scope.names.lookup y = _ from k'] at k <;> cases k
    · rw [h2] at e'; cases e'
      exact ⟨c, h1, z.keeps kp⟩
  · have e : cenv.cells.lookup y = some c := e
    rcases mem e with ⟨h1, _⟩ | ⟨_, z⟩
    · obtain ⟨w, z⟩ := I.cell y c h1
      exact ⟨w, z.keeps kp⟩
    · exact ⟨_, z⟩
  · show H cenv.locals = none
    rw [hL]; exact I.hok.fresh (Nat.le_refl _)
  · have e : cenv.cells.lookup y = some c := e
    rcases mem e with ⟨h1, _⟩ | ⟨h1, _⟩
    · exact I.freeC y c h1
    · exact I.hok.fresh (Nat.le_of_succ_le h1)
  · exact absurd (show p ∈ ([] : List (Addr × Obj)) ++ [] from hp) (by simp)

theorem app_ok {E : Value → Shared → Prop} {D : Addr} {xs : List V} {y : V} {v : Value} {Q : Value → Shared → Prop} (I : Inv X pins σ H s) (hD : H D = some (.lst xs)) (hz : xs.length < sizeLine) (r : RelV y v)
    (h : ∀ s', Inv X pins σ (upd H D (.lst (xs ++ [y]))) s' → Q .none s') : wpAny (model X.prog X.w) X.A (call (.builtin "list.append") [.ref D, v]) Q E s := by
  obtain ⟨hz', its, n, ri, e⟩ := I.hok D _ hD
  have hl := ri.length
  refine append_at (hsz := by rw [List.size_toArray]; omega) e fun h' sb ho' => ?_
  refine h { s with heap := h' } (I.write (t' := s.toks) (by rw [hD]; trivial) (.inl rfl) (fun b u hb q => (sb.2 b hb).trans q) ⟨_, ho'⟩ ⟨by rw [List.length_append]; exact hz, its ++ [v], n + 1, ri.append (.cons r .nil), ?_⟩)
  rw [ho']
  simp

def PTs (X : Cx) (ifs : List Expr) (t : TT) : Prop :=
  ∀ (pins : List (Addr × Obj)) (s : Shared) (σ : St) (H : Hp) (Q : Bool → Hp → Prop), Inv X pins σ H s → t σ H Q →
    wpAny (model X.prog X.w) X.A (forIn ifs true fun c r => if r = true then do let ok ← isTrue c X.env (eval c X.env); pure (ForInStep.yield ok) else pure (ForInStep.yield r)) (TP X pins σ Q) X.xe s
def tYes : TT := fun _ H Q => Q true H
theorem pts_nil : PTs X [] tYes := fun _ _ _ H _ I h => wpAny_tests_nil ⟨H, I, h⟩
theorem pts_one {c : Expr} {t : TT} (h : PT X c t) : PTs X [c] t := fun pins s σ H Q I hw => wpAny_tests_one (h pins s σ H Q I hw)
end

theorem thnF {α : Type} {t : Sem α} {Q Q' : α → Shared → Prop} {M : Model} {A : Around} {E : Value → Shared → Prop} {s : Shared} (h : wpAny M A t Q (fun _ _ => False) s) (hQ : ∀ a s, Q a s → Q' a s) : wpAny M A t Q' E s := wpAny_mono h hQ fun _ _ z => False.elim z

theorem compLoop_any {prog : Program} {w : World} {A : Around} {R : Result → Shared → Prop} {s : Shared} {elt target iter : Expr} {ifs : List Expr} {scope : Scope} {pos : Pos} {it acc : Value} {env : Env} (I : Nat → Shared → Prop)
    (turn : ∀ n s, I n s → wpAny (model prog w) A (pyNext it) (fun r s₁ => match r with
      | none => R (.ok .next) s₁
      | some v => wpAny (model prog w) A (letOwnedTupleGo target it v) (fun _ s₁' => wpAny (model prog w) A (assign target env v) (fun _ s₂ =>
          wpAny (model prog w) A (forIn ifs true fun c r => if r = true then do let ok ← isTrue c env (eval c env); pure (ForInStep.yield ok) else pure (ForInStep.yield r)) (fun ok s₃ =>
            if ok = true then wpAny (model prog w) A (eval elt env) (fun x s₄ =>
              wpAny (model prog w) A (call (.builtin "list.append") [acc, x]) (fun _ s₅ => ∃ m, m < n ∧ I m s₅) (notedBy (model prog w) A env fun e s' => R (.error e) s') s₄) (notedBy (model prog w) A env fun e s' => R (.error e) s') s₃
            else ∃ m, m < n ∧ I m s₃) (notedBy (model prog w) A env fun e s' => R (.error e) s') s₂) (notedBy (model prog w) A env fun e s' => R (.error e) s') s₁') (notedBy (model prog w) A env fun e s' => R (.error e) s') s₁) (notedBy (model prog w) A env fun e s' => R (.error e) s') s)
    (n : Nat) (h : I n s) :
    codeAny (model prog w) A (.compLoop (.ListComp elt [⟨target, iter, ifs, 0⟩] scope pos) 0 it acc env) R s := by
  refine codeAny_loop rfl I (fun n s hI => ?_) n h
  show wpAny _ A ((compTurn (.ListComp elt [⟨target, iter, ifs, 0⟩] scope pos) 0 it acc env).onRaise (fun x => do noteFrame x env; theTreesLotGoes x)) _ _ s
  refine wpAny_noted ?_
  rw [compTurn_list]
  refine wpAny_bind (wpAny_standAt (wpAny_bind (wpAny_mono (turn n s hI) (fun r s₁ h₁ => ?_) fun _ _ h' => h')))
  cases r with
  | none => exact wpAny_pure h₁
  | some v =>
    refine wpAny_bind (wpAny_mono h₁ (fun _ s₁' h₁' => ?_) fun _ _ h' => h')
    refine wpAny_bind (wpAny_mono h₁' (fun _ s₂ h₂ => wpAny_bind (wpAny_mono h₂ (fun ok s₃ h₃ => ?_) fun _ _ h' => h')) fun _ _ h' => h')
    cases ok with
    | false => exact wpAny_pure ⟨rfl, h₃⟩
    | true =>
      exact wpAny_bind (wpAny_bind (wpAny_mono h₃ (fun x s₄ h₄ => wpAny_bind (wpAny_mono h₄ (fun _ s₅ h₅ => wpAny_pure (wpAny_pure ⟨rfl, h₅⟩)) fun _ _ h' => h')) fun _ _ h' => h'))

section
variable {X : Cx}
def tLc (wi : TI) (g : TG) (tt : TT) (te : TE) (vs : List Nat) : TE := fun σ H Q => wi σ H fun J H1 => ∀ D, H1 D = none → ∃ W : Nat → Nat → Hp → Prop, (∃ m, W 0 m (upd H1 D (.lst []))) ∧ ∀ i m H, W i m H →
  (J.stop i H ∧ Q (.ref D) H) ∨ (J.go i H ∧ ∃ Nx : Hp → Prop, (∀ H', Nx H' → ∃ m', m' < m ∧ W (i + 1) m' H') ∧ ∀ x H', J.yld i H x H' → g x (wipe σ vs) H' fun σ2 H2 => wipe σ2 vs = wipe σ vs ∧ tt σ2 H2 fun b H3 =>
    if b = true then te σ2 H3 fun y H4 => ∃ acc, H4 D = some (.lst acc) ∧ acc.length < sizeLine ∧ Nx (upd H4 D (.lst (acc ++ [y]))) else Nx H3)
theorem lc_core {pins : List (Addr × Obj)} {s : Shared} {σ : St} {H : Hp} {Q : VK} {elt tg iter : Expr} {ifs : List Expr} {scope : Scope} {own : List (Str × Nat)} {pos pos' : Pos} {wi : TI} {g : TG} {tt : TT} {te : TE} {use : Option (Value → Sem Unit)} {Qf : Value → Shared → Prop}
    (hc : X.calm = true) (hN : X.N.Nodup) (I : Inv X pins σ H s) (hi : PI X tg iter wi) (ok : BlkOk X.N X.env.scope scope own)
    (hg : ∀ (s : Shared) (H : Hp) (C : Addr) (cl : List (Str × Addr)) (fp : List Addr), PG (X.blk s H scope (compEnvC scope cl C X.env) fp) tg g) (ht : ∀ (s : Shared) (H : Hp) (C : Addr) (cl : List (Str × Addr)) (fp : List Addr), PTs (X.blk s H scope (compEnvC scope cl C X.env) fp) ifs tt)
    (he : ∀ (s : Shared) (H : Hp) (C : Addr) (cl : List (Str × Addr)) (fp : List Addr), PE (X.blk s H scope (compEnvC scope cl C X.env) fp) elt te) (hs : ∀ x, foldedSetIterable iter X.env x = pure x)
    (h : tLc wi g tt te (own.map (·.2)) σ H Q)
    (hRR : ∀ D C s' m H', Inv X pins σ H' s' → Q (.ref D) H' → s'.heap.Ns C m → FpOk X pins H' C → compPost (model X.prog X.w) X.A X.xe use Qf (.ref D) C (.ok .next) s') :
    wpAny (model X.prog X.w) X.A (comprehension (.ListComp elt [⟨tg, iter, ifs, 0⟩] scope pos) scope X.env pos' (newList []) false (eval iter X.env) use) Qf X.xe s := by
  have hfree : ∀ y ∈ scope.names, y.2 = .free → ∃ c, X.env.cells.lookup y.1 = some c := fun y hy e => by
    rcases ok.free y hy e with k | k
    · exact I.ok.has _ (.inl k)
    · exact I.ok.has _ (.inr k)
  refine wpAny_comprehension_free (use := use) rfl hs (closure_ok hfree) ok.kind (fun y hy e => by rw [ok.uniq y hy, e])
    (thn (hi pins s σ H _ I h) fun xv s1 hx => thn hx fun itv s2 h2 => ?_)
  obtain ⟨it, fp, tn, J, H2, e, I2, T, st2, f2, q⟩ := h2
  subst e
  refine wpAny_newObj_type (newEnv_comp ?_) (by show 0 ≤ sizeLine; decide)
  generalize hD : s2.heap.objs.size = D
  have hDn : H2 D = none := I2.hok.fresh (Nat.le_of_eq hD)
  obtain ⟨W, ⟨m0, w0⟩, turn⟩ := q D hDn
  -- the new list
  generalize hs3 : ({ s2 with heap := s2.heap.push { cls := .type "list", data := .seq ([] : List Value).toArray } } : Shared) = s3
  have I3 : Inv X pins σ (upd H2 D (.lst [])) s3 := by
    rw [← hs3]
    refine I2.laid (t' := s2.toks) (fun b o e => Heap.get?_push_of_some _ e) (Nat.le_of_eq hD) ⟨Nat.zero_le _, [], 0, .nil, ?_⟩
    rw [← hD]
    exact Heap.get?_push_size _ rfl
  have h3 : s3.heap = s2.heap.push { cls := .type "list", data := .seq ([] : List Value).toArray } := by rw [← hs3]
  have sz : ∀ b ∈ fp, b < s2.heap.objs.size := fun b hb => by
    obtain ⟨o, e, _⟩ := T.obj _ _ st2 b hb
    exact Heap.lt_size e
  have f3 : ∀ b ∈ fp, FpOk X pins (upd H2 D (.lst [])) b ∧ b < s3.heap.objs.size := fun b hb => by
    have hlt := sz b hb
    refine ⟨⟨?_, (f2 b hb).2⟩, by rw [h3, Heap.size_push]; exact Nat.lt_succ_of_lt hlt⟩
    rw [upd_ne (by rw [← hD]; exact Nat.ne_of_lt hlt)]
    exact (f2 b hb).1
  have st3 : tn 0 s3.heap := T.keep _ _ _ st2 fun b _ o e => by rw [h3]; exact Heap.get?_push_of_some _ e
  have I4 := block_start I3 ok hN f3
  have pg := hg s3 (upd H2 D (.lst [])) s3.heap.objs.size (cellsFrom (s3.heap.objs.size + 1) scope.names (cloFrom X.env.cells scope.names [])) fp
  have pt := ht s3 (upd H2 D (.lst [])) s3.heap.objs.size (cellsFrom (s3.heap.objs.size + 1) scope.names (cloFrom X.env.cells scope.names [])) fp
  have pe := he s3 (upd H2 D (.lst [])) s3.heap.objs.size (cellsFrom (s3.heap.objs.size + 1) scope.names (cloFrom X.env.cells scope.names [])) fp
  show codeAny _ _ (.compStart (.ListComp elt [⟨tg, iter, ifs, 0⟩] scope pos) 0 (.ref it) (.ref D) (compEnvC scope (cellsFrom (s3.heap.objs.size + 1) scope.names (cloFrom X.env.cells scope.names [])) s3.heap.objs.size X.env)) (compPost (model X.prog X.w) X.A X.xe use Qf (.ref D) s3.heap.objs.size) { s3 with heap := pushCells (s3.heap.push { cls := .type "dict", data := .dict #[] }) scope.names }
  have nfp : ∀ b ∈ fp, (upd H2 D (.lst [])) b = none := fun b hb => (f3 b hb).1.1
  generalize hce : compEnvC scope (cellsFrom (s3.heap.objs.size + 1) scope.names (cloFrom X.env.cells scope.names [])) s3.heap.objs.size X.env = ce at I4 pg pt pe ⊢
  have cL : ce.locals = s3.heap.objs.size := by subst hce; rfl
  generalize hH3 : upd H2 D (.lst []) = H3 at I3 I4 pg pt pe w0 nfp f3
  generalize hs4 : ({ s3 with heap := pushCells (s3.heap.push { cls := .type "dict", data := .dict #[] }) scope.names } : Shared) = s4 at I4 ⊢
  have st4 : tn 0 s4.heap := T.keep _ _ _ st3 fun b _ o e => by rw [← hs4]; exact pushCells_keeps _ _ _ _ (Heap.get?_push_of_some _ e)
  have stat : ∀ {σ' : St} {H' : Hp} {s' : Shared}, Inv (X.blk s3 H3 scope ce fp) [] σ' H' s' → (∀ b ∈ fp, H' b = none) → ∀ b ∈ fp, FpOk (X.blk s3 H3 scope ce fp) [] H' b := fun {σ' H' s'} I' hn b hb =>
    ⟨hn b hb, (I'.ok.exf b hb).1, I'.ok.exfs b hb, .inl hb, fun x c e => (I'.ok.exf b hb).2 x c e, fun p hp => absurd (show p ∈ ([] : List (Addr × Obj)) ++ [] from hp) (by simp)⟩
  have loop : codeAny (model X.prog X.w) X.A (.compLoop (.ListComp elt [⟨tg, iter, ifs, 0⟩] scope pos) 0 (.ref it) (.ref D) ce) (compPost (model X.prog X.w) X.A X.xe use Qf (.ref D) s3.heap.objs.size) s4 := by
    refine compLoop_any (fun n s' => ∃ i H', Inv (X.blk s3 H3 scope ce fp) [] (wipe σ (own.map (·.2))) H' s' ∧ tn i s'.heap ∧ (∀ b ∈ fp, H' b = none) ∧ W i n H') ?_ m0 ⟨0, H3, I4, st4, nfp, w0⟩
    rintro n s5 ⟨i, H5, I5, st5, n5, w5⟩
    rcases turn i n H5 w5 with ⟨stop, qq⟩ | ⟨go, Nx, hNx, step⟩
    · have td := T.done (X.blk s3 H3 scope ce fp) rfl rfl rfl hc i [] s5 _ H5 (fun _ _ => False) I5 (stat I5 n5) st5 stop
      refine thnF td fun r s6 ⟨hr, I6⟩ => ?_
      subst hr
      -- back in the def's context
      have I7 : Inv X pins σ H5 s6 := I3.call' (ch := fp) I6.os I6.base I6.hok I6.bare fun b hb => ⟨(f3 b hb).1.2.2.2.1, (f3 b hb).1.2.1, (f3 b hb).1.2.2.2.2.1, (f3 b hb).1.2.2.2.2.2⟩
      have nC : H5 s3.heap.objs.size = none := by
        have z : H5 ce.locals = none := I6.free
        rw [cL] at z
        exact z
      obtain ⟨m, hn, _⟩ := I6.loc
      have hn : s6.heap.Ns ce.locals m := hn
      rw [cL] at hn
      exact hRR D s3.heap.objs.size s6 m H5 I7 qq hn (I3.fpOk (Nat.le_refl _) nC)
    · have ti := T.item (X.blk s3 H3 scope ce fp) rfl rfl rfl hc i [] s5 _ H5 (fun _ _ => False) I5 (stat I5 n5) st5 go
      refine thnF ti fun r s6 ⟨u, hr, h6⟩ => ?_
      subst hr
      refine thnF h6 fun _ s7 ⟨x, H7, I7, r7, y7, st7, n7⟩ => ?_
      have I7' := I7.pinned (stat I7 n7) (T.obj _ _ st7)
      refine thnF (pg _ s7 _ H7 x u _ I7' r7 (step x H7 y7)) fun _ s8 ⟨σ8, H8, I8, hw8, q8⟩ => ?_
      refine thnF (pt _ s8 σ8 H8 _ I8 q8) fun b s9 ⟨H9, I9, q9⟩ => ?_
      -- the turn's end
      have fin : ∀ {s' : Shared} {H' : Hp}, Inv (X.blk s3 H3 scope ce fp) ([] ++ pinsAt fp s7.heap) σ8 H' s' → Nx H' → ∃ m, m < n ∧ ∃ i H', Inv (X.blk s3 H3 scope ce fp) [] (wipe σ (own.map (·.2))) H' s' ∧ tn i s'.heap ∧ (∀ b ∈ fp, H' b = none) ∧ W i m H' := fun {s' H'} I' nx => by
        obtain ⟨m', hm, w'⟩ := hNx H' nx
        have pin' : ∀ b ∈ fp, ∀ o, s7.heap.get? b = some o → s'.heap.get? b = some o ∧ H' b = none := fun b hb o e =>
          let z := I'.pin (b, o) (List.mem_append_right _ (List.mem_append_right _ (mem_pinsAt hb e)))
          ⟨z.1, z.2.1⟩
        have hl : (wipe σ (own.map (·.2))).length = σ8.length := by rw [← hw8, wipe_length]
        refine ⟨m', hm, i + 1, H', (I'.unpinned (pins := [])).weak hl (fun j v e => ?_), T.keep _ _ _ st7 fun b hb o e => (pin' b hb o e).1, fun b hb => ?_, w'⟩
        · rw [← hw8] at e
          exact (wipe_some e).1
        · obtain ⟨o, e, _⟩ := T.obj _ _ st7 b hb
          exact (pin' b hb o e).2
      cases b with
      | false =>
        simp only [Bool.false_eq_true, if_false] at q9 ⊢
        exact fin I9 q9
      | true =>
        simp only [if_true] at q9 ⊢
        refine thnF (pe _ s9 σ8 H9 _ I9 q9) fun z s10 ⟨yv, H10, I10, r10, acc, hD10, hz10, nx⟩ => ?_
        exact app_ok (X := X.blk s3 H3 scope ce fp) I10 hD10 hz10 r10 fun s11 I11 => fin I11 nx
  exact codeAny_compStart_list loop (T.self X.A 0 _ _ _ st4 loop)
theorem pe_lc {elt tg iter : Expr} {ifs : List Expr} {scope : Scope} {own : List (Str × Nat)} {pos : Pos} {wi : TI} {g : TG} {tt : TT} {te : TE} (hc : X.calm = true) (hN : X.N.Nodup) (hi : PI X tg iter wi) (ok : BlkOk X.N X.env.scope scope own)
    (hg : ∀ (s : Shared) (H : Hp) (C : Addr) (cl : List (Str × Addr)) (fp : List Addr), PG (X.blk s H scope (compEnvC scope cl C X.env) fp) tg g) (ht : ∀ (s : Shared) (H : Hp) (C : Addr) (cl : List (Str × Addr)) (fp : List Addr), PTs (X.blk s H scope (compEnvC scope cl C X.env) fp) ifs tt)
    (he : ∀ (s : Shared) (H : Hp) (C : Addr) (cl : List (Str × Addr)) (fp : List Addr), PE (X.blk s H scope (compEnvC scope cl C X.env) fp) elt te) (hs : ∀ x, foldedSetIterable iter X.env x = pure x := by intro _; rfl) :
    PE X (.ListComp elt [⟨tg, iter, ifs, 0⟩] scope pos) (tLc wi g tt te (own.map (·.2))) := by
  intro pins s σ H Q I h
  rw [eval_ListComp]
  refine lc_core hc hN I hi ok hg ht he hs h fun D C s' m H' I' q hn f => ⟨m, hn, fun h'' sb => ?_⟩
  obtain ⟨f0, f1, f2, f3, f4, f5⟩ := f
  exact ⟨.ref D, H', I'.turned (t' := s'.toks) (fun b o hb e => (sb.2 b hb).trans e) f0 f1 f3 f4 f5, rfl, q⟩
theorem ps_setLc {i : Nat} {y : Str} {py : Pos} {elt tg iter : Expr} {ifs : List Expr} {scope : Scope} {own : List (Str × Nat)} {pos spos : Pos} {wi : TI} {g : TG} {tt : TT} {te : TE} (hc : X.calm = true) (hN : X.N.Nodup) (hy : X.N[i]? = some y) (hyl : X.env.scope.names.lookup y = some .local)
    (hsw : swapsWith (.ListComp elt [⟨tg, iter, ifs, 0⟩] scope pos) (some (.Name y py)) spos.line X.env = pure true) (hi : PI X tg iter wi) (ok : BlkOk X.N X.env.scope scope own)
    (hg : ∀ (s : Shared) (H : Hp) (C : Addr) (cl : List (Str × Addr)) (fp : List Addr), PG (X.blk s H scope (compEnvC scope cl C X.env) fp) tg g) (ht : ∀ (s : Shared) (H : Hp) (C : Addr) (cl : List (Str × Addr)) (fp : List Addr), PTs (X.blk s H scope (compEnvC scope cl C X.env) fp) ifs tt)
    (he : ∀ (s : Shared) (H : Hp) (C : Addr) (cl : List (Str × Addr)) (fp : List Addr), PE (X.blk s H scope (compEnvC scope cl C X.env) fp) elt te) (hs : ∀ x, foldedSetIterable iter X.env x = pure x := by intro _; rfl) :
    PS X (.Assign [.Name y py] (.ListComp elt [⟨tg, iter, ifs, 0⟩] scope pos) spos) (tAsg (tLc wi g tt te (own.map (·.2))) (gName i)) := by
  intro pins s σ H D I h
  rw [exec_Assign_Name_used _ _ _ _ hsw]
  refine wpAny_bind (wpAny_standAt (wpAny_bind ?_))
  show wpAny _ X.A (do let _ ← comprehension (.ListComp elt [⟨tg, iter, ifs, 0⟩] scope pos) scope X.env (firstIterPos [⟨tg, iter, ifs, 0⟩] pos) (newList []) false (eval iter X.env) (some (assign (.Name y py) X.env))) _ _ s
  have h : tLc wi g tt te (own.map (·.2)) σ H (fun x H1 => gName i x σ H1 D.nx) := h
  refine wpAny_bind (thn (lc_core (Qf := fun _ s' => SP X pins D .next s') hc hN I hi ok hg ht he hs h fun L C s' m H' I' q hn f => ?_) fun _ s' hq => wpAny_pure (wpAny_pure hq))
  show wpAny _ _ (assign (.Name y py) X.env (.ref L)) _ _ _
  refine wpAny_assign_Name (store_ok2 (v := V.ref L) I' hN hy (.inl hyl) rfl (fun s2 I2 ⟨a, sb, ha⟩ => ?_) (.inr hyl))
  obtain ⟨f0, f1, f2, f3, f4, f5⟩ := f
  have haC : C ≠ a := by
    rcases ha with z | z
    · rw [z]; exact f1
    · exact fun e => f4 y a z e.symm
  refine ⟨m, hn.sameBut sb haC, fun h3 sb3 => ?_⟩
  exact ⟨_, H', I2.turned (t' := s2.toks) (fun b o hb e => (sb3.2 b hb).trans e) f0 f1 f3 f4 f5, q⟩
theorem sw_true {elt : Expr} {gs : List Comprehension} {scope : Scope} {pos py : Pos} {y : Str} {l : Nat} {env : Env} (hk : env.scope.kind = .function) (hy : env.scope.names.lookup y = some .local) (hl : (py.line == pos.line) = true)
    (ha : (scope.names.any fun (n, k) => n == y && (k == .local || k == .cell)) = false) : swapsWith (.ListComp elt gs scope pos) (some (.Name y py)) l env = pure true := by
  have ky : env.kindOf y = some .local := hy
  have hb : env.blockKind = .function := by unfold Env.blockKind; rw [hk]; rfl
  unfold swapsWith
  simp only [hb, ky, ha, Expr.pos, hl]
  rfl
end

theorem lc_range {lo : Int} {n : Nat} {g : TG} {tt : TT} {te : TE} {vs : List Nat} {σ : St} {H1 : Hp} {D : Addr} {Qd : Hp → Prop} (Pv : Nat → Hp → Prop) (h0 : Pv 0 (upd H1 D (.lst [])))
    (hs : ∀ i H, i < n → Pv i H → g (.int (lo + i)) (wipe σ vs) H fun σ2 H2 => wipe σ2 vs = wipe σ vs ∧ tt σ2 H2 fun b H3 =>
      if b = true then te σ2 H3 fun y H4 => ∃ acc, H4 D = some (.lst acc) ∧ acc.length < sizeLine ∧ Pv (i + 1) (upd H4 D (.lst (acc ++ [y]))) else Pv (i + 1) H3) (hd : ∀ H, Pv n H → Qd H) :
    ∃ W : Nat → Nat → Hp → Prop, (∃ m, W 0 m (upd H1 D (.lst []))) ∧ ∀ i m H, W i m H →
      ((Itr lo n).stop i H ∧ Qd H) ∨ ((Itr lo n).go i H ∧ ∃ Nx : Hp → Prop, (∀ H', Nx H' → ∃ m', m' < m ∧ W (i + 1) m' H') ∧ ∀ x H', (Itr lo n).yld i H x H' → g x (wipe σ vs) H' fun σ2 H2 => wipe σ2 vs = wipe σ vs ∧ tt σ2 H2 fun b H3 =>
        if b = true then te σ2 H3 fun y H4 => ∃ acc, H4 D = some (.lst acc) ∧ acc.length < sizeLine ∧ Nx (upd H4 D (.lst (acc ++ [y]))) else Nx H3) := by
  refine ⟨fun i m H => m = n - i ∧ i ≤ n ∧ Pv i H, ⟨n, by simp, Nat.zero_le _, h0⟩, ?_⟩
  rintro i m H ⟨rfl, hi, p⟩
  by_cases hlt : i < n
  · refine .inr ⟨hlt, Pv (i + 1), fun H' p' => ⟨n - (i + 1), by omega, rfl, hlt, p'⟩, fun x H' y => ?_⟩
    obtain ⟨e, y⟩ := y
    subst e y
    exact hs i _ hlt p
  · have e : i = n := by omega
    subst e
    exact .inl ⟨Nat.le_refl _, hd H p⟩
theorem lc_list {K : PySem.W.Frag} {a : Addr} {xs : List V} {g : TG} {tt : TT} {te : TE} {vs : List Nat} {σ : St} {H1 : Hp} {D : Addr} {Qd : Hp → Prop} (Pv : Nat → Hp → Prop) (h0 : Pv 0 (upd H1 D (.lst []))) (hl : ∀ i H, i ≤ xs.length → Pv i H → SqL K H a xs)
    (hs : ∀ i x H, xs[i]? = some x → Pv i H → g x (wipe σ vs) H fun σ2 H2 => wipe σ2 vs = wipe σ vs ∧ tt σ2 H2 fun b H3 =>
      if b = true then te σ2 H3 fun y H4 => ∃ acc, H4 D = some (.lst acc) ∧ acc.length < sizeLine ∧ Pv (i + 1) (upd H4 D (.lst (acc ++ [y]))) else Pv (i + 1) H3) (hd : ∀ H, Pv xs.length H → Qd H) :
    ∃ W : Nat → Nat → Hp → Prop, (∃ m, W 0 m (upd H1 D (.lst []))) ∧ ∀ i m H, W i m H →
      ((Itl K a).stop i H ∧ Qd H) ∨ ((Itl K a).go i H ∧ ∃ Nx : Hp → Prop, (∀ H', Nx H' → ∃ m', m' < m ∧ W (i + 1) m' H') ∧ ∀ x H', (Itl K a).yld i H x H' → g x (wipe σ vs) H' fun σ2 H2 => wipe σ2 vs = wipe σ vs ∧ tt σ2 H2 fun b H3 =>
        if b = true then te σ2 H3 fun y H4 => ∃ acc, H4 D = some (.lst acc) ∧ acc.length < sizeLine ∧ Nx (upd H4 D (.lst (acc ++ [y]))) else Nx H3) := by
  refine ⟨fun i m H => m = xs.length - i ∧ i ≤ xs.length ∧ Pv i H, ⟨xs.length, by simp, Nat.zero_le _, h0⟩, ?_⟩
  rintro i m H ⟨rfl, hi, p⟩
  have q := hl i H hi p
  by_cases hlt : i < xs.length
  · refine .inr ⟨⟨xs, xs[i], q, by simp [hlt]⟩, Pv (i + 1), fun H' p' => ⟨xs.length - (i + 1), by omega, rfl, hlt, p'⟩, fun x H' y => ?_⟩
    obtain ⟨e, y⟩ := y
    subst e
    exact hs i x _ (y xs q) p
  · have e : i = xs.length := by omega
    subst e
    exact .inl ⟨⟨xs, q, Nat.le_refl _⟩, hd H p⟩
def blkC (N : List Str) (sc scope : Scope) (own : List (Str × Nat)) : Bool :=
  (match scope.kind with | .function => true | _ => false) && (scope.names.all fun y => decide (scope.names.lookup y.1 = some y.2)) && (own.all fun p => decide (N[p.2]? = some p.1)) &&
    (scope.names.all fun y => match y.2 with
      | .free => (match sc.names.lookup y.1 with | some .cell => true | some .free => true | _ => false)
      | .local => decide (y.1 ∈ own.map (·.1)) || decide (y.1 ∉ N)
      | .cell => decide (y.1 ∈ own.map (·.1)) || decide (y.1 ∉ N)
      | _ => true)
theorem blkOk_by {N : List Str} {sc scope : Scope} {own : List (Str × Nat)} (h : blkC N sc scope own = true) : BlkOk N sc scope own := by
  unfold blkC at h
  simp only [Bool.and_eq_true, List.all_eq_true, decide_eq_true_eq] at h
  obtain ⟨⟨⟨h1, h2⟩, h3⟩, h4⟩ := h
  refine ⟨?_, h2, h3, fun y hy e => ?_, fun y hy e => ?_⟩
  · split at h1
    · assumption
    · cases h1
  · have q := h4 y hy
    simp only [e] at q
    split at q <;> first | exact .inl (by assumption) | exact .inr (by assumption) | cases q
  · have q := h4 y hy
    rcases e with e | e <;> (simp only [e, Bool.or_eq_true, decide_eq_true_eq] at q; exact q)
end L2

namespace L2
open PySem PySem.Spec PyProof.Rows

section
variable {prog : Program} {w : World} {A : Around} {R : Result → Shared → Prop} {s : Shared} {elt t0 i0 t1 i1 : Expr} {ifs0 ifs1 : List Expr} {scope : Scope} {pos : Pos} {it acc : Value} {env : Env}
end

section
variable {X : Cx}
end
end L2

namespace L2
open PySem PySem.Spec PyProof.Rows

section
variable {κ : Type} [DecidableEq κ]
end


section
variable {P : Program} {w : World} {H : Hp} {h : Heap} {a : Addr}
end

section
variable {X : Cx} {pins : List (Addr × Obj)} {σ : St} {H : Hp} {s : Shared} {a : Addr} {y v : V} {u r : Value} {o : Option V} {A : Around} {E : Value → Shared → Prop}

end

section
variable {X : Cx} {pins : List (Addr × Obj)} {σ : St} {H : Hp} {s : Shared} {a : Addr} {kvs : List (Key × V)} {k : Key} {u : Value} {A : Around} {E : Value → Shared → Prop}
end


def NoSl (i : Expr) : Prop := ∀ ov iv, subscripted i false ov iv = operate [ov, iv] (getItem ov iv)
theorem subD_of {prog : Program} {w : World} {A : Around} {E : Value → Shared → Prop} {s : Shared} {env : Env} {value slice : Expr} {pos : Pos} {T id : String} {Q : Value → Shared → Prop}
    (hl : typeLookup (.type T) "__getitem__" = pure (some (.builtin id))) (hs : NoSl slice)
    (h : wpAny (model prog w) A (eval value env) (fun o s₁ => wpAny (model prog w) A (eval slice env) (fun i s₂ => s₂.TypeIs o T ∧ wpAny (model prog w) A (getItem o i) Q E s₂) E s₁) E s) :
    wpAny (model prog w) A (eval (.Subscript value slice pos) env) Q E s := by
  refine Subscript_ (wpAny_mono h (fun o s₁ h₁ => wpAny_mono h₁ (fun i s₂ h₂ => ?_) fun _ _ x => x) fun _ _ x => x)
  obtain ⟨hT, h₂⟩ := h₂
  unfold subscriptTail
  refine wpAny_bind ?_
  rw [getitemInPython_of_ne hT.not_modules]
  refine wpAny_bind (wpAny_specialOf hT hl ?_)
  have fin : wpAny (model prog w) A (subscripted slice false o i) (fun r s₃ => wpAny (model prog w) A (letTemporaryGo value o r >>= fun _ => pure r) Q E s₃) E s₂ := by
    rw [hs o i]
    exact wpAny_operating (wpAny_mono h₂ (fun r s₃ h₃ => wpAny_bind (wpAny_letTemporaryGo (wpAny_pure h₃))) fun _ _ x => x)
  first
    | exact wpAny_pure (wpAny_bind fin)
    | exact wpAny_bind (wpAny_pure (wpAny_bind fin))
    | exact wpAny_bind fin

section
variable {X : Cx} {o i e value : Expr} {pos pos' tpos : Pos} {td ty tv : TE}
end


section
variable {X : Cx} {pos : Pos}
end

structure M1 (X : Cx) (o : Expr) (m : Str) (apos : Pos) (e : Expr) (cpos : Pos) : Prop where
  base : attributeBase o m X.env (eval o X.env) = eval o X.env
  few : ((backTo cpos (starEach [e] X.env)).all (fun x => !x.1) && (backToKw cpos (keywordEach [] X.env)).all (fun x => x.1.isSome)
    && decide (([e] : List Expr).length + ([] : List Keyword).length + (if ([] : List Keyword).isEmpty then 0 else 1) < 30)) = true
  line : (apos.endLine == cpos.line) = true
  trees : backTo cpos (starEach [e] X.env) = [(false, eval e X.env)]
structure M2 (X : Cx) (o : Expr) (m : Str) (apos : Pos) (e f : Expr) (cpos : Pos) : Prop where
  base : attributeBase o m X.env (eval o X.env) = eval o X.env
  few : ((backTo cpos (starEach [e, f] X.env)).all (fun x => !x.1) && (backToKw cpos (keywordEach [] X.env)).all (fun x => x.1.isSome)
    && decide (([e, f] : List Expr).length + ([] : List Keyword).length + (if ([] : List Keyword).isEmpty then 0 else 1) < 30)) = true
  line : (apos.endLine == cpos.line) = true
  trees : backTo cpos (starEach [e, f] X.env) = [(false, eval e X.env), (false, eval f X.env)]

section
variable {X : Cx} {pins : List (Addr × Obj)} {σ : St} {H : Hp} {s : Shared} {a : Addr} {y d : V} {u r : Value} {o : Option V} {A : Around} {E : Value → Shared → Prop}
end

section
variable {X : Cx} {o e f : Expr} {apos cpos : Pos} {td ty tx : TE}
end

section
variable {X : Cx} {pins : List (Addr × Obj)} {σ : St} {H : Hp} {s : Shared} {a : Addr} {kvs : List (Key × V)} {A : Around} {E : Value → Shared → Prop}
end


section
variable {X : Cx} {pins : List (Addr × Obj)} {σ : St} {H : Hp} {s : Shared} {a : Addr} {y : V} {u : Value} {A : Around} {E : Value → Shared → Prop}
end
end L2

namespace L2
open PySem PySem.Spec PyProof.Rows

section
variable {prog : Program} {w : World} {A : Around} {E : Value → Shared → Prop}
end

section
variable {X : Cx}
end
end L2

namespace L2
open PySem PySem.Spec PyProof.Rows

theorem boot_reversed5 : bootBuiltins "reversed" = some (.type "reversed") := by decide +kernel

section
variable {X : Cx} {pins : List (Addr × Obj)} {σ : St} {H : Hp} {s : Shared} {h' : Heap}
theorem Inv.turnedL {t' : Nat} {ch : List Addr} (I : Inv X pins σ H s) (k : ∀ b o, b ∉ ch → s.heap.get? b = some o → h'.get? b = some o) (hf : ∀ b ∈ ch, FpOk X pins H b) : Inv X pins σ H { s with heap := h', toks := t' } := by
  have nit : ∀ b u, H b = some u → b ∉ ch := fun b u e z => by
    have q := (hf b z).1
    rw [q] at e; cases e
  refine I.step (g' := s.gens) (d' := s.drawn) (ch := ch) (fun b hb => ⟨(hf b hb).2.2.2.1, (hf b hb).2.1, (hf b hb).2.2.2.2.1, (hf b hb).2.2.2.2.2⟩) (fun b o _ _ hc e _ => k b o hc e) (fun b o _ _ hc e _ => ⟨o.slots, k b o hc e⟩)
    (fun _ _ _ _ n => n) (fun b o hc e => ⟨o, k b o hc e⟩) (fun _ _ e => e) (fun _ _ _ e => e) (fun b ps e => ⟨#[], by rw [e]; simp⟩) (fun m hm => ?_) (fun b u e => ?_) I.bare
  · obtain ⟨o, es, ep, ho, r⟩ := hm
    exact ⟨o, es, ep, k _ o (fun z => (hf _ z).2.1 rfl) ho, r⟩
  · refine (I.hok b u e).stay (fun c v hc q => k c v ?_ q) (fun _ q => q) fun _ _ q => q
    rcases hc with z | z
    · rw [z]; exact nit b u e
    · exact nit c _ z
theorem Inv.turnedNew {t' : Nat} {ch : List Addr} {T : Addr} {ob : HO} (I : Inv X pins σ H s) (k : ∀ b o, b ∉ ch → s.heap.get? b = some o → h'.get? b = some o) (hf : ∀ b ∈ ch, FpOk X pins H b) (hT : s.heap.objs.size ≤ T)
    (new : ObjOk X.prog X.w (upd H T ob) h' T ob) : Inv X pins σ (upd H T ob) { s with heap := h', toks := t' } := by
  have hn : H T = none := I.hok.fresh hT
  have nit : ∀ b u, H b = some u → b ∉ ch := fun b u e z => by
    have q := (hf b z).1
    rw [q] at e; cases e
  refine I.step (g' := s.gens) (d' := s.drawn) (ch := ch) (fun b hb => ⟨(hf b hb).2.2.2.1, (hf b hb).2.1, (hf b hb).2.2.2.2.1, (hf b hb).2.2.2.2.2⟩) (fun b o _ _ hc e _ => k b o hc e) (fun b o _ _ hc e _ => ⟨o.slots, k b o hc e⟩)
    (fun b o _ e n => ?_) (fun b o hc e => ⟨o, k b o hc e⟩) (fun b xs e => ?_) (fun b o u e => ?_) (fun b ps e => ⟨#[], ?_⟩) (fun m hm => ?_) (fun b u e => ?_) I.bare
  · rw [upd_ne (Nat.ne_of_lt (Nat.lt_of_lt_of_le (Heap.lt_size e) hT))]; exact n
  · rw [upd_ne (ne_of_none e hn)]; exact e
  · rw [upd_ne (ne_of_none e hn)]; exact e
  · rw [upd_ne (ne_of_none e hn), e]; simp
  · obtain ⟨o, es, ep, ho, r⟩ := hm
    exact ⟨o, es, ep, k _ o (fun z => (hf _ z).2.1 rfl) ho, r⟩
  · by_cases hb : b = T
    · subst hb
      rw [upd_same] at e
      cases e
      exact new
    · rw [upd_ne hb] at e
      refine (I.hok b u e).stay (fun c v hc q => k c v ?_ q) (fun c q => by rw [upd_ne (ne_of_none q hn)]; exact q) fun c xs q => by rw [upd_ne (ne_of_none q hn)]; exact q
      rcases hc with z | z
      · rw [z]; exact nit b u e
      · exact nit c _ z

end
section
variable {X : Cx}
end

section
variable {X : Cx} {tg : Expr}
end
section
variable {X : Cx} {tg : Expr}
end

section
variable {prog : Program} {w : World} {A : Around} {E : Value → Shared → Prop} {s : Shared}
end

section
variable {X : Cx} {pins : List (Addr × Obj)} {σ : St} {H : Hp} {s : Shared} {d : Addr} {o : Obj}
end

section
variable {P : Program} {w : World} {K : PySem.W.Frag} {tg : Expr} {d : Addr} {o : Obj} {es : Array DictEntry} {ep : Nat}
end

section
variable {X : Cx} {tg e : Expr} {td : TE} {apos cpos : Pos}
end

def Ite (K : PySem.W.Frag) (a : Addr) : It :=
  ⟨fun i H => ∃ (xs : List V) (x : V), SqL K H a xs ∧ xs[i]? = some x, fun i H v H' => ∃ T x, v = .ref T ∧ H T = none ∧ H' = upd H T (.tup [.int (i : Nat), x]) ∧ ∀ xs, SqL K H a xs → xs[i]? = some x, fun i H => ∃ xs : List V, SqL K H a xs ∧ xs.length ≤ i⟩
theorem turn_enum {P : Program} {w : World} {K : PySem.W.Frag} {elts : List Expr} {kk : Nat} {tpos : Pos} (a e it : Addr) :
    Turn P w K (.Tuple elts kk tpos) (Ite K a) [e, it] e (fun i h => (∃ old, IsEnum h e it ((i : Nat) : Int) old) ∧ h.IsListIter it a i ∧ e ≠ it) where
  mem := by simp
  obj := fun i h st b hb => by
    obtain ⟨⟨old, he⟩, ⟨o, ho, hc, hd⟩, _⟩ := st
    have e' : b = e ∨ b = it := by simpa using hb
    rcases e' with z | z
    · rw [z]; exact ⟨_, he, fun v q => nomatch q⟩
    · rw [z]; exact ⟨o, ho, fun v q => by rw [hd] at q; cases q⟩
  keep := fun i h h' st k => let ⟨⟨old, he⟩, hi, hne⟩ := st; ⟨⟨old, k e (by simp) _ he⟩, hi.at fun o q => k it (by simp) o q, hne⟩
  item := by
    intro X hP hw hK hc i pins s σ H E I hf st hg
    subst hP hw hK
    obtain ⟨⟨old, he⟩, hit, hne⟩ := st
    obtain ⟨xs, x, hq, hx⟩ := hg
    obtain ⟨its, rv, p, hz⟩ := I.list hq
    obtain ⟨u, hu, ru⟩ := rv.get hx
    have hel : e < s.heap.objs.size := Heap.lt_size he
    have hil : it < s.heap.objs.size := by obtain ⟨_, q, _⟩ := hit; exact Heap.lt_size q
    refine wpAny_pyNext_enum_item he hit p.isList (x := u) (by simpa using hu) hne fun h' ho hit' hT hsz hk => ?_
    refine ⟨_, rfl, wpAny_letOwnedTupleGo_enum (s := { s with heap := h', toks := s.toks + 1 }) ho fun h'' he' sb => ?_⟩
    have hT2 : h''.get? s.heap.objs.size = some { cls := .type "tuple", data := .seq #[.int i s.toks, u] } := (sb.2 _ (Nat.ne_of_gt hel)).trans hT
    have new : ObjOk X.prog X.w (upd H s.heap.objs.size (.tup [.int (i : Nat), x])) h'' s.heap.objs.size (.tup [.int (i : Nat), x]) :=
      ⟨by show 2 ≤ sizeLine; decide, [.int i s.toks, u], .cons ⟨_, rfl⟩ (.cons ru .nil), ⟨_, hT2, rfl, _, rfl⟩⟩
    have I1 : Inv X pins σ (upd H s.heap.objs.size (.tup [.int (i : Nat), x])) { s with heap := h'', toks := s.toks + 1 } :=
      I.turnedNew (ch := [e, it]) (fun b ob hb q => (sb.2 b (fun z => hb (by simp [z]))).trans (hk b ob (fun z => hb (by simp [z])) (fun z => hb (by simp [z])) q)) hf (Nat.le_refl _) new
    refine ⟨.ref s.heap.objs.size, _, I1, rfl, ⟨_, x, rfl, I.hok.fresh (Nat.le_refl _), rfl, fun ys hy => by rw [I.list_inj hy hq]; exact hx⟩, ⟨⟨u, ?_⟩, hit'.at fun o q => (sb.2 it (Ne.symm hne)).trans q, hne⟩, fun b hb => ?_⟩
    · have e1 : ((i + 1 : Nat) : Int) = (i : Int) + 1 := by omega
      rw [e1]; exact he'
    · have hb' : b < s.heap.objs.size := by
        have e' : b = e ∨ b = it := by simpa using hb
        rcases e' with z | z
        · rw [z]; exact hel
        · rw [z]; exact hil
      rw [upd_ne (Nat.ne_of_lt hb')]
      exact (hf b hb).1
  done := by
    intro X hP hw hK hc i pins s σ H E I hf st hg
    subst hP hw hK
    obtain ⟨⟨old, he⟩, hit, hne⟩ := st
    obtain ⟨xs, hq, hx⟩ := hg
    obtain ⟨its, rv, p, hz⟩ := I.list hq
    obtain ⟨f0, f1, f2, f3, f4, f5⟩ := hf it (by simp)
    have hl := rv.length
    exact wpAny_pyNext_enum_end (I.ok.hd hc) he hit p.isList (by simp; omega) fun h' eb => ⟨rfl, I.turned (t' := s.toks) (fun b o hb q => eb b o hb q) f0 f1 f3 f4 f5⟩
  self := fun A i s Q E st h => let ⟨⟨_, he⟩, _⟩ := st; wpAny_pyIter_enum he h
def iEnum (K : PySem.W.Frag) (ta : TA) : TI := fun σ H R => ta σ H fun vs H1 => ∃ a xs, vs = [.ref a] ∧ SqL K H1 a xs ∧ R (Ite K a) H1
theorem pi_enum {X : Cx} {e : Expr} {ta : TA} {p pos tpos : Pos} {elts : List Expr} {kk : Nat} (hg : Gl X "enumerate") (hm : X.mg "enumerate" = none) (ha : PA X [e] ta) (hs : starEach [e] X.env = [(false, eval e X.env)] := by rfl) :
    PI X (.Tuple elts kk tpos) (.Call (.Name "enumerate" p) [e] [] pos) (iEnum X.K ta) := by
  intro pins s σ H R I h
  refine Call_ (ld_blt I hg hm boot_enumerate (PyProof.Rows.callWith_type1 (thn (ha pos pins s σ H _ I h) fun us s1 ⟨vs, H1, I1, r1, q1⟩ => ?_) hs rfl))
  obtain ⟨a, xs, ex, hq, q⟩ := q1
  subst ex
  cases r1 with
  | cons r rr =>
    cases rr
    cases r
    obtain ⟨its, rv, p', hz⟩ := I1.list hq
    refine call_enumerate_list p'.isList fun h' he hit hsz hk => wpAny_pyIter_enum he ?_
    have I2 : Inv X pins σ H1 { s1 with heap := h' } := I1.kept (t' := s1.toks) hk
    refine ⟨s1.heap.objs.size + 1, [s1.heap.objs.size + 1, s1.heap.objs.size], _, _, H1, rfl, I2, turn_enum a (s1.heap.objs.size + 1) s1.heap.objs.size, ⟨⟨.none, he⟩, hit, Nat.succ_ne_self _⟩, fun b hb => ?_, q⟩
    have e' : b = s1.heap.objs.size + 1 ∨ b = s1.heap.objs.size := by simpa using hb
    have hle : s1.heap.objs.size ≤ b := by
      rcases e' with z | z
      · rw [z]; exact Nat.le_add_right _ _
      · rw [z]; exact Nat.le_refl _
    exact I1.fpOk hle (I1.hok.fresh hle)
theorem boot_zip5 : bootBuiltins "zip" = some (.type "zip") := by decide +kernel
def Itz (K : PySem.W.Frag) (a b : Addr) : It :=
  ⟨fun i H => ∃ (xs ys : List V) (x y : V), SqL K H a xs ∧ SqL K H b ys ∧ xs[i]? = some x ∧ ys[i]? = some y,
    fun i H v H' => ∃ T x y, v = .ref T ∧ H T = none ∧ H' = upd H T (.tup [x, y]) ∧ (∀ xs, SqL K H a xs → xs[i]? = some x) ∧ ∀ ys, SqL K H b ys → ys[i]? = some y,
    fun i H => ∃ xs ys : List V, SqL K H a xs ∧ SqL K H b ys ∧ (xs.length ≤ i ∨ ys.length ≤ i)⟩
theorem turn_zip {P : Program} {w : World} {K : PySem.W.Frag} {elts : List Expr} {kk : Nat} {tpos : Pos} {a b z TI TO i1 i2 : Addr} (D : ZipApart z TI TO i1 i2 a b) :
    Turn P w K (.Tuple elts kk tpos) (Itz K a b) [z, TI, TO, i1, i2] z (fun i h => IsZip h z TI TO .none ∧ IsPair h TI (.ref i1) (.ref i2) ∧ (∃ x y, IsPair h TO x y) ∧ h.IsListIter i1 a i ∧ h.IsListIter i2 b i) where
  mem := by simp
  obj := fun i h st c hc => by
    obtain ⟨hz, hTI, ⟨x, y, hTO⟩, ⟨o1, e1, _, d1⟩, ⟨o2, e2, _, d2⟩⟩ := st
    have e' : c = z ∨ c = TI ∨ c = TO ∨ c = i1 ∨ c = i2 := by simpa using hc
    rcases e' with q | q | q | q | q
    · rw [q]; exact ⟨_, hz, fun v q => nomatch q⟩
    · rw [q]; exact ⟨_, hTI, fun v q => nomatch q⟩
    · rw [q]; exact ⟨_, hTO, fun v q => nomatch q⟩
    · rw [q]; exact ⟨o1, e1, fun v q => by rw [d1] at q; cases q⟩
    · rw [q]; exact ⟨o2, e2, fun v q => by rw [d2] at q; cases q⟩
  keep := fun i h h' st k => by
    obtain ⟨hz, hTI, ⟨x, y, hTO⟩, h1, h2⟩ := st
    exact ⟨k z (by simp) _ hz, k TI (by simp) _ hTI, ⟨x, y, k TO (by simp) _ hTO⟩, h1.at fun o q => k i1 (by simp) o q, h2.at fun o q => k i2 (by simp) o q⟩
  item := by
    intro X hP hw hK hc i pins s σ H E I hf st hg
    subst hP hw hK
    obtain ⟨hz, hTI, ⟨x0, y0, hTO⟩, h1, h2⟩ := st
    obtain ⟨xs, ys, x, y, hqx, hqy, hx, hy⟩ := hg
    obtain ⟨its, rv, p, _⟩ := I.list hqx
    obtain ⟨its2, rv2, p2, _⟩ := I.list hqy
    obtain ⟨u, hu, ru⟩ := rv.get hx
    obtain ⟨u2, hu2, ru2⟩ := rv2.get hy
    have hzl : z < s.heap.objs.size := Heap.lt_size hz
    refine wpAny_pyNext_zip_item D hz hTI hTO h1 h2 p.isList p2.isList (x := u) (y := u2) (by simpa using hu) (by simpa using hu2) fun h' z' TO' h1' h2' hT hsz hk => ?_
    refine ⟨_, rfl, wpAny_letOwnedTupleGo_zip (s := { s with heap := h' }) z' fun h'' z'' sb => ?_⟩
    have hT2 : h''.get? s.heap.objs.size = some { cls := .type "tuple", data := .seq #[u, u2] } := (sb.2 _ (Nat.ne_of_gt hzl)).trans hT
    have new : ObjOk X.prog X.w (upd H s.heap.objs.size (.tup [x, y])) h'' s.heap.objs.size (.tup [x, y]) :=
      ⟨by show 2 ≤ sizeLine; decide, [u, u2], .cons ru (.cons ru2 .nil), ⟨_, hT2, rfl, _, rfl⟩⟩
    have I1 : Inv X pins σ (upd H s.heap.objs.size (.tup [x, y])) { s with heap := h'' } :=
      I.turnedNew (t' := s.toks) (ch := [z, TI, TO, i1, i2]) (fun c o hb q => (sb.2 c (fun q' => hb (by simp [q']))).trans (hk c o (fun q' => hb (by simp [q'])) (fun q' => hb (by simp [q'])) (fun q' => hb (by simp [q'])) (fun q' => hb (by simp [q'])) q)) hf (Nat.le_refl _) new
    refine ⟨.ref s.heap.objs.size, _, I1, rfl, ⟨_, x, y, rfl, I.hok.fresh (Nat.le_refl _), rfl, fun l hl => by rw [I.list_inj hl hqx]; exact hx, fun l hl => by rw [I.list_inj hl hqy]; exact hy⟩, ⟨z'', ?_, ⟨u, u2, ?_⟩, ?_, ?_⟩, fun c hcm => ?_⟩
    · exact (sb.2 _ D.TIz).trans (hk _ _ D.TIz D.TITO D.TIi1 D.TIi2 hTI)
    · exact (sb.2 _ D.TOz).trans TO'
    · exact h1'.at fun o q => (sb.2 _ D.i1z).trans q
    · exact h2'.at fun o q => (sb.2 _ D.i2z).trans q
    · have hlt : c < s.heap.objs.size := by
        have e' : c = z ∨ c = TI ∨ c = TO ∨ c = i1 ∨ c = i2 := by simpa using hcm
        rcases e' with q | q | q | q | q
        · rw [q]; exact hzl
        · rw [q]; exact Heap.lt_size hTI
        · rw [q]; exact Heap.lt_size hTO
        · rw [q]; obtain ⟨_, e1, _⟩ := h1; exact Heap.lt_size e1
        · rw [q]; obtain ⟨_, e2, _⟩ := h2; exact Heap.lt_size e2
      rw [upd_ne (Nat.ne_of_lt hlt)]
      exact (hf c hcm).1
  done := by
    intro X hP hw hK hc i pins s σ H E I hf st hg
    subst hP hw hK
    obtain ⟨hz, hTI, ⟨x0, y0, hTO⟩, h1, h2⟩ := st
    obtain ⟨xs, ys, hqx, hqy, hend⟩ := hg
    obtain ⟨its, rv, p, _⟩ := I.list hqx
    obtain ⟨its2, rv2, p2, _⟩ := I.list hqy
    have l1 := rv.length
    have l2 := rv2.length
    have he : its.toArray[i]? = none ∨ its2.toArray[i]? = none := by
      rcases hend with q | q
      · exact .inl (by simp; omega)
      · exact .inr (by simp; omega)
    exact wpAny_pyNext_zip_end (I.ok.hd hc) D hz hTI hTO h1 h2 p.isList p2.isList he fun h' hk => ⟨rfl, I.turnedL (t' := s.toks) (ch := [z, TI, TO, i1, i2]) (fun c o hb q =>
      hk c o (fun q' => hb (by simp [q'])) (fun q' => hb (by simp [q'])) (fun q' => hb (by simp [q'])) (fun q' => hb (by simp [q'])) q) hf⟩
  self := fun A i s Q E st h => wpAny_pyIter_zip st.1 h
def iZip (K : PySem.W.Frag) (ta : TA) : TI := fun σ H R => ta σ H fun vs H1 => ∃ a b xs ys, vs = [.ref a, .ref b] ∧ SqL K H1 a xs ∧ SqL K H1 b ys ∧ R (Itz K a b) H1
theorem pi_zip {X : Cx} {e e2 : Expr} {ta : TA} {p pos tpos : Pos} {elts : List Expr} {kk : Nat} (hg : Gl X "zip") (hm : X.mg "zip" = none) (ha : PA X [e, e2] ta)
    (hs : starEach [e, e2] X.env = (false, eval e X.env) :: starEach [e2] X.env := by rfl) (hpl : (backTo pos (starEach [e2] X.env)).any (·.1) = false := by rfl) :
    PI X (.Tuple elts kk tpos) (.Call (.Name "zip" p) [e, e2] [] pos) (iZip X.K ta) := by
  intro pins s σ H R I h
  refine Call_ (ld_blt I hg hm boot_zip5 (PyProof.Rows.callWith_type1 (thn (ha pos pins s σ H _ I h) fun us s1 ⟨vs, H1, I1, r1, q1⟩ => ?_) hs hpl))
  obtain ⟨a, b, xs, ys, ex, hqx, hqy, q⟩ := q1
  subst ex
  cases r1 with
  | cons r rr =>
    cases rr with
    | cons r' rr =>
      cases rr
      cases r
      cases r'
      obtain ⟨its, rv, p1, _⟩ := I1.list hqx
      obtain ⟨its2, rv2, p2, _⟩ := I1.list hqy
      have la : a < s1.heap.objs.size := p1.lt
      have lb : b < s1.heap.objs.size := p2.lt
      refine call_zip_2 p1.isList p2.isList fun h' hz hTI hTO h1 h2 hsz hk => wpAny_pyIter_zip hz ?_
      have I2 : Inv X pins σ H1 { s1 with heap := h' } := I1.kept (t' := s1.toks) hk
      refine ⟨s1.heap.objs.size + 4, [s1.heap.objs.size + 4, s1.heap.objs.size + 2, s1.heap.objs.size + 3, s1.heap.objs.size, s1.heap.objs.size + 1], _, _, H1, rfl, I2, turn_zip (PySem.W.ktu_apart s1.heap.objs.size a b la lb), ⟨hz, hTI, ⟨_, _, hTO⟩, h1, h2⟩, fun c hcm => ?_, q⟩
      have e' : c = s1.heap.objs.size + 4 ∨ c = s1.heap.objs.size + 2 ∨ c = s1.heap.objs.size + 3 ∨ c = s1.heap.objs.size ∨ c = s1.heap.objs.size + 1 := by simpa using hcm
      have hle : s1.heap.objs.size ≤ c := by
        rcases e' with z | z | z | z | z
        · rw [z]; exact Nat.le_add_right _ _
        · rw [z]; exact Nat.le_add_right _ _
        · rw [z]; exact Nat.le_add_right _ _
        · rw [z]; exact Nat.le_refl _
        · rw [z]; exact Nat.le_add_right _ _
      exact I1.fpOk hle (I1.hok.fresh hle)
end L2

section 
namespace Bits
open PySem PyProof.Rows

end Bits
end 

section 
namespace TL
open PySem PySem.Builtin PySem.Builtin.Str PySem.StrLaws

end TL
end 

namespace L2
open PySem PySem.Spec PyProof.Rows

section
variable {X : Cx} {pins : List (Addr × Obj)} {σ : St} {H : Hp} {s : Shared} {Q : VK}
end

section
variable {X : Cx}

end

section
variable {X : Cx} {o e : Expr} {to te : TE}
end
end L2

namespace L2
open PySem PySem.Spec PyProof.Rows

section
variable {X : Cx}
end

end L2

namespace Att
open PySem PySem.W PySem.Calls PyProof.Rows

section
variable {prog : Program} {w : World} {A : Around} {E : Value → Shared → Prop} {s : Shared} {K : Frag}

end
end Att

namespace L2
open PySem PySem.Spec PyProof.Rows

end L2

namespace L2
open PySem PySem.Spec PyProof.Rows

end L2

namespace L2
open PySem PySem.Spec PyProof.Rows

def inClass (s : Stmt) (j : Nat) : Stmt := match s with
  | .ClassDef _ _ _ body _ _ _ _ _ _ _ => body.getD j (.Pass ⟨0, 0, 0, 0⟩)
  | _ => .Pass ⟨0, 0, 0, 0⟩
def defArgs (s : Stmt) : Arguments := match s with
  | .FunctionDef _ a _ _ _ _ _ _ _ _ => a
  | _ => { posonlyargs := [], args := [], vararg := none, kwonlyargs := [], kw_defaults := [], kwarg := none, defaults := [] }
def defBody (s : Stmt) : List Stmt := match s with
  | .FunctionDef _ _ b _ _ _ _ _ _ _ => b
  | _ => []
def defScope (s : Stmt) : Scope := match s with
  | .FunctionDef _ _ _ _ _ _ sc _ _ _ => sc
  | _ => { kind := .function, names := [], isGenerator := false, isCoroutine := false }

abbrev CX0 : CXT := fun _ _ _ _ _ _ => False
abbrev E0 : XK := fun _ _ _ => False
theorem pass0 {X : Cx} : Passes CX0 X E0 := fun _ _ _ _ _ _ _ h => h.elim

structure Fun (K : PySem.W.Frag) (x qual : Str) (st : Stmt) (f : Addr) (fd : FuncData) : Prop where
  ex : ∃ (oc : Value) (od : Option Addr) (kV doc pm : Value) (an : Option Addr) (cdv ct : Value) (osl : Array (Option Value)),
    fd = PySem.W.fnOf x qual (defArgs st) (defBody st) (defScope st) .none kV doc pm an cdv ct ∧ K.lookup f = some ⟨oc, od, .func fd, osl⟩ ∧ PySem.W.codeIn K cdv qual = true
  kp : PySem.W.keepIn K (.ref f) = true
section
variable {P : Program} {w : World} {K : PySem.W.Frag} {mg : Str → Option Value} {base : Heap}
theorem Fun.ok {x qual : Str} {st : Stmt} {f : Addr} {fd : FuncData} {N ps : List Str} {k : Nat} {sp : Sp} (F : Fun K x qual st f fd) (S : FnScope N ps (defScope st)) (len : ∀ vs H Q E, sp vs H Q E → vs.length = ps.length)
    (hbody : ∀ (cdv : Value) (A : Around) (outer : List Env) (s : Shared) (H : Hp) (vs : List V) (Q : VK) (E : XK), Room k (A.deeper (envOfC qual (defScope st) s.heap.objs.size f cdv)) → sp vs H Q E →
      ∃ t, PSs (cxOf CX0 P w K mg base N qual (defScope st) f cdv A outer s H E).nox (defBody st) t ∧ t { nx := fun _ H' => Q .non H', rt := Q } (start N vs) H) : FnOk P w K mg base CX0 (k + 1) f fd ps sp := by
  obtain ⟨oc, od, kV, doc, pm, an, cdv, ct, osl, rfl, lk, hcd⟩ := F.ex
  refine fn_of lk hcd S len fun A outer s H vs Q E hr hsp => ?_
  obtain ⟨t, h, q⟩ := hbody cdv A outer s H vs Q E hr hsp
  exact ⟨t, h.nox, q⟩
theorem Fun.binds {x qual : Str} {st : Stmt} {f : Addr} {fd : FuncData} {ps : List Str} (F : Fun K x qual st f fd)
    (h : ∀ (kV doc pm : Value) (an : Option Addr) (cdv ct : Value) (us : List Value), us.length = ps.length → bindArgs (PySem.W.fnOf x qual (defArgs st) (defBody st) (defScope st) .none kV doc pm an cdv ct) ⟨us, []⟩ = pure (ps.zip us)) : Binds K fd ps [] := by
  obtain ⟨oc, od, kV, doc, pm, an, cdv, ct, osl, rfl, lk, hcd⟩ := F.ex
  exact .all (h kV doc pm an cdv ct)
theorem fun_mk {x qual : Str} {st : Stmt} {f : Addr} {oc : Value} {od an : Option Addr} {osl : Array (Option Value)} {kV doc pm cdv ct : Value} (l : K.lookup f = some ⟨oc, od, .func (PySem.W.fnOf x qual (defArgs st) (defBody st) (defScope st) .none kV doc pm an cdv ct), osl⟩)
    (c : PySem.W.codeIn K cdv qual = true) (k : PySem.W.keepIn K (.ref f) = true) : Fun K x qual st f (PySem.W.fnOf x qual (defArgs st) (defBody st) (defScope st) .none kV doc pm an cdv ct) := ⟨⟨oc, od, kV, doc, pm, an, cdv, ct, osl, rfl, l, c⟩, k⟩
end
theorem small1000 {n : Nat} (h : n ≤ 1000) : n < sizeLine := Nat.lt_of_le_of_lt h (by decide)

section
variable {X : Cx}
theorem pv (i : Nat) {x : Str} {pos : Pos} (hN : X.N[i]? = some x := by rfl) (hv : Vis X.env.scope x := by first | exact Or.inl rfl | exact Or.inr (Or.inl rfl) | exact Or.inr (Or.inr rfl)) (hd : (x == ("__debug__" : Str)) = false := by decide)
    (hcd : (x == ("__classdict__" : Str)) = false := by decide) : PE X (.Name x pos) (tVar i) := pe_var hN hv hd hcd
end

theorem iteF {A B : Prop} (h : B) : if false = true then A else B := by
  rw [if_neg Bool.false_ne_true]
  exact h
theorem iteT {A B : Prop} (h : A) : if true = true then A else B := by
  rw [if_pos rfl]
  exact h
theorem ite2 {c A B : Prop} [Decidable c] (h1 : c → A) (h2 : ¬ c → B) : if c then A else B := by
  by_cases h : c
  · rw [if_pos h]
    exact h1 h
  · rw [if_neg h]
    exact h2 h
def Same (H H' : Hp) : Prop := ∀ b o, H b = some o → H' b = some o
theorem Same.refl (H : Hp) : Same H H := fun _ _ h => h
theorem Same.trans {H H1 H2 : Hp} (a : Same H H1) (b : Same H1 H2) : Same H H2 := fun c o h => b c o (a c o h)
theorem Same.free {H H' : Hp} (e : Same H H') {l : Addr} (h : H' l = Option.none) : H l = Option.none := by
  cases q : H l with
  | none => rfl
  | some o =>
    rw [e l o q] at h
    cases h
section
variable {κ : Type} [DecidableEq κ]
end
theorem sum_take : ∀ {l : List Int} {i : Nat} {z : Int}, l[i]? = some z → (l.take (i + 1)).sum = (l.take i).sum + z
  | [], i, z, h => by simp at h
  | a :: r, 0, z, h => by
    have e : a = z := Option.some.inj h
    subst e
    show ([a] : List Int).sum = ([] : List Int).sum + a
    rw [List.sum_cons]
    exact Int.add_comm _ _
  | a :: r, i + 1, z, h => by
    have ih := sum_take (l := r) (i := i) (z := z) h
    show (a :: r.take (i + 1)).sum = (a :: r.take i).sum + z
    rw [List.sum_cons, List.sum_cons, ih]
    omega
end L2


end

-- part PpSpec
section
section
set_option Elab.async false
set_option linter.all false
set_option maxRecDepth 100000
set_option maxHeartbeats 2000000
namespace L2
open PySem PySem.Spec PyProof.Rows
open PySem.W (WData Codec OpenSpec Well WellAll ReadsW ReadsAllW)
/-! ### an answer as data -/
mutual
/-- x stands for the datum d, lists and tuples all the way -/
inductive Dw (K : PySem.W.Frag) (H : Hp) : V → WData → Prop
  | non : Dw K H .non .none
  | bl (b : Bool) : Dw K H (.bl b) (.bool b)
  | int (i : Int) : Dw K H (.int i) (.int i)
  | str (x : Str) : Dw K H (.str x) (.str x)
  | byt (b : Array UInt8) : Dw K H (.byt b) (.bytes b.toList)
  | lst {a : Addr} {xs : List V} {ds : List WData} : SqL K H a xs → DwAll K H xs ds → Dw K H (.ref a) (.list ds)
  | tup {a : Addr} {xs : List V} {ds : List WData} : SqT K H a xs → DwAll K H xs ds → Dw K H (.ref a) (.tuple ds)
inductive DwAll (K : PySem.W.Frag) (H : Hp) : List V → List WData → Prop
  | nil : DwAll K H [] []
  | cons {v : V} {vs : List V} {d : WData} {ds : List WData} : Dw K H v d → DwAll K H vs ds → DwAll K H (v :: vs) (d :: ds)
end
theorem dw_ints {K : PySem.W.Frag} {H : Hp} : ∀ ns : List Int, DwAll K H (ns.map V.int) (ns.map WData.int)
  | [] => .nil
  | n :: r => .cons (.int n) (dw_ints r)
theorem ints_dw {K : PySem.W.Frag} {H : Hp} : ∀ (ns : List Int) (xs : List V), DwAll K H xs (ns.map WData.int) → xs = ns.map V.int
  | [], xs, h => by
    cases h
    rfl
  | n :: r, xs, h => by
    cases h with
    | cons h1 h2 =>
      cases h1
      rw [ints_dw r _ h2] <;> rfl
section
variable {P : Program} {w : World} {K : PySem.W.Frag} {H : Hp} {h : Heap} {R : PySem.W.WRecords} {cl : Str → Option Addr}
theorem sqL_at {a : Addr} {xs : List V} (hok : HOk P w H h) (KX : K.In h) (q : SqL K H a xs) : ∃ (its : List Value) (o : Obj) (n : Nat), Vals xs its ∧ h.get? a = some o ∧ o.cls = .type "list" ∧ o.data = .seq its.toArray n := by
  rcases q with q | ⟨o, its, n, e, hc, _, hd, _, hv⟩
  · obtain ⟨_, its, n, hv, e⟩ := (show ObjOk P w H h a (.lst xs) from q.ok hok)
    exact ⟨its, _, n, hv, e, rfl, rfl⟩
  · exact ⟨its.toList, o, n, hv, KX _ _ e, hc, by simp [hd]⟩
theorem sqT_at {a : Addr} {xs : List V} (hok : HOk P w H h) (KX : K.In h) (q : SqT K H a xs) : ∃ (its : List Value) (o : Obj) (n : Nat), Vals xs its ∧ h.get? a = some o ∧ o.cls = .type "tuple" ∧ o.data = .seq its.toArray n := by
  rcases q with q | ⟨o, its, n, e, hc, hd, _, hv⟩
  · obtain ⟨_, its, hv, o, e, hc, n, hd⟩ := (show ObjOk P w H h a (.tup xs) from q.ok hok)
    exact ⟨its, o, n, hv, e, hc, hd⟩
  · exact ⟨its.toList, o, n, hv, KX _ _ e, hc, by simp [hd]⟩
mutual
theorem Dw.reads (hok : HOk P w H h) (KX : K.In h) : ∀ (d : WData) (v : V) (u : Value), Dw K H v d → RelV v u → ∃ as, ReadsW R cl h u d as
  | .none, _, _, x, r => by
    cases x
    cases r
    exact ⟨_, ReadsW.none⟩
  | .bool b, _, _, x, r => by
    cases x
    cases r
    exact ⟨_, ReadsW.bool b⟩
  | .int i, _, _, x, r => by
    cases x
    obtain ⟨t, rfl⟩ := r
    exact ⟨_, ReadsW.int i t⟩
  | .str s, _, _, x, r => by
    cases x
    obtain ⟨t, rfl⟩ := r
    exact ⟨_, ReadsW.str s t⟩
  | .bytes b, _, _, x, r => by
    cases x
    obtain ⟨t, rfl⟩ := r
    exact ⟨_, ReadsW.bytes _ t⟩
  | .list ds, _, _, x, r => by
    cases x with
    | lst hs ha =>
      cases r
      obtain ⟨its, o, n, rv, ho, hc, hd⟩ := sqL_at hok KX hs
      obtain ⟨as, hr⟩ := Dw.readsAll hok KX ds _ its ha rv
      exact ⟨_, ReadsW.list ho hc hd hr⟩
  | .tuple ds, _, _, x, r => by
    cases x with
    | tup hs ha =>
      cases r
      obtain ⟨its, o, n, rv, ho, hc, hd⟩ := sqT_at hok KX hs
      obtain ⟨as, hr⟩ := Dw.readsAll hok KX ds _ its ha rv
      exact ⟨_, ReadsW.tuple ho hc hd hr⟩
  | .float _, _, _, x, _ => by cases x
  | .dict _, _, _, x, _ => by cases x
  | .bytearray _, _, _, x, _ => by cases x
  | .set _, _, _, x, _ => by cases x
  | .frozenset _, _, _, x, _ => by cases x
  | .obj _ _, _, _, x, _ => by cases x
theorem Dw.readsAll (hok : HOk P w H h) (KX : K.In h) : ∀ (ds : List WData) (vs : List V) (us : List Value), DwAll K H vs ds → Vals vs us → ∃ as, ReadsAllW R cl h us ds as
  | [], _, _, x, r => by
    cases x
    cases r
    exact ⟨_, ReadsAllW.nil⟩
  | d :: ds, _, _, x, r => by
    cases x with
    | cons h1 h2 =>
      cases r with
      | cons r1 r2 =>
        obtain ⟨as, q1⟩ := Dw.reads hok KX d _ _ h1 r1
        obtain ⟨bs, q2⟩ := Dw.readsAll hok KX ds _ _ h2 r2
        exact ⟨_, ReadsAllW.cons q1 q2⟩
end
end
/-! ### the arguments -/
mutual
/-- data that a codec tells -/
def plW : WData → Bool
  | .none => true
  | .bool _ => true
  | .int _ => true
  | .str _ => true
  | .bytes _ => true
  | .list xs => plWs xs
  | .tuple xs => plWs xs
  | _ => false
def plWs : List WData → Bool
  | [] => true
  | x :: r => plW x && plWs r
end
theorem plWs_map {α : Type} {f : α → WData} (h : ∀ a, plW (f a) = true) : ∀ l : List α, plWs (l.map f) = true
  | [] => rfl
  | x :: r => by
    show (plW (f x) && plWs (r.map f)) = true
    rw [h x, plWs_map h r] <;> rfl
theorem pl_enc : ∀ (c : Codec) (a : c.denote), plW (c.enc a) = true
  | .unit, _ => rfl
  | .bool, _ => rfl
  | .int _ _, _ => rfl
  | .nat _ _, _ => rfl
  | .u8, _ => rfl
  | .bytes _ _, _ => rfl
  | .text _ _ _ _, _ => rfl
  | .list _ _ c, a => plWs_map (fun x => pl_enc c x) a
  | .pair c d, a => by
    show (plW (c.enc a.1) && (plW (d.enc a.2) && true)) = true
    rw [pl_enc c a.1, pl_enc d a.2] <;> rfl
  | .triple c d e, a => by
    show (plW (c.enc a.1) && (plW (d.enc a.2.1) && (plW (e.enc a.2.2) && true))) = true
    rw [pl_enc c a.1, pl_enc d a.2.1, pl_enc e a.2.2] <;> rfl
  | .option c, none => rfl
  | .option c, some x => pl_enc c x
theorem pl_encAll : ∀ (cs : List Codec) (a : Codec.denoteAll cs), plWs (Codec.encAll cs a) = true
  | [], _ => rfl
  | c :: cs, a => by
    show (plW (c.enc a.1) && plWs (Codec.encAll cs a.2)) = true
    rw [pl_enc c a.1, pl_encAll cs a.2] <;> rfl
theorem weight_mem : ∀ {xs : List WData} {d : WData}, d ∈ xs → d.weight ≤ WData.weightAll xs
  | [], d, h => absurd h (by simp)
  | x :: r, d, h => by
    show d.weight ≤ x.weight + 1 + WData.weightAll r
    rcases List.mem_cons.mp h with e | m
    · rw [e]
      omega
    · have z := weight_mem m
      omega
def toV : Value → V
  | .none => .non
  | .bool b => .bl b
  | .int i _ => .int i
  | .str x _ => .str x
  | .bytes b _ => .byt b
  | .ref a => .ref a
  | _ => .non
/-- a value of the arguments, its objects among A -/
def OkU (A : List Addr) : Value → Prop
  | .none => True
  | .bool _ => True
  | .int _ _ => True
  | .str _ _ => True
  | .bytes _ _ => True
  | .ref a => a ∈ A
  | _ => False
theorem OkU.mono {A B : List Addr} (h : ∀ a ∈ A, a ∈ B) : ∀ {u : Value}, OkU A u → OkU B u := fun {u} x => by
  cases u with
  | ref a => exact h a x
  | none => trivial
  | bool b => trivial
  | int i t => trivial
  | str s t => trivial
  | bytes b t => trivial
  | _ => exact False.elim x
theorem relV_toV {A : List Addr} {u : Value} (x : OkU A u) : RelV (toV u) u := by
  cases u with
  | ref a => rfl
  | none => rfl
  | bool b => rfl
  | int i t => exact ⟨t, rfl⟩
  | str s t => exact ⟨t, rfl⟩
  | bytes b t => exact ⟨t, rfl⟩
  | _ => exact False.elim x
theorem vals_toV {A : List Addr} : ∀ {vs : List Value}, (∀ u ∈ vs, OkU A u) → Vals (vs.map toV) vs
  | [], _ => .nil
  | u :: r, h => .cons (relV_toV (h u (List.mem_cons_self ..))) (vals_toV fun x hx => h x (List.mem_cons_of_mem _ hx))
/-- an object of the arguments -/
def ArgOb (h : Heap) (A : List Addr) (a : Addr) : Prop := ∃ vs : List Value, vs.length ≤ sizeLine ∧ (∀ u ∈ vs, OkU A u) ∧
  (h.get? a = some { cls := .type "list", data := .seq vs.toArray } ∨ h.get? a = some { cls := .type "tuple", data := .seq vs.toArray })
theorem ArgOb.mono {h : Heap} {A B : List Addr} {a : Addr} (k : ∀ a ∈ A, a ∈ B) (x : ArgOb h A a) : ArgOb h B a := by
  obtain ⟨vs, h1, h2, h3⟩ := x
  exact ⟨vs, h1, fun u hu => (h2 u hu).mono k, h3⟩
theorem wellAll_len {P : Params} {h : Heap} : ∀ {vs : List Value} {ds : List WData}, WellAll P h vs ds → vs.length = ds.length
  | _, _, .nil => rfl
  | _, _, .cons _ b => by
    show _ + 1 = _ + 1
    rw [wellAll_len b]
theorem well_list {P : Params} {h : Heap} {v : Value} {ds : List WData} (x : Well P h v (.list ds)) : ∃ (a : Addr) (vs : List Value), v = .ref a ∧ h.get? a = some { cls := .type "list", data := .seq vs.toArray } ∧ WellAll P h vs ds := by
  cases x with
  | list ho hall => exact ⟨_, _, rfl, ho, hall⟩
theorem well_tuple {P : Params} {h : Heap} {v : Value} {ds : List WData} (x : Well P h v (.tuple ds)) : ∃ (a : Addr) (vs : List Value), v = .ref a ∧ h.get? a = some { cls := .type "tuple", data := .seq vs.toArray } ∧ WellAll P h vs ds := by
  cases x with
  | tuple ho hall => exact ⟨_, _, rfl, ho, hall⟩
theorem well_cons {P : Params} {h : Heap} {us : List Value} {d : WData} {ds : List WData} (x : WellAll P h us (d :: ds)) : ∃ (v : Value) (vs : List Value), us = v :: vs ∧ Well P h v d ∧ WellAll P h vs ds := by
  cases x with
  | cons a b => exact ⟨_, _, rfl, a, b⟩
theorem line_of {n : Nat} (h : n ≤ 1048576) : n ≤ sizeLine := Nat.le_trans h (by decide)
section
variable {P : Params} {h : Heap}
mutual
theorem area_one : ∀ (d : WData) (v : Value), Well P h v d → plW d = true → d.weight ≤ 1048576 → ∃ A : List Addr, OkU A v ∧ ∀ a ∈ A, ArgOb h A a
  | .none, _, x, _, _ => by
    cases x
    exact ⟨[], trivial, fun a m => absurd m (by simp)⟩
  | .bool b, _, x, _, _ => by
    cases x
    exact ⟨[], trivial, fun a m => absurd m (by simp)⟩
  | .int i, _, x, _, _ => by
    cases x
    exact ⟨[], trivial, fun a m => absurd m (by simp)⟩
  | .str s, _, x, _, _ => by
    cases x
    exact ⟨[], trivial, fun a m => absurd m (by simp)⟩
  | .bytes b, _, x, _, _ => by
    cases x
    exact ⟨[], trivial, fun a m => absurd m (by simp)⟩
  | .list ds, _, x, p, z => by
    obtain ⟨a, vs, rfl, ho, hall⟩ := well_list x
    have z2 : WData.weightAll ds ≤ 1048576 := z
    obtain ⟨A, h1, h2⟩ := area_all ds _ hall p fun d hd => Nat.le_trans (weight_mem hd) z2
    have k : ∀ b ∈ A, b ∈ a :: A := fun b hb => List.mem_cons_of_mem _ hb
    refine ⟨a :: A, List.mem_cons_self .., fun b hb => ?_⟩
    rcases List.mem_cons.mp hb with e | m
    · rw [e]
      exact ⟨vs, line_of (by rw [wellAll_len hall]; exact Nat.le_trans (PySem.W.length_le_weightAllW ds) z2), fun u hu => (h1 u hu).mono k, .inl ho⟩
    · exact (h2 b m).mono k
  | .tuple ds, _, x, p, z => by
    obtain ⟨a, vs, rfl, ho, hall⟩ := well_tuple x
    have z2 : WData.weightAll ds ≤ 1048576 := z
    obtain ⟨A, h1, h2⟩ := area_all ds _ hall p fun d hd => Nat.le_trans (weight_mem hd) z2
    have k : ∀ b ∈ A, b ∈ a :: A := fun b hb => List.mem_cons_of_mem _ hb
    refine ⟨a :: A, List.mem_cons_self .., fun b hb => ?_⟩
    rcases List.mem_cons.mp hb with e | m
    · rw [e]
      exact ⟨vs, line_of (by rw [wellAll_len hall]; exact Nat.le_trans (PySem.W.length_le_weightAllW ds) z2), fun u hu => (h1 u hu).mono k, .inr ho⟩
    · exact (h2 b m).mono k
  | .float _, _, _, p, _ => Bool.noConfusion (show false = true from p)
  | .dict _, _, _, p, _ => Bool.noConfusion (show false = true from p)
  | .bytearray _, _, _, p, _ => Bool.noConfusion (show false = true from p)
  | .set _, _, _, p, _ => Bool.noConfusion (show false = true from p)
  | .frozenset _, _, _, p, _ => Bool.noConfusion (show false = true from p)
  | .obj _ _, _, _, p, _ => Bool.noConfusion (show false = true from p)
theorem area_all : ∀ (ds : List WData) (vs : List Value), WellAll P h vs ds → plWs ds = true → (∀ d ∈ ds, d.weight ≤ 1048576) → ∃ A : List Addr, (∀ u ∈ vs, OkU A u) ∧ ∀ a ∈ A, ArgOb h A a
  | [], _, x, _, _ => by
    cases x
    exact ⟨[], fun u m => absurd m (by simp), fun a m => absurd m (by simp)⟩
  | d :: ds, _, x, p, z => by
    obtain ⟨v, vs, rfl, x1, x2⟩ := well_cons x
    have q : plW d = true ∧ plWs ds = true := Bool.and_eq_true_iff.mp p
    obtain ⟨A, a1, a2⟩ := area_one d v x1 q.1 (z d (List.mem_cons_self ..))
    obtain ⟨B, b1, b2⟩ := area_all ds vs x2 q.2 fun e he => z e (List.mem_cons_of_mem _ he)
    have kA : ∀ b ∈ A, b ∈ A ++ B := fun b hb => List.mem_append.mpr (.inl hb)
    have kB : ∀ b ∈ B, b ∈ A ++ B := fun b hb => List.mem_append.mpr (.inr hb)
    refine ⟨A ++ B, fun u hu => ?_, fun b hb => ?_⟩
    · rcases List.mem_cons.mp hu with e | m
      · rw [e]
        exact a1.mono kA
      · exact (b1 u m).mono kB
    · rcases List.mem_append.mp hb with m | m
      · exact (a2 b m).mono kA
      · exact (b2 b m).mono kB
end
end
/-- what is tracked of an argument's object -/
def hoOf (o : Obj) : Option HO := match o.data with
  | .seq vs _ => if (o.cls == Value.type "list") = true then some (.frz o (.lst (vs.toList.map toV))) else some (.frz o (.tup (vs.toList.map toV)))
  | _ => none
def argH (K : PySem.W.Frag) (h : Heap) (A : List Addr) : Hp := fun b => if b ∈ A then (if (K.lookup b).isNone = true then (h.get? b).bind hoOf else none) else none
/-- nothing is tracked but what is known to the object -/
def OnlyF (H : Hp) : Prop := ∀ b, H b = none ∨ ∃ o u, H b = some (.frz o u)
theorem hoOf_lst (vs : List Value) : hoOf { cls := .type "list", data := .seq vs.toArray } = some (.frz { cls := .type "list", data := .seq vs.toArray } (.lst (vs.map toV))) := by
  show (if (Value.type "list" == Value.type "list") = true then some (HO.frz { cls := .type "list", data := .seq vs.toArray } (.lst (vs.toArray.toList.map toV))) else some (HO.frz { cls := .type "list", data := .seq vs.toArray } (.tup (vs.toArray.toList.map toV)))) = _
  rw [if_pos (beq_self_eq_true _)]
theorem hoOf_tup (vs : List Value) : hoOf { cls := .type "tuple", data := .seq vs.toArray } = some (.frz { cls := .type "tuple", data := .seq vs.toArray } (.tup (vs.map toV))) := by
  show (if (Value.type "tuple" == Value.type "list") = true then some (HO.frz { cls := .type "tuple", data := .seq vs.toArray } (.lst (vs.toArray.toList.map toV))) else some (HO.frz { cls := .type "tuple", data := .seq vs.toArray } (.tup (vs.toArray.toList.map toV)))) = _
  rw [if_neg (by decide)]
section
variable {P : Program} {w : World} {K : PySem.W.Frag} {h : Heap} {A : List Addr}
theorem argH_at {b : Addr} {o : Obj} (hb : b ∈ A) (hk : K.lookup b = none) (e : h.get? b = some o) : argH K h A b = hoOf o := by
  unfold argH
  rw [if_pos hb, hk, if_pos (show (none : Option Obj).isNone = true from rfl), e] <;> rfl
theorem of_argH {b : Addr} {u : HO} (q : argH K h A b = some u) : b ∈ A ∧ K.lookup b = none := by
  unfold argH at q
  by_cases hb : b ∈ A
  · rw [if_pos hb] at q
    cases hk : K.lookup b with
    | none => exact ⟨hb, rfl⟩
    | some o =>
      rw [hk, if_neg (by simp)] at q
      cases q
  · rw [if_neg hb] at q
    cases q
/-- what stands tracked -/
theorem argH_is (ar : ∀ a ∈ A, ArgOb h A a) {b : Addr} {u : HO} (q : argH K h A b = some u) : K.lookup b = none ∧ ∃ vs : List Value, vs.length ≤ sizeLine ∧ (∀ u ∈ vs, OkU A u) ∧
    ((h.get? b = some { cls := .type "list", data := .seq vs.toArray } ∧ u = .frz { cls := .type "list", data := .seq vs.toArray } (.lst (vs.map toV))) ∨
     (h.get? b = some { cls := .type "tuple", data := .seq vs.toArray } ∧ u = .frz { cls := .type "tuple", data := .seq vs.toArray } (.tup (vs.map toV)))) := by
  obtain ⟨hb, hk⟩ := of_argH q
  obtain ⟨vs, h1, h2, h3⟩ := ar b hb
  refine ⟨hk, vs, h1, h2, ?_⟩
  rcases h3 with e | e
  · rw [argH_at hb hk e, hoOf_lst] at q
    exact .inl ⟨e, (Option.some.inj q).symm⟩
  · rw [argH_at hb hk e, hoOf_tup] at q
    exact .inr ⟨e, (Option.some.inj q).symm⟩
theorem argH_only (ar : ∀ a ∈ A, ArgOb h A a) : OnlyF (argH K h A) := fun b => by
  cases q : argH K h A b with
  | none => exact .inl rfl
  | some u =>
    obtain ⟨_, vs, _, _, ⟨_, e⟩ | ⟨_, e⟩⟩ := argH_is ar q
    · exact .inr ⟨_, _, by rw [e]⟩
    · exact .inr ⟨_, _, by rw [e]⟩
theorem argH_ok (ar : ∀ a ∈ A, ArgOb h A a) : HOk P w (argH K h A) h := fun b u q => by
  obtain ⟨_, vs, h1, h2, ⟨e, rfl⟩ | ⟨e, rfl⟩⟩ := argH_is ar q
  · exact ⟨e, by rw [List.length_map]; exact h1, vs, _, vals_toV h2, e⟩
  · exact ⟨e, by rw [List.length_map]; exact h1, vs, vals_toV h2, _, e, rfl, _, rfl⟩
theorem seq_inj {c c' : Value} {vs us : List Value} (e : (some { cls := c, data := .seq vs.toArray } : Option Obj) = some { cls := c', data := .seq us.toArray }) : c = c' ∧ vs = us := by
  have e1 := Option.some.inj e
  have e2 : c = c' := congrArg Obj.cls e1
  have e3 : Data.seq vs.toArray = Data.seq us.toArray := congrArg Obj.data e1
  injection e3 with e4
  refine ⟨e2, ?_⟩
  have e5 := congrArg Array.toList e4
  simpa using e5
/-- a list argument -/
theorem argL (KX : K.In h) (ar : ∀ a ∈ A, ArgOb h A a) {a : Addr} {vs : List Value} (ha : a ∈ A) (e : h.get? a = some { cls := .type "list", data := .seq vs.toArray }) : (∀ u ∈ vs, OkU A u) ∧ SqL K (argH K h A) a (vs.map toV) := by
  obtain ⟨us, h1, h2, h3⟩ := ar a ha
  have hu : us = vs := by
    rcases h3 with q | q
    · rw [e] at q
      exact (seq_inj q).2.symm
    · rw [e] at q
      exact absurd (Value.type.inj (seq_inj q).1) (by decide)
  subst hu
  refine ⟨h2, ?_⟩
  cases hk : K.lookup a with
  | none => exact .inl (.inr ⟨_, by rw [argH_at ha hk e, hoOf_lst]⟩)
  | some o =>
    have e2 := KX a o hk
    rw [e] at e2
    obtain rfl := Option.some.inj e2
    exact .inr ⟨_, us.toArray, _, hk, rfl, rfl, rfl, by rw [List.size_toArray]; exact h1, by simpa using vals_toV h2⟩
theorem argT (KX : K.In h) (ar : ∀ a ∈ A, ArgOb h A a) {a : Addr} {vs : List Value} (ha : a ∈ A) (e : h.get? a = some { cls := .type "tuple", data := .seq vs.toArray }) : (∀ u ∈ vs, OkU A u) ∧ SqT K (argH K h A) a (vs.map toV) := by
  obtain ⟨us, h1, h2, h3⟩ := ar a ha
  have hu : us = vs := by
    rcases h3 with q | q
    · rw [e] at q
      exact absurd (Value.type.inj (seq_inj q).1) (by decide)
    · rw [e] at q
      exact (seq_inj q).2.symm
  subst hu
  refine ⟨h2, ?_⟩
  cases hk : K.lookup a with
  | none => exact .inl (.inr ⟨_, by rw [argH_at ha hk e, hoOf_tup]⟩)
  | some o =>
    have e2 := KX a o hk
    rw [e] at e2
    obtain rfl := Option.some.inj e2
    exact .inr ⟨_, us.toArray, _, hk, rfl, rfl, by rw [List.size_toArray]; exact h1, by simpa using vals_toV h2⟩
mutual
theorem dw_one {Pm : Params} (KX : K.In h) (ar : ∀ a ∈ A, ArgOb h A a) : ∀ (d : WData) (v : Value), Well Pm h v d → plW d = true → OkU A v → Dw K (argH K h A) (toV v) d
  | .none, _, x, _, _ => by
    cases x
    exact .non
  | .bool b, _, x, _, _ => by
    cases x
    exact .bl b
  | .int i, _, x, _, _ => by
    cases x
    exact .int i
  | .str s, _, x, _, _ => by
    cases x
    exact .str s
  | .bytes b, _, x, _, _ => by
    cases x
    have z := Dw.byt (K := K) (H := argH K h A) b.toArray
    exact z
  | .list ds, _, x, p, hu => by
    obtain ⟨a, vs, rfl, ho, hall⟩ := well_list x
    obtain ⟨h2, hs⟩ := argL KX ar hu ho
    exact .lst hs (dw_all KX ar ds _ hall p h2)
  | .tuple ds, _, x, p, hu => by
    obtain ⟨a, vs, rfl, ho, hall⟩ := well_tuple x
    obtain ⟨h2, hs⟩ := argT KX ar hu ho
    exact .tup hs (dw_all KX ar ds _ hall p h2)
  | .float _, _, _, p, _ => Bool.noConfusion (show false = true from p)
  | .dict _, _, _, p, _ => Bool.noConfusion (show false = true from p)
  | .bytearray _, _, _, p, _ => Bool.noConfusion (show false = true from p)
  | .set _, _, _, p, _ => Bool.noConfusion (show false = true from p)
  | .frozenset _, _, _, p, _ => Bool.noConfusion (show false = true from p)
  | .obj _ _, _, _, p, _ => Bool.noConfusion (show false = true from p)
theorem dw_all {Pm : Params} (KX : K.In h) (ar : ∀ a ∈ A, ArgOb h A a) : ∀ (ds : List WData) (vs : List Value), WellAll Pm h vs ds → plWs ds = true → (∀ u ∈ vs, OkU A u) → DwAll K (argH K h A) (vs.map toV) ds
  | [], _, x, _, _ => by
    cases x
    exact .nil
  | d :: ds, _, x, p, hu => by
    obtain ⟨v, vs, rfl, x1, x2⟩ := well_cons x
    have q : plW d = true ∧ plWs ds = true := Bool.and_eq_true_iff.mp p
    exact .cons (dw_one KX ar d v x1 q.1 (hu _ (List.mem_cons_self ..))) (dw_all KX ar ds vs x2 q.2 fun u m => hu u (List.mem_cons_of_mem _ m))
end
end
/-! ### the call -/
theorem spec_call {P : Program} {w : World} {K : PySem.W.Frag} {mg mb : Str → Option Value} {CX : CXT} {k : Nat} {fa : Addr} {fd : FuncData} {ps : List Str} {sp : Sp} {s₁ : Shared} {vals : List Value} {ds : List WData} {R : PySem.W.WRecords} {cl : Str → Option Addr} {d0 : WData}
    (KX : K.In s₁.heap) (hns : s₁.heap.Ns mainGlobals mg) (hb : s₁.heap.Ns builtinsNs mb) (hbb : ∀ x : Str, x ≠ "__name__" → mb x = bootBuiltins x) (hlim : s₁.heap.NoLimit) (hg : s₁.gens = #[])
    (hwl : WellAll w.params s₁.heap vals ds) (hpl : plWs ds = true) (hwt : ∀ d ∈ ds, d.weight ≤ 1048576) (hr : Room k callerA)
    (F : ∀ base : Heap, K.In base → base.Ns mainGlobals mg → FnOk P w K mg base CX k fa fd ps sp) (hbind : ∀ (s : Shared) (us : List Value), us.length = ps.length → BindsTo s fd ⟨us, []⟩ (ps.zip us)) (hlen : ds.length = ps.length)
    (hsp : ∀ (H : Hp) (xs : List V), OnlyF H → DwAll K H xs ds → sp xs H (fun v H' => Dw K H' v d0) fun _ _ _ => False)
    (hCX : ∀ H e s', CX [] H s₁ (fun _ _ _ => False) e s' → False) :
    codeAny (model P w) callerA (.call (.ref fa) ⟨vals, []⟩) (fun r s' => ∃ u as, r = .ok (.ret u) ∧ ReadsW R cl s'.heap u d0 as ∧ OldK s₁.heap s'.heap ∧ s'.os = s₁.os ∧ AllBare s'.gens) s₁ := by
  obtain ⟨A, ho, ar⟩ := area_all ds vals hwl hpl hwt
  have hO : OnlyF (argH K s₁.heap A) := argH_only ar
  have hok : HOk P w (argH K s₁.heap A) s₁.heap := argH_ok ar
  have hS := dw_all KX ar ds vals hwl hpl ho
  have hV := vals_toV ho
  have hK : ∀ b u, argH K s₁.heap A b = some u → K.lookup b = none := fun b u q => (argH_is ar q).1
  have noA : ∀ {b : Addr} {o : Obj} {es : Array DictEntry} {ep : Nat}, s₁.heap.get? b = some o → o.data = .dict es ep → argH K s₁.heap A b = none := fun {b o es ep} e d => by
    cases q : argH K s₁.heap A b with
    | none => rfl
    | some u =>
      obtain ⟨_, vs, _, _, ⟨e2, _⟩ | ⟨e2, _⟩⟩ := argH_is ar q
      · rw [e2] at e
        cases e
        have d' : Data.seq vs.toArray _ = Data.dict es ep := d
        cases d'
      · rw [e2] at e
        cases e
        have d' : Data.seq vs.toArray _ = Data.dict es ep := d
        cases d'
  generalize argH K s₁.heap A = H at hO hok hS hK noA
  have base_of : ∀ {b : Addr} {o : Obj}, s₁.heap.get? b = some o → H b = none → (hidT s₁.heap H).get? b = some o := fun e n => hidT_get e n
  have nsK : ∀ {b : Addr} {m : Str → Option Value}, s₁.heap.Ns b m → (hidT s₁.heap H).Ns b m := fun {b m} ⟨o, es, ep, e, d, r⟩ => ⟨o, es, ep, base_of e (noA e d), d, r⟩
  have nK : ∀ b o, K.lookup b = some o → H b = none := fun b o e => by
    cases q : H b with
    | none => rfl
    | some u =>
      rw [hK b u q] at e
      cases e
  have hKb : K.In (hidT s₁.heap H) := fun b o e => base_of (KX b o e) (nK b o e)
  have hM : Mod K mg (hidT s₁.heap H) := ⟨hKb, nsK hns, ⟨mb, nsK hb, hbb⟩, let ⟨mc, h1, h2⟩ := hlim; ⟨mc, nsK h1, h2⟩⟩
  have e0 : Env0 P w K mg (hidT s₁.heap H) callerA [] s₁ H := ⟨rfl, hM, fun b o e => of_hidT e, Nat.le_of_eq (hidT_size _ _), trivial, fun b hb => absurd (show b ∈ ([] : List Addr) from hb) (by simp), hok, .of_eq hg⟩
  have hl : vals.length = ps.length := by rw [wellAll_len hwl]; exact hlen
  refine codeAny_mono ((F _ hKb (nsK hns)).run callerA [] s₁ H ⟨vals, []⟩ vals (vals.map toV) _ _ hr e0 (hbind s₁ vals hl) hV (hsp H _ hO hS)) fun r s' x => ?_
  cases r with
  | error e => exact (hCX H e s' x).elim
  | ok fl =>
    cases fl with
    | next => exact False.elim x
    | brk => exact False.elim x
    | cont => exact False.elim x
    | ret u =>
      obtain ⟨v, H', os, bare, un, hok', r', q⟩ := x
      have kept : ∀ b o, s₁.heap.get? b = some o → s'.heap.get? b = some o := fun b o e => by
        cases q2 : H b with
        | none => exact un.keep b o e q2 (by intro z; exact absurd (show b ∈ ([] : List Addr) from z) (by simp)) (by simp)
        | some u2 =>
          rcases hO b with z | ⟨ob, u3, z⟩
          · rw [q2] at z
            cases z
          · have z2 := un.frzs b ob _ z
            obtain ⟨e1, _⟩ := hok b _ z
            obtain ⟨e2, _⟩ := hok' b _ z2
            rw [e] at e1
            cases e1
            exact e2
      have KX' : K.In s'.heap := fun b o e => kept b o (KX b o e)
      obtain ⟨as, hrd⟩ := Dw.reads (R := R) (cl := cl) hok' KX' d0 v u q r'
      exact ⟨u, as, rfl, hrd, OldK.of_keep kept, os, bare⟩
/-! ### the row -/
theorem layable_weight {ds : List WData} (h : WData.layableAll ds = true) : ∀ d ∈ ds, d.weight ≤ 1048576 := fun d hd =>
  (PySem.W.layableW_iff.mp (List.all_eq_true.mp h d hd)).2.2
theorem encAll_len : ∀ (cs : List Codec) (a : Codec.denoteAll cs), (Codec.encAll cs a).length = cs.length
  | [], _ => rfl
  | c :: cs, a => by
    show (Codec.encAll cs a.2).length + 1 = cs.length + 1
    rw [encAll_len cs a.2]
/-- the goal that k_headS leaves (case hc), from the promise of the row's def: whatever the arguments that the codecs let and the row asks for, the def gives what stands for enc (f ..) -/
theorem walk_spec {r : OpenSpec} {k : Nat} {q : Program} {loose : List Str} {XP : (Str → Option Value) → Heap → Prop} {YP : World → Heap → Prop} {d : DefRec} {K : Params → PySem.W.Frag} {CX : World → CXT} {ps : List Str} {sp : World → Sp}
    (hwell : r.wellSaid = true) (hdf : d.params.defaults = []) (hlen : r.args.length = ps.length) (hr : Room k callerA)
    (hY : ∀ (w : World) (h : Heap), YP w h → (K w.params).In h)
    (F : ∀ (w : World) (mg : Str → Option Value) (fa : Addr) (h : Heap), YP w h → (K w.params).In h → h.Ns mainGlobals mg → mg d.name = some (.ref fa) →
      ∃ fd : FuncData, (∀ (s : Shared) (us : List Value), us.length = ps.length → BindsTo s fd ⟨us, []⟩ (ps.zip us)) ∧
        ∀ base : Heap, (K w.params).In base → base.Ns mainGlobals mg → FnOk r.prog w (K w.params) mg base (CX w) k fa fd ps (sp w))
    (hsp : ∀ (w : World) (H : Hp) (xs : List V) (a : Codec.denoteAll r.args), OnlyF H → Codec.withinAll r.args a = true → Codec.app r.args r.asked a = true → DwAll (K w.params) H xs (Codec.encAll r.args a) →
      sp w xs H (fun v H' => Dw (K w.params) H' v (r.ret.enc (Codec.app r.args r.f a))) fun _ _ _ => False)
    (hCX : ∀ (w : World) (H : Hp) (s : Shared) (e : Value) (s' : Shared), CX w [] H s (fun _ _ _ => False) e s' → False) :
    PySem.W.WalkOS q loose XP YP r d [] (fun f vs => PySem.call f vs) := by
  intro w s_0 s₁ mg mb G Y fa o pm cd doc dV kV ho hd hcd hD hmg hg args vals as hpre hlay hrd hwl hlo
  obtain ⟨a, e1, e2⟩ := PySem.W.os_pre_some hpre
  obtain ⟨e3, hwi⟩ := Codec.encAll_of_decAll r.args args a e1
  subst e3
  have KX := hY w _ Y
  obtain ⟨fd, hb, hF⟩ := F w mg fa _ Y KX G.T.g hmg
  refine PySem.W.enter_call (codeAny_mono (spec_call (R := []) (cl := classAt s_0.heap) (d0 := r.ret.enc (Codec.app r.args r.f a)) KX G.T.g G.T.b G.T.builtins G.T.nolimit hg hwl (pl_encAll _ _) (layable_weight hlay) hr hF hb (by rw [encAll_len]; exact hlen)
    (fun H xs hO hS => hsp w H xs a hO hwi e2 hS) fun H e s' => hCX w H s₁ e s') fun r' s' hq => ?_)
  obtain ⟨u, as', rfl, h1, h2, h3, h4⟩ := hq
  exact ⟨.inl ⟨u, _, as', rfl, fun _ => rfl, h1, (OpenSpec.post_iff hwell hwi _ _).mpr rfl, fun z => Bool.noConfusion (show false = true from z)⟩, h2, h3, h4⟩
/-- the same where the promise hangs on the written part alone -/
theorem walk_specK {r : OpenSpec} {k : Nat} {q : Program} {loose : List Str} {XP : (Str → Option Value) → Heap → Prop} {YP : World → Heap → Prop} {d : DefRec} {K : Params → PySem.W.Frag} {CX : CXT} {ps : List Str} {sp : PySem.W.Frag → Sp}
    (hwell : r.wellSaid = true) (hdf : d.params.defaults = []) (hlen : r.args.length = ps.length) (hr : Room k callerA)
    (hY : ∀ (w : World) (h : Heap), YP w h → (K w.params).In h)
    (F : ∀ (w : World) (mg : Str → Option Value) (fa : Addr) (h : Heap), YP w h → (K w.params).In h → h.Ns mainGlobals mg → mg d.name = some (.ref fa) →
      ∃ fd : FuncData, (∀ (s : Shared) (us : List Value), us.length = ps.length → BindsTo s fd ⟨us, []⟩ (ps.zip us)) ∧
        ∀ base : Heap, (K w.params).In base → base.Ns mainGlobals mg → FnOk r.prog w (K w.params) mg base CX k fa fd ps (sp (K w.params)))
    (hsp : ∀ (K : PySem.W.Frag) (H : Hp) (xs : List V) (a : Codec.denoteAll r.args), OnlyF H → Codec.withinAll r.args a = true → Codec.app r.args r.asked a = true → DwAll K H xs (Codec.encAll r.args a) →
      sp K xs H (fun v H' => Dw K H' v (r.ret.enc (Codec.app r.args r.f a))) fun _ _ _ => False)
    (hCX : ∀ (H : Hp) (s : Shared) (e : Value) (s' : Shared), CX [] H s (fun _ _ _ => False) e s' → False) :
    PySem.W.WalkOS q loose XP YP r d [] (fun f vs => PySem.call f vs) :=
  walk_spec (K := K) (CX := fun _ => CX) (sp := fun w => sp (K w.params)) hwell hdf hlen hr hY F (fun w H xs a h1 h2 h3 h4 => hsp (K w.params) H xs a h1 h2 h3 h4) fun _ H s e s' => hCX H s e s'
end L2
end

end

-- part PpExc
section
set_option Elab.async false
set_option linter.all false
set_option maxRecDepth 100000
set_option maxHeartbeats 2000000
namespace L2
open PySem PySem.Spec PyProof.Rows

/-! ### an error that flies: its object e (and its trace entry) are new to the heap h0 and to the pins ps -/
def FlyT (h0 : Heap) (ps : List (Addr × Obj)) (e : Addr) (cls : Value) (H : Hp) (h : Heap) : Prop :=
  ∃ (oe : Obj) (vs : Array Value) (a0 : Value), (h.get? e = some oe ∧ oe.cls = cls ∧ oe.data = .fields vs ∧ vs[0]? = some a0 ∧ H e = none ∧ h0.get? e = none ∧ ∀ p ∈ ps, p.1 ≠ e) ∧
    ∃ (T : Addr) (oT : Obj) (ts : Array Value) (fl : Value), vs[1]? = some (.ref T) ∧ T ≠ e ∧ h0.get? T = none ∧ H T = none ∧ (∀ p ∈ ps, p.1 ≠ T) ∧ h.get? T = some oT ∧ oT.data = .fields ts ∧ ts[3]? = some fl
def Fly (h0 : Heap) (ps : List (Addr × Obj)) (e : Addr) (cls : Value) (H : Hp) (h : Heap) : Prop :=
  FlyT h0 ps e cls H h ∨ ∃ (oe : Obj) (vs : Array Value) (a0 : Value), (h.get? e = some oe ∧ oe.cls = cls ∧ oe.data = .fields vs ∧ vs[0]? = some a0 ∧ H e = none ∧ h0.get? e = none ∧ ∀ p ∈ ps, p.1 ≠ e) ∧ vs[1]? = some .none
theorem FlyT.mono {h0 h1 : Heap} {ps qs : List (Addr × Obj)} {e : Addr} {cls : Value} {H : Hp} {h : Heap} (F : FlyT h0 ps e cls H h) (k : ∀ b o, h1.get? b = some o → ∃ o', h0.get? b = some o') (kp : ∀ p ∈ qs, p ∈ ps ∨ ∃ o, h0.get? p.1 = some o) : FlyT h1 qs e cls H h := by
  have nn : ∀ {b : Addr}, h0.get? b = none → h1.get? b = none := fun {b} q => by
    cases z : h1.get? b with
    | none => rfl
    | some o => obtain ⟨o', z'⟩ := k b o z; rw [q] at z'; cases z'
  have pp : ∀ {b : Addr}, h0.get? b = none → (∀ p ∈ ps, p.1 ≠ b) → ∀ p ∈ qs, p.1 ≠ b := fun {b} q r p hp z => by
    rcases kp p hp with y | ⟨o, y⟩
    · exact r p y z
    · rw [z, q] at y; cases y
  obtain ⟨oe, vs, a0, ⟨c1, c2, c3, c4, c5, c6, c7⟩, T, oT, ts, fl, d1, d2, d3, d4, d5, d6⟩ := F
  exact ⟨oe, vs, a0, ⟨c1, c2, c3, c4, c5, nn c6, pp c6 c7⟩, T, oT, ts, fl, d1, d2, nn d3, d4, pp d3 d5, d6⟩

section
variable {M : Model} {A : Around} {E : Value → Shared → Prop} {s : Shared}
/-- noteFrame, whatever the error's trace is -/
theorem note_loose {base : Heap} {env : Env} {outer : List Env} {L e : Addr} {oe : Obj} {vs : Array Value} {a0 : Value} {Q : Unit → Shared → Prop}
    (hfr : A.frames = some (env :: outer)) (hl : s.heap.FunFrames base (env :: outer)) (hf : env.frame = some L)
    (he : s.heap.get? e = some oe) (hd : oe.data = .fields vs) (h0 : vs[0]? = some a0) (hkb : base.StaysIn s.heap) (hen : base.get? e = none)
    (htr : vs[1]? = some .none ∨ ∃ (T : Addr) (oT : Obj) (ts : Array Value) (fl : Value), vs[1]? = some (.ref T) ∧ T ≠ e ∧ base.get? T = none ∧ s.heap.get? T = some oT ∧ oT.data = .fields ts ∧ ts[3]? = some fl)
    (h : ∀ h', Heap.HeldW base (env :: outer) e oe.cls a0 L h' → s.heap.UpToSlots h' → Q () { s with heap := h' }) : wpAny M A (noteFrame (.ref e) env) Q E s := by
  rcases htr with h1 | ⟨T, oT, ts, fl, h1, hTe, hnT, hT, hdT, h3⟩
  · unfold noteFrame
    simp only [hf]
    refine wpAny_bind (wpAny_field he hd h1 ?_)
    rw [if_neg (by decide)]
    exact wpAny_entryW hfr hl hf he hkb hen hd (Array.getElem?_eq_some_iff.mp h1).1 h0 fun h' ⟨k1, k2, k3, k4⟩ => h h' ⟨k1, hen, k2, k3⟩ k4
  · by_cases hfl : fl = rawInt L
    · subst hfl
      refine wpAny_noteFrame_againW (base := base) (cls := oe.cls) (a0 := a0) hf ⟨oe, vs, T, oT, ts, he, ⟨rfl, h0⟩, hd, h1, hnT, hTe, hT, hdT, h3⟩ ?_
      exact h s.heap ⟨hkb, hen, hl, oe, vs, T, oT, ts, he, ⟨rfl, h0⟩, hd, h1, hnT, hTe, hT, hdT, h3⟩ (Heap.UpToSlots.refl _)
    · unfold noteFrame
      simp only [hf]
      refine wpAny_bind (wpAny_field he hd h1 ?_)
      rw [if_pos (show (Value.ref T != Value.none) = true from by simp)]
      refine wpAny_bind (wpAny_field hT hdT h3 ?_)
      rw [if_neg (show ¬ ((fl == rawInt L) = true) from by simpa using hfl)]
      refine wpAny_bind (wpAny_setField hT hdT (Array.getElem?_eq_some_iff.mp h3).1 ?_)
      have other : ∀ b, b ≠ T → (s.heap.update T (Obj.mapFields (·.setIfInBounds 3 Value.none))).get? b = s.heap.get? b := fun b hb => Heap.get?_update_other _ _ (Ne.symm hb)
      have noRecord : ∀ b o, s.heap.get? b = some o → (∀ vs, o.data ≠ .fields vs) → b ≠ T := fun b o hb hnf q => by
        rw [q, hT] at hb; injection hb with hb; subst hb; exact hnf ts hdT
      refine wpAny_entryW hfr (hl.of_keeps fun b o hb hnf => ⟨o, (other b (noRecord b o hb hnf)).trans hb, rfl⟩) hf ((other e (Ne.symm hTe)).trans he)
        (fun b o hbo => (other b fun q => by rw [q, hnT] at hbo; cases hbo).trans (hkb b o hbo)) hen hd (Array.getElem?_eq_some_iff.mp h1).1 h0
        fun h' ⟨x1, x2, x3, x4⟩ => h h' ⟨x1, hen, x2, x3⟩ fun b o hb hnf => x4 b o ((other b (noRecord b o hb hnf)).trans hb) hnf
theorem noteFrame_frame {e : Value} {env env' : Env} (h : env'.frame = env.frame) : noteFrame e env' = noteFrame e env := by
  unfold noteFrame PySem.frameOf
  rw [h]
end

section
variable {X : Cx} {σ : St} {H : Hp} {s : Shared} {e : Addr} {cls : Value} {h0 : Heap}
/-- the error's own objects, the frames: all else is kept -/
def hidden (X : Cx) (e : Addr) (T : List Addr) : List Addr := frs X.stack ++ e :: T
theorem Inv.flown {T : List Addr} {h' : Heap} (I : Inv X [] σ H s) (k0 : ∀ b o, X.s_0.heap.get? b = some o → ∃ o', h0.get? b = some o') (he : h0.get? e = none) (hT : ∀ b ∈ T, h0.get? b = none) (hHe : H e = none) (hHT : ∀ b ∈ T, H b = none)
    (hpe : ∀ p ∈ X.pn, p.1 ≠ e) (hpT : ∀ p ∈ X.pn, ∀ b ∈ T, p.1 ≠ b)
    (hk : (PySem.W.hideAll s.heap (hidden X e T)).StaysIn h') (hs : s.heap.UpToSlots h') : Inv X [] σ H { s with heap := h' } := by
  have frz : ∀ b ∈ frs X.stack, ∀ o, s.heap.get? b = some o → ∀ vs, o.data ≠ .fields vs := fun b hb o q => by
    obtain ⟨_, o', ho', hn⟩ := I.stack.mem hb
    rw [q] at ho'; cases ho'; exact hn
  have keep : ∀ b o, s.heap.get? b = some o → b ∉ frs X.stack → b ≠ e → b ∉ T → h'.get? b = some o := fun b o q n1 n2 n3 =>
    hk b o (PySem.W.hideAll_get _ q fun hm => by
      unfold hidden at hm
      rcases List.mem_append.mp hm with z | z
      · exact n1 z
      · rcases List.mem_cons.mp z with z | z
        · exact n2 z
        · exact n3 z)
  have any : ∀ b o, s.heap.get? b = some o → b ≠ e → b ∉ T → ∃ sl, h'.get? b = some { o with slots := sl } := fun b o q n2 n3 => by
    by_cases hb : b ∈ frs X.stack
    · exact hs b o q (frz b hb o q)
    · exact ⟨o.slots, keep b o q hb n2 n3⟩
  have old : ∀ b o, X.s_0.heap.get? b = some o → b ≠ e ∧ b ∉ T := fun b o q => by
    obtain ⟨o', z⟩ := k0 b o q
    exact ⟨fun y => (by rw [y, he] at z; cases z), fun y => (by rw [hT b y] at z; cases z)⟩
  have lnot : ∀ b o, X.s_0.heap.get? b = some o → b ≠ X.env.locals := fun b o q => Nat.ne_of_lt (Nat.lt_of_lt_of_le (Heap.lt_size q) I.ok.above)
  have cl : ∀ {c v}, s.heap.IsCell c v → Heap.IsCell h' c v := fun {c v} ⟨o, ho, hd⟩ => by
    obtain ⟨sl, z⟩ := hs c o ho fun vs q => by rw [hd] at q; cases q
    exact ⟨_, z, hd⟩
  refine ⟨I.ok, I.os, I.bare, ⟨fun b o q n hb hx => ?_, fun b o q n hb hx => ?_, I.base.free, fun b o q hx => ?_, I.base.tups, I.base.frzs, I.base.tbls⟩, ?_, fun x c z => ?_, I.free, I.freeC, fun p hp => ?_, fun b u q => ?_, I.len⟩
  · refine keep b o (I.base.keep b o q n hb hx) (fun z => ?_) (old b o q).1 (old b o q).2
    rcases List.mem_cons.mp (I.stkSub b z) with z | z
    · exact lnot b o q z
    · exact hb z
  · obtain ⟨sl, z⟩ := I.base.slot b o q n hb hx
    obtain ⟨sl', z'⟩ := any b _ z (old b o q).1 (old b o q).2
    exact ⟨sl', z'⟩
  · obtain ⟨o', z⟩ := I.base.there b o q hx
    obtain ⟨sl', z'⟩ := any b _ z (old b o q).1 (old b o q).2
    exact ⟨_, z'⟩
  · obtain ⟨m, hn, hl⟩ := I.loc
    refine ⟨m, hs.ns hn, fun i x v e1 e2 e3 => ?_⟩
    obtain ⟨u, r, q⟩ := hl i x v e1 e2 e3
    refine ⟨u, r, ?_⟩
    rcases q with q | ⟨k, c, z, y⟩
    · exact .inl q
    · exact .inr ⟨k, c, z, cl y⟩
  · obtain ⟨v, y⟩ := I.cell x c z
    exact ⟨v, cl y⟩
  · obtain ⟨q1, q2, q3, q4, q5⟩ := I.pin p hp
    have hp' : p ∈ X.pn := by simpa using hp
    refine ⟨keep p.1 p.2 q1 (fun z => ?_) (hpe p hp') (fun z => hpT p hp' _ z rfl), q2, q3, q4, q5⟩
    rcases List.mem_cons.mp (I.stkSub p.1 z) with z | z
    · exact q3 z
    · exact q4 z
  · refine (I.hok b u q).stay (fun c w hc z => keep c w z ?_ ?_ ?_) (fun _ z => z) fun _ _ z => z
    · intro hm
      have := I.stkFree c hm
      rcases hc with rfl | hc
      · rw [this] at q; cases q
      · rw [this] at hc; cases hc
    · rintro rfl
      rcases hc with rfl | hc
      · rw [hHe] at q; cases q
      · rw [hHe] at hc; cases hc
    · intro hm
      have := hHT c hm
      rcases hc with rfl | hc
      · rw [this] at q; cases q
      · rw [this] at hc; cases hc

theorem ObjOk.there {P : Program} {w : World} {H : Hp} {h : Heap} {a : Addr} {o : HO} (x : ObjOk P w H h a o) : ∃ ob, h.get? a = some ob := by
  cases o with
  | lst xs => obtain ⟨_, _, _, _, e⟩ := x; exact ⟨_, e⟩
  | tup xs => obtain ⟨_, _, _, o, e, _⟩ := x; exact ⟨_, e⟩
  | dK kvs => obtain ⟨_, _, _, _, o, _, _, e, _⟩ := x; exact ⟨_, e⟩
  | dT kvs => obtain ⟨_, _, _, _, o, _, _, e, _⟩ := x; exact ⟨_, e⟩
  | set S n => obtain ⟨o, _, _, _, e, _⟩ := x; exact ⟨_, e⟩
  | ins C dx fs => obtain ⟨_, _, _, e, _⟩ := x; exact ⟨_, e⟩
  | own y => obtain ⟨_, e⟩ := x; exact ⟨_, e⟩
  | xd fs => obtain ⟨_, ⟨_, _, _, e, _⟩, _⟩ := x; exact ⟨_, e⟩
  | rng lo hi => obtain ⟨_, _, _, e⟩ := x; exact ⟨_, e⟩
  | frz ob u => obtain ⟨e, _⟩ := x; exact ⟨_, e⟩
  | tbl ps => exact ⟨_, (show h.get? a = some _ from x)⟩
  | met f y => exact ⟨_, (show h.get? a = some _ from x)⟩
  | ext φ => obtain ⟨_, ⟨_, e⟩, _⟩ := x; exact ⟨_, e⟩
theorem HOk.noneAt {P : Program} {w : World} {H : Hp} {h : Heap} {a : Addr} (x : HOk P w H h) (e : h.get? a = none) : H a = none := by
  cases q : H a with
  | none => rfl
  | some u => obtain ⟨o, z⟩ := (x a u q).there; rw [e] at z; cases z
theorem Inv.root (I : Inv X [] σ H s) (hex : X.ex = []) {b : Addr} (e : s.heap.get? b = none) : X.s_0.heap.get? b = none := by
  cases q : X.s_0.heap.get? b with
  | none => rfl
  | some o =>
    obtain ⟨o', z⟩ := I.base.there b o q (by rw [hex]; simp)
    rw [e] at z; cases z

theorem note_fly {M : Model} {E : Value → Shared → Prop} {env env' : Env} {outer : List Env} {L : Addr} {Q : Unit → Shared → Prop} (I : Inv X [] σ H s) (hex : X.ex = []) (hst : X.stack = env :: outer) (hf : env.frame = some L) (hfr : env'.frame = env.frame)
    (F : Fly X.s_0.heap X.pn e cls H s.heap)
    (k : ∀ h', Inv X [] σ H { s with heap := h' } → FlyT X.s_0.heap X.pn e cls H h' → s.heap.UpToSlots h' → Q () { s with heap := h' }) : wpAny M X.A (noteFrame (.ref e) env') Q E s := by
  rw [noteFrame_frame hfr]
  have core : ∀ (Ts : List Addr) (oe : Obj) (vs : Array Value) (a0 : Value), s.heap.get? e = some oe → oe.cls = cls → oe.data = .fields vs → vs[0]? = some a0 → H e = none → X.s_0.heap.get? e = none → (∀ p ∈ X.pn, p.1 ≠ e) →
      (∀ b ∈ Ts, X.s_0.heap.get? b = none) → (∀ b ∈ Ts, H b = none) → (∀ p ∈ X.pn, ∀ b ∈ Ts, p.1 ≠ b) →
      (vs[1]? = some .none ∨ ∃ (T : Addr) (oT : Obj) (ts : Array Value) (fl : Value), vs[1]? = some (.ref T) ∧ T ≠ e ∧ T ∈ Ts ∧ s.heap.get? T = some oT ∧ oT.data = .fields ts ∧ ts[3]? = some fl) →
      wpAny M X.A (noteFrame (.ref e) env) Q E s := by
    intro Ts oe vs a0 he hc hd h0 hHe hre hpe hrT hHT hpT htr
    have mfr : ∀ b ∈ frs X.stack, b ∈ hidden X e Ts := fun b hb => List.mem_append_left _ hb
    have me : e ∈ hidden X e Ts := List.mem_append_right _ List.mem_cons_self
    have mT : ∀ b ∈ Ts, b ∈ hidden X e Ts := fun b hb => List.mem_append_right _ (List.mem_cons_of_mem _ hb)
    have hl : s.heap.FunFrames (PySem.W.hideAll s.heap (hidden X e Ts)) (env :: outer) := by
      rw [← hst]
      exact PySem.W.funFrames_hide I.stack fun env he a ha => mfr a (List.mem_filterMap.mpr ⟨env, he, ha⟩)
    refine note_loose (base := PySem.W.hideAll s.heap (hidden X e Ts)) (by rw [← hst]; exact I.ok.frames) hl hf he hd h0 (fun b o q => PySem.W.of_hideAll _ q) (PySem.W.hideAll_none _ me) ?_ fun h' held up => ?_
    · rcases htr with z | ⟨T, oT, ts, fl, z1, z2, z3, z4⟩
      · exact .inl z
      · exact .inr ⟨T, oT, ts, fl, z1, z2, PySem.W.hideAll_none _ (mT T z3), z4⟩
    · refine k h' (I.flown (fun b o q => ⟨o, q⟩) hre hrT hHe hHT hpe hpT held.1 up) ?_ up
      obtain ⟨k1, k2, k3, oe', vs', T', oT', ts', he', ⟨hc', h0'⟩, hd', h1', hnT', hTe', hT', hdT', h3'⟩ := held
      have new : T' ∈ Ts ∨ s.heap.get? T' = none := by
        cases q : s.heap.get? T' with
        | none => exact .inr rfl
        | some o =>
          refine .inl ?_
          have hm : T' ∈ hidden X e Ts := by
            refine Classical.byContradiction fun z => ?_
            rw [PySem.W.hideAll_get _ q z] at hnT'
            cases hnT'
          unfold hidden at hm
          rcases List.mem_append.mp hm with z | z
          · rw [hst] at z
            obtain ⟨_, o2, q2, nf⟩ := k3.mem z
            rw [hT'] at q2; cases q2
            exact absurd hdT' (nf _)
          · rcases List.mem_cons.mp z with z | z
            · exact absurd z hTe'
            · exact z
      refine ⟨oe', vs', a0, ⟨he', hc'.trans hc, hd', h0', hHe, hre, hpe⟩, T', oT', ts', _, h1', hTe', ?_, ?_, fun p hp z => ?_, hT', hdT', h3'⟩
      · rcases new with z | z
        · exact hrT _ z
        · exact I.root hex z
      · rcases new with z | z
        · exact hHT _ z
        · exact I.hok.noneAt z
      · rcases new with y | y
        · exact hpT p hp _ y z
        · have q := (I.pin p (List.mem_append_left _ hp)).1
          rw [z, y] at q; cases q
  rcases F with ⟨oe, vs, a0, ⟨c1, c2, c3, c4, c5, c6, c7⟩, T, oT, ts, fl, d1, d2, d3, d4, d5, d6⟩ | ⟨oe, vs, a0, ⟨c1, c2, c3, c4, c5, c6, c7⟩, d⟩
  · refine core [T] oe vs a0 c1 c2 c3 c4 c5 c6 c7 (fun b hb => ?_) (fun b hb => ?_) (fun p hp b hb => ?_) (.inr ⟨T, oT, ts, fl, d1, d2, List.mem_cons_self, d6⟩)
    · rw [List.mem_singleton.mp hb]; exact d3
    · rw [List.mem_singleton.mp hb]; exact d4
    · rw [List.mem_singleton.mp hb]; exact d5 p hp
  · exact core [] oe vs a0 c1 c2 c3 c4 c5 c6 c7 (fun b hb => absurd hb (by simp)) (fun b hb => absurd hb (by simp)) (fun p hp b hb => absurd hb (by simp)) (.inl d)

theorem flight_fly {M : Model} {E : Value → Shared → Prop} {fr : Option Addr} {Q : Unit → Shared → Prop} (I : Inv X [] σ H s) (F : FlyT X.s_0.heap X.pn e cls H s.heap)
    (k : ∀ h', Inv X [] σ H { s with heap := h' } → FlyT X.s_0.heap X.pn e cls H h' → s.heap.UpToSlots h' → Q () { s with heap := h' }) : wpAny M X.A (setFlight (.ref e) fr) Q E s := by
  obtain ⟨oe, vs, a0, ⟨c1, c2, c3, c4, c5, c6, c7⟩, T, oT, ts, fl, d1, d2, d3, d4, d5, d6, d7, d8⟩ := F
  have hsz3 : 3 < ts.size := (Array.getElem?_eq_some_iff.mp d8).1
  unfold setFlight
  refine wpAny_bind (wpAny_field c1 c3 d1 ?_)
  rw [if_pos (show (Value.ref T != Value.none) = true from by simp)]
  refine wpAny_setField d6 d7 hsz3 ?_
  have other : ∀ b, b ≠ T → (s.heap.update T (Obj.mapFields (·.setIfInBounds 3 (fr.elim Value.none fun f => rawInt f)))).get? b = s.heap.get? b := fun b hb => Heap.get?_update_other _ _ (Ne.symm hb)
  have up : s.heap.UpToSlots (s.heap.update T (Obj.mapFields (·.setIfInBounds 3 (fr.elim Value.none fun f => rawInt f)))) := fun b o q hn =>
    ⟨o.slots, (other b fun z => by rw [z, d6] at q; cases q; exact hn ts d7).trans q⟩
  refine k _ (I.flown (T := [T]) (fun b o q => ⟨o, q⟩) c6 (fun b hb => by rw [List.mem_singleton.mp hb]; exact d3) c5 (fun b hb => by rw [List.mem_singleton.mp hb]; exact d4) c7 (fun p hp b hb => by rw [List.mem_singleton.mp hb]; exact d5 p hp) (fun b o q => ?_) up) ?_ up
  · have hb : b ≠ T := fun z => by
      rw [z, PySem.W.hideAll_none _ (show T ∈ hidden X e [T] from List.mem_append_right _ (List.mem_cons_of_mem _ List.mem_cons_self))] at q
      cases q
    exact (other b hb).trans (PySem.W.of_hideAll _ q)
  · exact ⟨oe, vs, a0, ⟨(other e (Ne.symm d2)).trans c1, c2, c3, c4, c5, c6, c7⟩, T, _, _, fr.elim Value.none fun f => rawInt f, d1, d2, d3, d4, d5, Heap.get?_update_self _ d6 (Obj.isFreed_of_fields (Obj.data_mapFields d7 _)), Obj.data_mapFields d7 _, by simp [hsz3]⟩
theorem pass_fly {M : Model} {E : Value → Shared → Prop} {α : Type} {what : String} {env : Env} {Q : α → Shared → Prop} (I : Inv X [] σ H s) (F : FlyT X.s_0.heap X.pn e cls H s.heap)
    (k : ∀ h', Inv X [] σ H { s with heap := h' } → FlyT X.s_0.heap X.pn e cls H h' → s.heap.UpToSlots h' → E (.ref e) { s with heap := h' }) : wpAny M X.A (PySem.passOn what (.ref e) env : Sem α) Q E s := by
  obtain ⟨oe, vs, a0, ⟨c1, c2, c3, c4⟩, T, oT, ts, fl, d1, d2⟩ := id F
  unfold PySem.passOn
  refine wpAny_bind (wpAny_field c1 c3 d1 ?_)
  rw [if_neg (show ¬ (Value.ref T == Value.none) = true from by simp)]
  refine wpAny_bind (flight_fly I F fun h' I' F' up => ?_)
  exact wpAny_throw (k h' I' F' up)

/-! ### what is wanted of an error behind a call; an error that leaves the body reaches it -/
def CXo (P : Program) (w : World) : CXT := fun outer H s E e s' =>
  ∃ (ea C : Addr) (H' : Hp), e = .ref ea ∧ s'.os = s.os ∧ AllBare s'.gens ∧ Un (frs outer) [] H H' s.heap s'.heap ∧ HOk P w H' s'.heap ∧ FlyT s.heap [] ea (.ref C) H' s'.heap ∧ E (.ref C) none H'
def Xes (X : Cx) (E : XK) : Prop := ∀ (σ : St) (H : Hp) (s : Shared) (ea C : Addr), Inv X [] σ H s → Fly X.s_0.heap X.pn ea (.ref C) H s.heap → E (.ref C) none H → X.xe (.ref ea) s
theorem Xes.passes {E : XK} (hex : X.ex = []) (x : Xes X E) : Passes (CXo X.prog X.w) X E := by
  intro pins σ H s e s' I h
  obtain ⟨ea, C, H', rfl, os, bare, un, hok, F, q⟩ := h
  have J : Inv X pins σ H' s' := I.call' (ch := []) os un hok bare fun b z => absurd z (by simp)
  refine x σ H' s' ea C (J.pins_of fun p z => absurd z (by simp)) (.inl (F.mono (fun b o z => I.base.there b o z (by rw [hex]; simp)) fun p hp => .inr ⟨p.2, (I.pin p (List.mem_append_left _ hp)).1⟩)) q
theorem xes_def {P : Program} {w : World} {K : PySem.W.Frag} {mg : Str → Option Value} {base : Heap} {N : List Str} {qual : Str} {scope : Scope} {f : Addr} {cd : Value} {A : Around} {outer : List Env} {s0 : Shared} {H0 : Hp} {E : XK} :
    Xes (cxOf (CXo P w) P w K mg base N qual scope f cd A outer s0 H0 E) E := by
  intro σ H s ea C I F q
  show wpAny _ _ (leaving _ (.ref ea)) _ _ s
  unfold leaving
  refine wpAny_bind (note_fly (L := s0.heap.objs.size) I rfl rfl rfl rfl F fun h' I' F' _ => ?_)
  refine flight_fly I' F' fun h2 I2 F2 _ => ?_
  exact ⟨ea, C, H, rfl, I2.os, I2.bare, I2.base, I2.hok, F2, q⟩
/-- a def that may raise, by its body -/
theorem Fun.okx {P : Program} {w : World} {K : PySem.W.Frag} {mg : Str → Option Value} {base : Heap} {x qual : Str} {st : Stmt} {f : Addr} {fd : FuncData} {N ps : List Str} {k : Nat} {sp : Sp} (F : Fun K x qual st f fd) (S : FnScope N ps (defScope st)) (len : ∀ vs H Q E, sp vs H Q E → vs.length = ps.length)
    (hbody : ∀ (X : Cx) (E : XK), X.prog = P → X.w = w → X.K = K → X.mg = mg → X.base = base → X.N = N → X.env.scope = defScope st → X.calm = true → X.ex = [] → X.fn = (fun _ => true) → X.stack = X.env :: X.outer → X.env.frame = some X.env.locals → Xes X E → Room k X.A → ∀ (H : Hp) (vs : List V) (Q : VK), sp vs H Q E →
      ∃ t, PSs X (defBody st) t ∧ t { nx := fun _ H' => Q .non H', rt := Q } (start N vs) H) : FnOk P w K mg base (CXo P w) (k + 1) f fd ps sp := by
  obtain ⟨oc, od, kV, doc, pm, an, cdv, ct, osl, rfl, lk, hcd⟩ := F.ex
  refine fn_of lk hcd S len fun A outer s H vs Q E hr hsp => ?_
  exact hbody _ E rfl rfl rfl rfl rfl rfl rfl rfl rfl rfl rfl rfl xes_def hr H vs Q hsp
/-! ### raise X() of an own class of errors -/
theorem exc_obj {K : PySem.W.Frag} {h : Heap} {C : Addr} {bmB : List Value} {newId : String} (X : K.In h) (q : PySem.W.excIn K C bmB newId = true) :
    ∃ bm N nm q bs hdct sn sub ab col dd k0 k1 k2 k3 k5 mN, h.get? C = some (excClassObj nm q C N bs bm hdct sn sub ab col dd k0 k1 k2 k3 k5 newId) ∧ h.Ns N mN ∧ mN "__init__" = none ∧ OwnTail h bmB bm := by
  unfold PySem.W.excIn at q
  split at q
  · rename_i dd cd sl ho
    split at q
    · rename_i C' bm k0 k1 k2 k3 n k5 hm hs
      simp only [Bool.and_eq_true, beq_iff_eq, Bool.not_eq_true'] at q
      obtain ⟨⟨⟨⟨⟨rfl, rfl⟩, hdel⟩, ht⟩, hok⟩, hni⟩ := q
      obtain ⟨nm, bs, mro, ns, qn, hd, sn, sub, ab, col, del⟩ := cd
      dsimp only at hm hdel hok hni
      subst hm hdel
      have hsl : sl = #[k0, k1, k2, k3, some (.builtin n), k5] := by
        obtain ⟨l⟩ := sl
        simp only at hs
        rw [hs]
      subst hsl
      exact ⟨bm, ns, nm, qn, bs, hd, sn, sub, ab, col, dd, k0, k1, k2, k3, k5, _, X _ _ ho, .of_isNs (PySem.W.isNs_of_in X hok), PySem.W.nsMap_none_of_in X hok hni, PySem.W.tail_of_in X ht⟩
    · cases q
  · cases q
def tRaise (E : XK) (C : Addr) : TS := fun _ _ H => E (.ref C) none H
theorem ps_raise0 {E : XK} {x : Str} {C : Addr} {bm : List Value} {B newId initId : String} {np cpos pos : Pos} (hc : X.calm = true) (hex : X.ex = []) (hx : Xes X E) (hg : Gl X x) (hm : X.mg x = some (.ref C)) (hC : PySem.W.excIn X.K C bm newId = true) (FB : ExcBaseFacts B newId initId bm)
    (hd : (x == ("__debug__" : Str)) = false := by decide) : PS X (.Raise (some (.Call (.Name x np) [] [] cpos)) none pos) (tRaise E C) := by
  intro pins s σ H D I h
  obtain ⟨tl, N, nm, q, bs, hdct, sn, sub, ab, col, dd, k0, k1, k2, k3, k5, mN, ho, hN, hni, T⟩ := exc_obj I.kIn hC
  refine wpAny_Raise_call_subT (C := C) (nm := nm) (q := q) (N := N) (bs := bs) (bm := tl) (hdct := hdct) (sn := sn) (sub := sub) (ab := ab) (col := col) (dd := dd) (k0 := k0) (k1 := k1) (k2 := k2) (k3 := k3) (k5 := k5)
    FB (mN := mN) (T.hasType FB.hasBase) (I.ok.hd hc) rfl hni (ld_glob I hg hm ⟨rfl, evalArgs_empty ⟨rfl, Nat.zero_le _, ho, hN, T, fun h' e mk => ?_⟩⟩ hd)
  have I0 : Inv X [] σ H s := I.pins_of fun p z => absurd z (by simp)
  have I1 : Inv X [] σ H { s with heap := h' } := I0.kept (t' := s.toks) mk.keeps
  obtain ⟨t, he, _, _⟩ := mk.there
  refine hx σ H _ e C I1 (.inr ⟨_, _, _, ⟨he, rfl, rfl, rfl, I.hok.noneAt mk.new, I0.root hex mk.new, fun p hp z => ?_⟩, rfl⟩) h
  have q := (I.pin p (List.mem_append_left _ hp)).1
  rw [z, mk.new] at q; cases q
/-! ### try: .. except X: .. (no name, no else, no finally) -/
abbrev Cx.hand (X : Cx) (ea : Addr) : Cx := { X with A := X.A.mark (some (.ref ea)), calm := false, xe := fun _ _ => False }
abbrev Cx.tryB (X : Cx) (pn : List (Addr × Obj)) (E : Value → Shared → Prop) : Cx := { X with pn := pn, xe := E }
/-- the handlers of a try, for the errors of the classes Cs -/
def PH (X : Cx) (Cs : List Addr) (hs : List ExceptHandler) (th : Addr → TS) : Prop :=
  ∀ (pins : List (Addr × Obj)) (ea C : Addr) (σ : St) (H : Hp) (s : Shared) (D : Ends), Inv X pins σ H s → FlyT X.s_0.heap (X.pn ++ pins) ea (.ref C) H s.heap → C ∈ Cs → th C D σ H → wpAny (model X.prog X.w) X.A (handleBy (.ref ea) X.env hs) (SP X pins D) X.xe s
theorem ph_nil {Cs : List Addr} : PH X Cs [] fun _ _ _ _ => False := fun _ _ _ _ _ _ _ _ _ _ h => h.elim
def EH (Cs : List Addr) (th : Addr → TS) (D : Ends) : XK := fun cls _ H => ∃ C, cls = .ref C ∧ C ∈ Cs ∧ ∀ σ : St, th C D σ H
theorem Inv.tryB {pins pn : List (Addr × Obj)} {E : Value → Shared → Prop} (I : Inv X pins σ H s) (hp : ∀ p ∈ pn, p ∈ X.pn ++ pins) : Inv (X.tryB pn E) pins σ H s :=
  ⟨⟨I.ok.mod, I.ok.kind, I.ok.glob, I.ok.blt, I.ok.above, I.ok.inj, I.ok.has, I.ok.cab, I.ok.hd, I.ok.frames, I.ok.stk, I.ok.exf, I.ok.bs, I.ok.bsz, I.ok.noex, I.ok.exfs, I.ok.funs, I.ok.frf⟩, I.os, I.bare, I.base, I.loc, I.cell, I.free, I.freeC,
    fun p h => I.pin p ((List.mem_append.mp h).elim (hp p) fun z => List.mem_append_right _ z), I.hok, I.len⟩
theorem Inv.untryB {pins pins' pn : List (Addr × Obj)} {E : Value → Shared → Prop} (I : Inv (X.tryB pn E) pins' σ H s) (hp : ∀ p ∈ X.pn ++ pins, p ∈ pn ++ pins') : Inv X pins σ H s :=
  ⟨⟨I.ok.mod, I.ok.kind, I.ok.glob, I.ok.blt, I.ok.above, I.ok.inj, I.ok.has, I.ok.cab, I.ok.hd, I.ok.frames, I.ok.stk, I.ok.exf, I.ok.bs, I.ok.bsz, I.ok.noex, I.ok.exfs, I.ok.funs, I.ok.frf⟩, I.os, I.bare, I.base, I.loc, I.cell, I.free, I.freeC,
    fun p h => I.pin p (hp p h), I.hok, I.len⟩
theorem ps_try {Cs : List Addr} {body : List Stmt} {h₀ : ExceptHandler} {hs : List ExceptHandler} {pos : Pos} {tb : Ends → TS} {th : Addr → TS} (hex : X.ex = []) (hst : X.stack = X.env :: X.outer) (hf : X.env.frame = some X.env.locals)
    (hb : ∀ (D : Ends) (pn : List (Addr × Obj)) (E' : Value → Shared → Prop), Xes (X.tryB pn E') (EH Cs th D) → PSs (X.tryB pn E') body (tb D)) (hh : PH X Cs (h₀ :: hs) th) : PS X (.Try body (h₀ :: hs) [] [] pos) (fun D σ H => tb D D σ H) := by
  intro pins s σ H D I h
  refine wpAny_Try_except ?_
  have J := I.tryB (pn := X.pn ++ pins) (E := fun e s₁ => wpAny (model X.prog X.w) X.A (noteFrame e X.env) (fun _ s₂ => wpAny (model X.prog X.w) X.A (setFlight e none) (fun _ s₃ => wpAny (model X.prog X.w) X.A (handleBy e X.env (h₀ :: hs)) (SP X pins D) X.xe s₃) X.xe s₂) X.xe s₁) fun p z => z
  refine wpAny_mono (hb D (X.pn ++ pins) (fun e s₁ => wpAny (model X.prog X.w) X.A (noteFrame e X.env) (fun _ s₂ => wpAny (model X.prog X.w) X.A (setFlight e none) (fun _ s₃ => wpAny (model X.prog X.w) X.A (handleBy e X.env (h₀ :: hs)) (SP X pins D) X.xe s₃) X.xe s₂) X.xe s₁) ?_ pins s σ H D J h) (fun f s' q => ?_) fun e s' q => q
  · intro σ1 H1 s1 ea C I1 F1 q1
    obtain ⟨C', ce, hC, q1⟩ := q1
    cases ce
    show wpAny (model X.prog X.w) X.A (noteFrame (.ref ea) X.env) _ _ s1
    refine note_fly (X := X.tryB (X.pn ++ pins) (fun e s₁ => wpAny (model X.prog X.w) X.A (noteFrame e X.env) (fun _ s₂ => wpAny (model X.prog X.w) X.A (setFlight e none) (fun _ s₃ => wpAny (model X.prog X.w) X.A (handleBy e X.env (h₀ :: hs)) (SP X pins D) X.xe s₃) X.xe s₂) X.xe s₁)) (L := X.env.locals) I1 hex hst hf rfl F1 fun h' I2 F2 _ => ?_
    refine flight_fly (X := X.tryB (X.pn ++ pins) (fun e s₁ => wpAny (model X.prog X.w) X.A (noteFrame e X.env) (fun _ s₂ => wpAny (model X.prog X.w) X.A (setFlight e none) (fun _ s₃ => wpAny (model X.prog X.w) X.A (handleBy e X.env (h₀ :: hs)) (SP X pins D) X.xe s₃) X.xe s₂) X.xe s₁)) I2 F2 fun h2 I3 F3 _ => ?_
    exact hh pins ea C σ1 H1 _ D (I3.untryB fun p z => by simpa using z) F3 hC (q1 σ1)
  · have back : ∀ {E' : Value → Shared → Prop} {σ' : St} {H' : Hp}, Inv (X.tryB (X.pn ++ pins) E') pins σ' H' s' → Inv X pins σ' H' s' := fun {E' σ' H'} I' => I'.untryB fun p z => List.mem_append_left _ z
    cases f with
    | next => obtain ⟨σ', H', I', q⟩ := q; exact wpAny_execs_nil ⟨σ', H', back I', q⟩
    | brk => obtain ⟨σ', H', I', q⟩ := q; exact ⟨σ', H', back I', q⟩
    | cont => obtain ⟨σ', H', I', q⟩ := q; exact ⟨σ', H', back I', q⟩
    | ret u => obtain ⟨v, σ', H', I', r, q⟩ := q; exact ⟨v, σ', H', back I', r, q⟩

theorem Inv.hand {pins : List (Addr × Obj)} (I : Inv X pins σ H s) (ea : Addr) : Inv (X.hand ea) pins σ H s :=
  ⟨⟨I.ok.mod, I.ok.kind, I.ok.glob, I.ok.blt, I.ok.above, I.ok.inj, I.ok.has, I.ok.cab, fun z => (by cases z), I.ok.frames, I.ok.stk, I.ok.exf, I.ok.bs, I.ok.bsz, I.ok.noex, I.ok.exfs, I.ok.funs, I.ok.frf⟩, I.os, I.bare, I.base, I.loc, I.cell, I.free, I.freeC, I.pin, I.hok, I.len⟩
theorem Inv.unhand {pins : List (Addr × Obj)} {ea : Addr} (ok : X.Ok) (I : Inv (X.hand ea) pins σ H s) : Inv X pins σ H s :=
  ⟨ok, I.os, I.bare, I.base, I.loc, I.cell, I.free, I.freeC, I.pin, I.hok, I.len⟩
theorem SP.unhand {pins : List (Addr × Obj)} {ea : Addr} {D : Ends} {f : Flow} {s' : Shared} (ok : X.Ok) (h : SP (X.hand ea) pins D f s') : SP X pins D f s' := by
  cases f with
  | next => obtain ⟨σ', H', I, q⟩ := h; exact ⟨σ', H', I.unhand ok, q⟩
  | brk => obtain ⟨σ', H', I, q⟩ := h; exact ⟨σ', H', I.unhand ok, q⟩
  | cont => obtain ⟨σ', H', I, q⟩ := h; exact ⟨σ', H', I.unhand ok, q⟩
  | ret u => obtain ⟨v, σ', H', I, r, q⟩ := h; exact ⟨v, σ', H', I.unhand ok, r, q⟩
theorem ph_cons {Cs : List Addr} {x : Str} {C0 : Addr} {np pos : Pos} {b₀ : Stmt} {suite : List Stmt} {rest : List ExceptHandler} {t : TS} {th : Addr → TS} (hg : Gl X x) (hm : X.mg x = some (.ref C0))
    (hx : ∀ C ∈ Cs, PySem.W.exmOne X.K (.ref C) (.ref C0) = some (decide (C = C0))) (hs : ∀ ea, PSs (X.hand ea) (b₀ :: suite) t) (hr : PH X Cs rest th) (hd : (x == ("__debug__" : Str)) = false := by decide) :
    PH X Cs (.ExceptHandler (some (.Name x np)) none (b₀ :: suite) pos :: rest) fun C D σ H => if C = C0 then t D σ H else th C D σ H := by
  intro pins ea C σ H s D I F hC h
  obtain ⟨oe, vs, a0, ⟨c1, c2, c3, c4⟩, _⟩ := id F
  have LT : PySem.W.Looks (model X.prog X.w) s.heap (typeOf (.ref ea)) (.ref C) := by
    rw [← c2]
    exact (PySem.W.Looks.ld c1).andThen .now
  refine wpAny_handleBy_cons (codeAny_handlers_test (ld_glob (X := X.hand ea) (I.hand ea) hg hm ?_ hd)) (by intro q; cases q)
  refine (PySem.W.exm_one I.kIn LT (hx C hC)).here ?_
  by_cases hCC : C = C0
  · rw [if_pos hCC] at h
    rw [decide_eq_true hCC]
    refine codeAny_handlers_suite ?_
    have I0 : Inv ((X.tryB (X.pn ++ pins) X.xe).hand ea) [] σ H s := ((I.tryB (pn := X.pn ++ pins) fun p z => z).pins_of fun p z => absurd z (by simp)).hand ea
    refine flight_fly (X := (X.tryB (X.pn ++ pins) X.xe).hand ea) I0 F fun h' I1 _ _ => ?_
    have I2 : Inv X pins σ H { s with heap := h' } := (I1.unhand (X := X.tryB (X.pn ++ pins) X.xe) (I.tryB fun p z => z).ok).untryB fun p z => by simpa using z
    refine wpAny_mono (hs ea pins _ σ H D (I2.hand ea) h) (fun f s' q => q.unhand I.ok) fun e s' q => q.elim
  · rw [if_neg hCC] at h
    rw [decide_eq_false hCC]
    exact hr pins ea C σ H s D I F hC h
end
end L2

end

-- part PpLcR
section
set_option Elab.async false
set_option linter.all false
set_option maxRecDepth 100000
set_option maxHeartbeats 2000000
namespace L2
open PySem PySem.Spec PyProof.Rows
section
variable {X : Cx}
theorem lcR_core {Ex : XK} {pins : List (Addr × Obj)} {s : Shared} {σ : St} {H : Hp} {Q : VK} {elt tg iter : Expr} {ifs : List Expr} {scope : Scope} {own : List (Str × Nat)} {pos pos' : Pos} {wi : TI} {g : TG} {tt : TT} {te : TE} {use : Option (Value → Sem Unit)} {Qf : Value → Shared → Prop}
    (hex : X.ex = []) (hst : X.stack = X.env :: X.outer) (hfr : X.env.frame = some X.env.locals) (hxs : Xes X Ex) (hc : X.calm = true) (hN : X.N.Nodup) (I : Inv X pins σ H s) (hi : PI X tg iter wi) (ok : BlkOk X.N X.env.scope scope own)
    (hg : ∀ (s : Shared) (H : Hp) (C : Addr) (cl : List (Str × Addr)) (fp : List Addr), PG (X.blk s H scope (compEnvC scope cl C X.env) fp) tg g) (ht : ∀ (s : Shared) (H : Hp) (C : Addr) (cl : List (Str × Addr)) (fp : List Addr), PTs (X.blk s H scope (compEnvC scope cl C X.env) fp) ifs tt)
    (he : ∀ (s : Shared) (H : Hp) (C : Addr) (cl : List (Str × Addr)) (fp : List Addr) (Eb : Value → Shared → Prop), Passes (CXo X.prog X.w) ((X.blk s H scope (compEnvC scope cl C X.env) fp).wish Eb) Ex → PE ((X.blk s H scope (compEnvC scope cl C X.env) fp).wish Eb) elt te) (hs : ∀ x, foldedSetIterable iter X.env x = pure x)
    (h : tLc wi g tt te (own.map (·.2)) σ H Q)
    (hRR : ∀ D C s' m H', Inv X pins σ H' s' → Q (.ref D) H' → s'.heap.Ns C m → FpOk X pins H' C → compPost (model X.prog X.w) X.A X.xe use Qf (.ref D) C (.ok .next) s') :
    wpAny (model X.prog X.w) X.A (comprehension (.ListComp elt [⟨tg, iter, ifs, 0⟩] scope pos) scope X.env pos' (newList []) false (eval iter X.env) use) Qf X.xe s := by
  have hfree : ∀ y ∈ scope.names, y.2 = .free → ∃ c, X.env.cells.lookup y.1 = some c := fun y hy e => by
    rcases ok.free y hy e with k | k
    · exact I.ok.has _ (.inl k)
    · exact I.ok.has _ (.inr k)
  refine wpAny_comprehension_free (use := use) rfl hs (closure_ok hfree) ok.kind (fun y hy e => by rw [ok.uniq y hy, e])
    (thn (hi pins s σ H _ I h) fun xv s1 hx => thn hx fun itv s2 h2 => ?_)
  obtain ⟨it, fp, tn, J, H2, e, I2, T, st2, f2, q⟩ := h2
  subst e
  refine wpAny_newObj_type (newEnv_comp ?_) (by show 0 ≤ sizeLine; decide)
  generalize hD : s2.heap.objs.size = D
  have hDn : H2 D = none := I2.hok.fresh (Nat.le_of_eq hD)
  obtain ⟨W, ⟨m0, w0⟩, turn⟩ := q D hDn
  -- the new list
  generalize hs3 : ({ s2 with heap := s2.heap.push { cls := .type "list", data := .seq ([] : List Value).toArray } } : Shared) = s3
  have I3 : Inv X pins σ (upd H2 D (.lst [])) s3 := by
    rw [← hs3]
    refine I2.laid (t' := s2.toks) (fun b o e => Heap.get?_push_of_some _ e) (Nat.le_of_eq hD) ⟨Nat.zero_le _, [], 0, .nil, ?_⟩
    rw [← hD]
    exact Heap.get?_push_size _ rfl
  have h3 : s3.heap = s2.heap.push { cls := .type "list", data := .seq ([] : List Value).toArray } := by rw [← hs3]
  have sz : ∀ b ∈ fp, b < s2.heap.objs.size := fun b hb => by
    obtain ⟨o, e, _⟩ := T.obj _ _ st2 b hb
    exact Heap.lt_size e
  have f3 : ∀ b ∈ fp, FpOk X pins (upd H2 D (.lst [])) b ∧ b < s3.heap.objs.size := fun b hb => by
    have hlt := sz b hb
    refine ⟨⟨?_, (f2 b hb).2⟩, by rw [h3, Heap.size_push]; exact Nat.lt_succ_of_lt hlt⟩
    rw [upd_ne (by rw [← hD]; exact Nat.ne_of_lt hlt)]
    exact (f2 b hb).1
  have st3 : tn 0 s3.heap := T.keep _ _ _ st2 fun b _ o e => by rw [h3]; exact Heap.get?_push_of_some _ e
  have I4 := block_start I3 ok hN f3
  have pg := hg s3 (upd H2 D (.lst [])) s3.heap.objs.size (cellsFrom (s3.heap.objs.size + 1) scope.names (cloFrom X.env.cells scope.names [])) fp
  have pt := ht s3 (upd H2 D (.lst [])) s3.heap.objs.size (cellsFrom (s3.heap.objs.size + 1) scope.names (cloFrom X.env.cells scope.names [])) fp
  have pe := he s3 (upd H2 D (.lst [])) s3.heap.objs.size (cellsFrom (s3.heap.objs.size + 1) scope.names (cloFrom X.env.cells scope.names [])) fp
  show codeAny _ _ (.compStart (.ListComp elt [⟨tg, iter, ifs, 0⟩] scope pos) 0 (.ref it) (.ref D) (compEnvC scope (cellsFrom (s3.heap.objs.size + 1) scope.names (cloFrom X.env.cells scope.names [])) s3.heap.objs.size X.env)) (compPost (model X.prog X.w) X.A X.xe use Qf (.ref D) s3.heap.objs.size) { s3 with heap := pushCells (s3.heap.push { cls := .type "dict", data := .dict #[] }) scope.names }
  have nfp : ∀ b ∈ fp, (upd H2 D (.lst [])) b = none := fun b hb => (f3 b hb).1.1
  generalize hce : compEnvC scope (cellsFrom (s3.heap.objs.size + 1) scope.names (cloFrom X.env.cells scope.names [])) s3.heap.objs.size X.env = ce at I4 pg pt pe ⊢
  have cL : ce.locals = s3.heap.objs.size := by subst hce; rfl
  generalize hH3 : upd H2 D (.lst []) = H3 at I3 I4 pg pt pe w0 nfp f3
  generalize hs4 : ({ s3 with heap := pushCells (s3.heap.push { cls := .type "dict", data := .dict #[] }) scope.names } : Shared) = s4 at I4 ⊢
  have st4 : tn 0 s4.heap := T.keep _ _ _ st3 fun b _ o e => by rw [← hs4]; exact pushCells_keeps _ _ _ _ (Heap.get?_push_of_some _ e)
  have stat : ∀ {σ' : St} {H' : Hp} {s' : Shared}, Inv (X.blk s3 H3 scope ce fp) [] σ' H' s' → (∀ b ∈ fp, H' b = none) → ∀ b ∈ fp, FpOk (X.blk s3 H3 scope ce fp) [] H' b := fun {σ' H' s'} I' hn b hb =>
    ⟨hn b hb, (I'.ok.exf b hb).1, I'.ok.exfs b hb, .inl hb, fun x c e => (I'.ok.exf b hb).2 x c e, fun p hp => absurd (show p ∈ ([] : List (Addr × Obj)) ++ [] from hp) (by simp)⟩
  have hpass : Passes (CXo X.prog X.w) ((X.blk s3 H3 scope ce fp).wish (notedBy (model X.prog X.w) X.A ce fun e s' => compPost (model X.prog X.w) X.A X.xe use Qf (.ref D) s3.heap.objs.size (.error e) s')) Ex := by
    intro pins' σ' H' s' e s'' I' hq
    obtain ⟨ea, C, H'', rfl, os, bare, un, hok, F, qE⟩ := hq
    have back : ∀ {σ1 : St} {H1 : Hp} {s1 : Shared} {E1 : Value → Shared → Prop} {pins1 : List (Addr × Obj)}, Inv ((X.blk s3 H3 scope ce fp).wish E1) pins1 σ1 H1 s1 → Inv X [] σ H1 s1 := fun {σ1 H1 s1 E1 pins1} I1 =>
      (I3.call' (ch := fp) I1.os I1.base I1.hok I1.bare fun b hb => ⟨(f3 b hb).1.2.2.2.1, (f3 b hb).1.2.1, (f3 b hb).1.2.2.2.2.1, (f3 b hb).1.2.2.2.2.2⟩).pins_of fun p z => absurd z (by simp)
    have J : Inv ((X.blk s3 H3 scope ce fp).wish _) pins' σ' H'' s'' := I'.call' (ch := []) os un hok bare fun b z => absurd z (by simp)
    have I7 := back J
    have I7' := back I'
    have F7 : FlyT X.s_0.heap X.pn ea (.ref C) H'' s''.heap := F.mono (fun b o z => I7'.base.there b o z (by rw [hex]; simp)) fun p hp => .inr ⟨p.2, (I7'.pin p (List.mem_append_left _ hp)).1⟩
    show wpAny (model X.prog X.w) X.A (noteFrame (.ref ea) ce) _ _ s''
    refine note_fly (L := X.env.locals) I7 hex hst hfr (by rw [← hce]; rfl) (.inl F7) fun h' I8 F8 up => ?_
    have nC : H'' s3.heap.objs.size = none := by
      have z : H'' ce.locals = none := J.free
      rw [cL] at z
      exact z
    obtain ⟨m, hn, _⟩ := J.loc
    have hn : s''.heap.Ns ce.locals m := hn
    rw [cL] at hn
    obtain ⟨f0, f1, f2, f3', f4, f5⟩ := I3.fpOk (Nat.le_refl _) nC
    have key : ∃ m, Heap.Ns h' s3.heap.objs.size m ∧ ∀ h2, Heap.SameBut s3.heap.objs.size h' h2 → ∀ cenv : Env, cenv.locals = s3.heap.objs.size → wpAny (model X.prog X.w) X.A (PySem.passOn "comprehension.variables-let-go" (.ref ea) cenv : Sem Value) (fun _ _ => False) X.xe { s'' with heap := h2 } := by
      refine ⟨m, up.ns hn, fun h2 sb cenv _ => ?_⟩
      have I9 : Inv X [] σ H'' { s'' with heap := h2 } := I8.turned (t' := s''.toks) (fun b o hb e => (sb.2 b hb).trans e) f0 f1 f3' f4 fun p hp => f5 p (by
        have hp' : p ∈ X.pn := by simpa using hp
        exact List.mem_append_left _ hp')
      have F9 : FlyT X.s_0.heap X.pn ea (.ref C) H'' h2 := by
        obtain ⟨oe, vs, a0, ⟨c1, c2, c3, c4⟩, T, oT, ts, fl, d1, d2, d3, d4, d5, d6, d7, d8⟩ := F8
        obtain ⟨o', es, ep, ho', hd', _⟩ := up.ns hn
        have ne1 : ea ≠ s3.heap.objs.size := fun z => by rw [z, ho'] at c1; cases c1; rw [hd'] at c3; cases c3
        have ne2 : T ≠ s3.heap.objs.size := fun z => by rw [z, ho'] at d6; cases d6; rw [hd'] at d7; cases d7
        exact ⟨oe, vs, a0, ⟨(sb.2 _ ne1).trans c1, c2, c3, c4⟩, T, oT, ts, fl, d1, d2, d3, d4, d5, (sb.2 _ ne2).trans d6, d7, d8⟩
      exact pass_fly I9 F9 fun h3' I10 F10 _ => hxs σ H'' _ ea C I10 (.inl F10) qE
    cases use <;> exact key
  have loop : codeAny (model X.prog X.w) X.A (.compLoop (.ListComp elt [⟨tg, iter, ifs, 0⟩] scope pos) 0 (.ref it) (.ref D) ce) (compPost (model X.prog X.w) X.A X.xe use Qf (.ref D) s3.heap.objs.size) s4 := by
    refine compLoop_any (fun n s' => ∃ i H', Inv (X.blk s3 H3 scope ce fp) [] (wipe σ (own.map (·.2))) H' s' ∧ tn i s'.heap ∧ (∀ b ∈ fp, H' b = none) ∧ W i n H') ?_ m0 ⟨0, H3, I4, st4, nfp, w0⟩
    rintro n s5 ⟨i, H5, I5, st5, n5, w5⟩
    rcases turn i n H5 w5 with ⟨stop, qq⟩ | ⟨go, Nx, hNx, step⟩
    · have td := T.done (X.blk s3 H3 scope ce fp) rfl rfl rfl hc i [] s5 _ H5 (fun _ _ => False) I5 (stat I5 n5) st5 stop
      refine thnF td fun r s6 ⟨hr, I6⟩ => ?_
      subst hr
      -- back in the def's context
      have I7 : Inv X pins σ H5 s6 := I3.call' (ch := fp) I6.os I6.base I6.hok I6.bare fun b hb => ⟨(f3 b hb).1.2.2.2.1, (f3 b hb).1.2.1, (f3 b hb).1.2.2.2.2.1, (f3 b hb).1.2.2.2.2.2⟩
      have nC : H5 s3.heap.objs.size = none := by
        have z : H5 ce.locals = none := I6.free
        rw [cL] at z
        exact z
      obtain ⟨m, hn, _⟩ := I6.loc
      have hn : s6.heap.Ns ce.locals m := hn
      rw [cL] at hn
      exact hRR D s3.heap.objs.size s6 m H5 I7 qq hn (I3.fpOk (Nat.le_refl _) nC)
    · have ti := T.item (X.blk s3 H3 scope ce fp) rfl rfl rfl hc i [] s5 _ H5 (fun _ _ => False) I5 (stat I5 n5) st5 go
      refine thnF ti fun r s6 ⟨u, hr, h6⟩ => ?_
      subst hr
      refine thnF h6 fun _ s7 ⟨x, H7, I7, r7, y7, st7, n7⟩ => ?_
      have I7' := I7.pinned (stat I7 n7) (T.obj _ _ st7)
      refine thnF (pg _ s7 _ H7 x u _ I7' r7 (step x H7 y7)) fun _ s8 ⟨σ8, H8, I8, hw8, q8⟩ => ?_
      refine thnF (pt _ s8 σ8 H8 _ I8 q8) fun b s9 ⟨H9, I9, q9⟩ => ?_
      -- the turn's end
      have fin : ∀ {s' : Shared} {H' : Hp}, Inv (X.blk s3 H3 scope ce fp) ([] ++ pinsAt fp s7.heap) σ8 H' s' → Nx H' → ∃ m, m < n ∧ ∃ i H', Inv (X.blk s3 H3 scope ce fp) [] (wipe σ (own.map (·.2))) H' s' ∧ tn i s'.heap ∧ (∀ b ∈ fp, H' b = none) ∧ W i m H' := fun {s' H'} I' nx => by
        obtain ⟨m', hm, w'⟩ := hNx H' nx
        have pin' : ∀ b ∈ fp, ∀ o, s7.heap.get? b = some o → s'.heap.get? b = some o ∧ H' b = none := fun b hb o e =>
          let z := I'.pin (b, o) (List.mem_append_right _ (List.mem_append_right _ (mem_pinsAt hb e)))
          ⟨z.1, z.2.1⟩
        have hl : (wipe σ (own.map (·.2))).length = σ8.length := by rw [← hw8, wipe_length]
        refine ⟨m', hm, i + 1, H', (I'.unpinned (pins := [])).weak hl (fun j v e => ?_), T.keep _ _ _ st7 fun b hb o e => (pin' b hb o e).1, fun b hb => ?_, w'⟩
        · rw [← hw8] at e
          exact (wipe_some e).1
        · obtain ⟨o, e, _⟩ := T.obj _ _ st7 b hb
          exact (pin' b hb o e).2
      cases b with
      | false =>
        simp only [Bool.false_eq_true, if_false] at q9 ⊢
        exact fin I9 q9
      | true =>
        simp only [if_true] at q9 ⊢
        refine wpAny_mono (pe _ hpass _ s9 σ8 H9 _ (I9.wish _) q9) (fun z s10 ⟨yv, H10, I10, r10, acc, hD10, hz10, nx⟩ => ?_) fun e s' q => q
        exact app_ok (X := X.blk s3 H3 scope ce fp) I10.unwish hD10 hz10 r10 fun s11 I11 => fin I11 nx
  exact codeAny_compStart_list loop (T.self X.A 0 _ _ _ st4 loop)
/-- as a value -/
theorem pe_lcR {Ex : XK} {elt tg iter : Expr} {ifs : List Expr} {scope : Scope} {own : List (Str × Nat)} {pos : Pos} {wi : TI} {g : TG} {tt : TT} {te : TE} (hex : X.ex = []) (hst : X.stack = X.env :: X.outer) (hfr : X.env.frame = some X.env.locals) (hxs : Xes X Ex) (hc : X.calm = true) (hN : X.N.Nodup) (hi : PI X tg iter wi) (ok : BlkOk X.N X.env.scope scope own)
    (hg : ∀ (s : Shared) (H : Hp) (C : Addr) (cl : List (Str × Addr)) (fp : List Addr), PG (X.blk s H scope (compEnvC scope cl C X.env) fp) tg g) (ht : ∀ (s : Shared) (H : Hp) (C : Addr) (cl : List (Str × Addr)) (fp : List Addr), PTs (X.blk s H scope (compEnvC scope cl C X.env) fp) ifs tt)
    (he : ∀ (s : Shared) (H : Hp) (C : Addr) (cl : List (Str × Addr)) (fp : List Addr) (Eb : Value → Shared → Prop), Passes (CXo X.prog X.w) ((X.blk s H scope (compEnvC scope cl C X.env) fp).wish Eb) Ex → PE ((X.blk s H scope (compEnvC scope cl C X.env) fp).wish Eb) elt te) (hs : ∀ x, foldedSetIterable iter X.env x = pure x := by intro _; rfl) :
    PE X (.ListComp elt [⟨tg, iter, ifs, 0⟩] scope pos) (tLc wi g tt te (own.map (·.2))) := by
  intro pins s σ H Q I h
  rw [eval_ListComp]
  refine lcR_core hex hst hfr hxs hc hN I hi ok hg ht he hs h fun D C s' m H' I' q hn f => ⟨m, hn, fun h'' sb => ?_⟩
  obtain ⟨f0, f1, f2, f3, f4, f5⟩ := f
  exact ⟨.ref D, H', I'.turned (t' := s'.toks) (fun b o hb e => (sb.2 b hb).trans e) f0 f1 f3 f4 f5, rfl, q⟩
/-- name = [..] on one line, the name a local -/
theorem ps_setLcR {Ex : XK} {i : Nat} {y : Str} {py : Pos} {elt tg iter : Expr} {ifs : List Expr} {scope : Scope} {own : List (Str × Nat)} {pos spos : Pos} {wi : TI} {g : TG} {tt : TT} {te : TE} (hex : X.ex = []) (hst : X.stack = X.env :: X.outer) (hfr : X.env.frame = some X.env.locals) (hxs : Xes X Ex) (hc : X.calm = true) (hN : X.N.Nodup) (hy : X.N[i]? = some y) (hyl : X.env.scope.names.lookup y = some .local)
    (hsw : swapsWith (.ListComp elt [⟨tg, iter, ifs, 0⟩] scope pos) (some (.Name y py)) spos.line X.env = pure true) (hi : PI X tg iter wi) (ok : BlkOk X.N X.env.scope scope own)
    (hg : ∀ (s : Shared) (H : Hp) (C : Addr) (cl : List (Str × Addr)) (fp : List Addr), PG (X.blk s H scope (compEnvC scope cl C X.env) fp) tg g) (ht : ∀ (s : Shared) (H : Hp) (C : Addr) (cl : List (Str × Addr)) (fp : List Addr), PTs (X.blk s H scope (compEnvC scope cl C X.env) fp) ifs tt)
    (he : ∀ (s : Shared) (H : Hp) (C : Addr) (cl : List (Str × Addr)) (fp : List Addr) (Eb : Value → Shared → Prop), Passes (CXo X.prog X.w) ((X.blk s H scope (compEnvC scope cl C X.env) fp).wish Eb) Ex → PE ((X.blk s H scope (compEnvC scope cl C X.env) fp).wish Eb) elt te) (hs : ∀ x, foldedSetIterable iter X.env x = pure x := by intro _; rfl) :
    PS X (.Assign [.Name y py] (.ListComp elt [⟨tg, iter, ifs, 0⟩] scope pos) spos) (tAsg (tLc wi g tt te (own.map (·.2))) (gName i)) := by
  intro pins s σ H D I h
  rw [exec_Assign_Name_used _ _ _ _ hsw]
  refine wpAny_bind (wpAny_standAt (wpAny_bind ?_))
  show wpAny _ X.A (do let _ ← comprehension (.ListComp elt [⟨tg, iter, ifs, 0⟩] scope pos) scope X.env (firstIterPos [⟨tg, iter, ifs, 0⟩] pos) (newList []) false (eval iter X.env) (some (assign (.Name y py) X.env))) _ _ s
  have h : tLc wi g tt te (own.map (·.2)) σ H (fun x H1 => gName i x σ H1 D.nx) := h
  refine wpAny_bind (thn (lcR_core (Qf := fun _ s' => SP X pins D .next s') hex hst hfr hxs hc hN I hi ok hg ht he hs h fun L C s' m H' I' q hn f => ?_) fun _ s' hq => wpAny_pure (wpAny_pure hq))
  show wpAny _ _ (assign (.Name y py) X.env (.ref L)) _ _ _
  refine wpAny_assign_Name (store_ok2 (v := V.ref L) I' hN hy (.inl hyl) rfl (fun s2 I2 ⟨a, sb, ha⟩ => ?_) (.inr hyl))
  obtain ⟨f0, f1, f2, f3, f4, f5⟩ := f
  have haC : C ≠ a := by
    rcases ha with z | z
    · rw [z]; exact f1
    · exact fun e => f4 y a z e.symm
  refine ⟨m, hn.sameBut sb haC, fun h3 sb3 => ?_⟩
  exact ⟨_, H', I2.turned (t' := s2.toks) (fun b o hb e => (sb3.2 b hb).trans e) f0 f1 f3 f4 f5, q⟩
end
end L2

end

-- part PpMore
section
set_option Elab.async false
set_option linter.all false
set_option maxRecDepth 100000
set_option maxHeartbeats 2000000
namespace L2
open PySem PySem.Spec PyProof.Rows

/-! ### list(reversed(xs)) -/
theorem lri_nolen : typeLookup (.type "list_reverseiterator") "__len__" = pure none := by rw [typeLookup_type, builtinLookup_eq_fast]; kernel_rfl
theorem lri_hint : typeLookup (.type "list_reverseiterator") "__length_hint__" = pure (some (.builtin "list_reverseiterator.__length_hint__")) := by rw [typeLookup_type, builtinLookup_eq_fast]; kernel_rfl
section
variable {prog : Program} {w : World} {A : Around} {E : Value → Shared → Prop} {s : Shared}
theorem hint_rev {r : Addr} {Q : Bool → Shared → Prop} (hT : s.TypeIs (.ref r) "list_reverseiterator") (h : Q false s) : wpAny (model prog w) A (Builtin.List.listLengthHint (.ref r)) Q E s := by
  unfold Builtin.List.listLengthHint
  refine wpAny_bind (wpAny_specialOf hT lri_nolen ?_)
  show wpAny _ A (specialOf (Value.ref r) (Str.ofString "__length_hint__") >>= _) _ _ _
  refine wpAny_bind (wpAny_specialOf hT lri_hint ?_)
  generalize hid : ("list_reverseiterator.__length_hint__" : String) = id0
  wp_delta
  rw [show splitId id0 = some ("list_reverseiterator", "__length_hint__") from by subst hid; decide +kernel]
  subst hid
  refine wpAny_bind (wpAny_isInstance (b := true) hT (by rw [isSubtype_type]; kernel_rfl) ?_)
  exact wpAny_pure h
theorem extend_rev {R : Result → Shared → Prop} {I l S : Addr} {items : Array Value} {res : Value} {c₀ : Nat} (hh : A.handled = none) (hl : s.heap.IsList l items) (hI : s.heap.IsRevIter I l ((items.size : Int) - 1)) (hne : l ≠ I) (hSI : S ≠ I) (hSl : S ≠ l)
    (hS : s.heap.get? S = some { cls := .type "list", data := .seq #[] c₀ }) (hn : items.size ≤ sizeLine)
    (hR : ∀ h' tk acc' c', (∀ b o, b ≠ S → b ≠ I → s.heap.get? b = some o → h'.get? b = some o) → h'.get? S = some { cls := .type "list", dict := none, data := .seq acc' c', slots := #[] } → ItemsOf (fun i v => items[items.size - 1 - i]? = some v) acc' items.size → R (.ok (.ret res)) { s with heap := h', toks := tk }) :
    wpAny (model prog w) A.in1 (Builtin.List.listExtendWith (.ref S) (.ref I) res)
      (fun fin s' => match fin with | .done f => R (.ok f) s' | .again c' => c'.quiet = true ∧ codeAny (model prog w) A c' R s') (fun e s' => R (.error e) s') s := by
  have W := Walks.listRev (prog := prog) (w := w) (A := A.in1) hh I l hne items
  have st : 0 ≤ items.size ∧ s.heap.IsRevIter I l ((items.size : Int) - 1 - ((0 : Nat) : Int)) ∧ s.heap.IsList l items := ⟨Nat.zero_le _, by simpa using hI, hl⟩
  unfold Builtin.List.listExtendWith
  refine wpAny_bind (wpAny_typeOf (T := "list_reverseiterator") hI.typeIs ?_)
  have h1 : Builtin.List.listSameRef (.ref S) (.ref I) = false := by simp [Builtin.List.listSameRef, hSI]
  rw [if_neg (by rw [h1]; decide)]
  refine wpAny_bind (wpAny_pyIter_revIter hI ?_)
  refine wpAny_bind (wpAny_holding (hint_rev hI.typeIs ?_))
  rw [if_neg (by decide)]
  have hSf : S ∉ [I, l] := by simp [hSI, hSl]
  refine wpAny_pure ⟨plainId_quiet PySem.F.plain_extend_loop _, codeAny_extend_loopS W.toS hn S hSf res items.size 0 _ #[] c₀ rfl (Nat.zero_le _) st hS (ItemsOf.nil _) fun s' acc' c' hm hS' hacc => ?_⟩
  rw [Moved.eq_with hm]
  exact hR s'.heap s'.toks acc' c' (fun b o hb1 hb2 e => hm.heap b o (by simp [hb1, hb2]) e) hS' hacc
theorem call_list_rev {I l : Addr} {items : Array Value} {Q : Value → Shared → Prop} (hh : A.handled = none) (hl : s.heap.IsList l items) (hI : s.heap.IsRevIter I l ((items.size : Int) - 1)) (hne : l ≠ I) (hn : items.size ≤ sizeLine)
    (hQ : ∀ h' tk acc' c', (∀ b o, b ≠ I → s.heap.get? b = some o → h'.get? b = some o) → h'.get? s.heap.objs.size = some { cls := .type "list", dict := none, data := .seq acc' c', slots := #[] } → ItemsOf (fun i v => items[items.size - 1 - i]? = some v) acc' items.size → Q (.ref s.heap.objs.size) { s with heap := h', toks := tk }) :
    wpAny (model prog w) A (call (.type "list") [.ref I]) Q E s := by
  have lI : I < s.heap.objs.size := by obtain ⟨_, q, _⟩ := hI; exact Heap.lt_size q
  have ll : l < s.heap.objs.size := by obtain ⟨_, q, _⟩ := hl; exact Heap.lt_size q
  refine callType_codes (Q₁ := fun obj s₁ => obj = .ref s.heap.objs.size ∧ s₁ = { s with heap := s.heap.push { cls := .type "list", data := .seq #[] } }) PySem.F.called_list (PySem.F.typeCall_list_1 _) PySem.F.entry_list_init
    (code_list_new _ ⟨rfl, rfl⟩) fun obj s₁ h₁ => ?_
  obtain ⟨rfl, rfl⟩ := h₁
  have hS : (s.heap.push { cls := .type "list", data := .seq #[] }).get? s.heap.objs.size = some { cls := .type "list", data := .seq #[] } := Heap.get?_push_size _ rfl
  refine ⟨⟨_, hS, rfl⟩, PySem.F.args_list_init_2 _ _, ?_⟩
  show wpAny _ _ (do let old ← Builtin.List.listItems (.ref s.heap.objs.size); Builtin.List.listUpdate (.ref s.heap.objs.size) (fun _ => #[]); letGo old.toList.reverse; Builtin.List.listExtendWith (.ref s.heap.objs.size) (.ref I) .none) _ _ _
  refine wpAny_bind ?_
  unfold Builtin.List.listItems
  refine wpAny_bind (wpAny_seqItems hS rfl (wpAny_pure ?_))
  show wpAny _ _ (updateSeq s.heap.objs.size (fun _ => #[]) >>= fun _ => letGo (#[] : Array Value).toList.reverse >>= fun _ => Builtin.List.listExtendWith (.ref s.heap.objs.size) (.ref I) .none) _ _ _
  refine wpAny_bind (wpAny_updateSeq hS rfl ?_)
  have hS₂ := Heap.get?_update_self (Obj.mapSeq (fun _ => (#[] : Array Value))) hS rfl
  have oth : ∀ b o, b ≠ s.heap.objs.size → s.heap.get? b = some o → ((s.heap.push { cls := .type "list", data := .seq #[] }).update s.heap.objs.size (Obj.mapSeq (fun _ => (#[] : Array Value)))).get? b = some o :=
    fun b o hb e => (Heap.get?_update_other _ _ (Ne.symm hb)).trans (Heap.get?_push_of_some _ e)
  refine wpAny_bind (wpAny_letGo ?_)
  refine extend_rev (A := A.in1) (items := items) hh (hl.at fun o e => oth _ _ (Nat.ne_of_lt ll) e) (hI.at fun o e => oth _ _ (Nat.ne_of_lt lI) e) hne (Nat.ne_of_gt lI) (Nat.ne_of_gt ll) hS₂ hn fun h' tk acc' c' hk hS' hacc => ?_
  exact ⟨rfl, hQ h' tk acc' c' (fun b o hb e => hk b o (Nat.ne_of_lt (Heap.lt_size e)) hb (oth b o (Nat.ne_of_lt (Heap.lt_size e)) e)) hS' hacc⟩
end
section
variable {X : Cx}
theorem vals_of {xs : List V} {us : List Value} : xs.length = us.length → (∀ (i : Nat) (x : V), xs[i]? = some x → ∃ u, us[i]? = some u ∧ RelV x u) → Vals xs us := by
  induction xs generalizing us with
  | nil => intro h _; cases us with
    | nil => exact .nil
    | cons => simp at h
  | cons x xs ih => intro h k; cases us with
    | nil => simp at h
    | cons u us =>
      obtain ⟨u', e, r⟩ := k 0 x rfl
      cases e
      exact .cons r (ih (by simpa using h) fun i y hy => k (i + 1) y hy)
def tListRev (K : PySem.W.Frag) (ta : TE) : TE := fun σ H Q => ta σ H fun v H1 => ∃ (a : Addr) (xs : List V), v = .ref a ∧ SqL K H1 a xs ∧ ∀ l, H1 l = none → Q (.ref l) (upd H1 l (.lst xs.reverse))
theorem pe_listrev {e : Expr} {ta : TE} {p p2 pos pos2 : Pos} (hc : X.calm = true) (hg : Gl X "list") (hm : X.mg "list" = none) (hg2 : Gl X "reversed") (hm2 : X.mg "reversed" = none) (ha : PE X e ta) (hs : starEach [e] X.env = [(false, eval e X.env)] := by rfl)
    (hs2 : starEach [.Call (.Name "reversed" p2) [e] [] pos2] X.env = [(false, eval (.Call (.Name "reversed" p2) [e] [] pos2) X.env)] := by rfl) :
    PE X (.Call (.Name "list" p) [.Call (.Name "reversed" p2) [e] [] pos2] [] pos) (tListRev X.K ta) := by
  intro pins s σ H Q I h
  refine Call_ (ld_blt (u := .type "list") I hg hm (by decide +kernel) (PyProof.Rows.callWith_type1 ?_ hs2 rfl))
  rw [hs2]
  refine Calls.spliced_cons ?_
  refine Call_ (ld_blt I hg2 hm2 boot_reversed5 (PyProof.Rows.callWith_type1 ?_ hs rfl))
  rw [hs]
  refine Calls.spliced_cons (thn (ha pins s σ H _ I h) fun u s1 ⟨x, H1, I1, r1, a, xs, ex, hq, q⟩ => Calls.spliced_nil ?_)
  subst ex
  obtain rfl : u = Value.ref a := r1
  obtain ⟨its, rv, p', hz⟩ := I1.list hq
  refine call_reversed_list p'.isList (Calls.spliced_nil ?_)
  have lv := rv.length
  have hne : a ≠ s1.heap.objs.size := by obtain ⟨_, z, _⟩ := p'.isList; exact Nat.ne_of_lt (Heap.lt_size z)
  have I2 : Inv X pins σ H1 { s1 with heap := s1.heap.push (revObj a ((its.toArray.size : Int) - 1)) } := I1.kept (t' := s1.toks) fun b o e => Heap.get?_push_of_some _ e
  have hf : FpOk X pins H1 s1.heap.objs.size := I1.fpOk (Nat.le_refl _) (I1.hok.fresh (Nat.le_refl _))
  refine call_list_rev (I := s1.heap.objs.size) (l := a) (items := its.toArray) (I.ok.hd hc) (p'.isList.at fun o e => Heap.get?_push_of_some _ e) ⟨_, Heap.get?_push_size _ rfl, rfl, rfl⟩ hne (by simp; omega) fun h' tk acc' c' hk hS' hacc => ?_
  refine ⟨.ref _, _, I2.turnedNew (t' := tk) (ob := .lst xs.reverse) (ch := [s1.heap.objs.size]) (fun b o hb e => hk b o (by simpa using hb) e) (fun b hb => by rw [List.mem_singleton.mp hb]; exact hf) (Nat.le_refl _) ⟨by simpa using hz, acc'.toList, c', ?_, by simpa using hS'⟩, rfl, q _ (I2.hok.fresh (Nat.le_refl _))⟩
  refine vals_of (by
    have z : acc'.toList.length = acc'.size := by simp
    rw [List.length_reverse, z, hacc.1]; simpa using lv) fun i x hx => ?_
  have hix : i < xs.length := by
    have := (List.getElem?_eq_some_iff.mp hx).1
    simpa using this
  rw [List.getElem?_reverse hix] at hx
  obtain ⟨u, hu, ru⟩ := rv.get hx
  have hi : i < acc'.size := by
    rw [hacc.1, List.size_toArray, ← lv]
    exact hix
  have e1 := hacc.2 i _ (Array.getElem?_eq_getElem hi)
  refine ⟨acc'[i], by simp [hi], ?_⟩
  have e2 : its.toArray[its.toArray.size - 1 - i]? = some u := by simp [← lv, hu]
  have e3 : some acc'[i] = some u := e1.symm.trans e2
  cases e3
  exact ru
/-! ### bool(xs) of a list -/
theorem meets_bool_new_list (l : Addr) (items : Array Value) (hfit : (items.size : Int) < 2 ^ 63) :
    Meets (Builtin.«bool.__new__» ⟨[.type "bool", .ref l], []⟩) (fun _ R s => s.heap.IsList l items ∧ R (.ok (.ret (.bool (!items.isEmpty)))) { s with toks := s.toks + 1 + 1 }) :=
  Meets.of_wp fun prog w A R s hs => by
    obtain ⟨hl, hs⟩ := hs
    obtain ⟨hp, g, d, tk, os⟩ := s
    have f1 := PySem.F.conv_sub_bool
    repeat (any_goals (first | assumption | (with_reducible refine wpAny_truthy_list hl hfit ?_) | wp_step))
    all_goals first | exact ⟨_, rfl, hs⟩ | exact hs | skip
theorem call_bool_list : CallR X (.type "bool") (fun xs H Q => ∃ a ys, xs = [.ref a] ∧ SqL X.K H a ys ∧ Q (.bl (!ys.isEmpty)) H) := by
  intro pins s σ H xs us Q I r h
  obtain ⟨a, ys, rfl, hq, q⟩ := h
  obtain ⟨u, rfl, rx⟩ := vals1 r
  cases rx
  obtain ⟨its, rv, pl, hz⟩ := I.list hq
  have hlen := rv.length
  have hl := line63
  refine call_bool_1 (meets_bool_new_list a its.toArray (by simp only [List.size_toArray]; omega)) ⟨pl.isList, ?_⟩
  show wants (fun obj s₁ => s₁.TypeIs obj "bool" ∧ _) _ _ _
  exact ⟨rfl, .bl (!ys.isEmpty), H, I.tok _, by rw [isEmpty_of rv]; rfl, q⟩
/-! ### xs.count(y), flat items -/
def rCount (K : PySem.W.Frag) : V → List V → Hp → VK → Prop := fun x xs H Q => ∃ (a : Addr) (ys : List V) (y : V), x = V.ref a ∧ xs = [y] ∧ SqL K H a ys ∧ flatV y = true ∧ ys.all flatV = true ∧ Q (.int ((ys.countP fun z => eqV z y : Nat) : Int)) H
theorem mt_count_list : MtR X "list.count" (rCount X.K) := by
  intro pins s σ H x xs v us Q I rx rxs h
  obtain ⟨a, ys, y, rfl, rfl, hs, fy, fys, q⟩ := h
  cases rx
  cases rxs with
  | cons ry rt =>
    rename_i uy ut
    cases rt
    obtain ⟨its, rv, ⟨⟨cls, dd, data, sl⟩, n, ho, hc, hdn, hd⟩, hlen⟩ := I.list hs
    simp only at hc hd
    subst hc hd
    refine call_meets PySem.F.slot_list_count ⟨_, ho, rfl⟩ PySem.F.entry_list_count (PySem.F.args_list_count_2 _ _)
      (SeqAt.list_countAt a its.toArray n dd sl uy (eqU y)) ⟨ho, fun u' hu' => mem_eqAt ry fy rv fys u' (by simpa using hu'), ?_⟩
    have e : ∀ {l : List V} {m : List Value}, Vals l m → l.all flatV = true → m.countP (eqU y) = l.countP fun z => eqV z y := by
      intro l m r f
      induction r with
      | nil => rfl
      | cons r1 _ ih =>
        simp only [List.all_cons, Bool.and_eq_true] at f
        rw [List.countP_cons, List.countP_cons, ih f.2, eqU_of r1 f.1]
    exact ⟨.int _, H, I.tok _, ⟨_, by rw [← e rv fys]⟩, q⟩

/-! ### comprehensions over zip and enumerate, the pair taken apart into the slots i and j -/
theorem lc_zip {K : PySem.W.Frag} {a b : Addr} {xs ys : List V} {g : TG} {tt : TT} {te : TE} {vs : List Nat} {σ : St} {H1 : Hp} {D : Addr} {Qd : Hp → Prop} (Pv : Nat → Hp → Prop) (h0 : Pv 0 (upd H1 D (.lst [])))
    (hl : ∀ i H, i ≤ min xs.length ys.length → Pv i H → SqL K H a xs ∧ SqL K H b ys)
    (hs : ∀ i x y H T, xs[i]? = some x → ys[i]? = some y → Pv i H → H T = none → g (.ref T) (wipe σ vs) (upd H T (.tup [x, y])) fun σ2 H2 => wipe σ2 vs = wipe σ vs ∧ tt σ2 H2 fun b H3 =>
      if b = true then te σ2 H3 fun y H4 => ∃ acc, H4 D = some (.lst acc) ∧ acc.length < sizeLine ∧ Pv (i + 1) (upd H4 D (.lst (acc ++ [y]))) else Pv (i + 1) H3) (hd : ∀ H, Pv (min xs.length ys.length) H → Qd H) :
    ∃ W : Nat → Nat → Hp → Prop, (∃ m, W 0 m (upd H1 D (.lst []))) ∧ ∀ i m H, W i m H →
      ((Itz K a b).stop i H ∧ Qd H) ∨ ((Itz K a b).go i H ∧ ∃ Nx : Hp → Prop, (∀ H', Nx H' → ∃ m', m' < m ∧ W (i + 1) m' H') ∧ ∀ x H', (Itz K a b).yld i H x H' → g x (wipe σ vs) H' fun σ2 H2 => wipe σ2 vs = wipe σ vs ∧ tt σ2 H2 fun b H3 =>
        if b = true then te σ2 H3 fun y H4 => ∃ acc, H4 D = some (.lst acc) ∧ acc.length < sizeLine ∧ Nx (upd H4 D (.lst (acc ++ [y]))) else Nx H3) := by
  refine ⟨fun i m H => m = min xs.length ys.length - i ∧ i ≤ min xs.length ys.length ∧ Pv i H, ⟨min xs.length ys.length, by simp, Nat.zero_le _, h0⟩, ?_⟩
  rintro i m H ⟨rfl, hi, p⟩
  obtain ⟨q1, q2⟩ := hl i H hi p
  by_cases hlt : i < min xs.length ys.length
  · have l1 : i < xs.length := by omega
    have l2 : i < ys.length := by omega
    refine .inr ⟨⟨xs, ys, xs[i], ys[i], q1, q2, by simp [l1], by simp [l2]⟩, Pv (i + 1), fun H' p' => ⟨min xs.length ys.length - (i + 1), by omega, rfl, hlt, p'⟩, fun x H' y => ?_⟩
    obtain ⟨T, x', y', rfl, hT, rfl, y1, y2⟩ := y
    exact hs i x' y' _ T (y1 xs q1) (y2 ys q2) p hT
  · have e : i = min xs.length ys.length := by omega
    subst e
    exact .inl ⟨⟨xs, ys, q1, q2, by omega⟩, hd H p⟩
theorem lc_enum {K : PySem.W.Frag} {a : Addr} {xs : List V} {g : TG} {tt : TT} {te : TE} {vs : List Nat} {σ : St} {H1 : Hp} {D : Addr} {Qd : Hp → Prop} (Pv : Nat → Hp → Prop) (h0 : Pv 0 (upd H1 D (.lst [])))
    (hl : ∀ i H, i ≤ xs.length → Pv i H → SqL K H a xs)
    (hs : ∀ i x H T, xs[i]? = some x → Pv i H → H T = none → g (.ref T) (wipe σ vs) (upd H T (.tup [.int (i : Nat), x])) fun σ2 H2 => wipe σ2 vs = wipe σ vs ∧ tt σ2 H2 fun b H3 =>
      if b = true then te σ2 H3 fun y H4 => ∃ acc, H4 D = some (.lst acc) ∧ acc.length < sizeLine ∧ Pv (i + 1) (upd H4 D (.lst (acc ++ [y]))) else Pv (i + 1) H3) (hd : ∀ H, Pv xs.length H → Qd H) :
    ∃ W : Nat → Nat → Hp → Prop, (∃ m, W 0 m (upd H1 D (.lst []))) ∧ ∀ i m H, W i m H →
      ((Ite K a).stop i H ∧ Qd H) ∨ ((Ite K a).go i H ∧ ∃ Nx : Hp → Prop, (∀ H', Nx H' → ∃ m', m' < m ∧ W (i + 1) m' H') ∧ ∀ x H', (Ite K a).yld i H x H' → g x (wipe σ vs) H' fun σ2 H2 => wipe σ2 vs = wipe σ vs ∧ tt σ2 H2 fun b H3 =>
        if b = true then te σ2 H3 fun y H4 => ∃ acc, H4 D = some (.lst acc) ∧ acc.length < sizeLine ∧ Nx (upd H4 D (.lst (acc ++ [y]))) else Nx H3) := by
  refine ⟨fun i m H => m = xs.length - i ∧ i ≤ xs.length ∧ Pv i H, ⟨xs.length, by simp, Nat.zero_le _, h0⟩, ?_⟩
  rintro i m H ⟨rfl, hi, p⟩
  have q1 := hl i H hi p
  by_cases hlt : i < xs.length
  · refine .inr ⟨⟨xs, xs[i], q1, by simp [hlt]⟩, Pv (i + 1), fun H' p' => ⟨xs.length - (i + 1), by omega, rfl, hlt, p'⟩, fun x H' y => ?_⟩
    obtain ⟨T, x', rfl, hT, rfl, y1⟩ := y
    exact hs i x' _ T (y1 xs q1) p hT
  · have e : i = xs.length := by omega
    subst e
    exact .inl ⟨⟨xs, q1, Nat.le_refl _⟩, hd H p⟩
/-! ### a dict of the module's top whose keys are ints: read alone -/
def KD (K : PySem.W.Frag) (a : Addr) (l : List (Int × V)) : Prop :=
  (a == sysModules) = false ∧ ∃ (o : Obj) (es : Array DictEntry) (ep : Nat), K.lookup a = some o ∧ o.ExactDict ∧ o.data = .dict es ep ∧
    Paired (fun (p : Int × V) (e : DictEntry) => e.hash = hashInt p.1 ∧ (∃ t, e.key = .int p.1 t) ∧ RelV p.2 e.val) l es.toList
theorem kd_find {P : Program} {w : World} : ∀ {l : List (Int × V)} {es : List DictEntry}, Paired (fun (p : Int × V) (e : DictEntry) => e.hash = hashInt p.1 ∧ (∃ t, e.key = .int p.1 t) ∧ RelV p.2 e.val) l es → ∀ k : Int,
    RelO ((l.find? fun p => p.1 == k).map (·.2)) ((es.find? fun e => Value.isInt k e.key).map (·.val))
  | _, _, .nil, k => trivial
  | (i, v) :: l, e :: es, .cons ⟨_, ⟨t, hk⟩, r⟩ rest, k => by
    have e1 : Value.isInt k e.key = (i == k) := by
      rw [hk]
      simp [Value.isInt]
      try exact Bool.eq_iff_iff.mpr ⟨fun z => by simpa using z.symm, fun z => by simpa using z.symm⟩
    rw [List.find?_cons, List.find?_cons, e1]
    show RelO ((match (i == k) with | true => some (i, v) | false => _).map _) _
    cases (i == k) with
    | true => exact r
    | false => exact kd_find (P := P) (w := w) rest k
theorem KD.map {pins : List (Addr × Obj)} {σ : St} {H : Hp} {s : Shared} {a : Addr} {l : List (Int × V)} (I : Inv X pins σ H s) (d : KD X.K a l) :
    ∃ f : Int → Option Value, s.heap.MapOf (intKind X.prog X.w) a f ∧ ∀ k, RelO ((l.find? fun p => p.1 == k).map (·.2)) (f k) := by
  obtain ⟨_, o, es, ep, hk, hx, hd, hp⟩ := d
  refine ⟨fun k => (es.toList.find? fun e => Value.isInt k e.key).map (·.val), ⟨o, es, ep, I.kIn _ _ hk, hx, hd, ?_, fun k => ?_⟩, kd_find (P := X.prog) (w := X.w) hp⟩
  · have key : ∀ {l : List (Int × V)} {es : List DictEntry}, Paired (fun (p : Int × V) (e : DictEntry) => e.hash = hashInt p.1 ∧ (∃ t, e.key = .int p.1 t) ∧ RelV p.2 e.val) l es → ∀ e ∈ es, ∃ k, Value.isInt k e.key = true ∧ e.hash = hashInt k := by
      intro l es r
      induction r with
      | nil => intro e he; cases he
      | cons q _ ih =>
        intro e he
        rcases List.mem_cons.mp he with rfl | he
        · obtain ⟨q1, ⟨t, q2⟩, _⟩ := q
          exact ⟨_, by rw [q2]; simp [Value.isInt], q1⟩
        · exact ih e he
    intro e he
    exact key hp e (by simpa using he)
  · show findBy Value.isInt es k = _
    obtain ⟨l⟩ := es
    simp [findBy]
def tKGet (td ty : TE) (l : List (Int × V)) (a : Addr) : TE := fun σ H Q => td σ H fun x H1 => ty σ H1 fun y H2 => ∃ i v, x = .ref a ∧ y = .int i ∧ (l.find? fun p => p.1 == i).map (·.2) = some v ∧ Q v H2
theorem pe_kget {o i : Expr} {pos : Pos} {td ty : TE} {l : List (Int × V)} {a : Addr} (d : KD X.K a l) (ho : PE X o td) (hi : PE X i ty) (hs : NoSl i) : PE X (.Subscript o i pos) (tKGet td ty l a) := by
  intro pins s σ H Q I h
  refine subD_of PySem.F.slot_dict_getitem.lookup hs (thn (ho pins s σ H _ I h) fun u s1 ⟨x, H1, I1, rx, q1⟩ => thn (hi pins s1 σ H1 _ I1 q1) fun iv s2 ⟨y, H2, I2, ry, i, v, ex, ey, g, q2⟩ => ?_)
  subst ex ey
  obtain rfl : u = Value.ref a := rx
  obtain ⟨t, rfl⟩ := ry
  obtain ⟨f, mo, rf⟩ := d.map I2
  have z := rf i
  rw [g] at z
  cases hf : f i with
  | none => rw [hf] at z; exact z.elim
  | some w' =>
    rw [hf] at z
    exact ⟨mo.typeIs, wpAny_getItem_of (by show Value.isInt i (.int i t) = true; simp [Value.isInt]) mo hf ⟨v, H2, I2.tok _, z, q2⟩⟩
def tKIn (ty td : TE) (l : List (Int × V)) (a : Addr) (neg : Bool) : TE := fun σ H Q => ty σ H fun y H1 => td σ H1 fun x H2 => ∃ i, y = .int i ∧ x = .ref a ∧ Q (.bl (if neg then !((l.find? fun p => p.1 == i).isSome) else (l.find? fun p => p.1 == i).isSome)) H2
theorem relO_some {o : Option V} {u : Option Value} (r : RelO o u) : u.isSome = o.isSome := by
  cases o <;> cases u <;> first | rfl | exact r.elim
theorem pc_kin {o i : Expr} {td ty : TE} {l : List (Int × V)} {a : Addr} (d : KD X.K a l) (hi : PE X i ty) (ho : PE X o td) : PC X .In i o (tKIn ty td l a false) := by
  intro pins s σ H Q I h
  refine thn (hi pins s σ H _ I h) fun iv s1 ⟨y, H1, I1, ry, q1⟩ => thn (ho pins s1 σ H1 _ I1 q1) fun u s2 ⟨x, H2, I2, rx, i, ey, ex, q2⟩ => ?_
  subst ex ey
  obtain rfl : u = Value.ref a := rx
  obtain ⟨t, rfl⟩ := ry
  obtain ⟨f, mo, rf⟩ := d.map I2
  refine wpAny_in_of (knd := intKind X.prog X.w) (by show Value.isInt i (.int i t) = true; simp [Value.isInt]) d.1 mo ⟨_, H2, I2.tok _, ?_, q2⟩
  have z := relO_some (rf i)
  simp only [Option.isSome_map] at z
  show Value.bool (f i).isSome = Value.bool _
  rw [z]
  rfl
theorem pc_knotin {o i : Expr} {td ty : TE} {l : List (Int × V)} {a : Addr} (d : KD X.K a l) (hi : PE X i ty) (ho : PE X o td) : PC X .NotIn i o (tKIn ty td l a true) := by
  intro pins s σ H Q I h
  refine thn (hi pins s σ H _ I h) fun iv s1 ⟨y, H1, I1, ry, q1⟩ => thn (ho pins s1 σ H1 _ I1 q1) fun u s2 ⟨x, H2, I2, rx, i, ey, ex, q2⟩ => ?_
  subst ex ey
  obtain rfl : u = Value.ref a := rx
  obtain ⟨t, rfl⟩ := ry
  obtain ⟨f, mo, rf⟩ := d.map I2
  refine wpAny_notIn_of (knd := intKind X.prog X.w) (by show Value.isInt i (.int i t) = true; simp [Value.isInt]) d.1 mo ⟨_, H2, I2.tok _, ?_, q2⟩
  have z := relO_some (rf i)
  simp only [Option.isSome_map] at z
  show Value.bool (!(f i).isSome) = Value.bool _
  rw [z]
  rfl
/-! ### a call of a computed def -/
def tCallE (X : Cx) (tf : TE) (t : TA) : TE := fun σ H Q => tf σ H fun v H1 => ∃ (f : Addr) (fd : FuncData) (ps : List Str) (sp : Sp) (k : Nat) (CX : CXT) (E : XK), v = .ref f ∧ FnOk X.prog X.w X.K X.mg X.base CX k f fd ps sp ∧ Room k X.A ∧ PySem.W.keepIn X.K (.ref f) = true ∧ Binds X.K fd ps [] ∧ Passes CX X E ∧
  t σ H1 fun vs H2 => sp vs H2 Q E
theorem pe_callE {fe e : Expr} {es : List Expr} {pos : Pos} {tf : TE} {t : TA} (hf : PE X fe tf) (ha : PA X (e :: es) t) (he : starEach (e :: es) X.env = (false, eval e X.env) :: starEach es X.env := by rfl) (hpl : (backTo pos (starEach es X.env)).any (·.1) = false := by rfl)
    (hev : eval (.Call fe (e :: es) [] pos) X.env = (do callWith pos (← eval fe X.env) [] (backTo pos (starEach (e :: es) X.env)) (backToKw pos (keywordEach [] X.env))) := by rfl) : PE X (.Call fe (e :: es) [] pos) (tCallE X tf t) := by
  intro pins s σ H Q I h
  refine Call_ (thn (hf pins s σ H _ I h) fun u s1 ⟨v, H1, I1, rv, f, fd, ps, sp, k, CX, E, ev, F, hr, hk, hb, hx, q⟩ => ?_) hev
  subst ev
  obtain rfl : u = Value.ref f := rv
  refine PySem.W.callWith_K (h₀ := X.base) I.ok.mod.kin hk (thn (ha pos pins s1 σ H1 _ I1 q) fun us s2 ⟨vs, H2, I2, r, q2⟩ => ⟨I2.kIn, ?_⟩) he hpl
  exact run_fn F hr hb .nil hx I2 r (by rw [List.append_nil]; exact q2)
end
end L2

end

-- part PpSet
section
set_option Elab.async false
set_option linter.all false
set_option maxRecDepth 100000
set_option maxHeartbeats 2000000
namespace L2
open PySem PySem.Spec PyProof.Rows
theorem entry_set_eq : entryFor table "set.__eq__" = some Builtin.«frozenset.__eq__» := entryFor_alias (id' := "frozenset.__eq__") (by kernel_rfl) rfl (by decide +kernel) (by kernel_rfl)
section
variable {prog : Program} {w : World} {A : Around} {E : Value → Shared → Prop} {s : Shared} {a b : Addr} {S T : Int → Bool} {n m : Nat}

theorem quiet_int {k : Int} {u : Tok} : Builtin.Frozenset.quietEq (.int k u) = pure true := rfl
theorem loop_pure {α β : Type} {f : α → β → Sem (ForInStep β)} {z : β} : ∀ {l : List α}, (∀ e ∈ l, f e z = pure (ForInStep.yield z)) → forIn l z f = pure z
  | [], _ => by rw [List.forIn_nil]
  | e :: l, h => by
    rw [List.forIn_cons, h e List.mem_cons_self]
    exact loop_pure fun x hx => h x (List.mem_cons_of_mem _ hx)
theorem elems_int {es : List (Int × Value)} (h : ElemsOf (intKind prog w) es) {e : Int × Value} (he : e ∈ es) : ∃ k t, e = (hashInt k, Value.int k t) := by
  obtain ⟨⟨k, hk, hh⟩, _⟩ := h e he
  obtain ⟨t, ht⟩ := Value.isInt_shape (k := k) (v := e.2) hk
  exact ⟨k, t, by cases e; simp only at ht hh; rw [ht, hh]; rfl⟩
theorem sub_loop {id : String} {epa : Nat} {oa : Obj} {esa : Array (Int × Value)} {ta : SetTable} (hb : s.heap.SetOf (intKind prog w) b T m) (hoa : s.heap.get? a = some oa) (hda : oa.data = .set esa epa ta) (hfa : ta.fits esa.size = true) {Q : Option Bool × Unit → Shared → Prop} :
    ∀ {l : List (Int × Value)}, ElemsOf (intKind prog w) l → ((∀ e ∈ l, ∀ k t, e.2 = Value.int k t → T k = true) → Q (none, ()) s) → ((∃ e ∈ l, ∃ k t, e.2 = Value.int k t ∧ T k = false) → Q (some false, ()) s) →
    wpAny (model prog w) A (forIn l ((none, ()) : Option Bool × Unit) fun x _ => match x with
                | (h, x) => do
                  let r ← holding [x] (setFind b x h)
                  if r.isNone = true then pure (ForInStep.done (some false, ()))
                    else do
                      Builtin.Frozenset.unchanged id a epa
                      pure (ForInStep.yield (none, ()))) Q E s
  | [], _, h1, _ => by
    rw [List.forIn_nil]
    exact wpAny_pure (h1 fun e he => absurd he (by simp))
  | e :: l, hl, h1, h2 => by
    rw [List.forIn_cons]
    obtain ⟨k, t, rfl⟩ := elems_int hl List.mem_cons_self
    refine wpAny_bind (wpAny_bind (wpAny_holding (wpAny_setFind_of (knd := intKind prog w) (k := k) (by show Value.isInt k (.int k t) = true; simp [Value.isInt]) rfl hb fun r hr => ?_)))
    cases hT : T k with
    | true =>
      rw [hT] at hr
      rw [if_neg (by cases r <;> simp_all)]
      unfold Builtin.Frozenset.unchanged
      refine wpAny_bind (wpAny_bind (wpAny_setEpoch_of hoa hda hfa ?_))
      rw [if_neg (by simp)]
      refine wpAny_pure (wpAny_pure ?_)
      refine sub_loop hb hoa hda hfa (hl.tail) (fun hall => h1 fun e he k' t' he' => ?_) fun ⟨e, he, r⟩ => h2 ⟨e, List.mem_cons_of_mem _ he, r⟩
      rcases List.mem_cons.mp he with rfl | he
      · cases he'; exact hT
      · exact hall e he k' t' he'
    | false =>
      rw [hT] at hr
      rw [if_pos (by cases r <;> simp_all)]
      exact wpAny_pure (wpAny_pure (h2 ⟨_, List.mem_cons_self, k, t, rfl, hT⟩))
theorem sub_ss : isSubtype (.type "set") (.type "set") = pure true := by rw [isSubtype_type]; kernel_rfl
theorem sub_sf : isSubtype (.type "set") (.type "frozenset") = pure false := by rw [isSubtype_type]; kernel_rfl
theorem eq_sets {Q : Value → Shared → Prop} (hu : A.units < cLine) (ha : s.heap.SetOf (intKind prog w) a S n) (hb : s.heap.SetOf (intKind prog w) b T m)
    (h : ∀ r : Bool, (r = true ↔ n = m ∧ ∀ k, S k = true → T k = true) → Q (.bool r) s) : wpAny (model prog w) A (compareOp .Eq (.ref a) (.ref b)) Q E s := by
  have hTa := ha.typeIs
  have hTb := hb.typeIs
  refine wpAny_richCompare_same_room (op := .Eq) ha.typeIs hb.typeIs PySem.F.slot_set_eq (wpAny_call_entry PySem.F.slot_set_eq ha.typeIs entry_set_eq ?_ (PySem.F.args_set_eq_2 _ _)) hu
  obtain ⟨oa, esa, epa, ta, hoa, hxa, hda, hela, hmema, hba, hfa, hna⟩ := id ha
  obtain ⟨ob, esb, epb, tb, hob, hxb, hdb, helb, hmemb, hbb, hfb, hnb⟩ := id hb
  unfold Builtin.«frozenset.__eq__»
  wp_delta
  refine wpAny_bind (wpAny_of_eq (a := (Value.ref a, Value.ref b)) rfl ?_)
  dsimp only
  refine wpAny_bind ?_
  unfold Builtin.Frozenset.isAnySet orM
  refine wpAny_bind (wpAny_isInstance (b := true) hTb sub_ss ?_)
  refine wpAny_pure ?_
  rw [if_neg (by decide)]
  refine wpAny_bind (wpAny_of_eq (a := a) rfl ?_)
  refine wpAny_bind (wpAny_of_eq (a := b) rfl ?_)
  refine wpAny_bind ?_
  show wpAny _ _ (setEntries a >>= fun e => pure e.size) _ _ s
  refine wpAny_bind (wpAny_setEntries_of hoa hda hfa (wpAny_pure ?_))
  refine wpAny_bind ?_
  show wpAny _ _ (setEntries b >>= fun e => pure e.size) _ _ s
  refine wpAny_bind (wpAny_setEntries_of hob hdb hfb (wpAny_pure ?_))
  refine wpAny_bind ?_
  have fin : ∀ r : Bool, (r = true ↔ n = m ∧ ∀ k, S k = true → T k = true) → wpAny (model prog w) A.in1 (ret (Value.bool r)) (fun fin s' => ∃ v, fin = Fin.done (Flow.ret v) ∧ v ≠ .notImplemented ∧ Q v s') E s := fun r hr => wpAny_pure ⟨_, rfl, (fun z => by cases z), h r hr⟩
  by_cases hnm : n = m
  · rw [if_neg (by rw [hna, hnb, hnm]; simp)]
    unfold andM
    refine wpAny_bind (wpAny_bind (wpAny_isInstance (b := false) hTa sub_sf ?_))
    refine wpAny_pure ?_
    rw [if_neg Bool.false_ne_true]
    unfold Builtin.Frozenset.subsetOf
    refine wpAny_bind ?_
    show wpAny _ _ (setEntries a >>= fun e => pure e.size) _ _ s
    refine wpAny_bind (wpAny_setEntries_of hoa hda hfa (wpAny_pure ?_))
    refine wpAny_bind ?_
    show wpAny _ _ (setEntries b >>= fun e => pure e.size) _ _ s
    refine wpAny_bind (wpAny_setEntries_of hob hdb hfb (wpAny_pure ?_))
    rw [if_neg (by rw [hna, hnb, hnm]; omega)]
    refine wpAny_bind (wpAny_setEpoch_of hoa hda hfa ?_)
    refine wpAny_bind ?_
    unfold Builtin.Frozenset.walkUnseen
    refine wpAny_bind (wpAny_setEntries_of hoa hda hfa ?_)
    refine wpAny_bind (wpAny_setEntries_of hob hdb hfb ?_)
    have quiet : ∀ e ∈ esa.toList ++ esb.toList, ∃ k t, e = (hashInt k, Value.int k t) := fun e he => (List.mem_append.mp he).elim (fun z => elems_int hela z) fun z => elems_int helb z
    rw [loop_pure (z := ((none, ()) : Option (List (Int × Value)) × Unit)) (fun e he => by obtain ⟨k, t, rfl⟩ := quiet e he; rfl)]
    refine wpAny_bind (wpAny_pure (wpAny_pure ?_))
    refine wpAny_bind (sub_loop hb hoa hda hfa hela (fun hall => wpAny_pure (fin true ⟨fun _ => ⟨hnm, fun k hk => ?_⟩, fun _ => rfl⟩)) fun ⟨e, he, k, t, he', hT⟩ => wpAny_pure (fin false ⟨fun z => (by cases z), fun z => ?_⟩))
    · obtain ⟨e, he, hi⟩ := (hmema k).mp hk
      obtain ⟨t, ht⟩ := Value.isInt_shape (k := k) (v := e.2) hi
      exact hall e he k t ht
    · have hS : S k = true := (hmema k).mpr ⟨e, he, by rw [he']; show Value.isInt k (.int k t) = true; simp [Value.isInt]⟩
      rw [z.2 k hS] at hT
      cases hT
  · rw [if_pos (by rw [hna, hnb]; simpa using hnm)]
    exact wpAny_pure (fin false ⟨fun z => (by cases z), fun z => absurd z.1 hnm⟩)
end
section
variable {X : Cx}
theorem range_getD (ns : List Int) : (List.range ns.length).map (fun i => ns.getD i 0) = ns := by
  apply List.ext_getElem
  · simp
  · intro i h1 h2
    simp at h1
    simp [h1]
/-- the members of a row, each once -/
def dedup (ns : List Int) : List Int := ns.foldl step_dedup []
theorem firstMet_eq (ns : List Int) : firstMet (fun i => ns.getD i 0) ns.length = dedup ns := by
  unfold firstMet dedup
  rw [range_getD]
theorem dedup_any (ns : List Int) (k : Int) : (dedup ns).any (· == k) = ns.any (· == k) := by
  rw [← firstMet_eq, firstMet_any, range_getD]
/-- set(xs) of a list of ints -/
theorem call_set_ints (hc : X.calm = true) : CallR X (.type "set") (fun xs H Q => ∃ a ns, xs = [.ref a] ∧ SqL X.K H a (ns.map V.int) ∧ ns.length ≤ 4000 ∧ ∀ p, H p = none → Q (.ref p) (upd H p (.set (fun k => ns.any (· == k)) (dedup ns).length))) := by
  intro pins s σ H xs us Q I r h
  obtain ⟨a, ns, rfl, hq, hz, q⟩ := h
  obtain ⟨u, rfl, rx⟩ := vals1 r
  cases rx
  obtain ⟨its, rv, pl, _⟩ := I.list hq
  have hl := rv.length
  rw [List.length_map] at hl
  have hi : IntsAre its ns := by
    have key : ∀ {ns : List Int} {its : List Value}, Vals (ns.map V.int) its → IntsAre its ns := by
      intro ns
      induction ns with
      | nil => intro its r; cases r; exact .nil
      | cons n ns ih =>
        intro its r
        cases r with
        | cons r1 r2 =>
          obtain ⟨t, rfl⟩ := r1
          exact .cons _ _ (ih r2)
    exact key rv
  refine PySem.call_set_list (items := its.toArray) (ns := ns) (I.ok.hd hc) pl.isList (by simpa using hi) (by simp only [List.size_toArray]; unfold scanBound; omega) fun h' tk hS hk => ?_
  simp only [List.size_toArray] at hS
  rw [← hl, firstMet_eq] at hS
  refine ⟨.ref _, _, I.laid (t' := tk) (o := .set (fun k => ns.any (· == k)) (dedup ns).length) (fun b o e => hk b o (Heap.lt_size e) e) (Nat.le_refl _) ?_, rfl, q _ (I.hok.fresh (Nat.le_refl _))⟩
  have e : (fun k' => (dedup ns).any (· == k')) = fun k => ns.any (· == k) := funext fun k => dedup_any ns k
  rw [e] at hS
  exact hS
theorem call_len_seti : CallR X (.builtin "len") (fun xs H Q => ∃ a S n, xs = [.ref a] ∧ H a = some (.set S n) ∧ Q (.int (n : Nat)) H) := by
  intro pins s σ H xs us Q I r h
  obtain ⟨a, S, n, rfl, ha, q⟩ := h
  obtain ⟨u, rfl, rx⟩ := vals1 r
  cases rx
  obtain ⟨o, es, ep, t, ho, hx, hd, _, _, hb, hf, hn⟩ : s.heap.SetOf (intKind X.prog X.w) a S n := I.hok a _ ha
  refine call_len_set ho hx hd hf (by unfold scanBound at hb; omega) ⟨.int n, H, I.tok _, ⟨_, by rw [hn]⟩, q⟩
theorem op_eq_set (hu : X.A.units < cLine) : OpR X (compareOp .Eq) (fun x y H Q => ∃ a b S T n m, x = .ref a ∧ y = .ref b ∧ H a = some (.set S n) ∧ H b = some (.set T m) ∧ ∀ r : Bool, (r = true ↔ n = m ∧ ∀ k, S k = true → T k = true) → Q (.bl r) H) := by
  intro pins s σ H x y v u Q I rx ry h
  obtain ⟨a, b, S, T, n, m, rfl, rfl, ha, hb, q⟩ := h
  cases rx
  cases ry
  exact eq_sets hu (I.hok a _ ha) (I.hok b _ hb) fun r hr => ⟨.bl r, H, I, rfl, q r hr⟩
end
end L2

end

-- part PpHide
section
set_option Elab.async false
set_option linter.all false
set_option maxRecDepth 100000
set_option maxHeartbeats 2000000
namespace L2
open PySem PySem.Spec PyProof.Rows
def del (H : Hp) (d : Addr) : Hp := fun b => if b = d then none else H b
theorem del_same {H : Hp} {d : Addr} : del H d d = none := if_pos rfl
theorem del_ne {H : Hp} {b d : Addr} (h : b ≠ d) : del H d b = H b := if_neg h
theorem del_none {H : Hp} {b d : Addr} (h : H b = none) : del H d b = none := by
  unfold del
  split
  · rfl
  · exact h
theorem del_some {H : Hp} {b d : Addr} {o : HO} (h : del H d b = some o) : b ≠ d ∧ H b = some o := by
  unfold del at h
  split at h
  · cases h
  · rename_i n
    exact ⟨n, h⟩
section
variable {X : Cx} {pins : List (Addr × Obj)} {σ : St} {H H' : Hp} {s : Shared} {d : Addr} {xs : List V}
theorem Inv.hide {o : Obj} (I : Inv X pins σ H s) (hd : H d = some (.lst xs)) (e : s.heap.get? d = some o) (hc : ∀ v, o.data ≠ .cell v) : Inv X (pins ++ [(d, o)]) σ (del H d) s where
  ok := I.ok
  os := I.os
  bare := I.bare
  base := ⟨I.base.keep, I.base.slot, fun b o q n x => del_none (I.base.free b o q n x), I.base.there,
    fun b ys q => by rw [del_ne (ne_of (I.base.tups b ys q) hd (by intro z; cases z))]; exact I.base.tups b ys q,
    fun b o u q => by rw [del_ne (ne_of (I.base.frzs b o u q) hd (by intro z; cases z))]; exact I.base.frzs b o u q,
    fun b ps q => by
      obtain ⟨m, q⟩ := I.base.tbls b ps q
      exact ⟨m, by rw [del_ne (ne_of q hd (by intro z; cases z))]; exact q⟩⟩
  loc := I.loc
  cell := I.cell
  free := del_none I.free
  freeC := fun x c h => del_none (I.freeC x c h)
  pin := fun p hp => by
    rw [← List.append_assoc] at hp
    rcases List.mem_append.mp hp with hp | hp
    · obtain ⟨a, b, c⟩ := I.pin p hp
      exact ⟨a, del_none b, c⟩
    · obtain rfl := List.mem_singleton.mp hp
      refine ⟨e, del_same, fun z => ?_, fun z => ?_, hc⟩
      · have z : d = X.env.locals := z
        rw [z, I.free] at hd
        cases hd
      · have z : d ∈ X.fs := z
        obtain ⟨_, o0, h0⟩ := I.ok.funs.mem z
        have := I.base.free d o0 h0.1 (I.ok.frf d z) (fun y => I.ok.exfs d y z)
        rw [this] at hd
        cases hd
  hok := fun a o h => by
    obtain ⟨n, h⟩ := del_some h
    exact (I.hok a o h).stay (fun b u _ q => q) (fun b q => by rw [del_ne (ne_of q hd (by intro z; cases z))]; exact q) fun b ys q => by rw [del_ne (ne_of q hd (by intro z; cases z))]; exact q
  len := I.len
theorem Inv.unhide {s' : Shared} {its : List Value} {n : Nat} (I : Inv X pins σ H s) (hd : H d = some (.lst xs)) (hv : Vals xs its) (hz : xs.length ≤ sizeLine) (J : Inv X (pins ++ [(d, { cls := .type "list", data := .seq its.toArray n })]) σ H' s') : Inv X pins σ (upd H' d (.lst xs)) s' := by
  have pd := J.pin (d, { cls := .type "list", data := .seq its.toArray n }) (List.mem_append_right _ (List.mem_append_right _ (List.mem_singleton.mpr rfl)))
  have dn : H' d = none := pd.2.1
  have sm : ∀ b u, H' b = some u → upd H' d (.lst xs) b = some u := fun b u q => by rw [upd_ne (ne_of_none q dn)]; exact q
  exact {
    ok := J.ok
    os := J.os
    bare := J.bare
    base := ⟨J.base.keep, J.base.slot, fun b o q n x => by
        have hb : b ≠ d := fun z => by
          have := I.base.free b o q n x
          rw [z, hd] at this
          cases this
        rw [upd_ne hb]
        exact J.base.free b o q n x, J.base.there, fun b ys q => sm _ _ (J.base.tups b ys q), fun b o u q => sm _ _ (J.base.frzs b o u q), fun b ps q => let ⟨m, q⟩ := J.base.tbls b ps q; ⟨m, sm _ _ q⟩⟩
    loc := J.loc
    cell := J.cell
    free := by
      rw [upd_ne (Ne.symm pd.2.2.1)]
      exact J.free
    freeC := fun x c h => by
      have hb : c ≠ d := fun z => by
        have := I.freeC x c h
        rw [z, hd] at this
        cases this
      rw [upd_ne hb]
      exact J.freeC x c h
    pin := fun p hp => by
      have hb : p.1 ≠ d := fun z => by
        have := (I.pin p hp).2.1
        rw [z, hd] at this
        cases this
      obtain ⟨a, b, c⟩ := J.pin p (by rw [← List.append_assoc]; exact List.mem_append_left _ hp)
      exact ⟨a, by rw [upd_ne hb]; exact b, c⟩
    hok := fun a o h => by
      by_cases ha : a = d
      · subst ha
        rw [upd_same] at h
        cases h
        exact ⟨hz, its, n, hv, pd.1⟩
      · rw [upd_ne ha] at h
        exact (J.hok a o h).stay (fun b u _ q => q) (fun b q => sm _ _ q) fun b ys q => sm _ _ q
    len := J.len }
/-- a list laid aside while e is looked at: it is none of what e looks at -/
def tHide (te : TE) : TE := fun σ H Q => ∃ d xs, H d = some (.lst xs) ∧ te σ (del H d) fun v H' => H' d = none → Q v (upd H' d (.lst xs))
theorem pe_hide {e : Expr} {te : TE} (he : PE X e te) : PE X e (tHide te) := by
  intro pins s σ H Q I ⟨d, xs, hd, h⟩
  obtain ⟨z, its, n, r, e⟩ := I.hok d _ hd
  have I' := I.hide hd e (fun v q => by cases q)
  refine thn (he _ s σ (del H d) _ I' h) fun v s1 ⟨x, H1, I1, r1, q1⟩ => ⟨x, upd H1 d (.lst xs), I.unhide hd r z I1, r1, q1 ?_⟩
  exact (I1.pin (d, { cls := .type "list", data := .seq its.toArray n }) (List.mem_append_right _ (List.mem_append_right _ (List.mem_singleton.mpr rfl)))).2.1
theorem del_upd {H : Hp} {d : Addr} {o : HO} (h : H d = none) : del (upd H d o) d = H := by
  funext b
  by_cases hb : b = d
  · subst hb
    rw [del_same, h]
  · rw [del_ne hb, upd_ne hb]
end
end L2

end

-- part PpMore2
section
set_option Elab.async false
set_option linter.all false
set_option maxRecDepth 100000
set_option maxHeartbeats 2000000
namespace L2
open PySem PySem.Spec PyProof.Rows
/-! ### xs.extend(t), t a tuple -/
theorem extend_tup (l : Addr) (its : Array Value) (n : Nat) (b : Addr) (its2 : Array Value) (n2 : Nat) (dd : Option Addr) (sl : Array (Option Value)) (h0 : ¬(!its.isEmpty && Builtin.List.listTooLong (its.size + its2.size)) = true) (h1 : its.size ≤ sizeLine) (h2 : (its ++ its2).size ≤ sizeLine + 1) :
    Meets (Builtin.«list.extend» ⟨[.ref l, .ref b], []⟩) (fun _ R s => s.heap.get? l = some { cls := .type "list", data := .seq its n } ∧ s.heap.get? b = some { cls := .type "tuple", dict := dd, data := .seq its2 n2, slots := sl } ∧ R (.ok (.ret .none)) { s with heap := s.heap.update l (Obj.mapSeq fun x => x ++ its2) }) :=
  .of_wp fun prog w A R s h => by
    obtain ⟨hp, g, d, tk, os⟩ := s; obtain ⟨hl, hb, h⟩ := h
    have f2 := PySem.AutoSeq1.sub_tuple_tuple; have f3 := PySem.AutoSeq1.sub_list_list; have f4 := PySem.AutoSeq1.sub_tuple_list; have f5 := PySem.AutoSeq1.sub_list_tuple
    wp_walk using (wpAny_updateSeq hl rfl (hz := h1) (_hz' := h2)), wpAny_loadPart' hl, wpAny_loadPart' hb
    exact ⟨_, rfl, h⟩
section
variable {X : Cx}
def rExtendT (K : PySem.W.Frag) : V → List V → Hp → VK → Prop := fun x vs H Q => ∃ l b xs zs, x = .ref l ∧ vs = [.ref b] ∧ H l = some (.lst xs) ∧ SqT K H b zs ∧ xs.length + zs.length ≤ sizeLine ∧ Q .non (upd H l (.lst (xs ++ zs)))
theorem mt_extendT : MtM X "list.extend" (rExtendT X.K) := by
  intro pins s σ H x vs v us Q I rx rv h
  obtain ⟨l, b, xs, zs, rfl, rfl, hH, hB, hz, q⟩ := h
  cases rx
  obtain ⟨u, rfl, ru⟩ := rv.one
  cases ru
  obtain ⟨z, its, n, r, hl, e⟩ := I.lstM hH
  obtain ⟨its2, r2, ⟨⟨cls, dd, data, sl⟩, e2, hc, n2, hd⟩, z2⟩ := I.tuple hB
  simp only at hc hd
  subst hc hd
  have hl2 := r2.length
  have hsz : its.toArray.size + its2.toArray.size ≤ sizeLine := by rw [List.size_toArray, List.size_toArray]; omega
  refine call_meets F.slot_list_extend ⟨_, e, rfl⟩ F.entry_list_extend (F.args_list_extend_2 _ _)
    (extend_tup l its.toArray n b its2.toArray n2 dd sl (by rw [notLongL hsz, Bool.and_false]; exact Bool.false_ne_true) (by rw [List.size_toArray]; omega) (by rw [Array.size_append]; omega)) ⟨e, e2, ?_⟩
  refine ⟨.non, _, I.lset (its' := its ++ its2) hH e (by simp) (r.append r2) ?_, rfl, q⟩
  rw [List.length_append]
  omega
/-! ### d.get(k, x), d a dict of the top -/
def tKGet2 (td ty tx : TE) (l : List (Int × V)) (a : Addr) : TE := fun σ H Q => td σ H fun x H1 => x = .ref a ∧ ty σ H1 fun y H2 => tx σ H2 fun z H3 => ∃ i, y = .int i ∧ Q (((l.find? fun p => p.1 == i).map (·.2)).getD z) H3
theorem relO_getD {o : Option V} {u : Option Value} {z : V} {zv : Value} (r : RelO o u) (rz : RelV z zv) : RelV (o.getD z) (u.getD zv) := by
  cases o <;> cases u <;> first | exact r.elim | exact rz | exact r
theorem pe_kget2 {o e f : Expr} {apos cpos : Pos} {td ty tx : TE} {l : List (Int × V)} {a : Addr} (d : KD X.K a l) (ho : PE X o td) (he : PE X e ty) (hf : PE X f tx) (m : M2 X o "get" apos e f cpos) : PE X (.Call (.Attribute o "get" apos) [e, f] [] cpos) (tKGet2 td ty tx l a) := by
  intro pins s σ H Q I h
  refine wpAny_Call_method m.base m.few m.line PySem.F.plainAttrs_dict PySem.F.slot_dict_get PySem.F.type_dict_get (thn (ho pins s σ H _ I h) fun u s1 ⟨x, H1, I1, rx, ex, q1⟩ => ?_)
  subst ex
  obtain rfl : u = Value.ref a := rx
  obtain ⟨f1, mo1, _⟩ := d.map I1
  refine ⟨mo1.typeIs, fun b q => ?_, ?_⟩
  · cases q
    obtain ⟨ob, _, _, h1, h2, _⟩ := mo1
    exact ⟨ob, h1, h2.2.1⟩
  rw [m.trees]
  refine Calls.callWith_builtin rfl (Calls.evalArgs_plain (Calls.spliced_cons (thn (he pins s1 σ H1 _ I1 q1) fun iv s2 ⟨y, H2, I2, ry, q2⟩ =>
    Calls.spliced_cons (thn (hf pins s2 σ H2 _ I2 q2) fun fv s3 ⟨z, H3, I3, rz, i, ey, q3⟩ => Calls.spliced_nil ?_))))
  subst ey
  obtain ⟨t, rfl⟩ := ry
  obtain ⟨f, mo, rf⟩ := d.map I3
  exact call_meetsIn PySem.F.slot_dict_get mo.typeIs PySem.F.entry_dict_get (PySem.F.args_dict_get_3 _ _ _) (meets_dict_get_default (intKind X.prog X.w) a (k := i) (by show Value.isInt i (.int i t) = true; simp [Value.isInt]) d.1 fv) ⟨_, mo, _, H3, I3.tok _, relO_getD (rf i) rz, q3⟩
/-! ### xs.count(t), tuples of numbers -/
def rCountT (K : PySem.W.Frag) : V → List V → Hp → VK → Prop := fun x xs H Q => ∃ (a b : Addr) (ys : List V) (nss : List (List Int)) (ms : List Int), x = V.ref a ∧ xs = [.ref b] ∧ SqL K H a ys ∧ SqT K H b (ms.map V.int) ∧
  Paired (fun y ns => ∃ c, y = V.ref c ∧ SqT K H c (ns.map V.int)) ys nss ∧ Q (.int ((nss.countP fun ns => ns == ms : Nat) : Int)) H
end
/-! ### loops over enumerate and zip -/
theorem for_enum {K : PySem.W.Frag} {a : Addr} {xs : List V} {g : TG} {tb : TS} {D : Ends} {σ : St} {H : Hp} (Pv : Nat → St → Hp → Prop) (h0 : Pv 0 σ H) (hl : ∀ i σ H, i ≤ xs.length → Pv i σ H → SqL K H a xs)
    (hs : ∀ i x σ H T, xs[i]? = some x → Pv i σ H → H T = none → g (.ref T) σ (upd H T (.tup [.int (i : Nat), x])) fun σ2 H2 => tb { D with nx := Pv (i + 1), ct := Pv (i + 1), bk := D.nx } σ2 H2) (hd : ∀ σ H, Pv xs.length σ H → D.nx σ H) :
    ∃ W : Nat → Nat → St → Hp → Prop, (∃ m, W 0 m σ H) ∧ ∀ i m σ H, W i m σ H →
      ((Ite K a).stop i H ∧ D.nx σ H) ∨ ((Ite K a).go i H ∧ ∃ N : St → Hp → Prop, (∀ σ' H', N σ' H' → ∃ m', m' < m ∧ W (i + 1) m' σ' H') ∧ ∀ x H', (Ite K a).yld i H x H' → g x σ H' fun σ2 H2 => tb { D with nx := N, ct := N, bk := D.nx } σ2 H2) := by
  refine ⟨fun i m σ H => m = xs.length - i ∧ i ≤ xs.length ∧ Pv i σ H, ⟨xs.length, by simp, Nat.zero_le _, h0⟩, ?_⟩
  rintro i m σ H ⟨rfl, hi, p⟩
  have q1 := hl i σ H hi p
  by_cases hlt : i < xs.length
  · refine .inr ⟨⟨xs, xs[i], q1, by simp [hlt]⟩, Pv (i + 1), fun σ' H' p' => ⟨xs.length - (i + 1), by omega, rfl, hlt, p'⟩, fun x H' y => ?_⟩
    obtain ⟨T, x', rfl, hT, rfl, y1⟩ := y
    exact hs i x' _ _ T (y1 xs q1) p hT
  · have e : i = xs.length := by omega
    subst e
    exact .inl ⟨⟨xs, q1, Nat.le_refl _⟩, hd σ H p⟩
end L2

end

-- part PpZip
section
set_option Elab.async false
set_option linter.all false
set_option maxRecDepth 100000
set_option maxHeartbeats 2000000
namespace L2
open PySem PySem.Spec PyProof.Rows
/-! ### an iterator of a tuple, asked within zip -/
section
variable {prog : Program} {w : World} {A : Around} {E : Value → Shared → Prop} {s : Shared}
theorem nextT_item {it t : Addr} {i : Nat} {items : Array Value} {x : Value} {Q : Value → Shared → Prop} (hit : s.heap.IsTupleIter it t i) (ht : s.heap.IsTuple t items) (hx : items[i]? = some x)
    (hQ : ∀ h', h'.IsTupleIter it t (i + 1) → Heap.SameBut it s.heap h' → Q x { s with heap := h' }) : wpAny (model prog w) A (Builtin.SmallTypes.nextOf (.ref it)) Q E s := by
  obtain ⟨oi, hoi, hci, hdi⟩ := id hit
  obtain ⟨ot, hot, _, nt, hdt⟩ := ht
  unfold Builtin.SmallTypes.nextOf
  refine wpAny_bind (wpAny_callSpecial?_slot (name := Str.ofString "__next__") hit.typeIs F.slot_tuple_iterator_next (wpAny_call_entry F.slot_tuple_iterator_next hit.typeIs F.entry_tuple_iterator_next ?_ (F.args_tuple_iterator_next_1 _)))
  show wpAny _ _ (field (.ref it) 0 >>= _) _ _ s
  refine wpAny_bind (wpAny_field hoi hdi (x := .ref t) rfl ?_)
  show wpAny _ _ (if (Value.ref t == Value.none) = true then _ else _) _ _ s
  rw [if_neg (fun z => nomatch z)]
  show wpAny _ _ (field (.ref it) 1 >>= _) _ _ s
  refine wpAny_bind (wpAny_field hoi hdi (x := .int i 0) rfl ?_)
  show wpAny _ _ (seqItems? (.ref t) >>= _) _ _ s
  refine wpAny_bind (wpAny_seqItems hot hdt ?_)
  simp only [Int.toNat_natCast, hx]
  refine wpAny_bind (wpAny_setField hoi hdi (by simp) (wpAny_pure ⟨x, rfl, wpAny_pure (hQ _ ?_ (Heap.SameBut.update ..))⟩))
  exact ⟨_, Heap.get?_update_self _ hoi (Obj.isFreed_of_fields (Obj.data_mapFields hdi _)), (Obj.cls_mapFields ..).trans hci, by rw [Obj.data_mapFields hdi]; simp [rawInt]⟩
theorem nextT_end {it t : Addr} {i : Nat} {items : Array Value} {Q : Value → Shared → Prop} (hh : A.handled = none) (hit : s.heap.IsTupleIter it t i) (ht : s.heap.IsTuple t items) (hx : items[i]? = none)
    (hE : ∀ h' e, Heap.ExtBut it s.heap h' → (∃ o, h'.get? e = some o ∧ o.cls = .type "StopIteration") → E (.ref e) { s with heap := h' }) : wpAny (model prog w) A (Builtin.SmallTypes.nextOf (.ref it)) Q E s := by
  obtain ⟨oi, hoi, hci, hdi⟩ := id hit
  obtain ⟨ot, hot, _, nt, hdt⟩ := ht
  unfold Builtin.SmallTypes.nextOf
  refine wpAny_bind (wpAny_callSpecial?_slot (name := Str.ofString "__next__") hit.typeIs F.slot_tuple_iterator_next (wpAny_call_entry F.slot_tuple_iterator_next hit.typeIs F.entry_tuple_iterator_next ?_ (F.args_tuple_iterator_next_1 _)))
  show wpAny _ _ (field (.ref it) 0 >>= _) _ _ s
  refine wpAny_bind (wpAny_field hoi hdi (x := .ref t) rfl ?_)
  show wpAny _ _ (if (Value.ref t == Value.none) = true then _ else _) _ _ s
  rw [if_neg (fun z => nomatch z)]
  show wpAny _ _ (field (.ref it) 1 >>= _) _ _ s
  refine wpAny_bind (wpAny_field hoi hdi (x := .int i 0) rfl ?_)
  show wpAny _ _ (seqItems? (.ref t) >>= _) _ _ s
  refine wpAny_bind (wpAny_seqItems hot hdt ?_)
  simp only [Int.toNat_natCast, hx]
  refine wpAny_bind (wpAny_rule (wpAny_bind (wpAny_setField hoi hdi (by simp) ?_)))
  show wpAny _ _ (newExc (.type "StopIteration") [] >>= _) _ _ _
  refine wpAny_bind ?_
  simp only [newExc, newTuple]
  refine wpAny_bind (wpAny_newObj_type ?_ (by size_fits))
  refine wpAny_bind (m := firstArgMember _ _) (wpAny_of_eq (a := Value.none) (by first | rfl | (simp only [firstArgMember]; rfl)) ?_)
  refine wpAny_newObj_type ?_ (by size_fits)
  simp only [raiseNew]
  refine wpAny_bind (wpAny_handled ?_)
  first | rw [show A.in1.handled = none from hh] | rw [hh]
  refine wpAny_bind (wpAny_pure (wpAny_throw ?_))
  exact hE _ _ (((Heap.SameBut.update ..).extBut.push _).push _) ⟨_, Heap.get?_push_size _ rfl, rfl⟩
end
/-! ### the next pair of zip(tuple, list) -/
section
variable {prog : Program} {w : World} {A : Around} {E : Value → Shared → Prop} {s : Shared} {z TI TO i1 i2 l1 l2 : Addr} {k : Nat} {xs ys : Array Value}
theorem zipT_item {x y a b : Value} {Q : Option Value → Shared → Prop} (D : ZipApart z TI TO i1 i2 l1 l2) (hz : IsZip s.heap z TI TO .none) (hTI : IsPair s.heap TI (.ref i1) (.ref i2)) (hTO : IsPair s.heap TO a b)
    (h1 : s.heap.IsTupleIter i1 l1 k) (h2 : s.heap.IsListIter i2 l2 k) (hl1 : s.heap.IsTuple l1 xs) (hl2 : s.heap.IsList l2 ys) (hx : xs[k]? = some x) (hy : ys[k]? = some y)
    (hQ : ∀ h', IsZip h' z TI TO (rawInt s.heap.objs.size) → IsPair h' TO x y → h'.IsTupleIter i1 l1 (k + 1) → h'.IsListIter i2 l2 (k + 1) → IsPair h' s.heap.objs.size x y → h'.objs.size = s.heap.objs.size + 1 →
      (∀ c o, c ≠ z → c ≠ TO → c ≠ i1 → c ≠ i2 → s.heap.get? c = some o → h'.get? c = some o) → Q (some (.ref s.heap.objs.size)) { s with heap := h' }) : wpAny (model prog w) A (pyNext (.ref z)) Q E s := by
  have hT : s.TypeIs (.ref z) "zip" := ⟨_, hz, rfl⟩
  unfold pyNext
  refine wpAny_bind (wpAny_attempt (wpAny_callSpecial?_slot (name := Str.ofString "__next__") hT F.slot_zip_next (wpAny_call_entry F.slot_zip_next hT F.entry_zip_next ?_ (F.args_zip_next_1 _))))
  show wpAny _ _ (field (.ref z) 2 >>= _) _ _ _
  refine wpAny_bind (wpAny_field hz rfl (x := .bool false) rfl ?_)
  show wpAny _ _ (field (.ref z) 3 >>= _) _ _ _
  refine wpAny_bind (wpAny_field hz rfl (x := .ref TI) rfl ?_)
  refine wpAny_bind (wpAny_seqItems hTI rfl ?_)
  show wpAny _ _ (Builtin.SmallTypes.ownedTupleIsFree (.ref z) >>= _) _ _ _
  refine wpAny_bind ?_
  unfold Builtin.SmallTypes.ownedTupleIsFree
  refine wpAny_bind (wpAny_field hz rfl (x := .none) rfl (wpAny_pure ?_))
  simp only [if_true]
  refine wpAny_bind (wpAny_rule ?_)
  refine wpAny_bind (wpAny_field hz rfl (x := .ref TO) rfl ?_)
  refine wpAny_bind (wpAny_setField_rec hz (by simp) fun g1 z1 s1 => ?_)
  replace z1 : IsZip g1 z TI TO .ellipsis := z1
  refine wpAny_bind ?_
  simp only [List.zipIdx_cons, List.zipIdx_nil, List.forIn_cons, List.forIn_nil]
  -- the first one
  refine wpAny_bind (wpAny_bind (wpAny_onRaise ?_))
  show wpAny _ _ (Builtin.SmallTypes.nextOf (.ref i1) >>= _) _ _ _
  refine wpAny_bind (nextT_item (h1.extBut s1.extBut D.i1z) (hl1.extBut s1.extBut D.l1z) hx fun g2 a2 s2 => wpAny_pure ?_)
  have t2 : IsPair g2 TO a b := s2.extBut _ _ D.TOi1 (s1.extBut _ _ D.TOz hTO)
  refine wpAny_bind (wpAny_seqItems t2 rfl ?_)
  refine wpAny_bind (wpAny_updateSeq_pair t2 fun g3 t3 s3 => ?_)
  replace t3 : IsPair g3 TO x b := t3
  refine wpAny_bind (wpAny_letGo (wpAny_pure ?_))
  -- the second one
  refine wpAny_bind (wpAny_bind (wpAny_onRaise ?_))
  show wpAny _ _ (Builtin.SmallTypes.nextOf (.ref i2) >>= _) _ _ _
  refine wpAny_bind (wpAny_nextOf_list_item (((h2.extBut s1.extBut D.i2z).extBut s2.extBut D.i12.symm).extBut s3.extBut D.TOi2.symm) (((hl2.extBut s1.extBut D.l2z).extBut s2.extBut D.l2i1).extBut s3.extBut D.l2TO) hy fun g4 b4 s4 => wpAny_pure ?_)
  have t4 : IsPair g4 TO x b := s4.extBut _ _ D.TOi2 t3
  refine wpAny_bind (wpAny_seqItems t4 rfl ?_)
  refine wpAny_bind (wpAny_updateSeq_pair t4 fun g5 t5 s5 => ?_)
  replace t5 : IsPair g5 TO x y := t5
  refine wpAny_bind (wpAny_letGo (wpAny_pure (wpAny_pure ?_)))
  refine wpAny_bind (wpAny_seqItems t5 rfl ?_)
  refine wpAny_bind (wpAny_newTuple ?_)
  have sz : g5.objs.size = s.heap.objs.size := by rw [s5.1, s4.1, s3.1, s2.1, s1.1]
  have z5 : IsZip g5 z TI TO .ellipsis := s5.extBut _ _ D.TOz.symm (s4.extBut _ _ D.i2z.symm (s3.extBut _ _ D.TOz.symm (s2.extBut _ _ D.i1z.symm z1)))
  have k5 : ∀ c o, c ≠ z → c ≠ TO → c ≠ i1 → c ≠ i2 → s.heap.get? c = some o → g5.get? c = some o := fun c o c1 c2 c3 c4 e => s5.extBut _ _ c2 (s4.extBut _ _ c4 (s3.extBut _ _ c2 (s2.extBut _ _ c3 (s1.extBut _ _ c1 e))))
  have a5 : g5.IsTupleIter i1 l1 (k + 1) := ((a2.extBut s3.extBut D.TOi1.symm).extBut s4.extBut D.i12).extBut s5.extBut D.TOi1.symm
  have b5 : g5.IsListIter i2 l2 (k + 1) := b4.extBut s5.extBut D.TOi2.symm
  have zlt : z < g5.objs.size := Heap.lt_size z5
  show wpAny _ _ (Builtin.SmallTypes.ownedTupleHandOut (.ref z) (.ref g5.objs.size) >>= _) _ _ _
  refine wpAny_bind ?_
  unfold Builtin.SmallTypes.ownedTupleHandOut
  have z6 : IsZip (g5.push { cls := .type "tuple", data := .seq #[x, y] }) z TI TO .ellipsis := Heap.get?_push_of_some _ z5
  refine wpAny_bind (wpAny_setField_rec z6 (by simp) fun g7 z7 s7 => ?_)
  replace z7 : IsZip g7 z TI TO (rawInt g5.objs.size) := z7
  refine wpAny_setField_rec z7 (by simp) fun g8 z8 s8 => ?_
  replace z8 : IsZip g8 z TI TO (rawInt g5.objs.size) := z8
  have up : ∀ c o, c ≠ z → g5.get? c = some o → g8.get? c = some o := fun c o c1 e => s8.extBut _ _ c1 (s7.extBut _ _ c1 (Heap.get?_push_of_some _ e))
  have p8 : IsPair g8 g5.objs.size x y := s8.extBut _ _ (Nat.ne_of_gt zlt) (s7.extBut _ _ (Nat.ne_of_gt zlt) (Heap.get?_push_size _ rfl))
  have sz8 : g8.objs.size = g5.objs.size + 1 := by rw [s8.1, s7.1, Heap.size_push]
  rw [sz] at z8 p8 sz8
  refine wpAny_pure ⟨_, rfl, ?_⟩
  rw [sz]
  exact wpAny_pure (hQ g8 z8 (up _ _ D.TOz t5) (let ⟨o, e, r⟩ := a5; ⟨o, up _ o D.i1z e, r⟩) (b5.at fun o e => up _ o D.i2z e) p8 sz8 fun c o c1 c2 c3 c4 e => up c o c1 (k5 c o c1 c2 c3 c4 e))
theorem zipT_end {a b : Value} {Q : Option Value → Shared → Prop} (hh : A.handled = none) (D : ZipApart z TI TO i1 i2 l1 l2) (hz : IsZip s.heap z TI TO .none) (hTI : IsPair s.heap TI (.ref i1) (.ref i2)) (hTO : IsPair s.heap TO a b)
    (h1 : s.heap.IsTupleIter i1 l1 k) (hl1 : s.heap.IsTuple l1 xs) (hx : xs[k]? = none)
    (hQ : ∀ h', (∀ c o, c ≠ z → c ≠ TO → c ≠ i1 → c ≠ i2 → s.heap.get? c = some o → h'.get? c = some o) → Q none { s with heap := h' }) : wpAny (model prog w) A (pyNext (.ref z)) Q E s := by
  have hT : s.TypeIs (.ref z) "zip" := ⟨_, hz, rfl⟩
  unfold pyNext
  refine wpAny_bind (wpAny_attempt (wpAny_callSpecial?_slot (name := Str.ofString "__next__") hT F.slot_zip_next (wpAny_call_entry F.slot_zip_next hT F.entry_zip_next ?_ (F.args_zip_next_1 _))))
  show wpAny _ _ (field (.ref z) 2 >>= _) _ _ _
  refine wpAny_bind (wpAny_field hz rfl (x := .bool false) rfl ?_)
  show wpAny _ _ (field (.ref z) 3 >>= _) _ _ _
  refine wpAny_bind (wpAny_field hz rfl (x := .ref TI) rfl ?_)
  refine wpAny_bind (wpAny_seqItems hTI rfl ?_)
  show wpAny _ _ (Builtin.SmallTypes.ownedTupleIsFree (.ref z) >>= _) _ _ _
  refine wpAny_bind ?_
  unfold Builtin.SmallTypes.ownedTupleIsFree
  refine wpAny_bind (wpAny_field hz rfl (x := .none) rfl (wpAny_pure ?_))
  simp only [if_true]
  refine wpAny_bind (wpAny_rule ?_)
  refine wpAny_bind (wpAny_field hz rfl (x := .ref TO) rfl ?_)
  refine wpAny_bind (wpAny_setField_rec hz (by simp) fun g1 z1 s1 => ?_)
  replace z1 : IsZip g1 z TI TO .ellipsis := z1
  refine wpAny_bind ?_
  simp only [List.zipIdx_cons, List.zipIdx_nil, List.forIn_cons, List.forIn_nil]
  refine wpAny_bind (wpAny_bind (wpAny_onRaise ?_))
  show wpAny _ _ (Builtin.SmallTypes.nextOf (.ref i1) >>= _) _ _ _
  refine wpAny_bind (nextT_end (by first | exact hh | rfl) (h1.extBut s1.extBut D.i1z) (hl1.extBut s1.extBut D.l1z) hx fun g2 e s2 he => ?_)
  obtain ⟨oe, hoe, hce⟩ := he
  have z2 : IsZip g2 z TI TO .ellipsis := s2 _ _ D.i1z.symm z1
  have hez : e ≠ z := fun q => by subst q; rw [z2] at hoe; cases hoe; simp at hce
  refine wpAny_setField_rec z2 (by simp) fun g3 _ s3 => ?_
  refine wpAny_bind (wpAny_isInstance (T := "StopIteration") (b := true) ⟨oe, s3.extBut _ _ hez hoe, hce⟩ isSubtype_stop ?_)
  exact wpAny_pure (hQ _ fun c o c1 _ c3 _ q => s3.extBut _ _ c1 (s2 _ _ c3 (s1.extBut _ _ c1 q)))
end
end L2

end

-- part PpZip2
section
set_option Elab.async false
set_option linter.all false
set_option maxRecDepth 100000
set_option maxHeartbeats 2000000
namespace L2
open PySem PySem.Spec PyProof.Rows
/-! ### zip of two lists, its last pair still held -/
abbrev ZipB (h : Heap) (z TI TO T0 : Addr) (f : Bool) : Prop := h.get? z = some { cls := .type "zip", data := .fields #[rawInt T0, .bool f, .bool false, .ref TI, .ref TO] }
section
variable {prog : Program} {w : World} {A : Around} {E : Value → Shared → Prop} {s : Shared} {z TI TO i1 i2 l1 l2 T0 : Addr} {k : Nat} {xs ys : Array Value} {f : Bool} {oT : Obj}
theorem busy {R : Bool → Shared → Prop} (hz : ZipB s.heap z TI TO T0 f) (hT0 : s.heap.get? T0 = some oT) (h : ∀ h', ZipB h' z TI TO T0 true → Heap.SameBut z s.heap h' → R false { s with heap := h' }) :
    wpAny (model prog w) A (Builtin.SmallTypes.ownedTupleIsFree (.ref z)) R E s := by
  unfold Builtin.SmallTypes.ownedTupleIsFree
  refine wpAny_bind (wpAny_field hz rfl (x := rawInt T0) rfl ?_)
  show wpAny _ _ (loadIfAlive ((T0 : Int).toNat) >>= _) _ _ _
  rw [Int.toNat_natCast]
  refine wpAny_bind (PySem.W.kdx_alive hT0 ?_)
  simp only [Option.isNone_some, Bool.false_eq_true, if_false]
  refine wpAny_bind (wpAny_field hz rfl (x := .bool f) rfl ?_)
  cases f with
  | true =>
    rw [if_neg (show ¬ ((Value.bool true != Value.bool true) = true) from Bool.false_ne_true)]
    exact wpAny_pure (h s.heap hz (Heap.SameBut.refl _ _))
  | false =>
    rw [if_pos (show (Value.bool false != Value.bool true) = true from rfl)]
    refine wpAny_bind (wpAny_setField_rec hz (by simp) fun g1 z1 s1 => ?_)
    replace z1 : ZipB g1 z TI TO T0 true := z1
    exact wpAny_pure (h g1 z1 s1)
theorem zipB_item {x y : Value} {Q : Option Value → Shared → Prop} (D : ZipApart z TI TO i1 i2 l1 l2) (hz : ZipB s.heap z TI TO T0 f) (hT0 : s.heap.get? T0 = some oT) (hTI : IsPair s.heap TI (.ref i1) (.ref i2))
    (h1 : s.heap.IsListIter i1 l1 k) (h2 : s.heap.IsListIter i2 l2 k) (hl1 : s.heap.IsList l1 xs) (hl2 : s.heap.IsList l2 ys) (hx : xs[k]? = some x) (hy : ys[k]? = some y)
    (hQ : ∀ h', ZipB h' z TI TO T0 true → h'.IsListIter i1 l1 (k + 1) → h'.IsListIter i2 l2 (k + 1) → IsPair h' s.heap.objs.size x y → h'.objs.size = s.heap.objs.size + 1 →
      (∀ c o, c ≠ z → c ≠ i1 → c ≠ i2 → s.heap.get? c = some o → h'.get? c = some o) → Q (some (.ref s.heap.objs.size)) { s with heap := h' }) : wpAny (model prog w) A (pyNext (.ref z)) Q E s := by
  have hT : s.TypeIs (.ref z) "zip" := ⟨_, hz, rfl⟩
  unfold pyNext
  refine wpAny_bind (wpAny_attempt (wpAny_callSpecial?_slot (name := Str.ofString "__next__") hT F.slot_zip_next (wpAny_call_entry F.slot_zip_next hT F.entry_zip_next ?_ (F.args_zip_next_1 _))))
  show wpAny _ _ (field (.ref z) 2 >>= _) _ _ _
  refine wpAny_bind (wpAny_field hz rfl (x := .bool false) rfl ?_)
  show wpAny _ _ (field (.ref z) 3 >>= _) _ _ _
  refine wpAny_bind (wpAny_field hz rfl (x := .ref TI) rfl ?_)
  refine wpAny_bind (wpAny_seqItems hTI rfl ?_)
  show wpAny _ _ (Builtin.SmallTypes.ownedTupleIsFree (.ref z) >>= _) _ _ _
  refine wpAny_bind (busy hz hT0 fun g1 z1 s1 => ?_)
  simp only [Bool.false_eq_true, if_false]
  refine wpAny_bind ?_
  rw [← Array.forIn_toList]
  simp only [List.forIn_cons, List.forIn_nil]
  refine wpAny_bind (wpAny_bind (wpAny_holding ?_))
  show wpAny _ _ (Builtin.SmallTypes.nextOf (.ref i1) >>= _) _ _ _
  refine wpAny_bind (wpAny_nextOf_list_item (h1.extBut s1.extBut D.i1z) (hl1.extBut s1.extBut D.l1z) hx fun g2 a2 s2 => wpAny_pure ?_)
  refine wpAny_pure ?_
  refine wpAny_bind (wpAny_bind (wpAny_holding ?_))
  show wpAny _ _ (Builtin.SmallTypes.nextOf (.ref i2) >>= _) _ _ _
  refine wpAny_bind (wpAny_nextOf_list_item ((h2.extBut s1.extBut D.i2z).extBut s2.extBut D.i12.symm) ((hl2.extBut s1.extBut D.l2z).extBut s2.extBut D.l2i1) hy fun g3 b3 s3 => wpAny_pure ?_)
  refine wpAny_pure (wpAny_pure ?_)
  refine wpAny_bind (wpAny_newTuple (hsz := by show 2 ≤ sizeLine; decide) ?_)
  have sz : g3.objs.size = s.heap.objs.size := by rw [s3.1, s2.1, s1.1]
  have z3 : ZipB g3 z TI TO T0 true := s3.extBut _ _ D.i2z.symm (s2.extBut _ _ D.i1z.symm z1)
  have a3 : g3.IsListIter i1 l1 (k + 1) := a2.extBut s3.extBut D.i12
  refine wpAny_pure ⟨_, rfl, ?_⟩
  show wpAny _ _ (pure (some (Value.ref g3.objs.size))) _ _ _
  have hp : (g3.push { cls := .type "tuple", data := .seq #[x, y] }).get? g3.objs.size = some { cls := .type "tuple", data := .seq #[x, y] } := Heap.get?_push_size _ rfl
  rw [sz] at hp ⊢
  refine wpAny_pure (hQ _ (Heap.get?_push_of_some _ z3) (a3.at fun o e => Heap.get?_push_of_some _ e) (b3.at fun o e => Heap.get?_push_of_some _ e) hp (by rw [Heap.size_push, sz]) fun c o c1 c3 c4 e => Heap.get?_push_of_some _ (s3.extBut _ _ c4 (s2.extBut _ _ c3 (s1.extBut _ _ c1 e))))
theorem zipB_end {Q : Option Value → Shared → Prop} (hh : A.handled = none) (D : ZipApart z TI TO i1 i2 l1 l2) (hz : ZipB s.heap z TI TO T0 f) (hT0 : s.heap.get? T0 = some oT) (hTI : IsPair s.heap TI (.ref i1) (.ref i2))
    (h1 : s.heap.IsListIter i1 l1 k) (hl1 : s.heap.IsList l1 xs) (hx : xs[k]? = none)
    (hQ : ∀ h', (∀ c o, c ≠ z → c ≠ i1 → c ≠ i2 → s.heap.get? c = some o → h'.get? c = some o) → Q none { s with heap := h' }) : wpAny (model prog w) A (pyNext (.ref z)) Q E s := by
  have hT : s.TypeIs (.ref z) "zip" := ⟨_, hz, rfl⟩
  unfold pyNext
  refine wpAny_bind (wpAny_attempt (wpAny_callSpecial?_slot (name := Str.ofString "__next__") hT F.slot_zip_next (wpAny_call_entry F.slot_zip_next hT F.entry_zip_next ?_ (F.args_zip_next_1 _))))
  show wpAny _ _ (field (.ref z) 2 >>= _) _ _ _
  refine wpAny_bind (wpAny_field hz rfl (x := .bool false) rfl ?_)
  show wpAny _ _ (field (.ref z) 3 >>= _) _ _ _
  refine wpAny_bind (wpAny_field hz rfl (x := .ref TI) rfl ?_)
  refine wpAny_bind (wpAny_seqItems hTI rfl ?_)
  show wpAny _ _ (Builtin.SmallTypes.ownedTupleIsFree (.ref z) >>= _) _ _ _
  refine wpAny_bind (busy hz hT0 fun g1 z1 s1 => ?_)
  simp only [Bool.false_eq_true, if_false]
  refine wpAny_bind ?_
  rw [← Array.forIn_toList]
  simp only [List.forIn_cons, List.forIn_nil]
  refine wpAny_bind (wpAny_bind (wpAny_holding ?_))
  show wpAny _ _ (Builtin.SmallTypes.nextOf (.ref i1) >>= _) _ _ _
  refine wpAny_bind (wpAny_nextOf_list_end (by first | exact hh | rfl) (h1.extBut s1.extBut D.i1z) (hl1.extBut s1.extBut D.l1z) hx fun g2 e s2 he => ?_)
  obtain ⟨oe, hoe, hce⟩ := he
  refine wpAny_bind (wpAny_isInstance (T := "StopIteration") (b := true) ⟨oe, hoe, hce⟩ isSubtype_stop ?_)
  exact wpAny_pure (hQ _ fun c o c1 c3 _ q => s2 _ _ c3 (s1.extBut _ _ c1 q))
end
end L2

end

-- part PpZip3
section
set_option Elab.async false
set_option linter.all false
set_option maxRecDepth 100000
set_option maxHeartbeats 2000000
namespace L2
open PySem PySem.Spec PyProof.Rows
/-! ### list(zip(xs, ys)) of two lists as long -/
theorem zip_nolen : typeLookup (.type "zip") "__len__" = pure none := by rw [typeLookup_type, builtinLookup_eq_fast]; kernel_rfl
theorem zip_nohint : typeLookup (.type "zip") "__length_hint__" = pure none := by rw [typeLookup_type, builtinLookup_eq_fast]; kernel_rfl
section
variable {prog : Program} {w : World} {A : Around} {E : Value → Shared → Prop} {s : Shared}
theorem hint_zip {r : Addr} {Q : Bool → Shared → Prop} (hT : s.TypeIs (.ref r) "zip") (h : Q true s) : wpAny (model prog w) A (Builtin.List.listLengthHint (.ref r)) Q E s := by
  unfold Builtin.List.listLengthHint
  refine wpAny_bind (wpAny_specialOf hT zip_nolen ?_)
  show wpAny _ A (specialOf (Value.ref r) (Str.ofString "__length_hint__") >>= _) _ _ _
  refine wpAny_bind (wpAny_specialOf hT zip_nohint ?_)
  exact wpAny_pure h
end
/-- how zip stands while a list takes its pairs -/
def ZipSt (H : Hp) (h : Heap) (z TI TO : Addr) : Prop := IsZip h z TI TO .none ∨ ∃ T0 f xs, ZipB h z TI TO T0 f ∧ H T0 = some (.tup xs)
/-- the pairs stand at the refs ts -/
abbrev PairsAt (H : Hp) (ts : List V) (ps : List (V × V)) : Prop := Paired (fun (v : V) (p : V × V) => ∃ T, v = V.ref T ∧ H T = some (.tup [p.1, p.2])) ts ps
theorem paired_snoc' {α β : Type} {F : α → β → Prop} : ∀ {l : List α} {m : List β} {a : α} {b : β}, Paired F l m → F a b → Paired F (l ++ [a]) (m ++ [b])
  | _, _, _, _, .nil, r => .cons r .nil
  | _, _, _, _, .cons q t, r => .cons q (paired_snoc' t r)
section
variable {X : Cx} {pins : List (Addr × Obj)} {σ : St} {z TI TO i1 i2 a b S : Addr} {xs ys : List V} {H0 : Hp} {R : Result → Shared → Prop} {res : Value} {A : Around}
theorem sqL_keep {K : PySem.W.Frag} {H H' : Hp} {c : Addr} {us : List V} (s : ∀ u, (H c = some u → H' c = some u)) (h : SqL K H c us) : SqL K H' c us :=
  h.elim (fun r => .inl (r.elim (fun e => .inl (s _ e)) fun ⟨o, e⟩ => .inr ⟨o, s _ e⟩)) .inr
theorem zip_loop (hh : A.handled = none) (D : ZipApart z TI TO i1 i2 a b) (hlen : xs.length = ys.length) (hn : xs.length < sizeLine) (ha : SqL X.K H0 a xs) (hb : SqL X.K H0 b ys) (na : a ≠ S) (nb : b ≠ S) (nS : ∀ c ∈ [z, TI, TO, i1, i2], c ≠ S)
    (hR : ∀ s' H' ts, Inv X pins σ H' s' → (∀ c o, c ≠ S → H0 c = some o → H' c = some o) → H' S = some (.lst ts) → PairsAt H' ts (xs.zip ys) → R (.ok (.ret res)) s') :
    ∀ (m k : Nat) (s : Shared) (H : Hp) (ts : List V), xs.length - k = m → k ≤ xs.length → Inv X pins σ H s → (∀ c ∈ [z, TI, TO, i1, i2], FpOk X pins H c) → (∀ c o, c ≠ S → H0 c = some o → H c = some o) → H S = some (.lst ts) → PairsAt H ts ((xs.zip ys).take k) →
      ZipSt H s.heap z TI TO → IsPair s.heap TI (.ref i1) (.ref i2) → (∃ x y, IsPair s.heap TO x y) → s.heap.IsListIter i1 a k → s.heap.IsListIter i2 b k →
      codeAny (model X.prog X.w) A (.builtin "list.extend.loop" ⟨[.ref S, .ref z, res], []⟩) R s := by
  intro m
  induction m with
  | zero =>
    intro k s H ts hm hk I hf hs hS hp st hTI ⟨x0, y0, hTO⟩ h1 h2
    have e : k = xs.length := by omega
    subst e
    obtain ⟨its, rv, pl, _⟩ := I.list (sqL_keep (fun u e => hs a u na e) ha)
    obtain ⟨its2, rv2, pl2, _⟩ := I.list (sqL_keep (fun u e => hs b u nb e) hb)
    have l1 := rv.length
    have hx : its.toArray[xs.length]? = none := by simp; omega
    refine codeAny_builtin F.entry_extend_loop ?_
    rw [Around.under_plainId F.plain_extend_loop _]
    show wpAny _ A.in1 (pyNext (.ref z) >>= _) _ _ s
    have fin : ∀ h' : Heap, (∀ c o, c ≠ z → c ≠ TO → c ≠ i1 → c ≠ i2 → s.heap.get? c = some o → h'.get? c = some o) → R (.ok (.ret res)) { s with heap := h' } := fun h' hk' => by
      have I1 : Inv X pins σ H { s with heap := h' } := I.turnedL (t' := s.toks) (ch := [z, TI, TO, i1, i2]) (fun c o hc q => hk' c o (fun q' => hc (by simp [q'])) (fun q' => hc (by simp [q'])) (fun q' => hc (by simp [q'])) (fun q' => hc (by simp [q'])) q) hf
      rw [List.take_of_length_le (by rw [List.length_zip]; omega)] at hp
      exact hR _ H ts I1 hs hS hp
    refine wpAny_bind ?_
    rcases st with hz | ⟨T0, f, us, hz, hT⟩
    · exact wpAny_pyNext_zip_end (by first | exact hh | rfl) D hz hTI hTO h1 h2 pl.isList pl2.isList (.inl hx) fun h' hk' => wpAny_pure (fin h' hk')
    · obtain ⟨_, its0, _, ⟨oT, eT, _⟩⟩ := I.hok _ _ hT
      exact zipB_end (by first | exact hh | rfl) D hz eT hTI h1 pl.isList hx fun h' hk' => wpAny_pure (fin h' fun c o c1 _ c3 c4 q => hk' c o c1 c3 c4 q)
  | succ m ih =>
    intro k s H ts hm hk I hf hs hS hp st hTI ⟨x0, y0, hTO⟩ h1 h2
    have hlt : k < xs.length := by omega
    have hlt2 : k < ys.length := by omega
    obtain ⟨its, rv, pl, _⟩ := I.list (sqL_keep (fun u e => hs a u na e) ha)
    obtain ⟨its2, rv2, pl2, _⟩ := I.list (sqL_keep (fun u e => hs b u nb e) hb)
    obtain ⟨u, hu, ru⟩ := rv.get (List.getElem?_eq_getElem hlt)
    obtain ⟨u2, hu2, ru2⟩ := rv2.get (List.getElem?_eq_getElem hlt2)
    have hx : its.toArray[k]? = some u := by simpa using hu
    have hy : its2.toArray[k]? = some u2 := by simpa using hu2
    have hzl : z < s.heap.objs.size := by
      rcases st with hz | ⟨T0, f, us, hz, hT⟩
      · exact Heap.lt_size hz
      · exact Heap.lt_size hz
    have lts : ∀ c ∈ [z, TI, TO, i1, i2], c < s.heap.objs.size := fun c hc => by
      have e' : c = z ∨ c = TI ∨ c = TO ∨ c = i1 ∨ c = i2 := by simpa using hc
      rcases e' with q | q | q | q | q
      · rw [q]; exact hzl
      · rw [q]; exact Heap.lt_size hTI
      · rw [q]; exact Heap.lt_size hTO
      · rw [q]; obtain ⟨_, e1, _⟩ := h1; exact Heap.lt_size e1
      · rw [q]; obtain ⟨_, e2, _⟩ := h2; exact Heap.lt_size e2
    have hSl : S < s.heap.objs.size := by obtain ⟨_, _, _, _, e⟩ := I.hok _ _ hS; exact Heap.lt_size e
    have hnew : H s.heap.objs.size = none := I.hok.fresh (Nat.le_refl _)
    refine codeAny_builtin F.entry_extend_loop ?_
    rw [Around.under_plainId F.plain_extend_loop _]
    show wpAny _ A.in1 (pyNext (.ref z) >>= _) _ _ s
    -- behind the pair
    have fin : ∀ h' : Heap, ZipSt (upd H s.heap.objs.size (.tup [xs[k], ys[k]])) h' z TI TO → IsPair h' TI (.ref i1) (.ref i2) → (∃ x y, IsPair h' TO x y) → h'.IsListIter i1 a (k + 1) → h'.IsListIter i2 b (k + 1) → IsPair h' s.heap.objs.size u u2 → (∀ c o, c ≠ z → c ≠ TO → c ≠ i1 → c ≠ i2 → s.heap.get? c = some o → h'.get? c = some o) →
        wpAny (model X.prog X.w) A.in1 (updateSeq S (·.push (.ref s.heap.objs.size)) >>= fun _ => again (.builtin "list.extend.loop" ⟨[.ref S, .ref z, res], []⟩))
          (fun fin s' => match fin with | .done f => R (.ok f) s' | .again c' => c'.quiet = true ∧ codeAny (model X.prog X.w) A c' R s') (fun e s' => R (.error e) s') { s with heap := h' } := fun h' st' hTI' hTO' h1' h2' hT' hk' => by
      have new : ObjOk X.prog X.w (upd H s.heap.objs.size (.tup [xs[k], ys[k]])) h' s.heap.objs.size (.tup [xs[k], ys[k]]) := ⟨by show 2 ≤ sizeLine; decide, [u, u2], .cons ru (.cons ru2 .nil), ⟨_, hT', rfl, _, rfl⟩⟩
      have I1 : Inv X pins σ (upd H s.heap.objs.size (.tup [xs[k], ys[k]])) { s with heap := h' } :=
        I.turnedNew (t' := s.toks) (ch := [z, TI, TO, i1, i2]) (fun c o hc q => hk' c o (fun q' => hc (by simp [q'])) (fun q' => hc (by simp [q'])) (fun q' => hc (by simp [q'])) (fun q' => hc (by simp [q'])) q) hf (Nat.le_refl _) new
      have sm : ∀ c o, H c = some o → (upd H s.heap.objs.size (.tup [xs[k], ys[k]])) c = some o := fun c o e => by rw [upd_ne (fun q => by rw [q, hnew] at e; cases e)]; exact e
      have hT1 : (upd H s.heap.objs.size (.tup [xs[k], ys[k]])) s.heap.objs.size = some (.tup [xs[k], ys[k]]) := upd_same
      have hf1 : ∀ c ∈ [z, TI, TO, i1, i2], FpOk X pins (upd H s.heap.objs.size (.tup [xs[k], ys[k]])) c := fun c hc => ⟨by rw [upd_ne (Nat.ne_of_lt (lts c hc))]; exact (hf c hc).1, (hf c hc).2⟩
      generalize hG : upd H s.heap.objs.size (.tup [xs[k], ys[k]]) = H1 at I1 sm hT1 hf1 st'
      clear hG
      have hS1 := sm _ _ hS
      obtain ⟨zz, itS, nS', rS, lS, eS⟩ := I1.lstM hS1
      have tl : ts.length = k := by
        have := Paired.length hp
        rw [List.length_take, List.length_zip] at this
        omega
      have hz2 : (ts ++ [V.ref s.heap.objs.size]).length ≤ sizeLine := by rw [List.length_append, List.length_singleton]; omega
      have I2 := I1.lset (t' := s.toks) (ys := ts ++ [.ref s.heap.objs.size]) (its' := itS ++ [.ref s.heap.objs.size]) (f := fun q => q.push (.ref s.heap.objs.size)) hS1 eS (by simp) (rS.append (.cons (show RelV (.ref s.heap.objs.size) (.ref s.heap.objs.size) from rfl) .nil)) hz2
      refine wpAny_bind (wpAny_updateSeq eS rfl (wpAny_pure ⟨plainId_quiet F.plain_extend_loop _, ?_⟩) (by rw [List.size_toArray]; omega) (by rw [Array.size_push, List.size_toArray]; omega))
      have oth : ∀ c o, c ≠ S → h'.get? c = some o → (h'.update S (Obj.mapSeq fun q => q.push (.ref s.heap.objs.size))).get? c = some o := fun c o hc e => (Heap.get?_update_other _ _ (Ne.symm hc)).trans e
      have sm2 : ∀ c o, c ≠ S → H1 c = some o → (upd H1 S (.lst (ts ++ [.ref s.heap.objs.size]))) c = some o := fun c o hc e => by rw [upd_ne hc]; exact e
      have tne : ∀ {c : Addr} {ps : List V}, H1 c = some (.tup ps) → c ≠ S := fun {c ps} e q => by rw [q, hS1] at e; cases e
      refine ih (k + 1) _ _ (ts ++ [.ref s.heap.objs.size]) (by omega) hlt I2 (fun c hc => ⟨by rw [upd_ne (nS c hc)]; exact (hf1 c hc).1, (hf1 c hc).2⟩) (fun c o hc e => sm2 c o hc (sm _ _ (hs c o hc e))) upd_same ?_ ?_ (oth _ _ (nS TI (by simp)) hTI') ?_ ?_ ?_
      · have ez : (xs.zip ys)[k]? = some (xs[k], ys[k]) := by
          rw [List.getElem?_eq_getElem (by rw [List.length_zip]; omega)]
          simp
        have et : (xs.zip ys).take (k + 1) = (xs.zip ys).take k ++ [(xs[k], ys[k])] := by
          rw [List.take_add_one, ez]
          rfl
        rw [et]
        refine paired_snoc' (Paired.imp' (fun v p ⟨T, e, q⟩ => ⟨T, e, sm2 _ _ (tne (sm _ _ q)) (sm _ _ q)⟩) hp) ⟨_, rfl, sm2 _ _ (tne hT1) hT1⟩
      · rcases st' with q | ⟨T0, f, us, q, qT⟩
        · exact .inl (oth _ _ (nS z (by simp)) q)
        · exact .inr ⟨T0, f, us, oth _ _ (nS z (by simp)) q, sm2 _ _ (tne qT) qT⟩
      · obtain ⟨x, y, q⟩ := hTO'
        exact ⟨x, y, oth _ _ (nS TO (by simp)) q⟩
      · exact h1'.at fun o e => oth _ _ (nS i1 (by simp)) e
      · exact h2'.at fun o e => oth _ _ (nS i2 (by simp)) e
    refine wpAny_bind ?_
    rcases st with hz | ⟨T0, f, us, hz, hT⟩
    · refine wpAny_pyNext_zip_item D hz hTI hTO h1 h2 pl.isList pl2.isList hx hy fun h' z' TO' h1' h2' hT' hsz hk' => ?_
      exact fin h' (.inr ⟨_, false, _, z', upd_same⟩) (hk' _ _ D.TIz D.TITO D.TIi1 D.TIi2 hTI) ⟨_, _, TO'⟩ h1' h2' hT' hk'
    · obtain ⟨_, its0, _, ⟨oT, eT, _⟩⟩ := I.hok _ _ hT
      refine zipB_item D hz eT hTI h1 h2 pl.isList pl2.isList hx hy fun h' z' h1' h2' hT' hsz hk' => ?_
      exact fin h' (.inr ⟨T0, true, us, z', by rw [upd_ne (fun q => by rw [q, hnew] at hT; cases hT)]; exact hT⟩) (hk' _ _ D.TIz D.TIi1 D.TIi2 hTI) ⟨x0, y0, hk' _ _ D.TOz D.TOi1 D.TOi2 hTO⟩ h1' h2' hT' fun c o c1 _ c3 c4 q => hk' c o c1 c3 c4 q
end
end L2

end

-- part PpZip4
section
set_option Elab.async false
set_option linter.all false
set_option maxRecDepth 100000
set_option maxHeartbeats 2000000
namespace L2
open PySem PySem.Spec PyProof.Rows
section
variable {X : Cx}
def tListZip (K : PySem.W.Frag) (ta : TA) : TE := fun σ H Q => ta σ H fun vs H1 => ∃ a b xs ys, vs = [.ref a, .ref b] ∧ SqL K H1 a xs ∧ SqL K H1 b ys ∧ xs.length = ys.length ∧ xs.length < sizeLine ∧
  ∀ H' l ts, (∀ c o, H1 c = some o → H' c = some o) → H1 l = none → H' l = some (.lst ts) → PairsAt H' ts (xs.zip ys) → Q (.ref l) H'
theorem pe_listzip {e e2 : Expr} {ta : TA} {p p2 pos pos2 : Pos} (hc : X.calm = true) (hg : Gl X "list") (hm : X.mg "list" = none) (hg2 : Gl X "zip") (hm2 : X.mg "zip" = none) (ha : PA X [e, e2] ta)
    (hs : starEach [e, e2] X.env = (false, eval e X.env) :: starEach [e2] X.env := by rfl) (hpl : (backTo pos2 (starEach [e2] X.env)).any (·.1) = false := by rfl)
    (hs2 : starEach [.Call (.Name "zip" p2) [e, e2] [] pos2] X.env = [(false, eval (.Call (.Name "zip" p2) [e, e2] [] pos2) X.env)] := by rfl) :
    PE X (.Call (.Name "list" p) [.Call (.Name "zip" p2) [e, e2] [] pos2] [] pos) (tListZip X.K ta) := by
  intro pins s σ H Q I h
  refine Call_ (ld_blt (u := .type "list") I hg hm (by decide +kernel) (PyProof.Rows.callWith_type1 ?_ hs2 rfl))
  rw [hs2]
  refine Calls.spliced_cons ?_
  refine Call_ (ld_blt I hg2 hm2 boot_zip5 (PyProof.Rows.callWith_type1 (thn (ha pos2 pins s σ H _ I h) fun us s1 ⟨vs, H1, I1, r1, q1⟩ => ?_) hs hpl))
  obtain ⟨a, b, xs, ys, ex, hqx, hqy, hlen, hn, q⟩ := q1
  subst ex
  cases r1 with
  | cons r rr =>
    cases rr with
    | cons r' rr =>
      cases rr
      cases r
      cases r'
      obtain ⟨its, rv, p1, _⟩ := I1.list hqx
      obtain ⟨its2, rv2, p2', _⟩ := I1.list hqy
      have la : a < s1.heap.objs.size := p1.lt
      have lb : b < s1.heap.objs.size := p2'.lt
      refine call_zip_2 p1.isList p2'.isList fun h' hz hTI hTO h1 h2 hsz hk => Calls.spliced_nil ?_
      have I2 : Inv X pins σ H1 { s1 with heap := h' } := I1.kept (t' := s1.toks) hk
      have D := PySem.W.ktu_apart s1.heap.objs.size a b la lb
      have fp : ∀ c ∈ [s1.heap.objs.size + 4, s1.heap.objs.size + 2, s1.heap.objs.size + 3, s1.heap.objs.size, s1.heap.objs.size + 1], s1.heap.objs.size ≤ c ∧ c < h'.objs.size := fun c hcm => by
        have e' : c = s1.heap.objs.size + 4 ∨ c = s1.heap.objs.size + 2 ∨ c = s1.heap.objs.size + 3 ∨ c = s1.heap.objs.size ∨ c = s1.heap.objs.size + 1 := by simpa using hcm
        rcases e' with z | z | z | z | z
        · rw [z]; exact ⟨Nat.le_add_right _ _, Heap.lt_size hz⟩
        · rw [z]; exact ⟨Nat.le_add_right _ _, Heap.lt_size hTI⟩
        · rw [z]; exact ⟨Nat.le_add_right _ _, Heap.lt_size hTO⟩
        · rw [z]; exact ⟨Nat.le_refl _, by obtain ⟨_, e1, _⟩ := h1; exact Heap.lt_size e1⟩
        · rw [z]; exact ⟨Nat.le_add_right _ _, by obtain ⟨_, e2, _⟩ := h2; exact Heap.lt_size e2⟩
      have hh : X.A.handled = none := I.ok.hd hc
      -- the list
      refine callType_codes (Q₁ := fun obj t1 => obj = .ref h'.objs.size ∧ t1 = { s1 with heap := h'.push { cls := .type "list", data := .seq #[] } }) PySem.F.called_list (PySem.F.typeCall_list_1 _) PySem.F.entry_list_init (code_list_new _ ⟨rfl, rfl⟩) fun obj t1 h₁ => ?_
      obtain ⟨rfl, rfl⟩ := h₁
      have I3 : Inv X pins σ (upd H1 h'.objs.size (.lst [])) { s1 with heap := h'.push { cls := .type "list", data := .seq #[] } } := I2.lnew (t' := s1.toks) (its := []) .nil (Nat.zero_le _)
      have nw : H1 h'.objs.size = none := I2.hok.fresh (Nat.le_refl _)
      have hS : (h'.push { cls := .type "list", data := .seq #[] }).get? h'.objs.size = some { cls := .type "list", data := .seq #[] } := Heap.get?_push_size _ rfl
      refine ⟨⟨_, hS, rfl⟩, PySem.F.args_list_init_2 _ _, ?_⟩
      show wpAny _ _ (do let old ← Builtin.List.listItems (.ref h'.objs.size); Builtin.List.listUpdate (.ref h'.objs.size) (fun _ => #[]); letGo old.toList.reverse; Builtin.List.listExtendWith (.ref h'.objs.size) (.ref (s1.heap.objs.size + 4)) .none) _ _ _
      refine wpAny_bind ?_
      unfold Builtin.List.listItems
      refine wpAny_bind (wpAny_seqItems hS rfl (wpAny_pure ?_))
      show wpAny _ _ (updateSeq h'.objs.size (fun _ => #[]) >>= fun _ => letGo (#[] : Array Value).toList.reverse >>= fun _ => Builtin.List.listExtendWith (.ref h'.objs.size) (.ref (s1.heap.objs.size + 4)) .none) _ _ _
      have eS : (upd H1 h'.objs.size (.lst [])) h'.objs.size = some (.lst []) := upd_same
      have I4 := I3.lset (t' := s1.toks) (ys := []) (its := []) (its' := []) (f := fun _ => #[]) eS hS (by simp) .nil (Nat.zero_le _)
      have u4 : upd (upd H1 h'.objs.size (.lst [])) h'.objs.size (.lst []) = upd H1 h'.objs.size (.lst []) := upd_upd
      rw [u4] at I4
      refine wpAny_bind (wpAny_updateSeq hS rfl ?_)
      refine wpAny_bind (wpAny_letGo ?_)
      have oth4 : ∀ c o, c ≠ h'.objs.size → h'.get? c = some o → ((h'.push { cls := .type "list", data := .seq #[] }).update h'.objs.size (Obj.mapSeq fun _ => #[])).get? c = some o := fun c o hc e => (Heap.get?_update_other _ _ (Ne.symm hc)).trans (Heap.get?_push_of_some _ e)
      obtain ⟨_, it4, n4, r4, l4, e4⟩ := I4.lstM eS
      have hit4 : it4 = [] := List.eq_nil_of_length_eq_zero l4.symm
      subst hit4
      have e4 : ((h'.push { cls := .type "list", data := .seq #[] }).update h'.objs.size (Obj.mapSeq fun _ => #[])).get? h'.objs.size = some { cls := .type "list", data := .seq ([] : List Value).toArray n4 } := e4
      have I4 : Inv X pins σ (upd H1 h'.objs.size (.lst [])) { s1 with heap := (h'.push { cls := .type "list", data := .seq #[] }).update h'.objs.size (Obj.mapSeq fun _ => #[]) } := I4
      generalize hG : (h'.push { cls := .type "list", data := .seq #[] }).update h'.objs.size (Obj.mapSeq fun _ => #[]) = g4 at I4 oth4 e4 ⊢
      have zl : s1.heap.objs.size + 4 ≠ h'.objs.size := Nat.ne_of_lt (Heap.lt_size hz)
      have hz4 := oth4 _ _ zl hz
      show wpAny _ _ (Builtin.List.listExtendWith (.ref h'.objs.size) (.ref (s1.heap.objs.size + 4)) .none) _ _ { s1 with heap := _ }
      unfold Builtin.List.listExtendWith
      refine wpAny_bind (wpAny_typeOf (T := "zip") ⟨_, hz4, rfl⟩ ?_)
      rw [if_neg (by simp [Builtin.List.listSameRef, Ne.symm zl])]
      refine wpAny_bind (wpAny_pyIter_zip hz4 ?_)
      refine wpAny_bind (wpAny_holding (hint_zip ⟨_, hz4, rfl⟩ ?_))
      rw [if_pos (by rfl)]
      refine wpAny_bind (wpAny_rule ?_)
      show wpAny _ _ (Builtin.List.listTouch (.ref h'.objs.size) >>= _) _ _ _
      unfold Builtin.List.listTouch
      refine wpAny_bind ?_
      show wpAny _ _ (updateSeq h'.objs.size (·.push .none) >>= fun _ => updateSeq h'.objs.size (·.pop)) _ _ _
      have I5 := I4.lset (t' := s1.toks) (ys := [.non]) (its := []) (its' := [.none]) (f := fun q => q.push .none) eS e4 (by simp) (.cons rfl .nil) (by decide)
      rw [upd_upd] at I5
      refine wpAny_bind (wpAny_updateSeq e4 rfl ?_)
      have eS5 : (upd H1 h'.objs.size (.lst [.non])) h'.objs.size = some (.lst [.non]) := upd_same
      obtain ⟨_, it5, n5, r5, l5, e5⟩ := I5.lstM eS5
      have oth5 : ∀ c o, c ≠ h'.objs.size → g4.get? c = some o → (g4.update h'.objs.size (Obj.mapSeq fun q => q.push .none)).get? c = some o := fun c o hc e => (Heap.get?_update_other _ _ (Ne.symm hc)).trans e
      have e5 : (g4.update h'.objs.size (Obj.mapSeq fun q => q.push .none)).get? h'.objs.size = some { cls := .type "list", data := .seq it5.toArray n5 } := e5
      have I5 : Inv X pins σ (upd H1 h'.objs.size (.lst [.non])) { s1 with heap := g4.update h'.objs.size (Obj.mapSeq fun q => q.push .none) } := I5
      generalize g4.update h'.objs.size (Obj.mapSeq fun q => q.push .none) = g5 at I5 oth5 e5 ⊢
      have I6 := I5.lset (t' := s1.toks) (ys := []) (its := it5) (its' := []) (f := fun q => q.pop) eS5 e5 (by
        have : it5.length = 1 := l5.symm
        match it5, this with
        | [v], _ => rfl) .nil (Nat.zero_le _)
      rw [upd_upd] at I6
      refine wpAny_updateSeq e5 rfl ?_ (by rw [List.size_toArray, ← l5]; decide) (by rw [Array.size_pop, List.size_toArray, ← l5]; decide)
      have oth6 : ∀ c o, c ≠ h'.objs.size → g5.get? c = some o → (g5.update h'.objs.size (Obj.mapSeq fun q => q.pop)).get? c = some o := fun c o hc e => (Heap.get?_update_other _ _ (Ne.symm hc)).trans e
      have I6 : Inv X pins σ (upd H1 h'.objs.size (.lst [])) { s1 with heap := g5.update h'.objs.size (Obj.mapSeq fun q => q.pop) } := I6
      generalize g5.update h'.objs.size (Obj.mapSeq fun q => q.pop) = g6 at I6 oth6 ⊢
      have up : ∀ c o, c ≠ h'.objs.size → h'.get? c = some o → g6.get? c = some o := fun c o hc e => oth6 _ _ hc (oth5 _ _ hc (oth4 _ _ hc e))
      have nS : ∀ c ∈ [s1.heap.objs.size + 4, s1.heap.objs.size + 2, s1.heap.objs.size + 3, s1.heap.objs.size, s1.heap.objs.size + 1], c ≠ h'.objs.size := fun c hcm => Nat.ne_of_lt (fp c hcm).2
      have hle : s1.heap.objs.size ≤ h'.objs.size := Nat.le_trans (Nat.le_add_right _ 4) (Nat.le_of_lt (Heap.lt_size hz))
      refine wpAny_pure ⟨plainId_quiet PySem.F.plain_extend_loop _, ?_⟩
      refine zip_loop (X := X) (pins := pins) (σ := σ) (H0 := H1) (S := h'.objs.size) (by first | exact hh | rfl) D hlen hn hqx hqy (Nat.ne_of_lt (Nat.lt_of_lt_of_le la hle)) (Nat.ne_of_lt (Nat.lt_of_lt_of_le lb hle)) nS ?_ xs.length 0 _ _ [] rfl (Nat.zero_le _) I6
        (fun c hcm => ?_) (fun c o hc e => by rw [upd_ne hc]; exact e) upd_same .nil (.inl (up _ _ zl hz)) (up _ _ (nS _ (by simp)) hTI) ⟨_, _, up _ _ (nS _ (by simp)) hTO⟩ (h1.at fun o e => up _ _ (nS _ (by simp)) e) (h2.at fun o e => up _ _ (nS _ (by simp)) e)
      · intro s' H' ts I' sm hS' pr
        exact ⟨rfl, .ref h'.objs.size, H', I', rfl, q H' _ ts (fun c o e => sm c o (fun z => by rw [z, nw] at e; cases e) e) nw hS' pr⟩
      · refine I1.fpOk (fp c hcm).1 ?_
        rw [upd_ne (nS c hcm)]
        exact I1.hok.fresh (fp c hcm).1
end
end L2

end

-- part PpZip5
section
set_option Elab.async false
set_option linter.all false
set_option maxRecDepth 100000
set_option maxHeartbeats 2000000
namespace L2
open PySem PySem.Spec PyProof.Rows
/-! ### for x, y in zip(t, ys), t a tuple, not longer than the list -/
abbrev zt1 (h : Heap) (l1 : Addr) : Heap := h.push { cls := .type "tuple_iterator", data := .fields #[.ref l1, .int 0 0] }
abbrev zt2 (h : Heap) (l1 l2 : Addr) : Heap := (zt1 h l1).push { cls := .type "list_iterator", data := .fields #[.ref l2, .int 0 0] }
abbrev zt3 (h : Heap) (l1 l2 : Addr) : Heap := (zt2 h l1 l2).push { cls := .type "tuple", data := .seq #[.ref h.objs.size, .ref (zt1 h l1).objs.size] }
abbrev zt4 (h : Heap) (l1 l2 : Addr) : Heap := (zt3 h l1 l2).push { cls := .type "tuple", data := .seq #[.none, .none] }
abbrev zt5 (h : Heap) (l1 l2 : Addr) : Heap := (zt4 h l1 l2).push { cls := .type "zip", data := .fields #[.none, .bool false, .bool false, .ref (zt2 h l1 l2).objs.size, .ref (zt3 h l1 l2).objs.size] }
theorem zipT_new (l1 l2 : Addr) (xs ys : Array Value) :
    Meets (Builtin.«zip.__new__» ⟨[.type "zip", .ref l1, .ref l2], []⟩) (fun _ R s => s.heap.IsTuple l1 xs ∧ s.heap.IsList l2 ys ∧ R (.ok (.ret (.ref (zt4 s.heap l1 l2).objs.size))) { s with heap := zt5 s.heap l1 l2 }) :=
  .of_wp fun prog w A R s h => by
    obtain ⟨hp, g, d, tk, os⟩ := s; obtain ⟨hl1, hl2, h⟩ := h
    have hsub := sub_zip
    have hL1 : Heap.IsTuple (Shared.heap ⟨hp, g, d, tk, os⟩) l1 xs := hl1
    have hL2 : Heap.IsList (Shared.heap ⟨hp.push { cls := .type "tuple_iterator", data := .fields #[.ref l1, .int 0 0] }, g, d, tk, os⟩) l2 ys := Heap.IsList.push hl2 _
    wp_walk using wpAny_pyIter_tuple hL1, wpAny_pyIter_list hL2
    exact ⟨_, rfl, h⟩
section
variable {prog : Program} {w : World} {A : Around} {E : Value → Shared → Prop} {s : Shared}
theorem call_zipT {l1 l2 : Addr} {xs ys : Array Value} {Q : Value → Shared → Prop} (hl1 : s.heap.IsTuple l1 xs) (hl2 : s.heap.IsList l2 ys)
    (h : ∀ h', IsZip h' (s.heap.objs.size + 4) (s.heap.objs.size + 2) (s.heap.objs.size + 3) .none → IsPair h' (s.heap.objs.size + 2) (.ref s.heap.objs.size) (.ref (s.heap.objs.size + 1)) →
      IsPair h' (s.heap.objs.size + 3) .none .none → h'.IsTupleIter s.heap.objs.size l1 0 → h'.IsListIter (s.heap.objs.size + 1) l2 0 → (∀ c o, s.heap.get? c = some o → h'.get? c = some o) → Q (.ref (s.heap.objs.size + 4)) { s with heap := h' }) :
    wpAny (model prog w) A (call (.type "zip") [.ref l1, .ref l2]) Q E s := by
  refine callType_new F.called_zip (by decide) (F.typeCall_zip_2 _ _) (F.newCall_zip_2 _ _) (fun obj => F.args_object_init_3 obj _ _) F.entry_zip_new (zipT_new l1 l2 xs ys) ⟨hl1, hl2, ?_⟩
  have z1 : (zt1 s.heap l1).objs.size = s.heap.objs.size + 1 := Heap.size_push ..
  have z2 : (zt2 s.heap l1 l2).objs.size = s.heap.objs.size + 2 := by rw [Heap.size_push, z1]
  have z3 : (zt3 s.heap l1 l2).objs.size = s.heap.objs.size + 3 := by rw [Heap.size_push, z2]
  have z4 : (zt4 s.heap l1 l2).objs.size = s.heap.objs.size + 4 := by rw [Heap.size_push, z3]
  have g5 : (zt5 s.heap l1 l2).get? (zt4 s.heap l1 l2).objs.size = some _ := Heap.get?_push_size _ rfl
  have g4 : (zt5 s.heap l1 l2).get? (zt3 s.heap l1 l2).objs.size = some _ := Heap.get?_push_of_some _ (Heap.get?_push_size _ rfl)
  have g3 : (zt5 s.heap l1 l2).get? (zt2 s.heap l1 l2).objs.size = some _ := Heap.get?_push_of_some _ (Heap.get?_push_of_some _ (Heap.get?_push_size _ rfl))
  have g2 : (zt5 s.heap l1 l2).get? (zt1 s.heap l1).objs.size = some _ := Heap.get?_push_of_some _ (Heap.get?_push_of_some _ (Heap.get?_push_of_some _ (Heap.get?_push_size _ rfl)))
  have g1 : (zt5 s.heap l1 l2).get? s.heap.objs.size = some _ := Heap.get?_push_of_some _ (Heap.get?_push_of_some _ (Heap.get?_push_of_some _ (Heap.get?_push_of_some _ (Heap.get?_push_size _ rfl))))
  show _ ∧ _
  rw [z2, z3, z4] at g5
  rw [z1, z2] at g3
  rw [z3] at g4
  rw [z1] at g2
  rw [z4]
  exact ⟨⟨_, g5, rfl⟩, h _ g5 g3 g4 ⟨_, g1, rfl, rfl⟩ ⟨_, g2, rfl, rfl⟩ fun c o x => Heap.get?_push_of_some _ (Heap.get?_push_of_some _ (Heap.get?_push_of_some _ (Heap.get?_push_of_some _ (Heap.get?_push_of_some _ x))))⟩
end
/-- the tuple at a and the list at b as they stand at each turn -/
def Itx (K : PySem.W.Frag) (a b : Addr) : It :=
  ⟨fun i H => ∃ (xs ys : List V) (x y : V), SqT K H a xs ∧ SqL K H b ys ∧ xs[i]? = some x ∧ ys[i]? = some y,
    fun i H v H' => ∃ T x y, v = .ref T ∧ H T = none ∧ H' = upd H T (.tup [x, y]) ∧ (∀ xs, SqT K H a xs → xs[i]? = some x) ∧ ∀ ys, SqL K H b ys → ys[i]? = some y,
    fun i H => ∃ xs : List V, SqT K H a xs ∧ xs.length ≤ i⟩
theorem turn_zipT {P : Program} {w : World} {K : PySem.W.Frag} {elts : List Expr} {kk : Nat} {tpos : Pos} {a b z TI TO i1 i2 : Addr} (D : ZipApart z TI TO i1 i2 a b) :
    Turn P w K (.Tuple elts kk tpos) (Itx K a b) [z, TI, TO, i1, i2] z (fun i h => IsZip h z TI TO .none ∧ IsPair h TI (.ref i1) (.ref i2) ∧ (∃ x y, IsPair h TO x y) ∧ h.IsTupleIter i1 a i ∧ h.IsListIter i2 b i) where
  mem := by simp
  obj := fun i h st c hc => by
    obtain ⟨hz, hTI, ⟨x, y, hTO⟩, ⟨o1, e1, _, d1⟩, ⟨o2, e2, _, d2⟩⟩ := st
    have e' : c = z ∨ c = TI ∨ c = TO ∨ c = i1 ∨ c = i2 := by simpa using hc
    rcases e' with q | q | q | q | q
    · rw [q]; exact ⟨_, hz, fun v q => nomatch q⟩
    · rw [q]; exact ⟨_, hTI, fun v q => nomatch q⟩
    · rw [q]; exact ⟨_, hTO, fun v q => nomatch q⟩
    · rw [q]; exact ⟨o1, e1, fun v q => by rw [d1] at q; cases q⟩
    · rw [q]; exact ⟨o2, e2, fun v q => by rw [d2] at q; cases q⟩
  keep := fun i h h' st k => by
    obtain ⟨hz, hTI, ⟨x, y, hTO⟩, ⟨o1, e1, r1⟩, h2⟩ := st
    exact ⟨k z (by simp) _ hz, k TI (by simp) _ hTI, ⟨x, y, k TO (by simp) _ hTO⟩, ⟨o1, k i1 (by simp) _ e1, r1⟩, h2.at fun o q => k i2 (by simp) o q⟩
  item := by
    intro X hP hw hK hc i pins s σ H E I hf st hg
    subst hP hw hK
    obtain ⟨hz, hTI, ⟨x0, y0, hTO⟩, h1, h2⟩ := st
    obtain ⟨xs, ys, x, y, hqx, hqy, hx, hy⟩ := hg
    obtain ⟨its, rv, p, _⟩ := I.tuple hqx
    obtain ⟨its2, rv2, p2, _⟩ := I.list hqy
    obtain ⟨u, hu, ru⟩ := rv.get hx
    obtain ⟨u2, hu2, ru2⟩ := rv2.get hy
    have hzl : z < s.heap.objs.size := Heap.lt_size hz
    refine zipT_item D hz hTI hTO h1 h2 p p2.isList (x := u) (y := u2) (by simpa using hu) (by simpa using hu2) fun h' z' TO' h1' h2' hT hsz hk => ?_
    refine ⟨_, rfl, wpAny_letOwnedTupleGo_zip (s := { s with heap := h' }) z' fun h'' z'' sb => ?_⟩
    have hT2 : h''.get? s.heap.objs.size = some { cls := .type "tuple", data := .seq #[u, u2] } := (sb.2 _ (Nat.ne_of_gt hzl)).trans hT
    have new : ObjOk X.prog X.w (upd H s.heap.objs.size (.tup [x, y])) h'' s.heap.objs.size (.tup [x, y]) := ⟨by show 2 ≤ sizeLine; decide, [u, u2], .cons ru (.cons ru2 .nil), ⟨_, hT2, rfl, _, rfl⟩⟩
    have I1 : Inv X pins σ (upd H s.heap.objs.size (.tup [x, y])) { s with heap := h'' } :=
      I.turnedNew (t' := s.toks) (ch := [z, TI, TO, i1, i2]) (fun c o hb q => (sb.2 c (fun q' => hb (by simp [q']))).trans (hk c o (fun q' => hb (by simp [q'])) (fun q' => hb (by simp [q'])) (fun q' => hb (by simp [q'])) (fun q' => hb (by simp [q'])) q)) hf (Nat.le_refl _) new
    refine ⟨.ref s.heap.objs.size, _, I1, rfl, ⟨_, x, y, rfl, I.hok.fresh (Nat.le_refl _), rfl, fun l hl => by rw [I.tuple_inj hl hqx]; exact hx, fun l hl => by rw [I.list_inj hl hqy]; exact hy⟩, ⟨z'', ?_, ⟨u, u2, ?_⟩, ?_, ?_⟩, fun c hcm => ?_⟩
    · exact (sb.2 _ D.TIz).trans (hk _ _ D.TIz D.TITO D.TIi1 D.TIi2 hTI)
    · exact (sb.2 _ D.TOz).trans TO'
    · obtain ⟨o, e, r⟩ := h1'
      exact ⟨o, (sb.2 _ D.i1z).trans e, r⟩
    · exact h2'.at fun o q => (sb.2 _ D.i2z).trans q
    · have hlt : c < s.heap.objs.size := by
        have e' : c = z ∨ c = TI ∨ c = TO ∨ c = i1 ∨ c = i2 := by simpa using hcm
        rcases e' with q | q | q | q | q
        · rw [q]; exact hzl
        · rw [q]; exact Heap.lt_size hTI
        · rw [q]; exact Heap.lt_size hTO
        · rw [q]; obtain ⟨_, e1, _⟩ := h1; exact Heap.lt_size e1
        · rw [q]; obtain ⟨_, e2, _⟩ := h2; exact Heap.lt_size e2
      rw [upd_ne (Nat.ne_of_lt hlt)]
      exact (hf c hcm).1
  done := by
    intro X hP hw hK hc i pins s σ H E I hf st hg
    subst hP hw hK
    obtain ⟨hz, hTI, ⟨x0, y0, hTO⟩, h1, h2⟩ := st
    obtain ⟨xs, hqx, hend⟩ := hg
    obtain ⟨its, rv, p, _⟩ := I.tuple hqx
    have l1 := rv.length
    exact zipT_end (I.ok.hd hc) D hz hTI hTO h1 p (by simp; omega) fun h' hk => ⟨rfl, I.turnedL (t' := s.toks) (ch := [z, TI, TO, i1, i2]) (fun c o hb q =>
      hk c o (fun q' => hb (by simp [q'])) (fun q' => hb (by simp [q'])) (fun q' => hb (by simp [q'])) (fun q' => hb (by simp [q'])) q) hf⟩
  self := fun A i s Q E st h => wpAny_pyIter_zip st.1 h
def iZipT (K : PySem.W.Frag) (ta : TA) : TI := fun σ H R => ta σ H fun vs H1 => ∃ a b xs ys, vs = [.ref a, .ref b] ∧ SqT K H1 a xs ∧ SqL K H1 b ys ∧ R (Itx K a b) H1
theorem pi_zipT {X : Cx} {e e2 : Expr} {ta : TA} {p pos tpos : Pos} {elts : List Expr} {kk : Nat} (hg : Gl X "zip") (hm : X.mg "zip" = none) (ha : PA X [e, e2] ta)
    (hs : starEach [e, e2] X.env = (false, eval e X.env) :: starEach [e2] X.env := by rfl) (hpl : (backTo pos (starEach [e2] X.env)).any (·.1) = false := by rfl) :
    PI X (.Tuple elts kk tpos) (.Call (.Name "zip" p) [e, e2] [] pos) (iZipT X.K ta) := by
  intro pins s σ H R I h
  refine Call_ (ld_blt I hg hm boot_zip5 (PyProof.Rows.callWith_type1 (thn (ha pos pins s σ H _ I h) fun us s1 ⟨vs, H1, I1, r1, q1⟩ => ?_) hs hpl))
  obtain ⟨a, b, xs, ys, ex, hqx, hqy, q⟩ := q1
  subst ex
  cases r1 with
  | cons r rr =>
    cases rr with
    | cons r' rr =>
      cases rr
      cases r
      cases r'
      obtain ⟨its, rv, p1, _⟩ := I1.tuple hqx
      obtain ⟨its2, rv2, p2, _⟩ := I1.list hqy
      have la : a < s1.heap.objs.size := by obtain ⟨_, e1, _⟩ := p1; exact Heap.lt_size e1
      have lb : b < s1.heap.objs.size := p2.lt
      refine call_zipT p1 p2.isList fun h' hz hTI hTO h1 h2 hk => wpAny_pyIter_zip hz ?_
      have I2 : Inv X pins σ H1 { s1 with heap := h' } := I1.kept (t' := s1.toks) hk
      refine ⟨s1.heap.objs.size + 4, [s1.heap.objs.size + 4, s1.heap.objs.size + 2, s1.heap.objs.size + 3, s1.heap.objs.size, s1.heap.objs.size + 1], _, _, H1, rfl, I2, turn_zipT (PySem.W.ktu_apart s1.heap.objs.size a b la lb), ⟨hz, hTI, ⟨_, _, hTO⟩, h1, h2⟩, fun c hcm => ?_, q⟩
      have e' : c = s1.heap.objs.size + 4 ∨ c = s1.heap.objs.size + 2 ∨ c = s1.heap.objs.size + 3 ∨ c = s1.heap.objs.size ∨ c = s1.heap.objs.size + 1 := by simpa using hcm
      have hle : s1.heap.objs.size ≤ c := by
        rcases e' with z | z | z | z | z
        · rw [z]; exact Nat.le_add_right _ _
        · rw [z]; exact Nat.le_add_right _ _
        · rw [z]; exact Nat.le_add_right _ _
        · rw [z]; exact Nat.le_refl _
        · rw [z]; exact Nat.le_add_right _ _
      exact I1.fpOk hle (I1.hok.fresh hle)
theorem for_zipT {K : PySem.W.Frag} {a b : Addr} {xs ys : List V} {g : TG} {tb : TS} {D : Ends} {σ : St} {H : Hp} (Pv : Nat → St → Hp → Prop) (hlen : xs.length ≤ ys.length) (h0 : Pv 0 σ H) (hl : ∀ i σ H, i ≤ xs.length → Pv i σ H → SqT K H a xs ∧ SqL K H b ys)
    (hs : ∀ i x y σ H T, xs[i]? = some x → ys[i]? = some y → Pv i σ H → H T = none → g (.ref T) σ (upd H T (.tup [x, y])) fun σ2 H2 => tb { D with nx := Pv (i + 1), ct := Pv (i + 1), bk := D.nx } σ2 H2) (hd : ∀ σ H, Pv xs.length σ H → D.nx σ H) :
    ∃ W : Nat → Nat → St → Hp → Prop, (∃ m, W 0 m σ H) ∧ ∀ i m σ H, W i m σ H →
      ((Itx K a b).stop i H ∧ D.nx σ H) ∨ ((Itx K a b).go i H ∧ ∃ N : St → Hp → Prop, (∀ σ' H', N σ' H' → ∃ m', m' < m ∧ W (i + 1) m' σ' H') ∧ ∀ x H', (Itx K a b).yld i H x H' → g x σ H' fun σ2 H2 => tb { D with nx := N, ct := N, bk := D.nx } σ2 H2) := by
  refine ⟨fun i m σ H => m = xs.length - i ∧ i ≤ xs.length ∧ Pv i σ H, ⟨xs.length, by simp, Nat.zero_le _, h0⟩, ?_⟩
  rintro i m σ H ⟨rfl, hi, p⟩
  obtain ⟨q1, q2⟩ := hl i σ H hi p
  by_cases hlt : i < xs.length
  · have l2 : i < ys.length := by omega
    refine .inr ⟨⟨xs, ys, xs[i], ys[i], q1, q2, by simp [hlt], by simp [l2]⟩, Pv (i + 1), fun σ' H' p' => ⟨xs.length - (i + 1), by omega, rfl, hlt, p'⟩, fun x H' y => ?_⟩
    obtain ⟨T, x', y', rfl, hT, rfl, y1, y2⟩ := y
    exact hs i x' y' _ _ T (y1 xs q1) (y2 ys q2) p hT
  · have e : i = xs.length := by omega
    subst e
    exact .inl ⟨⟨xs, q1, Nat.le_refl _⟩, hd σ H p⟩
end L2

end

-- part RhTop
section
set_option Elab.async false
set_option linter.all false
set_option maxRecDepth 100000
namespace Rh
open PySem PySem.Spec PyProof.Rows L2
def top (i : Nat) : Stmt := PySem.Challenge.pw_relationsheld_s01_answers.main.body.getD i (.Pass ⟨0, 0, 0, 0⟩)
abbrev s_add : Stmt := top 3
abbrev n_add : List Str := ["row", "c", "value"]
theorem sc_add : FnScope n_add ["row", "c"] (defScope s_add) := ⟨rfl, rfl, rfl, by decide +kernel, rfl, by decide +kernel, by decide +kernel⟩
abbrev s_times : Stmt := top 4
abbrev n_times : List Str := ["row", "c", "value"]
theorem sc_times : FnScope n_times ["row", "c"] (defScope s_times) := ⟨rfl, rfl, rfl, by decide +kernel, rfl, by decide +kernel, by decide +kernel⟩
abbrev s_rest : Stmt := top 5
abbrev n_rest : List Str := ["row", "m", "value"]
theorem sc_rest : FnScope n_rest ["row", "m"] (defScope s_rest) := ⟨rfl, rfl, rfl, by decide +kernel, rfl, by decide +kernel, by decide +kernel⟩
abbrev s_without_signs : Stmt := top 6
abbrev n_without_signs : List Str := ["row", "value"]
theorem sc_without_signs : FnScope n_without_signs ["row"] (defScope s_without_signs) := ⟨rfl, rfl, rfl, by decide +kernel, rfl, by decide +kernel, by decide +kernel⟩
abbrev s_rising : Stmt := top 7
abbrev n_rising : List Str := ["row"]
theorem sc_rising : FnScope n_rising ["row"] (defScope s_rising) := ⟨rfl, rfl, rfl, by decide +kernel, rfl, by decide +kernel, by decide +kernel⟩
abbrev s_turned_round : Stmt := top 8
abbrev n_turned_round : List Str := ["row"]
theorem sc_turned_round : FnScope n_turned_round ["row"] (defScope s_turned_round) := ⟨rfl, rfl, rfl, by decide +kernel, rfl, by decide +kernel, by decide +kernel⟩
abbrev s_rotated : Stmt := top 9
abbrev n_rotated : List Str := ["row", "k", "first"]
theorem sc_rotated : FnScope n_rotated ["row", "k"] (defScope s_rotated) := ⟨rfl, rfl, rfl, by decide +kernel, rfl, by decide +kernel, by decide +kernel⟩
abbrev s_taken : Stmt := top 10
abbrev n_taken : List Str := ["row", "k"]
theorem sc_taken : FnScope n_taken ["row", "k"] (defScope s_taken) := ⟨rfl, rfl, rfl, by decide +kernel, rfl, by decide +kernel, by decide +kernel⟩
abbrev s_dropped : Stmt := top 11
abbrev n_dropped : List Str := ["row", "k"]
theorem sc_dropped : FnScope n_dropped ["row", "k"] (defScope s_dropped) := ⟨rfl, rfl, rfl, by decide +kernel, rfl, by decide +kernel, by decide +kernel⟩
abbrev s_above : Stmt := top 12
abbrev n_above : List Str := ["row", "c", "value"]
theorem sc_above : FnScope n_above ["row", "c"] (defScope s_above) := ⟨rfl, rfl, rfl, by decide +kernel, rfl, by decide +kernel, by decide +kernel⟩
abbrev s_once : Stmt := top 13
abbrev n_once : List Str := ["row", "found", "value"]
theorem sc_once : FnScope n_once ["row"] (defScope s_once) := ⟨rfl, rfl, rfl, by decide +kernel, rfl, by decide +kernel, by decide +kernel⟩
abbrev s_sum_alone : Stmt := top 14
abbrev n_sum_alone : List Str := ["row"]
theorem sc_sum_alone : FnScope n_sum_alone ["row"] (defScope s_sum_alone) := ⟨rfl, rfl, rfl, by decide +kernel, rfl, by decide +kernel, by decide +kernel⟩
abbrev s_greatest : Stmt := top 15
abbrev n_greatest : List Str := ["row"]
theorem sc_greatest : FnScope n_greatest ["row"] (defScope s_greatest) := ⟨rfl, rfl, rfl, by decide +kernel, rfl, by decide +kernel, by decide +kernel⟩
abbrev s_least : Stmt := top 16
abbrev n_least : List Str := ["row"]
theorem sc_least : FnScope n_least ["row"] (defScope s_least) := ⟨rfl, rfl, rfl, by decide +kernel, rfl, by decide +kernel, by decide +kernel⟩
abbrev s_count_alone : Stmt := top 17
abbrev n_count_alone : List Str := ["row"]
theorem sc_count_alone : FnScope n_count_alone ["row"] (defScope s_count_alone) := ⟨rfl, rfl, rfl, by decide +kernel, rfl, by decide +kernel, by decide +kernel⟩
abbrev s_differences : Stmt := top 18
abbrev n_differences : List Str := ["row", "first", "second"]
theorem sc_differences : FnScope n_differences ["row"] (defScope s_differences) := ⟨rfl, rfl, rfl, by decide +kernel, rfl, by decide +kernel, by decide +kernel⟩
abbrev s_running_sums : Stmt := top 19
abbrev n_running_sums : List Str := ["row", "sums", "total", "value"]
theorem sc_running_sums : FnScope n_running_sums ["row"] (defScope s_running_sums) := ⟨rfl, rfl, rfl, by decide +kernel, rfl, by decide +kernel, by decide +kernel⟩
abbrev s_twice : Stmt := top 20
abbrev n_twice : List Str := ["row"]
theorem sc_twice : FnScope n_twice ["row"] (defScope s_twice) := ⟨rfl, rfl, rfl, by decide +kernel, rfl, by decide +kernel, by decide +kernel⟩
abbrev s_is_beyond : Stmt := top 23
abbrev n_is_beyond : List Str := ["row"]
theorem sc_is_beyond : FnScope n_is_beyond ["row"] (defScope s_is_beyond) := ⟨rfl, rfl, rfl, by decide +kernel, rfl, by decide +kernel, by decide +kernel⟩
abbrev s_after_step : Stmt := top 24
abbrev n_after_step : List Str := ["step", "row"]
theorem sc_after_step : FnScope n_after_step ["step", "row"] (defScope s_after_step) := ⟨rfl, rfl, rfl, by decide +kernel, rfl, by decide +kernel, by decide +kernel⟩
abbrev s_run : Stmt := top 25
abbrev n_run : List Str := ["program", "row", "step"]
theorem sc_run : FnScope n_run ["program", "row"] (defScope s_run) := ⟨rfl, rfl, rfl, by decide +kernel, rfl, by decide +kernel, by decide +kernel⟩
abbrev s_Relation_init : Stmt := inClass (top 31) 0
abbrev n_Relation_init : List Str := ["self", "condition", "before", "way", "after"]
theorem sc_Relation_init : FnScope n_Relation_init ["self", "condition", "before", "way", "after"] (defScope s_Relation_init) := ⟨rfl, rfl, rfl, by decide +kernel, rfl, by decide +kernel, by decide +kernel⟩
abbrev s_always : Stmt := top 32
abbrev n_always : List Str := ["row"]
theorem sc_always : FnScope n_always ["row"] (defScope s_always) := ⟨rfl, rfl, rfl, by decide +kernel, rfl, by decide +kernel, by decide +kernel⟩
abbrev s_has_numbers : Stmt := top 33
abbrev n_has_numbers : List Str := ["row"]
theorem sc_has_numbers : FnScope n_has_numbers ["row"] (defScope s_has_numbers) := ⟨rfl, rfl, rfl, by decide +kernel, rfl, by decide +kernel, by decide +kernel⟩
abbrev s_is_rising : Stmt := top 34
abbrev n_is_rising : List Str := ["row"]
theorem sc_is_rising : FnScope n_is_rising ["row"] (defScope s_is_rising) := ⟨rfl, rfl, rfl, by decide +kernel, rfl, by decide +kernel, by decide +kernel⟩
abbrev s_none_below_zero : Stmt := top 35
abbrev n_none_below_zero : List Str := ["row", "value"]
theorem sc_none_below_zero : FnScope n_none_below_zero ["row"] (defScope s_none_below_zero) := ⟨rfl, rfl, rfl, by decide +kernel, rfl, by decide +kernel, by decide +kernel⟩
abbrev s_none_twice : Stmt := top 36
abbrev n_none_twice : List Str := ["row"]
theorem sc_none_twice : FnScope n_none_twice ["row"] (defScope s_none_twice) := ⟨rfl, rfl, rfl, by decide +kernel, rfl, by decide +kernel, by decide +kernel⟩
abbrev s_is_so : Stmt := top 38
abbrev n_is_so : List Str := ["condition", "row"]
theorem sc_is_so : FnScope n_is_so ["condition", "row"] (defScope s_is_so) := ⟨rfl, rfl, rfl, by decide +kernel, rfl, by decide +kernel, by decide +kernel⟩
abbrev s_equal : Stmt := top 39
abbrev n_equal : List Str := ["left", "right"]
theorem sc_equal : FnScope n_equal ["left", "right"] (defScope s_equal) := ⟨rfl, rfl, rfl, by decide +kernel, rfl, by decide +kernel, by decide +kernel⟩
abbrev s_same_bag : Stmt := top 40
abbrev n_same_bag : List Str := ["left", "right"]
theorem sc_same_bag : FnScope n_same_bag ["left", "right"] (defScope s_same_bag) := ⟨rfl, rfl, rfl, by decide +kernel, rfl, by decide +kernel, by decide +kernel⟩
abbrev s_same_numbers : Stmt := top 41
abbrev n_same_numbers : List Str := ["left", "right"]
theorem sc_same_numbers : FnScope n_same_numbers ["left", "right"] (defScope s_same_numbers) := ⟨rfl, rfl, rfl, by decide +kernel, rfl, by decide +kernel, by decide +kernel⟩
abbrev s_as_long : Stmt := top 42
abbrev n_as_long : List Str := ["left", "right"]
theorem sc_as_long : FnScope n_as_long ["left", "right"] (defScope s_as_long) := ⟨rfl, rfl, rfl, by decide +kernel, rfl, by decide +kernel, by decide +kernel⟩
abbrev s_at_most : Stmt := top 43
abbrev n_at_most : List Str := ["left", "right", "first", "second"]
theorem sc_at_most : FnScope n_at_most ["left", "right"] (defScope s_at_most) := ⟨rfl, rfl, rfl, by decide +kernel, rfl, by decide +kernel, by decide +kernel⟩
abbrev s_at_least : Stmt := top 44
abbrev n_at_least : List Str := ["left", "right"]
theorem sc_at_least : FnScope n_at_least ["left", "right"] (defScope s_at_least) := ⟨rfl, rfl, rfl, by decide +kernel, rfl, by decide +kernel, by decide +kernel⟩
abbrev s_begins : Stmt := top 45
abbrev n_begins : List Str := ["left", "right"]
theorem sc_begins : FnScope n_begins ["left", "right"] (defScope s_begins) := ⟨rfl, rfl, rfl, by decide +kernel, rfl, by decide +kernel, by decide +kernel⟩
abbrev s_stands : Stmt := top 47
abbrev n_stands : List Str := ["way", "left", "right"]
theorem sc_stands : FnScope n_stands ["way", "left", "right"] (defScope s_stands) := ⟨rfl, rfl, rfl, by decide +kernel, rfl, by decide +kernel, by decide +kernel⟩
abbrev s_run_both : Stmt := top 48
abbrev n_run_both : List Str := ["first", "second", "row", "between"]
theorem sc_run_both : FnScope n_run_both ["first", "second", "row"] (defScope s_run_both) := ⟨rfl, rfl, rfl, by decide +kernel, rfl, by decide +kernel, by decide +kernel⟩
abbrev s_sides : Stmt := top 49
abbrev n_sides : List Str := ["program", "relation", "row", "left", "right"]
theorem sc_sides : FnScope n_sides ["program", "relation", "row"] (defScope s_sides) := ⟨rfl, rfl, rfl, by decide +kernel, rfl, by decide +kernel, by decide +kernel⟩
abbrev s_judged : Stmt := top 50
abbrev n_judged : List Str := ["program", "relation", "row", "pair"]
theorem sc_judged : FnScope n_judged ["program", "relation", "row"] (defScope s_judged) := ⟨rfl, rfl, rfl, by decide +kernel, rfl, by decide +kernel, by decide +kernel⟩
abbrev s_all_verdicts : Stmt := top 54
abbrev n_all_verdicts : List Str := ["program", "relation", "rows", "row"]
theorem sc_all_verdicts : FnScope n_all_verdicts ["program", "relation", "rows"] (defScope s_all_verdicts) := ⟨rfl, rfl, rfl, by decide +kernel, rfl, by decide +kernel, by decide +kernel⟩
abbrev s_all_pairs : Stmt := top 55
abbrev n_all_pairs : List Str := ["program", "relation", "rows", "seen", "row", "pair"]
theorem sc_all_pairs : FnScope n_all_pairs ["program", "relation", "rows"] (defScope s_all_pairs) := ⟨rfl, rfl, rfl, by decide +kernel, rfl, by decide +kernel, by decide +kernel⟩
abbrev s_holds : Stmt := top 56
abbrev n_holds : List Str := ["way", "pairs", "pair"]
theorem sc_holds : FnScope n_holds ["way", "pairs"] (defScope s_holds) := ⟨rfl, rfl, rfl, by decide +kernel, rfl, by decide +kernel, by decide +kernel⟩
abbrev s_ways_that_hold : Stmt := top 57
abbrev n_ways_that_hold : List Str := ["pairs", "way"]
theorem sc_ways_that_hold : FnScope n_ways_that_hold ["pairs"] (defScope s_ways_that_hold) := ⟨rfl, rfl, rfl, by decide +kernel, rfl, by decide +kernel, by decide +kernel⟩
abbrev s_strongest : Stmt := top 58
abbrev n_strongest : List Str := ["ways", "weaker", "way"]
theorem sc_strongest : FnScope n_strongest ["ways"] (defScope s_strongest) := ⟨rfl, rfl, rfl, by decide +kernel, rfl, by decide +kernel, by decide +kernel⟩
abbrev s_kept_and_broken : Stmt := top 59
abbrev n_kept_and_broken : List Str := ["condition", "rows", "verdicts", "so", "row", "verdict"]
theorem sc_kept_and_broken : FnScope n_kept_and_broken ["condition", "rows", "verdicts"] (defScope s_kept_and_broken) := ⟨rfl, rfl, rfl, by decide +kernel, rfl, by decide +kernel, by decide +kernel⟩
abbrev s_under_conditions : Stmt := top 60
abbrev n_under_conditions : List Str := ["program", "relation", "rows", "free", "verdicts", "condition"]
theorem sc_under_conditions : FnScope n_under_conditions ["program", "relation", "rows"] (defScope s_under_conditions) := ⟨rfl, rfl, rfl, by decide +kernel, rfl, by decide +kernel, by decide +kernel⟩
abbrev s_first_cut : Stmt := top 61
abbrev n_first_cut : List Str := ["program", "relation", "rows", "condition", "counts"]
theorem sc_first_cut : FnScope n_first_cut ["program", "relation", "rows"] (defScope s_first_cut) := ⟨rfl, rfl, rfl, by decide +kernel, rfl, by decide +kernel, by decide +kernel⟩
abbrev s_slack : Stmt := top 62
abbrev n_slack : List Str := ["pairs", "found", "pair", "left", "right"]
theorem sc_slack : FnScope n_slack ["pairs"] (defScope s_slack) := ⟨rfl, rfl, rfl, by decide +kernel, rfl, by decide +kernel, by decide +kernel⟩
abbrev s_counts_against : Stmt := top 63
abbrev n_counts_against : List Str := ["program", "first", "second", "rows", "verdicts", "counted", "both"]
theorem sc_counts_against : FnScope n_counts_against ["program", "first", "second", "rows"] (defScope s_counts_against) := ⟨rfl, rfl, rfl, by decide +kernel, rfl, by decide +kernel, by decide +kernel⟩
abbrev s_Bound_init : Stmt := inClass (top 65) 0
abbrev n_Bound_init : List Str := ["self", "length", "lowest", "highest"]
theorem sc_Bound_init : FnScope n_Bound_init ["self", "length", "lowest", "highest"] (defScope s_Bound_init) := ⟨rfl, rfl, rfl, by decide +kernel, rfl, by decide +kernel, by decide +kernel⟩
abbrev s_choices : Stmt := top 66
abbrev n_choices : List Str := ["bound"]
theorem sc_choices : FnScope n_choices ["bound"] (defScope s_choices) := ⟨rfl, rfl, rfl, by decide +kernel, rfl, by decide +kernel, by decide +kernel⟩
abbrev s_how_many : Stmt := top 67
abbrev n_how_many : List Str := ["bound", "total", "as_long", "length"]
theorem sc_how_many : FnScope n_how_many ["bound"] (defScope s_how_many) := ⟨rfl, rfl, rfl, by decide +kernel, rfl, by decide +kernel, by decide +kernel⟩
abbrev s_numbered : Stmt := top 68
abbrev n_numbered : List Str := ["bound", "number", "length", "as_long", "backwards", "place"]
theorem sc_numbered : FnScope n_numbered ["bound", "number"] (defScope s_numbered) := ⟨rfl, rfl, rfl, by decide +kernel, rfl, by decide +kernel, by decide +kernel⟩
abbrev s_all_inputs : Stmt := top 69
abbrev n_all_inputs : List Str := ["bound", "number"]
theorem sc_all_inputs : FnScope n_all_inputs ["bound"] (defScope s_all_inputs) := ⟨rfl, rfl, rfl, by decide +kernel, rfl, by decide +kernel, by decide +kernel⟩
abbrev s_Reader_init : Stmt := inClass (top 84) 0
abbrev n_Reader_init : List Str := ["self", "told"]
theorem sc_Reader_init : FnScope n_Reader_init ["self", "told"] (defScope s_Reader_init) := ⟨rfl, rfl, rfl, by decide +kernel, rfl, by decide +kernel, by decide +kernel⟩
abbrev s_Reader_take : Stmt := inClass (top 84) 1
abbrev n_Reader_take : List Str := ["self", "lowest", "highest", "number"]
theorem sc_Reader_take : FnScope n_Reader_take ["self", "lowest", "highest"] (defScope s_Reader_take) := ⟨rfl, rfl, rfl, by decide +kernel, rfl, by decide +kernel, by decide +kernel⟩
abbrev s_Reader_finish : Stmt := inClass (top 84) 2
abbrev n_Reader_finish : List Str := ["self"]
theorem sc_Reader_finish : FnScope n_Reader_finish ["self"] (defScope s_Reader_finish) := ⟨rfl, rfl, rfl, by decide +kernel, rfl, by decide +kernel, by decide +kernel⟩
abbrev s_take_step : Stmt := top 85
abbrev n_take_step : List Str := ["reader", "kind", "ends"]
theorem sc_take_step : FnScope n_take_step ["reader"] (defScope s_take_step) := ⟨rfl, rfl, rfl, by decide +kernel, rfl, by decide +kernel, by decide +kernel⟩
abbrev s_take_program : Stmt := top 86
abbrev n_take_program : List Str := ["reader", "many", "place"]
theorem sc_take_program : FnScope n_take_program ["reader"] (defScope s_take_program) := ⟨rfl, rfl, rfl, by decide +kernel, rfl, by decide +kernel, by decide +kernel⟩
abbrev s_take_condition : Stmt := top 87
abbrev n_take_condition : List Str := ["reader", "kind"]
theorem sc_take_condition : FnScope n_take_condition ["reader"] (defScope s_take_condition) := ⟨rfl, rfl, rfl, by decide +kernel, rfl, by decide +kernel, by decide +kernel⟩
abbrev s_read_program : Stmt := top 88
abbrev n_read_program : List Str := ["told", "reader", "program"]
theorem sc_read_program : FnScope n_read_program ["told"] (defScope s_read_program) := ⟨rfl, rfl, rfl, by decide +kernel, rfl, by decide +kernel, by decide +kernel⟩
abbrev s_read_relation : Stmt := top 89
abbrev n_read_relation : List Str := ["told", "reader", "condition", "before", "way", "after"]
theorem sc_read_relation : FnScope n_read_relation ["told"] (defScope s_read_relation) := ⟨rfl, rfl, rfl, by decide +kernel, rfl, by decide +kernel, by decide +kernel⟩
abbrev s_read_bound : Stmt := top 90
abbrev n_read_bound : List Str := ["told", "reader", "length", "lowest", "highest", "bound"]
theorem sc_read_bound : FnScope n_read_bound ["told"] (defScope s_read_bound) := ⟨rfl, rfl, rfl, by decide +kernel, rfl, by decide +kernel, by decide +kernel⟩
abbrev s_read_row : Stmt := top 91
abbrev n_read_row : List Str := ["told", "reader", "many", "row", "place"]
theorem sc_read_row : FnScope n_read_row ["told"] (defScope s_read_row) := ⟨rfl, rfl, rfl, by decide +kernel, rfl, by decide +kernel, by decide +kernel⟩
abbrev s_nearer : Stmt := top 94
abbrev n_nearer : List Str := ["value", "sign"]
theorem sc_nearer : FnScope n_nearer ["value"] (defScope s_nearer) := ⟨rfl, rfl, rfl, by decide +kernel, rfl, by decide +kernel, by decide +kernel⟩
abbrev s_smaller_rows : Stmt := top 95
abbrev n_smaller_rows : List Str := ["row", "rows", "place", "value", "other"]
theorem sc_smaller_rows : FnScope n_smaller_rows ["row"] (defScope s_smaller_rows) := ⟨rfl, rfl, rfl, by decide +kernel, rfl, by decide +kernel, by decide +kernel⟩
abbrev s_is_broken : Stmt := top 96
abbrev n_is_broken : List Str := ["program", "relation", "row"]
theorem sc_is_broken : FnScope n_is_broken ["program", "relation", "row"] (defScope s_is_broken) := ⟨rfl, rfl, rfl, by decide +kernel, rfl, by decide +kernel, by decide +kernel⟩
abbrev s_first_broken : Stmt := top 97
abbrev n_first_broken : List Str := ["program", "relation", "rows", "row"]
theorem sc_first_broken : FnScope n_first_broken ["program", "relation", "rows"] (defScope s_first_broken) := ⟨rfl, rfl, rfl, by decide +kernel, rfl, by decide +kernel, by decide +kernel⟩
abbrev s_made_smaller : Stmt := top 98
abbrev n_made_smaller : List Str := ["program", "relation", "row", "again", "found"]
theorem sc_made_smaller : FnScope n_made_smaller ["program", "relation", "row"] (defScope s_made_smaller) := ⟨rfl, rfl, rfl, by decide +kernel, rfl, by decide +kernel, by decide +kernel⟩
abbrev s_Subject_init : Stmt := inClass (top 101) 0
abbrev n_Subject_init : List Str := ["self"]
theorem sc_Subject_init : FnScope n_Subject_init ["self"] (defScope s_Subject_init) := ⟨rfl, rfl, rfl, by decide +kernel, rfl, by decide +kernel, by decide +kernel⟩
abbrev s_counted : Stmt := top 102
abbrev n_counted : List Str := ["row"]
theorem sc_counted : FnScope n_counted ["row"] (defScope s_counted) := ⟨rfl, rfl, rfl, by decide +kernel, rfl, by decide +kernel, by decide +kernel⟩
abbrev s_condition_told : Stmt := top 103
abbrev n_condition_told : List Str := ["condition"]
theorem sc_condition_told : FnScope n_condition_told ["condition"] (defScope s_condition_told) := ⟨rfl, rfl, rfl, by decide +kernel, rfl, by decide +kernel, by decide +kernel⟩
abbrev s_what_look_tells : Stmt := top 104
abbrev n_what_look_tells : List Str := ["subject", "row", "seen"]
theorem sc_what_look_tells : FnScope n_what_look_tells ["subject", "row"] (defScope s_what_look_tells) := ⟨rfl, rfl, rfl, by decide +kernel, rfl, by decide +kernel, by decide +kernel⟩
abbrev s_gone_through : Stmt := top 105
abbrev n_gone_through : List Str := ["subject"]
theorem sc_gone_through : FnScope n_gone_through ["subject"] (defScope s_gone_through) := ⟨rfl, rfl, rfl, by decide +kernel, rfl, by decide +kernel, by decide +kernel⟩
abbrev s_verdicts_of : Stmt := top 106
abbrev n_verdicts_of : List Str := ["subject"]
theorem sc_verdicts_of : FnScope n_verdicts_of ["subject"] (defScope s_verdicts_of) := ⟨rfl, rfl, rfl, by decide +kernel, rfl, by decide +kernel, by decide +kernel⟩
abbrev s_pairs_of : Stmt := top 107
abbrev n_pairs_of : List Str := ["subject"]
theorem sc_pairs_of : FnScope n_pairs_of ["subject"] (defScope s_pairs_of) := ⟨rfl, rfl, rfl, by decide +kernel, rfl, by decide +kernel, by decide +kernel⟩
abbrev s_all_broken : Stmt := top 108
abbrev n_all_broken : List Str := ["verdicts", "number", "verdict"]
theorem sc_all_broken : FnScope n_all_broken ["verdicts"] (defScope s_all_broken) := ⟨rfl, rfl, rfl, by decide +kernel, rfl, by decide +kernel, by decide +kernel⟩
abbrev s_tell_program : Stmt := top 109
abbrev n_tell_program : List Str := ["subject", "told"]
theorem sc_tell_program : FnScope n_tell_program ["subject", "told"] (defScope s_tell_program) := ⟨rfl, rfl, rfl, by decide +kernel, rfl, by decide +kernel, by decide +kernel⟩
abbrev s_tell_relation : Stmt := top 110
abbrev n_tell_relation : List Str := ["subject", "told"]
theorem sc_tell_relation : FnScope n_tell_relation ["subject", "told"] (defScope s_tell_relation) := ⟨rfl, rfl, rfl, by decide +kernel, rfl, by decide +kernel, by decide +kernel⟩
abbrev s_tell_bound : Stmt := top 111
abbrev n_tell_bound : List Str := ["subject", "told"]
theorem sc_tell_bound : FnScope n_tell_bound ["subject", "told"] (defScope s_tell_bound) := ⟨rfl, rfl, rfl, by decide +kernel, rfl, by decide +kernel, by decide +kernel⟩
abbrev s_ask_numbered : Stmt := top 112
abbrev n_ask_numbered : List Str := ["subject", "told"]
theorem sc_ask_numbered : FnScope n_ask_numbered ["subject", "told"] (defScope s_ask_numbered) := ⟨rfl, rfl, rfl, by decide +kernel, rfl, by decide +kernel, by decide +kernel⟩
abbrev s_ask_look : Stmt := top 113
abbrev n_ask_look : List Str := ["subject", "told"]
theorem sc_ask_look : FnScope n_ask_look ["subject", "told"] (defScope s_ask_look) := ⟨rfl, rfl, rfl, by decide +kernel, rfl, by decide +kernel, by decide +kernel⟩
abbrev s_ask_held : Stmt := top 114
abbrev n_ask_held : List Str := ["subject", "told", "verdicts", "broken", "first"]
theorem sc_ask_held : FnScope n_ask_held ["subject", "told"] (defScope s_ask_held) := ⟨rfl, rfl, rfl, by decide +kernel, rfl, by decide +kernel, by decide +kernel⟩
abbrev s_ask_breaking : Stmt := top 115
abbrev n_ask_breaking : List Str := ["subject", "told", "broken", "number", "row"]
theorem sc_ask_breaking : FnScope n_ask_breaking ["subject", "told"] (defScope s_ask_breaking) := ⟨rfl, rfl, rfl, by decide +kernel, rfl, by decide +kernel, by decide +kernel⟩
abbrev s_ask_stand : Stmt := top 116
abbrev n_ask_stand : List Str := ["subject", "told", "ways"]
theorem sc_ask_stand : FnScope n_ask_stand ["subject", "told"] (defScope s_ask_stand) := ⟨rfl, rfl, rfl, by decide +kernel, rfl, by decide +kernel, by decide +kernel⟩
abbrev s_ask_conds : Stmt := top 117
abbrev n_ask_conds : List Str := ["subject", "told", "answered", "counts"]
theorem sc_ask_conds : FnScope n_ask_conds ["subject", "told"] (defScope s_ask_conds) := ⟨rfl, rfl, rfl, by decide +kernel, rfl, by decide +kernel, by decide +kernel⟩
abbrev s_ask_cut : Stmt := top 118
abbrev n_ask_cut : List Str := ["subject", "told", "condition"]
theorem sc_ask_cut : FnScope n_ask_cut ["subject", "told"] (defScope s_ask_cut) := ⟨rfl, rfl, rfl, by decide +kernel, rfl, by decide +kernel, by decide +kernel⟩
abbrev s_ask_slack : Stmt := top 119
abbrev n_ask_slack : List Str := ["subject", "told", "ends"]
theorem sc_ask_slack : FnScope n_ask_slack ["subject", "told"] (defScope s_ask_slack) := ⟨rfl, rfl, rfl, by decide +kernel, rfl, by decide +kernel, by decide +kernel⟩
abbrev s_ask_shrink : Stmt := top 120
abbrev n_ask_shrink : List Str := ["subject", "told", "row"]
theorem sc_ask_shrink : FnScope n_ask_shrink ["subject", "told"] (defScope s_ask_shrink) := ⟨rfl, rfl, rfl, by decide +kernel, rfl, by decide +kernel, by decide +kernel⟩
abbrev s_ask_against : Stmt := top 121
abbrev n_ask_against : List Str := ["subject", "told", "other"]
theorem sc_ask_against : FnScope n_ask_against ["subject", "told"] (defScope s_ask_against) := ⟨rfl, rfl, rfl, by decide +kernel, rfl, by decide +kernel, by decide +kernel⟩
abbrev s_span_told : Stmt := top 125
abbrev n_span_told : List Str := ["calls", "place"]
theorem sc_span_told : FnScope n_span_told ["calls", "place"] (defScope s_span_told) := ⟨rfl, rfl, rfl, by decide +kernel, rfl, by decide +kernel, by decide +kernel⟩
abbrev s_answer : Stmt := top 126
abbrev n_answer : List Str := ["subject", "call", "told"]
theorem sc_answer : FnScope n_answer ["subject", "call", "told"] (defScope s_answer) := ⟨rfl, rfl, rfl, by decide +kernel, rfl, by decide +kernel, by decide +kernel⟩
abbrev s_answers : Stmt := top 127
abbrev n_answers : List Str := ["calls", "subject", "answered", "place", "span"]
theorem sc_answers : FnScope n_answers ["calls"] (defScope s_answers) := ⟨rfl, rfl, rfl, by decide +kernel, rfl, by decide +kernel, by decide +kernel⟩
end Rh

end

-- part RhBase
section
set_option Elab.async false
set_option linter.all false
set_option maxRecDepth 100000
set_option maxHeartbeats 2000000
namespace Rh
open PySem PySem.Spec PyProof.Rows L2

/-- a def that can be called by its name -/
structure Cal (P : Program) (w : World) (K : PySem.W.Frag) (mg : Str → Option Value) (base : Heap) (CX : CXT) (k : Nat) (x : Str) (ps : List Str) (sp : Sp) : Prop where
  ex : ∃ (f : Addr) (fd : FuncData), FnOk P w K mg base CX k f fd ps sp ∧ mg x = some (.ref f) ∧ PySem.W.keepIn K (.ref f) = true ∧ Binds K fd ps []
/-- a def of the text as it stands behind the top -/
def Df (K : PySem.W.Frag) (mg : Str → Option Value) (x : Str) (st : Stmt) : Prop := ∃ (f : Addr) (fd : FuncData), Fun K x x st f fd ∧ mg x = some (.ref f)
section
variable {X : Cx} {CX : CXT} {k : Nat} {ps : List Str} {sp : Sp} {E : XK} {x : Str} {p pos : Pos} {e : Expr} {es : List Expr} {t : TA}
theorem pe_callC (c : Cal X.prog X.w X.K X.mg X.base CX k x ps sp) (hr : Room k X.A) (hg : Gl X x) (hx : Passes CX X E) (ha : PA X (e :: es) t)
    (hdb : (x == ("__debug__" : Str)) = false := by decide) (he : starEach (e :: es) X.env = (false, eval e X.env) :: starEach es X.env := by rfl) (hpl : (backTo pos (starEach es X.env)).any (·.1) = false := by rfl) :
    PE X (.Call (.Name x p) (e :: es) [] pos) (tCall sp [] E t) := by
  obtain ⟨f, fd, F, hm, hk, hb⟩ := c.ex
  exact pe_call F hr hg hm hk hb .nil hx ha hdb he hpl
/-- a whole number of the module -/
theorem pe_gint {i : Int} (hg : Gl X x) (hm : ∃ t, X.mg x = some (.int i t)) (hd : (x == ("__debug__" : Str)) = false := by decide) : PE X (.Name x pos) (tC (.int i)) := by
  obtain ⟨t, hm⟩ := hm
  exact pe_glob hg hm ⟨t, rfl⟩ hd
theorem pe_gref {a : Addr} (hg : Gl X x) (hm : X.mg x = some (.ref a)) (hd : (x == ("__debug__" : Str)) = false := by decide) : PE X (.Name x pos) (tC (.ref a)) := pe_glob hg hm rfl hd
end
section
variable {P : Program} {w : World} {K : PySem.W.Frag} {mg : Str → Option Value} {base : Heap}
/-- THE RULE for a def that raises nothing -/
theorem Df.ok {x : Str} {st : Stmt} {N ps : List Str} {k : Nat} {sp : Sp} (D : Df K mg x st) (S : FnScope N ps (defScope st)) (len : ∀ vs H Q E, sp vs H Q E → vs.length = ps.length)
    (hbd : ∀ (kV doc pm : Value) (an : Option Addr) (cdv ct : Value) (us : List Value), us.length = ps.length → bindArgs (PySem.W.fnOf x x (defArgs st) (defBody st) (defScope st) .none kV doc pm an cdv ct) ⟨us, []⟩ = pure (ps.zip us))
    (hbody : ∀ (f : Addr) (cdv : Value) (A : Around) (outer : List Env) (s : Shared) (H : Hp) (vs : List V) (Q : VK) (E : XK), Room k (A.deeper (envOfC x (defScope st) s.heap.objs.size f cdv)) → sp vs H Q E →
      ∃ t, PSs (cxOf CX0 P w K mg base N x (defScope st) f cdv A outer s H E).nox (defBody st) t ∧ t { nx := fun _ H' => Q .non H', rt := Q } (start N vs) H) : Cal P w K mg base CX0 (k + 1) x ps sp := by
  obtain ⟨f, fd, F, hm⟩ := D
  exact ⟨f, fd, F.ok S len (fun cdv A outer s H vs Q E hr h => hbody f cdv A outer s H vs Q E hr h), hm, F.kp, F.binds hbd⟩
end
theorem bind1 {fd : FuncData} {ps : List Str} (h : ∀ a : Value, bindArgs fd ⟨[a], []⟩ = pure (ps.zip [a])) (hp : ps.length = 1) : ∀ us : List Value, us.length = ps.length → bindArgs fd ⟨us, []⟩ = pure (ps.zip us) := fun us hl => by
  match us, hl.trans hp with
  | [a], _ => exact h a

/-! ### the data -/
/-- a row stands at v -/
def RowAt (H : Hp) (v : V) (ns : List Int) : Prop := ∃ a, v = .ref a ∧ H a = some (.lst (ns.map V.int))
theorem RowAt.same {H H' : Hp} {v : V} {ns : List Int} (s : Same H H') (r : RowAt H v ns) : RowAt H' v ns := let ⟨a, e, h⟩ := r; ⟨a, e, s _ _ h⟩
/-- the classes of the text -/
structure ClsB (K : PySem.W.Frag) (C : Addr) : Prop where
  cl : Cls K C
  n1 : NoAttr K C "length"
  n2 : NoAttr K C "lowest"
  n3 : NoAttr K C "highest"
def fsB (n lo hi : Int) : List (Str × V) := [("length", .int n), ("lowest", .int lo), ("highest", .int hi)]
/-- a bound stands at v -/
def BndAt (C : Addr) (H : Hp) (v : V) (n lo hi : Int) : Prop := ∃ a dx, v = .ref a ∧ H a = some (.ins C dx (fsB n lo hi))
theorem BndAt.same {C : Addr} {H H' : Hp} {v : V} {n lo hi : Int} (s : Same H H') (r : BndAt C H v n lo hi) : BndAt C H' v n lo hi := let ⟨a, dx, e, h⟩ := r; ⟨a, dx, e, s _ _ h⟩
section
variable {P : Program} {w : World} {K : PySem.W.Frag} {mg : Str → Option Value} {base : Heap}
def spChoices (C : Addr) : Sp := fun vs H Q _ => ∃ v n lo hi, vs = [v] ∧ BndAt C H v n lo hi ∧ Q (.int (hi - lo + 1)) H
theorem ok_choices {C : Addr} (D : Df K mg "choices" s_choices) (T : ClsB K C) : Cal P w K mg base CX0 1 "choices" ["bound"] (spChoices C) := by
  refine D.ok (k := 0) sc_choices (fun vs H Q E h => ?_) (fun _ _ _ _ _ _ => bind1 (fun _ => rfl) rfl) fun f cdv A outer s H vs Q E hr h => ?_
  · obtain ⟨v, n, lo, hi, rfl, _⟩ := h; rfl
  · obtain ⟨v, n, lo, hi, rfl, ⟨a, dx, rfl, ha⟩, q⟩ := h
    refine ⟨_, pss_one (ps_ret (pe_op op_add (pe_op op_sub (pe_fld (pv 0) rfl) (pe_fld (pv 0) rfl)) pe_int)), ?_⟩
    refine ⟨_, rfl, a, C, dx, _, _, rfl, ha, T.cl, T.n3, rfl, _, rfl, a, C, dx, _, _, rfl, ha, T.cl, T.n2, rfl, _, _, rfl, rfl, _, _, rfl, rfl, ?_⟩
    exact q
end
end Rh

end

-- part RhMath
section
set_option linter.all false
namespace Rm
open VametBase

/-! ### numbering -/
/-- the sum of the first k powers -/
def tot (w : Nat) : Nat → Nat
  | 0 => 0
  | k + 1 => tot w k + w ^ k
theorem pow_pos {w : Nat} (h : 1 ≤ w) (n : Nat) : 1 ≤ w ^ n := Nat.pos_pow_of_pos' h n
where
  Nat.pos_pow_of_pos' {w : Nat} (h : 1 ≤ w) (n : Nat) : 1 ≤ w ^ n := Nat.pow_pos h
theorem powerOf_eq {w : Nat} (h : 1 ≤ w) : ∀ n, powerOf w n = min 1501 (w ^ n)
  | 0 => by simp [powerOf]
  | n + 1 => by
    have ih := powerOf_eq h n
    have hp := pow_pos h n
    show Nat.min (INPUTS + 1) (w * powerOf w n) = _
    rw [ih, Nat.pow_succ]
    unfold INPUTS
    show min 1501 (w * min 1501 (w ^ n)) = min 1501 (w ^ n * w)
    by_cases hq : w ^ n ≤ 1501
    · rw [Nat.min_eq_right hq, Nat.mul_comm]
    · rw [Nat.min_eq_left (by omega : 1501 ≤ w ^ n)]
      have h1 : 1501 ≤ w * 1501 := Nat.le_mul_of_pos_left _ h
      have h2 : 1501 ≤ w ^ n * w := Nat.le_trans (by omega : 1501 ≤ w ^ n) (Nat.le_mul_of_pos_right _ h)
      rw [Nat.min_eq_left h1, Nat.min_eq_left h2]
theorem countTo_eq {w : Nat} (h : 1 ≤ w) : ∀ n, countTo w n = min 1501 (tot w (n + 1))
  | 0 => by simp [countTo, tot]
  | n + 1 => by
    have ih := countTo_eq h n
    show Nat.min (INPUTS + 1) (countTo w n + powerOf w (n + 1)) = _
    rw [ih, powerOf_eq h]
    show min 1501 (min 1501 (tot w (n + 1)) + min 1501 (w ^ (n + 1))) = min 1501 (tot w (n + 1) + w ^ (n + 1))
    omega
/-- placeFrom with the powers as they are -/
def placeU (w : Nat) : Nat → Nat → Nat → Nat × Nat
  | 0, n, k => (n, k)
  | f + 1, n, k => if k < w ^ n then (n, k) else placeU w f (n + 1) (k - w ^ n)
theorem place_eq {w : Nat} (h : 1 ≤ w) : ∀ f n k, k < 1501 → placeFrom w f n k = placeU w f n k
  | 0, n, k, _ => rfl
  | f + 1, n, k, hk => by
    unfold placeFrom placeU
    rw [powerOf_eq h]
    by_cases q : k < w ^ n
    · rw [if_pos q, if_pos (by omega)]
    · rw [if_neg q, if_neg (by omega), show min 1501 (w ^ n) = w ^ n by omega]
      exact place_eq h f (n + 1) _ (by omega)
/-- f powers from the n-th on -/
def sumF (w : Nat) : Nat → Nat → Nat
  | 0, _ => 0
  | f + 1, n => w ^ n + sumF w f (n + 1)
theorem sumF_snoc (w : Nat) : ∀ f n, sumF w (f + 1) n = sumF w f n + w ^ (n + f)
  | 0, n => by simp [sumF]
  | f + 1, n => by
    have ih := sumF_snoc w f (n + 1)
    show w ^ n + sumF w (f + 1) (n + 1) = w ^ n + sumF w f (n + 1) + w ^ (n + (f + 1))
    rw [ih, show n + 1 + f = n + (f + 1) by omega]
    omega
theorem sumF_tot (w : Nat) : ∀ f, sumF w f 0 = tot w f
  | 0 => rfl
  | f + 1 => by rw [sumF_snoc, sumF_tot w f, Nat.zero_add]; rfl
theorem placeU_stop {w f n k : Nat} (hs : k < sumF w f n) (h : k < w ^ n) : placeU w f n k = (n, k) := by
  cases f with
  | zero => simp [sumF] at hs
  | succ f => unfold placeU; rw [if_pos h]
theorem placeU_go {w f n k : Nat} (hs : k < sumF w f n) (h : ¬ k < w ^ n) : ∃ f', f = f' + 1 ∧ k - w ^ n < sumF w f' (n + 1) ∧ placeU w f n k = placeU w f' (n + 1) (k - w ^ n) := by
  cases f with
  | zero => simp [sumF] at hs
  | succ f =>
    refine ⟨f, rfl, ?_, ?_⟩
    · have : sumF w (f + 1) n = w ^ n + sumF w f (n + 1) := rfl
      omega
    · conv => lhs; unfold placeU
      rw [if_neg h]
theorem digits_step (w n k : Nat) : digits w (n + 1) k = digits w n (k / w) ++ [k % w] := rfl
end Rm

end

-- part RhMath2
section
set_option linter.all false
namespace Rm
open VametBase

/-! ### steps -/
theorem putInt_perm (n : Int) : ∀ l : List Int, (putInt n l).Perm (n :: l)
  | [] => .refl _
  | x :: l => by
    unfold putInt
    split
    · exact .refl _
    · exact ((putInt_perm n l).cons x).trans (.swap n x l)
theorem putInt_mem {n y : Int} {l : List Int} (h : y ∈ putInt n l) : y = n ∨ y ∈ l := by
  have := (putInt_perm n l).mem_iff.mp h
  simpa using this
theorem putInt_sorted (n : Int) : ∀ {l : List Int}, l.Pairwise (· ≤ ·) → (putInt n l).Pairwise (· ≤ ·)
  | [], _ => by simp [putInt]
  | x :: l, h => by
    obtain ⟨h1, h2⟩ := List.pairwise_cons.mp h
    unfold putInt
    split
    · rename_i hlt
      refine List.pairwise_cons.mpr ⟨fun y hy => ?_, h⟩
      rcases List.mem_cons.mp hy with rfl | hy
      · omega
      · have := h1 y hy; omega
    · rename_i hlt
      refine List.pairwise_cons.mpr ⟨fun y hy => ?_, putInt_sorted n h2⟩
      rcases putInt_mem hy with rfl | hy
      · omega
      · exact h1 y hy
theorem sorted_aux : ∀ (l acc : List Int), acc.Pairwise (· ≤ ·) → (l.foldl (fun k x => putInt x k) acc).Perm (l ++ acc) ∧ (l.foldl (fun k x => putInt x k) acc).Pairwise (· ≤ ·)
  | [], acc, h => ⟨.refl _, h⟩
  | x :: l, acc, h => by
    obtain ⟨p, s⟩ := sorted_aux l (putInt x acc) (putInt_sorted x h)
    refine ⟨p.trans ?_, s⟩
    refine ((putInt_perm x acc).append_left l).trans ?_
    exact List.perm_middle
theorem sorted_perm (l : List Int) : (sorted l).Perm l := by
  have := (sorted_aux l [] .nil).1
  rw [List.append_nil] at this
  exact this
theorem sorted_rising (l : List Int) : (sorted l).Pairwise (· ≤ ·) := (sorted_aux l [] .nil).2
theorem pw_unique : ∀ {l m : List Int}, l.Perm m → l.Pairwise (· ≤ ·) → m.Pairwise (· ≤ ·) → l = m
  | [], m, p, _, _ => by rw [List.Perm.nil_eq p]
  | a :: l, [], p, _, _ => by have := p.length_eq; simp at this
  | a :: l, b :: m, p, h1, h2 => by
    obtain ⟨a1, a2⟩ := List.pairwise_cons.mp h1
    obtain ⟨b1, b2⟩ := List.pairwise_cons.mp h2
    have e : a = b := by
      have ha : a ∈ b :: m := p.mem_iff.mp List.mem_cons_self
      have hb : b ∈ a :: l := p.mem_iff.mpr List.mem_cons_self
      rcases List.mem_cons.mp ha with e | ha
      · exact e
      · rcases List.mem_cons.mp hb with e | hb
        · exact e.symm
        · have := a1 b hb; have := b1 a ha; omega
    subst e
    rw [pw_unique (p.cons_inv) a2 b2]
theorem sorted_eq {l m : List Int} (p : m.Perm l) (h : m.Pairwise (· ≤ ·)) : m = sorted l := pw_unique (p.trans (sorted_perm l).symm) h (sorted_rising l)
theorem total_aux : ∀ (l : List Int) (a : Int), l.foldl (fun a b => a + b) a = a + l.sum
  | [], a => by simp
  | x :: l, a => by rw [List.foldl_cons, total_aux l, List.sum_cons]; omega
theorem total_eq (l : List Int) : total l = l.sum := by unfold total; rw [total_aux]; omega
theorem great_aux : ∀ (l : List Int) (x : Int), (l.foldl (fun a b => if a < b then b else a) x ∈ x :: l) ∧ ∀ y ∈ x :: l, y ≤ l.foldl (fun a b => if a < b then b else a) x
  | [], x => ⟨List.mem_cons_self, fun y hy => by simp at hy; subst hy; exact Int.le_refl _⟩
  | z :: l, x => by
    rw [List.foldl_cons]
    obtain ⟨m, h⟩ := great_aux l (if x < z then z else x)
    refine ⟨?_, fun y hy => ?_⟩
    · rcases List.mem_cons.mp m with e | m
      · rw [e]; split <;> simp
      · exact List.mem_cons_of_mem _ (List.mem_cons_of_mem _ m)
    · have h0 := h _ List.mem_cons_self
      generalize List.foldl _ _ l = R at h0 h ⊢
      rcases List.mem_cons.mp hy with rfl | hy
      · split at h0 <;> omega
      · rcases List.mem_cons.mp hy with rfl | hy
        · split at h0 <;> omega
        · exact h y (List.mem_cons_of_mem _ hy)
theorem greatest_eq {l : List Int} {m : Int} (hm : m ∈ l) (h : ∀ y ∈ l, y ≤ m) : greatestOf l = some m := by
  cases l with
  | nil => cases hm
  | cons x l =>
    obtain ⟨a, b⟩ := great_aux l x
    have h1 := h _ a
    have h2 := b _ hm
    show some _ = some m
    congr 1
    omega
theorem least_aux : ∀ (l : List Int) (x : Int), (l.foldl (fun a b => if b < a then b else a) x ∈ x :: l) ∧ ∀ y ∈ x :: l, l.foldl (fun a b => if b < a then b else a) x ≤ y
  | [], x => ⟨List.mem_cons_self, fun y hy => by simp at hy; subst hy; exact Int.le_refl _⟩
  | z :: l, x => by
    rw [List.foldl_cons]
    obtain ⟨m, h⟩ := least_aux l (if z < x then z else x)
    refine ⟨?_, fun y hy => ?_⟩
    · rcases List.mem_cons.mp m with e | m
      · rw [e]; split <;> simp
      · exact List.mem_cons_of_mem _ (List.mem_cons_of_mem _ m)
    · have h0 := h _ List.mem_cons_self
      generalize List.foldl _ _ l = R at h0 h ⊢
      rcases List.mem_cons.mp hy with rfl | hy
      · split at h0 <;> omega
      · rcases List.mem_cons.mp hy with rfl | hy
        · split at h0 <;> omega
        · exact h y (List.mem_cons_of_mem _ hy)
theorem least_eq {l : List Int} {m : Int} (hm : m ∈ l) (h : ∀ y ∈ l, m ≤ y) : leastOf l = some m := by
  cases l with
  | nil => cases hm
  | cons x l =>
    obtain ⟨a, b⟩ := least_aux l x
    have h1 := h _ a
    have h2 := b _ hm
    show some _ = some m
    congr 1
    omega
theorem once_snoc (l : List Int) (x : Int) : onceOnly (l ++ [x]) = if (onceOnly l).contains x then onceOnly l else onceOnly l ++ [x] := by
  unfold onceOnly
  rw [List.foldl_append]
  rfl
theorem running_len : ∀ (l : List Int) (a : Int), (runningFrom a l).length = l.length
  | [], _ => rfl
  | x :: l, a => by show (runningFrom (a + x) l).length + 1 = _; rw [running_len l]; rfl
theorem running_snoc : ∀ (l : List Int) (a x : Int), runningFrom a (l ++ [x]) = runningFrom a l ++ [a + l.sum + x]
  | [], a, x => by simp [runningFrom]
  | y :: l, a, x => by
    show (a + y) :: runningFrom (a + y) (l ++ [x]) = (a + y) :: runningFrom (a + y) l ++ [a + (y :: l).sum + x]
    rw [running_snoc l, List.sum_cons]
    simp
    omega
theorem once_len (l : List Int) : (onceOnly l).length ≤ l.length := by
  have key : ∀ (l acc : List Int), (l.foldl (fun k x => if k.contains x then k else k ++ [x]) acc).length ≤ acc.length + l.length := by
    intro l
    induction l with
    | nil => intro acc; simp
    | cons x l ih =>
      intro acc
      rw [List.foldl_cons]
      have := ih (if acc.contains x then acc else acc ++ [x])
      have h2 : (if acc.contains x then acc else acc ++ [x]).length ≤ acc.length + 1 := by split <;> simp
      simp only [List.length_cons]
      omega
  have := key l []
  rw [List.length_nil, Nat.zero_add] at this
  exact this
theorem once_mem (l : List Int) (y : Int) : y ∈ onceOnly l ↔ y ∈ l := by
  have key : ∀ (l acc : List Int), y ∈ l.foldl (fun k x => if k.contains x then k else k ++ [x]) acc ↔ y ∈ acc ∨ y ∈ l := by
    intro l
    induction l with
    | nil => intro acc; simp
    | cons x l ih =>
      intro acc
      rw [List.foldl_cons, ih]
      by_cases h : acc.contains x = true
      · rw [if_pos h]
        simp only [List.mem_cons]
        constructor
        · rintro (z | z)
          · exact .inl z
          · exact .inr (.inr z)
        · rintro (z | rfl | z)
          · exact .inl z
          · exact .inl (by simpa using h)
          · exact .inr z
      · rw [if_neg h]
        simp only [List.mem_append, List.mem_cons, List.not_mem_nil, or_false]
        constructor
        · rintro ((z | z) | z)
          · exact .inl z
          · exact .inr (.inl z)
          · exact .inr (.inr z)
        · rintro (z | z | z)
          · exact .inl (.inl z)
          · exact .inl (.inr z)
          · exact .inr z
  have := key l []
  simp only [List.not_mem_nil, false_or] at this
  exact this
end Rm
namespace Rm
open VametBase
theorem nodup_len : ∀ {l m : List Int}, l.Nodup → (∀ a ∈ l, a ∈ m) → l.length ≤ m.length
  | [], m, _, _ => Nat.zero_le _
  | a :: l, m, hn, h => by
    obtain ⟨h1, h2⟩ := List.nodup_cons.mp hn
    have ha : a ∈ m := h a List.mem_cons_self
    have hs : ∀ b ∈ l, b ∈ m.erase a := fun b hb => by
      have hb' := h b (List.mem_cons_of_mem _ hb)
      have hne : b ≠ a := fun z => h1 (z ▸ hb)
      exact (List.mem_erase_of_ne hne).mpr hb'
    have ih := nodup_len h2 hs
    have e := List.length_erase_of_mem ha
    have hp : 0 < m.length := List.length_pos_of_mem ha
    simp only [List.length_cons]
    omega
theorem once_nodup (l : List Int) : (onceOnly l).Nodup := by
  have key : ∀ (l acc : List Int), acc.Nodup → (l.foldl (fun k x => if k.contains x then k else k ++ [x]) acc).Nodup := by
    intro l
    induction l with
    | nil => intro acc h; exact h
    | cons x l ih =>
      intro acc h
      rw [List.foldl_cons]
      refine ih _ ?_
      by_cases hc : acc.contains x = true
      · rw [if_pos hc]; exact h
      · rw [if_neg hc]
        refine List.nodup_append.mpr ⟨h, by simp, fun a ha b hb => ?_⟩
        simp at hb
        subst hb
        intro z
        subst z
        exact hc (by simpa using ha)
  exact key l [] List.nodup_nil
theorem same_sets {l m : List Int} (hl : (onceOnly l).length = (onceOnly m).length) (h : ∀ a ∈ l, a ∈ m) : ∀ b ∈ m, b ∈ l := fun b hb => by
  refine Classical.byContradiction fun hn => ?_
  have hb' : b ∈ onceOnly m := (once_mem m b).mpr hb
  have hs : ∀ a ∈ onceOnly l, a ∈ (onceOnly m).erase b := fun a ha => by
    have ha' := (once_mem l a).mp ha
    exact (List.mem_erase_of_ne (show a ≠ b from fun z => hn (by rw [← z]; exact ha'))).mpr ((once_mem m a).mpr (h a ha'))
  have h1 := nodup_len (once_nodup l) hs
  have h2 := List.length_erase_of_mem hb'
  have h3 : 0 < (onceOnly m).length := List.length_pos_of_mem hb'
  omega
theorem sets_len {l m : List Int} (h1 : ∀ a ∈ l, a ∈ m) (h2 : ∀ a ∈ m, a ∈ l) : (onceOnly l).length = (onceOnly m).length :=
  Nat.le_antisymm (nodup_len (once_nodup l) fun a ha => (once_mem m a).mpr (h1 a ((once_mem l a).mp ha))) (nodup_len (once_nodup m) fun a ha => (once_mem l a).mpr (h2 a ((once_mem m a).mp ha)))
end Rm

end

-- part RhNum
section
set_option Elab.async false
set_option linter.all false
set_option maxRecDepth 100000
set_option maxHeartbeats 2000000
namespace Rh
open PySem PySem.Spec PyProof.Rows L2
/-- a bound of the specification stands at v -/
structure Bnd (C : Addr) (H : Hp) (v : V) (b : VametBase.Bound) : Prop where
  at_ : BndAt C H v (b.long : Int) b.lo b.hi
  le : b.lo ≤ b.hi
  l8 : b.long ≤ 8
  lo : -99 ≤ b.lo
  hi : b.hi ≤ 99
theorem Bnd.same {C : Addr} {H H' : Hp} {v : V} {b : VametBase.Bound} (s : Same H H') (r : Bnd C H v b) : Bnd C H' v b := ⟨r.at_.same s, r.le, r.l8, r.lo, r.hi⟩
theorem Bnd.w {C : Addr} {H : Hp} {v : V} {b : VametBase.Bound} (r : Bnd C H v b) : b.hi - b.lo + 1 = (VametBase.width b : Int) ∧ 1 ≤ VametBase.width b ∧ VametBase.width b ≤ 199 := by
  have := r.le; have := r.lo; have := r.hi
  unfold VametBase.width
  omega
section
variable {P : Program} {w : World} {K : PySem.W.Frag} {mg : Str → Option Value} {base : Heap} {C : Addr}
def spMany (C : Addr) : Sp := fun vs H Q _ => ∃ v b, vs = [v] ∧ Bnd C H v b ∧ Q (.int (Rm.tot (VametBase.width b) (b.long + 1) : Nat)) H
theorem ok_how_many (D : Df K mg "how_many" s_how_many) (T : ClsB K C) (hrng : mg "range" = none) (cc : Cal P w K mg base CX0 1 "choices" ["bound"] (spChoices C)) : Cal P w K mg base CX0 2 "how_many" ["bound"] (spMany C) := by
  refine D.ok (k := 1) sc_how_many (fun vs H Q E h => ?_) (fun _ _ _ _ _ _ => bind1 (fun _ => rfl) rfl) fun f cdv A outer s H vs Q E hr h => ?_
  · obtain ⟨v, b, rfl, _⟩ := h; rfl
  · obtain ⟨v, b, rfl, B, q⟩ := h
    obtain ⟨a, dx, rfl, ha⟩ := id B.at_
    obtain ⟨hw, hw1, hw2⟩ := B.w
    have l8 := B.l8
    refine ⟨_, pss_cons (ps_set (i := 1) sc_how_many.nd rfl (Or.inl rfl) pe_int) (pss_cons (ps_set (i := 2) sc_how_many.nd rfl (Or.inl rfl) pe_int)
      (pss_cons (ps_for PassesOwn.never rfl (pi_range1 rfl hrng (pa_cons (pe_op op_add (pe_fld (pv 0) rfl) pe_int) pa_nil)) (pg_name (i := 3) sc_how_many.nd rfl (Or.inl rfl))
        (pss_cons (ps_aug (i := 1) sc_how_many.nd rfl (Or.inl rfl) (pv 2) ip_add) (pss_one (ps_aug (i := 2) sc_how_many.nd rfl (Or.inl rfl) (pe_callC cc hr rfl pass0 (pa_cons (pv 0) pa_nil)) iop_mul))))
      (pss_one (ps_ret (pv 1))))), ?_⟩
    refine ⟨_, rfl, a, C, dx, _, _, rfl, ha, T.cl, T.n1, rfl, _, _, rfl, rfl, _, rfl, by omega, by omega, ?_⟩
    refine for_range (n := b.long + 1) (fun i σ H' => ∃ v3 : Option V, H = H' ∧ σ = [some (.ref a), some (.int (Rm.tot (VametBase.width b) i : Nat)), some (.int ((VametBase.width b) ^ i : Nat)), v3]) ⟨none, rfl, rfl⟩ ?_ ?_
    · rintro i σ H' hi ⟨v3, rfl, rfl⟩
      refine ⟨_, rfl, _, rfl, _, _, rfl, rfl, _, rfl, _, rfl, _, _, _, _, rfl, ⟨a, dx, rfl, ha⟩, _, _, rfl, rfl, .inr ⟨by omega, by omega⟩, ?_⟩
      refine ⟨some (.int (0 + i)), rfl, ?_⟩
      show [some (V.ref a), some (V.int _), some (V.int _), some (V.int _)] = [some (V.ref a), some (V.int _), some (V.int _), some (V.int _)]
      rw [hw, Nat.pow_succ, show Rm.tot (VametBase.width b) (i + 1) = Rm.tot (VametBase.width b) i + VametBase.width b ^ i from rfl]
      push_cast
      rfl
    · rintro σ H' ⟨v3, rfl, rfl⟩
      exact ⟨_, rfl, q⟩
/-- the program's answer and the specification's one -/
theorem count_of {b : VametBase.Bound} (h : 1 ≤ VametBase.width b) : VametBase.inputCount b = min 1501 (Rm.tot (VametBase.width b) (b.long + 1)) := Rm.countTo_eq h b.long
def spNumbered (C : Addr) : Sp := fun vs H Q _ => ∃ v b, ∃ k : Nat, vs = [v, .int k] ∧ Bnd C H v b ∧ k < VametBase.inputCount b ∧ k < 1501 ∧ ∀ H' p, Same H H' → H p = none → H' p = some (.lst ((VametBase.inputAt b k).map V.int)) → Q (.ref p) H'
theorem row_new {H : Hp} {p : Addr} {xs : List V} {ns : List Int} (e : xs = ns.map V.int) : RowAt (upd H p (.lst xs)) (.ref p) ns := ⟨p, rfl, by rw [upd_same, e]⟩
theorem same_new {H : Hp} {p : Addr} {o : HO} (h : H p = none) : Same H (upd H p o) := fun b o' e => by rw [upd_ne (ne_of_none e h)]; exact e
theorem same_put {H H' : Hp} {p : Addr} {o : HO} (s : Same H H') (h : H p = none) : Same H (upd H' p o) := fun b o' e => by rw [upd_ne (ne_of_none e h)]; exact s _ _ e

theorem bind2 {fd : FuncData} {ps : List Str} (h : ∀ a b : Value, bindArgs fd ⟨[a, b], []⟩ = pure (ps.zip [a, b])) (hp : ps.length = 2) : ∀ us : List Value, us.length = ps.length → bindArgs fd ⟨us, []⟩ = pure (ps.zip us) := fun us hl => by
  match us, hl.trans hp with
  | [a, b], _ => exact h a b
theorem ok_numbered (D : Df K mg "numbered" s_numbered) (T : ClsB K C) (hrng : mg "range" = none) (hlst : mg "list" = none) (hrev : mg "reversed" = none) (cc : Cal P w K mg base CX0 1 "choices" ["bound"] (spChoices C)) :
    Cal P w K mg base CX0 2 "numbered" ["bound", "number"] (spNumbered C) := by
  refine D.ok (k := 1) sc_numbered (fun vs H Q E h => ?_) (fun _ _ _ _ _ _ => bind2 (fun _ _ => rfl) rfl) fun f cdv A outer s H vs Q E hr h => ?_
  · obtain ⟨v, b, k, rfl, _⟩ := h; rfl
  · obtain ⟨v, b, k0, rfl, B, hk, hk15, q⟩ := h
    obtain ⟨a, dx, rfl, ha⟩ := id B.at_
    obtain ⟨hw, hw1, hw2⟩ := B.w
    have l8 := B.l8
    generalize hW : VametBase.width b = W at hw hw1 hw2
    have hat : ∀ L k, Rm.placeU W (b.long + 1) 0 k0 = (L, k) → VametBase.inputAt b k0 = (VametBase.digits W L k).map fun (d : Nat) => b.lo + (d : Int) := fun L k e => by
      unfold VametBase.inputAt
      rw [hW, Rm.place_eq hw1 _ _ _ hk15, e]
      rfl
    have hs0 : k0 < Rm.sumF W (b.long + 1) 0 := by
      rw [Rm.sumF_tot]
      rw [count_of (by rw [hW]; exact hw1), hW] at hk
      omega
    refine ⟨_, pss_cons (ps_set (i := 2) sc_numbered.nd rfl (Or.inl rfl) pe_int) (pss_cons (ps_set (i := 3) sc_numbered.nd rfl (Or.inl rfl) pe_int)
      (pss_cons (ps_while PassesOwn.never (pt_cmpR op_ge (pv 1) (pv 3) (nomark _))
        (pss_cons (ps_aug (i := 1) sc_numbered.nd rfl (Or.inl rfl) (pv 3) ip_sub) (pss_cons (ps_aug (i := 3) sc_numbered.nd rfl (Or.inl rfl) (pe_callC cc hr rfl pass0 (pa_cons (pv 0) pa_nil)) iop_mul)
          (pss_one (ps_aug (i := 2) sc_numbered.nd rfl (Or.inl rfl) pe_int ip_add)))))
      (pss_cons (ps_set (i := 4) sc_numbered.nd rfl (Or.inl rfl) (pe_lst pa_nil))
      (pss_cons (ps_for PassesOwn.never rfl (pi_range1 rfl hrng (pa_cons (pv 2) pa_nil)) (pg_name (i := 5) sc_numbered.nd rfl (Or.inl rfl))
        (pss_cons (ps_expr (pe_bm PySem.F.plainAttrs_list PySem.F.slot_list_append PySem.F.type_list_append mt_append (pv 4) (pa_cons (pe_op op_add (pe_fld (pv 0) rfl) (pe_op op_mod (pv 1) (pe_callC cc hr rfl pass0 (pa_cons (pv 0) pa_nil)))) pa_nil)))
          (pss_one (ps_aug (i := 1) sc_numbered.nd rfl (Or.inl rfl) (pe_callC cc hr rfl pass0 (pa_cons (pv 0) pa_nil)) iop_fdiv))))
      (pss_one (ps_ret (pe_listrev rfl rfl hlst rfl hrev (pv 4)))))))), ?_⟩
    -- the while
    refine while_by (fun σ H' => ∃ f L k : Nat, H = H' ∧ σ = [some (.ref a), some (.int (k : Int)), some (.int (L : Int)), some (.int (W ^ L : Nat)), none, none] ∧ k < Rm.sumF W f L ∧ Rm.placeU W (b.long + 1) 0 k0 = Rm.placeU W f L k ∧ L + f = b.long + 1)
      (fun (σ : L2.St) _ => match σ[1]? with | some (some (V.int i)) => i.toNat | _ => 0) ⟨b.long + 1, 0, k0, rfl, rfl, hs0, rfl, by omega⟩ ?_ ?_
    · rintro σ H' ⟨f, L, k, rfl, rfl, hs, hp, hL⟩
      have hpos := Rm.pow_pos hw1 L
      refine ⟨_, rfl, _, rfl, _, _, rfl, rfl, _, rfl, ?_⟩
      refine ite2 (fun hc => ?_) fun hc => ?_
      · have hc : ((W ^ L : Nat) : Int) ≤ (k : Int) := of_decide_eq_true hc
        have hc' : ¬ k < W ^ L := by omega
        obtain ⟨f', rfl, h1, h2⟩ := Rm.placeU_go hs hc'
        refine ⟨_, rfl, _, rfl, _, _, rfl, rfl, _, rfl, _, rfl, _, _, _, _, rfl, ⟨a, dx, rfl, ha⟩, _, _, rfl, rfl, .inr ⟨by omega, by omega⟩, _, rfl, _, _, rfl, rfl, ?_⟩
        refine ⟨⟨f', L + 1, k - W ^ L, rfl, ?_, h1, hp.trans h2, by omega⟩, ?_⟩
        · show [some (V.ref a), some (V.int _), some (V.int _), some (V.int _), none, none] = [some (V.ref a), some (V.int _), some (V.int _), some (V.int _), none, none]
          rw [hw, Nat.pow_succ]
          have : ((k - W ^ L : Nat) : Int) = (k : Int) - ((W ^ L : Nat) : Int) := by omega
          rw [this]
          push_cast
          rfl
        · show ((k : Int) - ((W ^ L : Nat) : Int)).toNat < (k : Int).toNat
          omega
      · have hc : ¬ ((W ^ L : Nat) : Int) ≤ (k : Int) := fun z => hc (decide_eq_true z)
        have hst := hp.trans (Rm.placeU_stop hs (by omega))
        have hin := hat L k hst
        refine ⟨Nat.zero_le _, fun q0 hq0 => ?_⟩
        refine ⟨_, rfl, _, rfl, by omega, by omega, ?_⟩
        refine for_range (n := L) (fun i σ H' => ∃ (v5 : Option V) (ki : Nat) (bk : List Int), Same H H' ∧ H' q0 = some (.lst (bk.map V.int)) ∧ bk.length = i ∧
            σ = [some (.ref a), some (.int (ki : Int)), some (.int (L : Int)), some (.int (W ^ L : Nat)), some (.ref q0), v5] ∧
            ((VametBase.digits W L k).map fun (d : Nat) => b.lo + (d : Int)) = ((VametBase.digits W (L - i) ki).map fun (d : Nat) => b.lo + (d : Int)) ++ bk.reverse)
          ⟨none, k, [], same_new hq0, upd_same, rfl, rfl, by simp⟩ ?_ ?_
        · rintro i σ H2 hi ⟨v5, ki, bk, sm, hb, hl, rfl, hd⟩
          have hL' : L - i = (L - (i + 1)) + 1 := by omega
          refine ⟨_, rfl, .inl ⟨rfl, _, SqL.of hb⟩, _, rfl, a, C, dx, _, _, rfl, sm _ _ ha, T.cl, T.n2, rfl, _, rfl, _, rfl, _, _, _, _, rfl, ⟨a, dx, rfl, sm _ _ ha⟩, _, _, rfl, rfl, (by show (0 : Int) < b.hi - b.lo + 1; omega), _, _, rfl, rfl, q0, _, _, rfl, rfl, hb, (by rw [List.length_map, hl]; exact small1000 (by omega)), ?_⟩
          have ha2 : (upd H2 q0 (.lst (bk.map V.int ++ [V.int (b.lo + (ki : Int) % (b.hi - b.lo + 1))]))) a = some (.ins C dx (fsB (b.long : Int) b.lo b.hi)) := by
            rw [upd_ne (ne_of_none ha hq0)]
            exact sm _ _ ha
          refine ⟨_, rfl, _, rfl, _, _, _, _, rfl, ⟨a, dx, rfl, ha2⟩, _, _, rfl, rfl, ⟨by omega, by omega⟩, ?_⟩
          refine ⟨some (.int (0 + i)), ki / W, bk ++ [b.lo + ((ki % W : Nat) : Int)], same_put sm hq0, ?_, by simp [hl], ?_, ?_⟩
          · rw [upd_same, List.map_append, hw]
            push_cast
            rfl
          · rw [hw]
            push_cast
            rfl
          · rw [hd, hL', Rm.digits_step]
            simp
        · rintro σ H2 ⟨v5, ki, bk, sm, hb, hl, rfl, hd⟩
          refine ⟨_, rfl, q0, _, rfl, SqL.of hb, fun l hl2 => ?_⟩
          refine q _ _ (same_put sm (sm.free hl2)) (sm.free hl2) ?_
          rw [upd_same, hin, hd]
          simp [VametBase.digits]
    · intro σ H Q Q' hQ hc
      obtain ⟨x, hx, y, hy, i, j, rfl, rfl, c, hc, z⟩ := hc
      exact ⟨_, hx, _, hy, i, j, rfl, rfl, c, hc, hQ _ _ z⟩
end
end Rh

end

-- part RhNum2
section
set_option Elab.async false
set_option linter.all false
set_option maxRecDepth 100000
set_option maxHeartbeats 2000000
namespace Rh
open PySem PySem.Spec PyProof.Rows L2
/-- a list of rows stands at v -/
def RowsAt (H : Hp) (v : V) (rs : List (List Int)) : Prop := ∃ a vs, v = .ref a ∧ H a = some (.lst vs) ∧ Paired (RowAt H) vs rs
theorem paired_mono {α β : Type} {F G : α → β → Prop} (f : ∀ a b, F a b → G a b) {l : List α} {m : List β} (r : Paired F l m) : Paired G l m := Paired.imp' f r
theorem paired_snoc {α β : Type} {F : α → β → Prop} : ∀ {l : List α} {m : List β} {a : α} {b : β}, Paired F l m → F a b → Paired F (l ++ [a]) (m ++ [b])
  | _, _, _, _, .nil, r => .cons r .nil
  | _, _, _, _, .cons q t, r => .cons q (paired_snoc t r)
theorem RowsAt.same {H H' : Hp} {v : V} {rs : List (List Int)} (s : Same H H') (r : RowsAt H v rs) : RowsAt H' v rs := let ⟨a, vs, e, h, p⟩ := r; ⟨a, vs, e, s _ _ h, paired_mono (fun _ _ q => q.same s) p⟩
section
variable {P : Program} {w : World} {K : PySem.W.Frag} {mg : Str → Option Value} {base : Heap} {C : Addr}
def spInputs (C : Addr) : Sp := fun vs H Q _ => ∃ v b, vs = [v] ∧ Bnd C H v b ∧ VametBase.inputCount b ≤ 1500 ∧ ∀ H' v', Same H H' → RowsAt H' v' (Vametb.inputs b) → Q v' H'
theorem ok_all_inputs (D : Df K mg "all_inputs" s_all_inputs) (hrng : mg "range" = none) (cm : Cal P w K mg base CX0 2 "how_many" ["bound"] (spMany C)) (cn : Cal P w K mg base CX0 2 "numbered" ["bound", "number"] (spNumbered C)) :
    Cal P w K mg base CX0 3 "all_inputs" ["bound"] (spInputs C) := by
  refine D.ok (k := 2) sc_all_inputs (fun vs H Q E h => ?_) (fun _ _ _ _ _ _ => bind1 (fun _ => rfl) rfl) fun f cdv A outer s H vs Q E hr h => ?_
  · obtain ⟨v, b, rfl, _⟩ := h; rfl
  · obtain ⟨v, b, rfl, B, hc, q⟩ := h
    obtain ⟨hw, hw1, hw2⟩ := B.w
    refine ⟨_, pss_one (ps_ret (pe_lc (own := [("number", 1)]) (g := gName 1) rfl sc_all_inputs.nd (pi_range1 rfl hrng (pa_cons (pe_callC cm hr rfl pass0 (pa_cons (pv 0) pa_nil)) pa_nil))
      (blkOk_by (own := [("number", 1)]) (N := n_all_inputs) (sc := defScope s_all_inputs) (by decide +kernel)) (fun _ _ _ _ _ => pg_name (i := 1) sc_all_inputs.nd rfl (Or.inl rfl)) (fun _ _ _ _ _ => pts_nil)
      (fun _ _ _ _ _ => pe_callC cn hr rfl pass0 (pa_cons (pv 0) (pa_cons (pv 1) pa_nil))))), ?_⟩
    have hn : VametBase.inputCount b = Rm.tot (VametBase.width b) (b.long + 1) := by
      have := count_of hw1
      omega
    generalize hN : VametBase.inputCount b = n at hc hn
    refine ⟨_, rfl, v, b, rfl, B, _, rfl, by omega, by omega, fun D0 hD => ?_⟩
    rw [← hn, Int.toNat_natCast]
    refine lc_range (lo := 0) (n := n) (fun i H' => ∃ vs, Same H H' ∧ H' D0 = some (.lst vs) ∧ Paired (fun x ns => RowAt H' x ns ∧ x ≠ .ref D0) vs ((List.range i).map (VametBase.inputAt b))) ⟨[], same_new hD, upd_same, .nil⟩ ?_ ?_
    · rintro i H' hi ⟨vs, sm, hv, pr⟩
      refine ⟨rfl, _, rfl, _, rfl, v, b, i, ?_, B.same sm, by omega, by omega, fun H2 p s2 hp r2 => ?_⟩
      · simp
      · have hl : vs.length = i := by have := Paired.length pr; simpa using this
        have hpD : p ≠ D0 := fun z => by rw [z, hv] at hp; cases hp
        refine ⟨vs, s2 _ _ hv, by rw [hl]; exact Nat.lt_of_lt_of_le (by omega : i < 1501) (by decide), vs ++ [.ref p], same_put (sm.trans s2) hD, upd_same, ?_⟩
        rw [List.range_succ, List.map_append]
        refine paired_snoc (paired_mono (fun x ns ⟨⟨y, e, hy⟩, ne⟩ => ⟨⟨y, e, ?_⟩, ne⟩) pr) ⟨⟨p, rfl, by rw [upd_ne hpD]; exact r2⟩, fun z => hpD (by cases z; rfl)⟩
        rw [upd_ne (fun z => ne (by rw [e, z]))]
        exact s2 _ _ hy
    · rintro H' ⟨vs, sm, hv, pr⟩
      refine q _ _ sm ⟨D0, vs, rfl, hv, ?_⟩
      unfold Vametb.inputs
      rw [hN]
      exact paired_mono (fun _ _ z => z.1) pr
end
end Rh

end

-- part RhSteps
section
set_option Elab.async false
set_option linter.all false
set_option maxRecDepth 100000
set_option maxHeartbeats 2000000
namespace Rh
open PySem PySem.Spec PyProof.Rows L2
theorem take_snoc {α : Type} : ∀ {l : List α} {i : Nat} {x : α}, l[i]? = some x → l.take (i + 1) = l.take i ++ [x]
  | [], i, x, h => by simp at h
  | a :: l, 0, x, h => by cases h; rfl
  | a :: l, i + 1, x, h => by
    have ih := take_snoc (l := l) (i := i) (x := x) h
    show a :: l.take (i + 1) = a :: l.take i ++ [x]
    rw [ih]
    rfl
theorem int_at {ns : List Int} {i : Nat} {y : V} (h : (ns.map V.int)[i]? = some y) : ∃ z, ns[i]? = some z ∧ y = V.int z := by
  rw [List.getElem?_map] at h
  cases e : ns[i]? with
  | none => rw [e] at h; cases h
  | some z => rw [e] at h; exact ⟨z, rfl, (Option.some.inj h).symm⟩
theorem short_line {n : Nat} (h : n ≤ 3000) : n < sizeLine := Nat.lt_of_le_of_lt h (by decide)
theorem ne_of_same {H H' : Hp} {a p : Addr} {o : HO} (s : Same H H') (h : H a = some o) (hp : H' p = none) : a ≠ p := ne_of_none (s _ _ h) hp
/-- [g(x) for x in row] -/
theorem lc_ints {K : PySem.W.Frag} {a D0 : Addr} {ns : List Int} {g : Int → Int} {te : TE} {i0 : Nat} {vs : List Nat} {σ : L2.St} {H : Hp} {Qd : Hp → Prop} (ha : H a = some (.lst (ns.map V.int))) (hD : H D0 = none) (hlen : ns.length ≤ 3000)
    (hw : ∀ x, wipe ((wipe σ vs).set i0 (some x)) vs = wipe σ vs) (ht : ∀ (x : Int) (H' : Hp) (R : VK), x ∈ ns → R (.int (g x)) H' → te ((wipe σ vs).set i0 (some (.int x))) H' R) (hq : ∀ H', Same H H' → H' D0 = some (.lst ((ns.map g).map V.int)) → Qd H') :
    ∃ W : Nat → Nat → Hp → Prop, (∃ m, W 0 m (upd H D0 (.lst []))) ∧ ∀ i m H, W i m H →
      ((Itl K a).stop i H ∧ Qd H) ∨ ((Itl K a).go i H ∧ ∃ Nx : Hp → Prop, (∀ H', Nx H' → ∃ m', m' < m ∧ W (i + 1) m' H') ∧ ∀ x H', (Itl K a).yld i H x H' → gName i0 x (wipe σ vs) H' fun σ2 H2 => wipe σ2 vs = wipe σ vs ∧ tYes σ2 H2 fun b H3 =>
        if b = true then te σ2 H3 fun y H4 => ∃ acc, H4 D0 = some (.lst acc) ∧ acc.length < sizeLine ∧ Nx (upd H4 D0 (.lst (acc ++ [y]))) else Nx H3) := by
  refine lc_list (K := K) (a := a) (xs := ns.map V.int) (fun i H' => Same H H' ∧ H' D0 = some (.lst (((ns.take i).map g).map V.int))) ⟨same_new hD, upd_same⟩ (fun i H' _ p => SqL.of (p.1 _ _ ha)) ?_ fun H' p => ?_
  · rintro i y H' hi ⟨sm, hv⟩
    obtain ⟨z, hz, rfl⟩ := int_at hi
    refine ⟨hw _, ?_⟩
    unfold tYes
    dsimp only
    rw [if_pos rfl]
    refine ht z H' _ (List.mem_of_getElem? hz) ⟨_, hv, ?_, same_put sm hD, ?_⟩
    · simp only [List.length_map, List.length_take]
      exact short_line (by omega)
    · rw [upd_same, take_snoc hz]
      simp
  · obtain ⟨sm, hv⟩ := p
    rw [List.length_map, List.take_length] at hv
    exact hq H' sm hv
/-- [x for x in row if p(x)] -/
theorem lc_intsIf {K : PySem.W.Frag} {a D0 : Addr} {ns : List Int} {p : Int → Bool} {te : TE} {tt : TT} {i0 : Nat} {vs : List Nat} {σ : L2.St} {H : Hp} {Qd : Hp → Prop} (ha : H a = some (.lst (ns.map V.int))) (hD : H D0 = none) (hlen : ns.length ≤ 3000)
    (hw : ∀ x, wipe ((wipe σ vs).set i0 (some x)) vs = wipe σ vs) (htt : ∀ (x : Int) (H' : Hp) (R : Bool → Hp → Prop), R (p x) H' → tt ((wipe σ vs).set i0 (some (.int x))) H' R)
    (ht : ∀ (x : Int) (H' : Hp) (R : VK), R (.int x) H' → te ((wipe σ vs).set i0 (some (.int x))) H' R) (hq : ∀ H', Same H H' → H' D0 = some (.lst ((ns.filter p).map V.int)) → Qd H') :
    ∃ W : Nat → Nat → Hp → Prop, (∃ m, W 0 m (upd H D0 (.lst []))) ∧ ∀ i m H, W i m H →
      ((Itl K a).stop i H ∧ Qd H) ∨ ((Itl K a).go i H ∧ ∃ Nx : Hp → Prop, (∀ H', Nx H' → ∃ m', m' < m ∧ W (i + 1) m' H') ∧ ∀ x H', (Itl K a).yld i H x H' → gName i0 x (wipe σ vs) H' fun σ2 H2 => wipe σ2 vs = wipe σ vs ∧ tt σ2 H2 fun b H3 =>
        if b = true then te σ2 H3 fun y H4 => ∃ acc, H4 D0 = some (.lst acc) ∧ acc.length < sizeLine ∧ Nx (upd H4 D0 (.lst (acc ++ [y]))) else Nx H3) := by
  refine lc_list (K := K) (a := a) (xs := ns.map V.int) (fun i H' => Same H H' ∧ H' D0 = some (.lst (((ns.take i).filter p).map V.int))) ⟨same_new hD, upd_same⟩ (fun i H' _ p => SqL.of (p.1 _ _ ha)) ?_ fun H' p => ?_
  · rintro i y H' hi ⟨sm, hv⟩
    obtain ⟨z, hz, rfl⟩ := int_at hi
    refine ⟨hw _, htt z H' _ ?_⟩
    cases hp : p z with
    | true =>
      refine iteT (ht z H' _ ⟨_, hv, ?_, same_put sm hD, ?_⟩)
      · rw [List.length_map]
        have h1 := List.length_filter_le p (ns.take i)
        rw [List.length_take] at h1
        exact short_line (by omega)
      · rw [upd_same, take_snoc hz, List.filter_append, List.map_append]
        simp [hp]
    | false =>
      refine iteF ⟨sm, ?_⟩
      rw [hv, take_snoc hz, List.filter_append]
      simp [hp]
  · obtain ⟨sm, hv⟩ := p
    rw [List.length_map, List.take_length] at hv
    exact hq H' sm hv
/-- a def of a row that gives a new row -/
def spR (f : List Int → List Int) : Sp := fun vs H Q _ => ∃ a ns, vs = [.ref a] ∧ H a = some (.lst (ns.map V.int)) ∧ ns.length ≤ 40 ∧ ∀ H' p, Same H H' → H p = none → H' p = some (.lst ((f ns).map V.int)) → Q (.ref p) H'
/-- a def of a row and a number (for which C holds) that gives a new row -/
def spRN (C : Int → Prop) (f : Int → List Int → List Int) : Sp := fun vs H Q _ => ∃ a ns c, vs = [.ref a, .int c] ∧ H a = some (.lst (ns.map V.int)) ∧ ns.length ≤ 40 ∧ C c ∧ ∀ H' p, Same H H' → H p = none → H' p = some (.lst ((f c ns).map V.int)) → Q (.ref p) H'
section
variable {P : Program} {w : World} {K : PySem.W.Frag} {mg : Str → Option Value} {base : Heap}
theorem spR_len {f : List Int → List Int} : ∀ vs H Q E, spR f vs H Q E → vs.length = (["row"] : List Str).length := fun vs H Q E h => by obtain ⟨a, ns, rfl, _⟩ := h; rfl
theorem spRN_len {C : Int → Prop} {f : Int → List Int → List Int} {n : Str} : ∀ vs H Q E, spRN C f vs H Q E → vs.length = (["row", n] : List Str).length := fun vs H Q E h => by obtain ⟨a, ns, c, rfl, _⟩ := h; rfl
def within99 (c : Int) : Prop := -99 ≤ c ∧ c ≤ 99
theorem ok_add (D : Df K mg "add" s_add) : Cal P w K mg base CX0 1 "add" ["row", "c"] (spRN within99 fun c l => l.map fun x => x + c) := by
  refine D.ok (k := 0) sc_add spRN_len (fun _ _ _ _ _ _ => bind2 (fun _ _ => rfl) rfl) fun f cdv A outer s H vs Q E hr h => ?_
  obtain ⟨a, ns, c, rfl, ha, hl, hc, q⟩ := h
  refine ⟨_, pss_one (ps_ret (pe_lc (own := [("value", 2)]) (g := gName 2) rfl sc_add.nd (pi_list (pv 0)) (blkOk_by (own := [("value", 2)]) (N := n_add) (sc := defScope s_add) (by decide +kernel)) (fun _ _ _ _ _ => pg_name (i := 2) sc_add.nd rfl (Or.inl rfl)) (fun _ _ _ _ _ => pts_nil)
    (fun _ _ _ _ _ => pe_op op_add (pv 2) (pv 1)))), ?_⟩
  refine ⟨_, rfl, a, rfl, ⟨_, SqL.of ha⟩, fun D0 hD => lc_ints (g := fun x => x + c) ha hD (by omega) (fun _ => rfl) (fun x H' R _ r => ⟨_, rfl, _, rfl, _, _, rfl, rfl, r⟩) fun H' sm hv => q _ _ sm hD hv⟩
theorem ok_times (D : Df K mg "times" s_times) : Cal P w K mg base CX0 1 "times" ["row", "c"] (spRN within99 fun c l => l.map fun x => x * c) := by
  refine D.ok (k := 0) sc_times spRN_len (fun _ _ _ _ _ _ => bind2 (fun _ _ => rfl) rfl) fun f cdv A outer s H vs Q E hr h => ?_
  obtain ⟨a, ns, c, rfl, ha, hl, hc, q⟩ := h
  refine ⟨_, pss_one (ps_ret (pe_lc (own := [("value", 2)]) (g := gName 2) rfl sc_times.nd (pi_list (pv 0)) (blkOk_by (own := [("value", 2)]) (N := n_times) (sc := defScope s_times) (by decide +kernel)) (fun _ _ _ _ _ => pg_name (i := 2) sc_times.nd rfl (Or.inl rfl)) (fun _ _ _ _ _ => pts_nil)
    (fun _ _ _ _ _ => pe_op op_mul (pv 2) (pv 1)))), ?_⟩
  refine ⟨_, rfl, a, rfl, ⟨_, SqL.of ha⟩, fun D0 hD => lc_ints (g := fun x => x * c) ha hD (by omega) (fun _ => rfl) (fun x H' R _ r => ⟨_, rfl, _, rfl, _, _, rfl, rfl, .inr ⟨by have := hc.1; omega, by have := hc.2; omega⟩, r⟩) fun H' sm hv => q _ _ sm hD hv⟩
theorem ok_rest (D : Df K mg "rest" s_rest) : Cal P w K mg base CX0 1 "rest" ["row", "m"] (spRN (fun m => 1 ≤ m ∧ m ≤ 9) fun m l => l.map (VametBase.restOf m.toNat)) := by
  refine D.ok (k := 0) sc_rest spRN_len (fun _ _ _ _ _ _ => bind2 (fun _ _ => rfl) rfl) fun f cdv A outer s H vs Q E hr h => ?_
  obtain ⟨a, ns, c, rfl, ha, hl, hc, q⟩ := h
  refine ⟨_, pss_one (ps_ret (pe_lc (own := [("value", 2)]) (g := gName 2) rfl sc_rest.nd (pi_list (pv 0)) (blkOk_by (own := [("value", 2)]) (N := n_rest) (sc := defScope s_rest) (by decide +kernel)) (fun _ _ _ _ _ => pg_name (i := 2) sc_rest.nd rfl (Or.inl rfl)) (fun _ _ _ _ _ => pts_nil)
    (fun _ _ _ _ _ => pe_op op_mod (pv 2) (pv 1)))), ?_⟩
  have e : (fun x => x % c) = VametBase.restOf c.toNat := by
    funext x
    unfold VametBase.restOf
    rw [if_neg (by omega), Int.toNat_of_nonneg (by omega)]
  refine ⟨_, rfl, a, rfl, ⟨_, SqL.of ha⟩, fun D0 hD => lc_ints (g := fun x => x % c) ha hD (by omega) (fun _ => rfl) (fun x H' R _ r => ⟨_, rfl, _, rfl, _, _, rfl, rfl, (by show (0 : Int) < c; omega), r⟩) fun H' sm hv => q _ _ sm hD (by rw [hv, e])⟩
theorem ok_without_signs (D : Df K mg "without_signs" s_without_signs) (habs : mg "abs" = none) : Cal P w K mg base CX0 1 "without_signs" ["row"] (spR fun l => l.map fun x => if x < 0 then 0 - x else x) := by
  refine D.ok (k := 0) sc_without_signs spR_len (fun _ _ _ _ _ _ => bind1 (fun _ => rfl) rfl) fun f cdv A outer s H vs Q E hr h => ?_
  obtain ⟨a, ns, rfl, ha, hl, q⟩ := h
  refine ⟨_, pss_one (ps_ret (pe_lc (own := [("value", 1)]) (g := gName 1) rfl sc_without_signs.nd (pi_list (pv 0)) (blkOk_by (own := [("value", 1)]) (N := n_without_signs) (sc := defScope s_without_signs) (by decide +kernel)) (fun _ _ _ _ _ => pg_name (i := 1) sc_without_signs.nd rfl (Or.inl rfl)) (fun _ _ _ _ _ => pts_nil)
    (fun _ _ _ _ _ => pe_callB call_abs (by rfl) habs (by decide +kernel) (pa_cons (pv 1) pa_nil)))), ?_⟩
  have e : (fun x : Int => if x < 0 then -x else x) = fun x : Int => if x < 0 then 0 - x else x := by
    funext x
    split <;> omega
  refine ⟨_, rfl, a, rfl, ⟨_, SqL.of ha⟩, fun D0 hD => lc_ints (g := fun x => if x < 0 then -x else x) ha hD (by omega) (fun _ => rfl) (fun x H' R _ r => ⟨_, rfl, _, rfl, r⟩) fun H' sm hv => q _ _ sm hD (by rw [hv, e])⟩
theorem ok_rising (D : Df K mg "rising" s_rising) (hs : mg "sorted" = none) : Cal P w K mg base CX0 1 "rising" ["row"] (spR VametBase.sorted) := by
  refine D.ok (k := 0) sc_rising spR_len (fun _ _ _ _ _ _ => bind1 (fun _ => rfl) rfl) fun f cdv A outer s H vs Q E hr h => ?_
  obtain ⟨a, ns, rfl, ha, hl, q⟩ := h
  refine ⟨_, pss_one (ps_ret (pe_callB cr_sorted (by rfl) hs (by decide +kernel) (pa_cons (pv 0) pa_nil))), ?_⟩
  exact ⟨_, rfl, a, ns, rfl, SqL.of ha, by omega, fun ns' p hp hr' hn => q _ _ (same_new hn) hn (by rw [upd_same, Rm.sorted_eq hp hr'])⟩
theorem ok_turned_round (D : Df K mg "turned_round" s_turned_round) (hl1 : mg "list" = none) (hr1 : mg "reversed" = none) : Cal P w K mg base CX0 1 "turned_round" ["row"] (spR List.reverse) := by
  refine D.ok (k := 0) sc_turned_round spR_len (fun _ _ _ _ _ _ => bind1 (fun _ => rfl) rfl) fun f cdv A outer s H vs Q E hr h => ?_
  obtain ⟨a, ns, rfl, ha, hl, q⟩ := h
  refine ⟨_, pss_one (ps_ret (pe_listrev rfl rfl hl1 rfl hr1 (pv 0))), ?_⟩
  exact ⟨_, rfl, a, _, rfl, SqL.of ha, fun l hn => q _ _ (same_new hn) hn (by rw [upd_same]; simp)⟩
theorem cut_take {xs : List V} {k : Int} (h : 0 ≤ k) : cutV xs none (some k) = xs.take k.toNat := by
  unfold cutV
  obtain ⟨n, rfl⟩ : ∃ n : Nat, k = (n : Int) := ⟨k.toNat, by omega⟩
  rw [HT.sIx_none, HT.sIx_nat, List.drop_zero, Int.toNat_natCast, Nat.sub_zero]
  exact List.take_eq_take_min.symm
theorem cut_drop {xs : List V} {k : Int} (h : 0 ≤ k) : cutV xs (some k) none = xs.drop k.toNat := by
  unfold cutV
  obtain ⟨n, rfl⟩ : ∃ n : Nat, k = (n : Int) := ⟨k.toNat, by omega⟩
  rw [HT.sIx_none, HT.sIx_nat, Int.toNat_natCast]
  by_cases hn : n ≤ xs.length
  · rw [Nat.min_eq_left hn, List.take_of_length_le (by simp)]
  · rw [Nat.min_eq_right (by omega), List.drop_eq_nil_of_le (Nat.le_refl _), List.drop_eq_nil_of_le (by omega : xs.length ≤ n)]
    simp
theorem ok_taken (D : Df K mg "taken" s_taken) : Cal P w K mg base CX0 1 "taken" ["row", "k"] (spRN (fun k => 0 ≤ k ∧ k ≤ 9) fun k l => l.take k.toNat) := by
  refine D.ok (k := 0) sc_taken spRN_len (fun _ _ _ _ _ _ => bind2 (fun _ _ => rfl) rfl) fun f cdv A outer s H vs Q E hr h => ?_
  obtain ⟨a, ns, c, rfl, ha, hl, hc, q⟩ := h
  refine ⟨_, pss_one (ps_ret (pe_slice sl_list (pv 0) po_none (po_some (pv 1)))), ?_⟩
  exact ⟨_, rfl, _, rfl, _, rfl, a, _, rfl, SqL.of ha, fun p hn => q _ _ (same_new hn) hn (by rw [upd_same, cut_take hc.1, List.map_take])⟩
theorem ok_dropped (D : Df K mg "dropped" s_dropped) : Cal P w K mg base CX0 1 "dropped" ["row", "k"] (spRN (fun k => 0 ≤ k ∧ k ≤ 9) fun k l => l.drop k.toNat) := by
  refine D.ok (k := 0) sc_dropped spRN_len (fun _ _ _ _ _ _ => bind2 (fun _ _ => rfl) rfl) fun f cdv A outer s H vs Q E hr h => ?_
  obtain ⟨a, ns, c, rfl, ha, hl, hc, q⟩ := h
  refine ⟨_, pss_one (ps_ret (pe_slice sl_list (pv 0) (po_some (pv 1)) po_none)), ?_⟩
  exact ⟨_, rfl, _, rfl, _, rfl, a, _, rfl, SqL.of ha, fun p hn => q _ _ (same_new hn) hn (by rw [upd_same, cut_drop hc.1, List.map_drop])⟩
theorem ok_above (D : Df K mg "above" s_above) : Cal P w K mg base CX0 1 "above" ["row", "c"] (spRN within99 fun c l => l.filter fun x => decide (c < x)) := by
  refine D.ok (k := 0) sc_above spRN_len (fun _ _ _ _ _ _ => bind2 (fun _ _ => rfl) rfl) fun f cdv A outer s H vs Q E hr h => ?_
  obtain ⟨a, ns, c, rfl, ha, hl, hc, q⟩ := h
  refine ⟨_, pss_one (ps_ret (pe_lc (own := [("value", 2)]) (g := gName 2) rfl sc_above.nd (pi_list (pv 0)) (blkOk_by (own := [("value", 2)]) (N := n_above) (sc := defScope s_above) (by decide +kernel)) (fun _ _ _ _ _ => pg_name (i := 2) sc_above.nd rfl (Or.inl rfl)) (fun _ _ _ _ _ => pts_one (pt_cmpR op_gt (pv 2) (pv 1) (nomark _)))
    (fun _ _ _ _ _ => pv 2))), ?_⟩
  refine ⟨_, rfl, a, rfl, ⟨_, SqL.of ha⟩, fun D0 hD => lc_intsIf (p := fun x => decide (c < x)) ha hD (by omega) (fun _ => rfl) (fun x H' R r => ⟨_, rfl, _, rfl, _, _, rfl, rfl, _, rfl, r⟩) (fun x H' R r => ⟨_, rfl, r⟩) fun H' sm hv => q _ _ sm hD hv⟩
theorem ok_sum_alone (D : Df K mg "sum_alone" s_sum_alone) (hs : mg "sum" = none) : Cal P w K mg base CX0 1 "sum_alone" ["row"] (spR fun l => [VametBase.total l]) := by
  refine D.ok (k := 0) sc_sum_alone spR_len (fun _ _ _ _ _ _ => bind1 (fun _ => rfl) rfl) fun f cdv A outer s H vs Q E hr h => ?_
  obtain ⟨a, ns, rfl, ha, hl, q⟩ := h
  refine ⟨_, pss_one (ps_ret (pe_lst (pa_cons (pe_callB (cr_sum rfl) (by rfl) hs (by decide +kernel) (pa_cons (pv 0) pa_nil)) pa_nil))), ?_⟩
  exact ⟨_, rfl, a, ns, rfl, SqL.of ha, (by show 1 ≤ sizeLine; decide), fun p hn => q _ _ (same_new hn) hn (by rw [upd_same]; show _ = some (HO.lst [V.int (VametBase.total ns)]); rw [Rm.total_eq])⟩
theorem ok_count_alone (D : Df K mg "count_alone" s_count_alone) (hs : mg "len" = none) : Cal P w K mg base CX0 1 "count_alone" ["row"] (spR fun l => [(l.length : Int)]) := by
  refine D.ok (k := 0) sc_count_alone spR_len (fun _ _ _ _ _ _ => bind1 (fun _ => rfl) rfl) fun f cdv A outer s H vs Q E hr h => ?_
  obtain ⟨a, ns, rfl, ha, hl, q⟩ := h
  refine ⟨_, pss_one (ps_ret (pe_lst (pa_cons (pe_callB call_len_seq (by rfl) hs PySem.boot_len (pa_cons (pv 0) pa_nil)) pa_nil))), ?_⟩
  exact ⟨_, rfl, a, _, rfl, .inl (SqL.of ha), (by show 1 ≤ sizeLine; decide), fun p hn => q _ _ (same_new hn) hn (by rw [upd_same]; simp)⟩
theorem ok_twice (D : Df K mg "twice" s_twice) : Cal P w K mg base CX0 1 "twice" ["row"] (spR fun l => l ++ l) := by
  refine D.ok (k := 0) sc_twice spR_len (fun _ _ _ _ _ _ => bind1 (fun _ => rfl) rfl) fun f cdv A outer s H vs Q E hr h => ?_
  obtain ⟨a, ns, rfl, ha, hl, q⟩ := h
  refine ⟨_, pss_one (ps_ret (pe_op op_cat (pv 0) (pv 0))), ?_⟩
  exact ⟨_, rfl, _, rfl, a, a, _, _, rfl, rfl, ha, ha, (by rw [List.length_map]; exact Nat.le_of_lt (short_line (by omega))), fun p hn => q _ _ (same_new hn) hn (by rw [upd_same, List.map_append])⟩
end
end Rh

end

-- part RhSteps2
section
set_option Elab.async false
set_option linter.all false
set_option maxRecDepth 100000
set_option maxHeartbeats 2000000
namespace Rh
open PySem PySem.Spec PyProof.Rows L2
section
variable {P : Program} {w : World} {K : PySem.W.Frag} {mg : Str → Option Value} {base : Heap}
theorem isEmpty_map (ns : List Int) : (ns.map V.int).isEmpty = ns.isEmpty := by cases ns <;> rfl
theorem ok_rotated (D : Df K mg "rotated" s_rotated) (hln : mg "len" = none) : Cal P w K mg base CX0 1 "rotated" ["row", "k"] (spRN (fun k => 0 ≤ k ∧ k ≤ 9) fun k l => l.drop (k.toNat % Nat.max 1 l.length) ++ l.take (k.toNat % Nat.max 1 l.length)) := by
  refine D.ok (k := 0) sc_rotated spRN_len (fun _ _ _ _ _ _ => bind2 (fun _ _ => rfl) rfl) fun f cdv A outer s H vs Q E hr h => ?_
  obtain ⟨a, ns, c, rfl, ha, hl, hc, q⟩ := h
  refine ⟨_, pss_cons (ps_if (pt_not (pt_truth (pv 0) (by intro _; rfl))) (pss_one (ps_ret (pe_lst pa_nil))) pss_nil)
    (pss_cons (ps_set (i := 2) sc_rotated.nd rfl (Or.inl rfl) (pe_op op_mod (pv 1) (pe_callB call_len_seq (by rfl) hln PySem.boot_len (pa_cons (pv 0) pa_nil))))
    (pss_one (ps_ret (pe_op op_cat (pe_slice sl_list (pv 0) (po_some (pv 2)) po_none) (pe_slice sl_list (pv 0) po_none (po_some (pv 2))))))), ?_⟩
  refine ⟨_, rfl, !ns.isEmpty, .inl ⟨_, SqL.of ha, by rw [isEmpty_map]⟩, ?_⟩
  cases ns with
  | nil => exact iteT ⟨Nat.zero_le _, fun p hn => q _ _ (same_new hn) hn (by rw [upd_same]; simp)⟩
  | cons x ns =>
    refine iteF ?_
    refine ⟨_, rfl, _, rfl, a, _, rfl, .inl (SqL.of ha), _, _, rfl, rfl, (by rw [List.length_map, List.length_cons]; omega), ?_⟩
    rw [List.length_map]
    generalize hL : (x :: ns : List Int) = l at ha hl q
    have hpos : 1 ≤ l.length := by rw [← hL]; simp
    have hm0 : (0 : Int) ≤ c % (l.length : Int) := Int.emod_nonneg _ (by omega)
    refine ⟨_, rfl, _, rfl, _, rfl, a, _, rfl, SqL.of ha, fun p hp => ?_⟩
    refine ⟨_, rfl, _, rfl, _, rfl, a, _, rfl, SqL.of (by rw [upd_ne (ne_of_none ha hp)]; exact ha), fun p2 hp2 => ?_⟩
    have n12 : p ≠ p2 := fun z => by rw [← z, upd_same] at hp2; cases hp2
    have hp2' : H p2 = none := by rw [upd_ne (Ne.symm n12)] at hp2; exact hp2
    refine ⟨p, p2, _, _, rfl, rfl, by rw [upd_ne n12, upd_same], upd_same, ?_, fun p3 hp3 => ?_⟩
    · rw [cut_drop hm0, cut_take hm0, List.length_drop, List.length_take, List.length_map]
      exact Nat.le_of_lt (short_line (by omega))
    · have hp3' : H p3 = none := ((same_new hp).trans (same_new hp2)).free hp3
      refine q _ _ (((same_new hp).trans (same_new hp2)).trans (same_new hp3)) hp3' ?_
      rw [upd_same, cut_drop hm0, cut_take hm0, ← List.map_drop, ← List.map_take, ← List.map_append]
      have e : (c % (l.length : Int)).toNat = c.toNat % Nat.max 1 l.length := by
        have h1 : Nat.max 1 l.length = l.length := Nat.max_eq_right hpos
        rw [h1, Int.toNat_emod hc.1 (by omega), Int.toNat_natCast]
      rw [e]
theorem ok_greatest (D : Df K mg "greatest" s_greatest) (hmx : mg "max" = none) : Cal P w K mg base CX0 1 "greatest" ["row"] (spR fun l => (VametBase.greatestOf l).toList) := by
  refine D.ok (k := 0) sc_greatest spR_len (fun _ _ _ _ _ _ => bind1 (fun _ => rfl) rfl) fun f cdv A outer s H vs Q E hr h => ?_
  obtain ⟨a, ns, rfl, ha, hl, q⟩ := h
  refine ⟨_, pss_one (ps_ret (pe_ifExp (pt_truth (pv 0) (by intro _; rfl)) (pe_lst (pa_cons (pe_callB (cr_max rfl) (by rfl) hmx (by decide +kernel) (pa_cons (pv 0) pa_nil)) pa_nil)) (pe_lst pa_nil))), ?_⟩
  refine ⟨_, rfl, !ns.isEmpty, .inl ⟨_, SqL.of ha, by rw [isEmpty_map]⟩, ?_⟩
  cases ns with
  | nil => exact iteF ⟨Nat.zero_le _, fun p hn => q _ _ (same_new hn) hn upd_same⟩
  | cons x ns =>
    refine iteT ⟨_, rfl, a, x :: ns, rfl, SqL.of ha, by simp, fun m hm hle => ⟨(by show 1 ≤ sizeLine; decide), fun p hn => q _ _ (same_new hn) hn ?_⟩⟩
    rw [upd_same]
    show _ = some (HO.lst ((VametBase.greatestOf (x :: ns)).toList.map V.int))
    rw [Rm.greatest_eq hm hle]
    rfl
theorem ok_least (D : Df K mg "least" s_least) (hmx : mg "min" = none) : Cal P w K mg base CX0 1 "least" ["row"] (spR fun l => (VametBase.leastOf l).toList) := by
  refine D.ok (k := 0) sc_least spR_len (fun _ _ _ _ _ _ => bind1 (fun _ => rfl) rfl) fun f cdv A outer s H vs Q E hr h => ?_
  obtain ⟨a, ns, rfl, ha, hl, q⟩ := h
  refine ⟨_, pss_one (ps_ret (pe_ifExp (pt_truth (pv 0) (by intro _; rfl)) (pe_lst (pa_cons (pe_callB (cr_min rfl) (by rfl) hmx (by decide +kernel) (pa_cons (pv 0) pa_nil)) pa_nil)) (pe_lst pa_nil))), ?_⟩
  refine ⟨_, rfl, !ns.isEmpty, .inl ⟨_, SqL.of ha, by rw [isEmpty_map]⟩, ?_⟩
  cases ns with
  | nil => exact iteF ⟨Nat.zero_le _, fun p hn => q _ _ (same_new hn) hn upd_same⟩
  | cons x ns =>
    refine iteT ⟨_, rfl, a, x :: ns, rfl, SqL.of ha, by simp, fun m hm hle => ⟨(by show 1 ≤ sizeLine; decide), fun p hn => q _ _ (same_new hn) hn ?_⟩⟩
    rw [upd_same]
    show _ = some (HO.lst ((VametBase.leastOf (x :: ns)).toList.map V.int))
    rw [Rm.least_eq hm hle]
    rfl
theorem inV_ints (x : Int) (ns : List Int) : inV (.int x) (ns.map V.int) = ns.contains x := by
  unfold inV
  rw [List.any_map, List.contains_eq_any_beq]
  congr 1
  funext y
  show (y == x) = (x == y)
  exact Bool.eq_iff_iff.mpr ⟨fun h => by simpa using (eq_of_beq h).symm, fun h => by simpa using (eq_of_beq h).symm⟩
theorem flat_ints (ns : List Int) : (ns.map V.int).all flatV = true := by simp [flatV]
theorem ok_once (D : Df K mg "once" s_once) : Cal P w K mg base CX0 1 "once" ["row"] (spR VametBase.onceOnly) := by
  refine D.ok (k := 0) sc_once spR_len (fun _ _ _ _ _ _ => bind1 (fun _ => rfl) rfl) fun f cdv A outer s H vs Q E hr h => ?_
  obtain ⟨a, ns, rfl, ha, hl, q⟩ := h
  refine ⟨_, pss_cons (ps_set (i := 1) sc_once.nd rfl (Or.inl rfl) (pe_lst pa_nil))
    (pss_cons (ps_for PassesOwn.never rfl (pi_list (pv 0)) (pg_name (i := 2) sc_once.nd rfl (Or.inl rfl))
      (pss_one (ps_if (pt_cmpR op_notIn_seq (pv 2) (pv 1) (by rfl)) (pss_one (ps_expr (pe_bm PySem.F.plainAttrs_list PySem.F.slot_list_append PySem.F.type_list_append mt_append (pv 1) (pa_cons (pv 2) pa_nil)))) pss_nil)))
    (pss_one (ps_ret (pv 1)))), ?_⟩
  refine ⟨Nat.zero_le _, fun D0 hD => ?_⟩
  refine ⟨_, rfl, a, rfl, ⟨_, SqL.of (by rw [upd_ne (ne_of_none ha hD)]; exact ha)⟩, for_list (K := K) (a := a) (xs := ns.map V.int) (fun i σ H' => ∃ v : Option V, Same H H' ∧ H' D0 = some (.lst ((VametBase.onceOnly (ns.take i)).map V.int)) ∧ σ = [some (.ref a), some (.ref D0), v])
    ⟨none, same_new hD, upd_same, rfl⟩ (fun i σ H' _ ⟨_, sm, _⟩ => SqL.of (sm _ _ ha)) ?_ ?_⟩
  · rintro i y σ H' hi ⟨v, sm, hv, rfl⟩
    obtain ⟨z, hz, rfl⟩ := int_at hi
    refine ⟨_, rfl, _, rfl, D0, _, rfl, .inl (SqL.of hv), rfl, flat_ints _, _, rfl, ?_⟩
    rw [inV_ints]
    have hlen : (VametBase.onceOnly (ns.take i)).length ≤ 40 := by
      have h1 := Rm.once_len (ns.take i)
      rw [List.length_take] at h1
      omega
    cases hc : (VametBase.onceOnly (ns.take i)).contains z with
    | true =>
      refine iteF ⟨some (.int z), sm, ?_, rfl⟩
      rw [hv, take_snoc hz, Rm.once_snoc, if_pos hc]
    | false =>
      refine iteT ⟨_, rfl, .inl ⟨rfl, _, SqL.of hv⟩, _, rfl, D0, _, _, rfl, rfl, hv, (by rw [List.length_map]; exact short_line (by omega)), some (.int z), same_put sm hD, ?_, rfl⟩
      rw [upd_same, take_snoc hz, Rm.once_snoc, if_neg (by rw [hc]; decide), List.map_append]
      rfl
  · rintro σ H' ⟨v, sm, hv, rfl⟩
    rw [List.length_map, List.take_length] at hv
    exact ⟨_, rfl, q _ _ sm hD hv⟩
theorem ok_running_sums (D : Df K mg "running_sums" s_running_sums) : Cal P w K mg base CX0 1 "running_sums" ["row"] (spR (VametBase.runningFrom 0)) := by
  refine D.ok (k := 0) sc_running_sums spR_len (fun _ _ _ _ _ _ => bind1 (fun _ => rfl) rfl) fun f cdv A outer s H vs Q E hr h => ?_
  obtain ⟨a, ns, rfl, ha, hl, q⟩ := h
  refine ⟨_, pss_cons (ps_set (i := 1) sc_running_sums.nd rfl (Or.inl rfl) (pe_lst pa_nil)) (pss_cons (ps_set (i := 2) sc_running_sums.nd rfl (Or.inl rfl) pe_int)
    (pss_cons (ps_for PassesOwn.never rfl (pi_list (pv 0)) (pg_name (i := 3) sc_running_sums.nd rfl (Or.inl rfl))
      (pss_cons (ps_aug (i := 2) sc_running_sums.nd rfl (Or.inl rfl) (pv 3) ip_add) (pss_one (ps_expr (pe_bm PySem.F.plainAttrs_list PySem.F.slot_list_append PySem.F.type_list_append mt_append (pv 1) (pa_cons (pv 2) pa_nil))))))
    (pss_one (ps_ret (pv 1))))), ?_⟩
  refine ⟨Nat.zero_le _, fun D0 hD => ?_⟩
  refine ⟨_, rfl, a, rfl, ⟨_, SqL.of (by rw [upd_ne (ne_of_none ha hD)]; exact ha)⟩, for_list (K := K) (a := a) (xs := ns.map V.int) (fun i σ H' => ∃ v : Option V, Same H H' ∧ H' D0 = some (.lst ((VametBase.runningFrom 0 (ns.take i)).map V.int)) ∧ σ = [some (.ref a), some (.ref D0), some (.int (ns.take i).sum), v])
    ⟨none, same_new hD, upd_same, rfl⟩ (fun i σ H' _ ⟨_, sm, _⟩ => SqL.of (sm _ _ ha)) ?_ ?_⟩
  · rintro i y σ H' hi ⟨v, sm, hv, rfl⟩
    obtain ⟨z, hz, rfl⟩ := int_at hi
    refine ⟨_, rfl, _, rfl, _, _, rfl, rfl, _, rfl, .inl ⟨rfl, _, SqL.of hv⟩, _, rfl, D0, _, _, rfl, rfl, hv, ?_, some (.int z), same_put sm hD, ?_, ?_⟩
    · rw [List.length_map, Rm.running_len, List.length_take]
      exact short_line (by omega)
    · rw [upd_same, take_snoc hz, Rm.running_snoc, List.map_append]
      simp
    · rw [sum_take hz]
      rfl
  · rintro σ H' ⟨v, sm, hv, rfl⟩
    rw [List.length_map, List.take_length] at hv
    exact ⟨_, rfl, q _ _ sm hD hv⟩
theorem ok_differences (D : Df K mg "differences" s_differences) (hzp : mg "zip" = none) : Cal P w K mg base CX0 1 "differences" ["row"] (spR fun l => (l.zip (l.drop 1)).map fun x => x.2 - x.1) := by
  refine D.ok (k := 0) sc_differences spR_len (fun _ _ _ _ _ _ => bind1 (fun _ => rfl) rfl) fun f cdv A outer s H vs Q E hr h => ?_
  obtain ⟨a, ns, rfl, ha, hl, q⟩ := h
  refine ⟨_, pss_one (ps_ret (pe_lc (own := [("first", 1), ("second", 2)]) (g := gTup K 2 (gCons (gName 1) (gCons (gName 2) gNil))) rfl sc_differences.nd (pi_zip rfl hzp (pa_cons (pv 0) (pa_cons (pe_slice sl_list (pv 0) (po_some pe_int) po_none) pa_nil)))
    (blkOk_by (own := [("first", 1), ("second", 2)]) (N := n_differences) (sc := defScope s_differences) (by decide +kernel)) (fun _ _ _ _ _ => pg_tup (by rfl) (pgs_cons (pg_name (i := 1) sc_differences.nd rfl (Or.inl rfl)) (pgs_cons (pg_name (i := 2) sc_differences.nd rfl (Or.inl rfl)) pgs_nil))) (fun _ _ _ _ _ => pts_nil)
    (fun _ _ _ _ _ => pe_op op_sub (pv 2) (pv 1)))), ?_⟩
  refine ⟨_, rfl, _, rfl, _, rfl, a, _, rfl, SqL.of ha, fun b hb => ?_⟩
  have e1 : cutV (ns.map V.int) (some 1) none = (ns.drop 1).map V.int := by rw [cut_drop (by omega), List.map_drop]; rfl
  rw [e1]
  have hab : a ≠ b := ne_of_none ha hb
  refine ⟨a, b, _, _, rfl, SqL.of (by rw [upd_ne hab]; exact ha), SqL.of upd_same, fun D0 hD => ?_⟩
  have hbD : b ≠ D0 := fun z => by rw [← z, upd_same] at hD; cases hD
  have hD' : H D0 = none := by rw [upd_ne (Ne.symm hbD)] at hD; exact hD
  refine lc_zip (K := K) (a := a) (b := b) (xs := ns.map V.int) (ys := (ns.drop 1).map V.int) (fun i H' => Same H H' ∧ H' b = some (.lst ((ns.drop 1).map V.int)) ∧ H' D0 = some (.lst (((((ns.zip (ns.drop 1)).map fun x => x.2 - x.1)).take i).map V.int)))
    ⟨(same_new hb).trans (same_new hD), by rw [upd_ne hbD, upd_same], upd_same⟩ (fun i H' _ ⟨sm, h2, _⟩ => ⟨SqL.of (sm _ _ ha), SqL.of h2⟩) ?_ ?_
  · rintro i x y H' T hx hy ⟨sm, h2, h3⟩ hT
    obtain ⟨z1, hz1, rfl⟩ := int_at hx
    obtain ⟨z2, hz2, rfl⟩ := int_at hy
    refine ⟨T, _, rfl, SqT.of upd_same, rfl, _, _, rfl, _, _, rfl, rfl, ?_⟩
    have hTD : D0 ≠ T := fun z => by rw [z, hT] at h3; cases h3
    have hTb : b ≠ T := fun z => by rw [z, hT] at h2; cases h2
    refine ⟨rfl, _, rfl, _, rfl, _, _, rfl, rfl, _, by rw [upd_ne hTD]; exact h3, ?_, ?_, ?_, ?_⟩
    · rw [List.length_map, List.length_take, List.length_map, List.length_zip]
      exact short_line (by omega)
    · exact same_put ((sm.trans (same_new hT))) hD'
    · rw [upd_ne hbD, upd_ne hTb]
      exact h2
    · rw [upd_same]
      have hzz : ((ns.zip (ns.drop 1)).map fun x => x.2 - x.1)[i]? = some (z2 - z1) := by
        rw [List.getElem?_map, List.getElem?_zip_eq_some (z := (z1, z2)) |>.mpr ⟨hz1, hz2⟩]
        rfl
      rw [take_snoc hzz, List.map_append]
      rfl
  · rintro H' ⟨sm, h2, h3⟩
    refine q _ _ sm hD' ?_
    rw [h3, List.take_of_length_le (by simp)]
theorem ok_is_beyond (D : Df K mg "is_beyond" s_is_beyond) (hln : mg "len" = none) (hbl : mg "bool" = none) (hmx : mg "max" = none) (hmn : mg "min" = none) (g1 : ∃ t, mg "MOST_NUMBERS" = some (.int 40 t)) (g2 : ∃ t, mg "FARTHEST" = some (.int 1000000 t)) :
    Cal P w K mg base CX0 1 "is_beyond" ["row"] (fun vs H Q _ => ∃ a ns, vs = [.ref a] ∧ H a = some (.lst (ns.map V.int)) ∧ Q (.bl (!VametBase.within ns)) H) := by
  refine D.ok (k := 0) sc_is_beyond (fun vs H Q E h => by obtain ⟨a, ns, rfl, _⟩ := h; rfl) (fun _ _ _ _ _ _ => bind1 (fun _ => rfl) rfl) fun f cdv A outer s H vs Q E hr h => ?_
  obtain ⟨a, ns, rfl, ha, q⟩ := h
  refine ⟨_, pss_cons (ps_if (pt_cmpR op_gt (pe_callB call_len_seq (by rfl) hln PySem.boot_len (pa_cons (pv 0) pa_nil)) (pe_gint rfl g1) (nomark _)) (pss_one (ps_ret pe_bl)) pss_nil)
    (pss_one (ps_ret (pe_and (pe_callTy call_bool_list (by rfl) hbl (by decide +kernel) (pa_cons (pv 0) pa_nil)) (pe_one
      (pe_or (pe_cmpR op_gt (pe_callB (cr_max rfl) (by rfl) hmx (by decide +kernel) (pa_cons (pv 0) pa_nil)) (pe_gint rfl g2) (nomark _)) (pe_one (pe_cmpR op_lt (pe_callB (cr_min rfl) (by rfl) hmn (by decide +kernel) (pa_cons (pv 0) pa_nil)) (pe_un un_neg (pe_gint rfl g2)) (nomark _)))))))), ?_⟩
  refine ⟨_, rfl, a, _, rfl, .inl (SqL.of ha), _, _, rfl, rfl, _, rfl, ?_⟩
  rw [List.length_map]
  refine ite2 (fun hc => ?_) fun hc => ?_
  · have hc : (40 : Int) < (ns.length : Int) := of_decide_eq_true hc
    have e : VametBase.within ns = false := by
      unfold VametBase.within VametBase.LONG
      rw [decide_eq_false (by omega)]
      rfl
    rw [e] at q
    exact q
  · have hc : ¬ (40 : Int) < (ns.length : Int) := fun z => hc (decide_eq_true z)
    have e0 : VametBase.within ns = ns.all fun x => decide (0 - 1000000 ≤ x) && decide (x ≤ 1000000) := by
      unfold VametBase.within VametBase.LONG VametBase.MOST
      rw [decide_eq_true (by omega)]
      rfl
    refine ⟨_, rfl, a, _, rfl, SqL.of ha, _, rfl, ?_⟩
    rw [isEmpty_map]
    by_cases hns : ns = []
    · subst hns
      exact iteF q
    · have hemp : ns.isEmpty = false := by cases ns with
        | nil => exact absurd rfl hns
        | cons => rfl
      rw [hemp]
      refine iteT ?_
      have hpos : 0 < ns.length := by cases ns with
        | nil => exact absurd rfl hns
        | cons => simp
      refine ⟨_, rfl, a, ns, rfl, SqL.of ha, hpos, fun m hm hle => ⟨_, _, rfl, rfl, _, rfl, ?_⟩⟩
      refine ite2 (fun hc2 => ?_) fun hc2 => ?_
      · have hc2 : (1000000 : Int) < m := of_decide_eq_true hc2
        have e : VametBase.within ns = false := by
          rw [e0]
          refine Bool.eq_false_iff.mpr fun z => ?_
          have := List.all_eq_true.mp z m hm
          simp at this
          omega
        rw [e] at q
        exact q
      · have hc2 : ¬ (1000000 : Int) < m := fun z => hc2 (decide_eq_true z)
        refine ⟨_, rfl, a, ns, rfl, SqL.of ha, hpos, fun m2 hm2 hle2 => ⟨_, rfl, _, _, rfl, rfl, ?_⟩⟩
        have e : (!VametBase.within ns) = decide (m2 < -1000000) := by
          rw [e0]
          by_cases hz : m2 < -1000000
          · rw [decide_eq_true hz]
            have : (ns.all fun x => decide (0 - 1000000 ≤ x) && decide (x ≤ 1000000)) = false := by
              refine Bool.eq_false_iff.mpr fun z => ?_
              have := List.all_eq_true.mp z m2 hm2
              simp at this
              omega
            rw [this]
            rfl
          · rw [decide_eq_false hz]
            have : (ns.all fun x => decide (0 - 1000000 ≤ x) && decide (x ≤ 1000000)) = true := by
              refine List.all_eq_true.mpr fun y hy => ?_
              have h1 := hle y hy
              have h2 := hle2 y hy
              simp
              omega
            rw [this]
            rfl
        rw [e] at q
        exact q
end
end Rh

end

-- part RhRun
section
set_option Elab.async false
set_option linter.all false
set_option maxRecDepth 100000
set_option maxHeartbeats 2000000
namespace Rh
open PySem PySem.Spec PyProof.Rows L2
abbrev VStep := VametBase.Step
def kindOf : VStep → Int
  | .add _ => 0 | .times _ => 1 | .rest _ => 2 | .abs => 3 | .sort => 4 | .reverse => 5 | .rotate _ => 6 | .take _ => 7 | .drop _ => 8 | .above _ => 9 | .once => 10 | .sum => 11
  | .greatest => 12 | .least => 13 | .count => 14 | .steps => 15 | .sums => 16 | .twice => 17
def argOf : VStep → Int
  | .add c => c | .times c => c | .rest m => m | .rotate k => k | .take k => k | .drop k => k | .above c => c | _ => 0
def okStep : VStep → Prop
  | .add c => -99 ≤ c ∧ c ≤ 99 | .times c => -99 ≤ c ∧ c ≤ 99 | .rest m => 1 ≤ m ∧ m ≤ 9 | .rotate k => k ≤ 9 | .take k => k ≤ 9 | .drop k => k ≤ 9 | .above c => -99 ≤ c ∧ c ≤ 99 | _ => True
/-- a step stands at v -/
structure StepAt (H : Hp) (v : V) (s : VStep) : Prop where
  at_ : ∃ a, v = .ref a ∧ H a = some (.tup [.int (kindOf s), .int (argOf s)])
  ok : okStep s
theorem StepAt.same {H H' : Hp} {v : V} {s : VStep} (sm : Same H H') (r : StepAt H v s) : StepAt H' v s := ⟨let ⟨a, e, h⟩ := r.at_; ⟨a, e, sm _ _ h⟩, r.ok⟩
/-- a program stands at v -/
def ProgAt (H : Hp) (v : V) (p : VametBase.Program) : Prop := ∃ a vs, v = .ref a ∧ H a = some (.lst vs) ∧ Paired (StepAt H) vs p
theorem ProgAt.same {H H' : Hp} {v : V} {p : VametBase.Program} (sm : Same H H') (r : ProgAt H v p) : ProgAt H' v p := let ⟨a, vs, e, h, q⟩ := r; ⟨a, vs, e, sm _ _ h, paired_mono (fun _ _ z => z.same sm) q⟩
/-- a table of defs at the top -/
def FTab (K : PySem.W.Frag) (mg : Str → Option Value) (x : Str) (ns : List (Int × Str)) : Prop :=
  ∃ a l, mg x = some (.ref a) ∧ KD K a l ∧ Paired (fun (p : Int × V) (q : Int × Str) => p.1 = q.1 ∧ ∃ f, mg q.2 = some (.ref f) ∧ p.2 = .ref f) l ns
theorem ftab_find {mg : Str → Option Value} {i : Int} : ∀ {l : List (Int × V)} {ns : List (Int × Str)}, Paired (fun (p : Int × V) (q : Int × Str) => p.1 = q.1 ∧ ∃ f, mg q.2 = some (.ref f) ∧ p.2 = .ref f) l ns →
    (l.find? fun p => p.1 == i).isSome = (ns.find? fun p => p.1 == i).isSome ∧ ∀ x, (ns.find? fun p => p.1 == i).map (·.2) = some x → ∃ f, mg x = some (.ref f) ∧ (l.find? fun p => p.1 == i).map (·.2) = some (.ref f)
  | _, _, .nil => ⟨rfl, fun x h => by cases h⟩
  | (a, v) :: l, (b, x) :: ns, .cons ⟨e, f, hm, hv⟩ r => by
    have ih := ftab_find (i := i) r
    have e : a = b := e
    have hv : v = .ref f := hv
    subst e hv
    rw [List.find?_cons, List.find?_cons]
    show Option.isSome (match (a == i) with | true => some (a, V.ref f) | false => _) = Option.isSome (match (a == i) with | true => some (a, x) | false => _) ∧ ∀ y, Option.map _ (match (a == i) with | true => some (a, x) | false => _) = some y → ∃ g, _ ∧ Option.map _ (match (a == i) with | true => some (a, V.ref f) | false => _) = _
    cases (a == i) with
    | true => exact ⟨rfl, fun y h => ⟨f, by cases h; exact hm, rfl⟩⟩
    | false => exact ih
section
variable {X : Cx} {CX : CXT} {k : Nat} {ps : List Str} {sp : Sp} {E : XK} {x : Str} {f : Addr}
theorem callE_of {Q : VK} {σ : L2.St} {H : Hp} {t : TA} (c : Cal X.prog X.w X.K X.mg X.base CX k x ps sp) (hm : X.mg x = some (.ref f)) (hr : Room k X.A) (hx : Passes CX X E) (h : t σ H fun vs H2 => sp vs H2 Q E) :
    ∃ (f' : Addr) (fd : FuncData) (ps : List Str) (sp : Sp) (k : Nat) (CX : CXT) (E : XK), V.ref f = .ref f' ∧ FnOk X.prog X.w X.K X.mg X.base CX k f' fd ps sp ∧ Room k X.A ∧ PySem.W.keepIn X.K (.ref f') = true ∧ Binds X.K fd ps [] ∧ Passes CX X E ∧ t σ H fun vs H2 => sp vs H2 Q E := by
  obtain ⟨f', fd, F, hm', hk, hb⟩ := c.ex
  have e : f = f' := by rw [hm] at hm'; cases hm'; rfl
  subst e
  exact ⟨f, fd, ps, sp, k, CX, E, rfl, F, hr, hk, hb, hx, h⟩
end
abbrev tabW : List (Int × Str) := [(0, "add"), (1, "times"), (2, "rest"), (6, "rotated"), (7, "taken"), (8, "dropped"), (9, "above")]
abbrev tabA : List (Int × Str) := [(3, "without_signs"), (4, "rising"), (5, "turned_round"), (10, "once"), (11, "sum_alone"), (12, "greatest"), (13, "least"), (14, "count_alone"), (15, "differences"), (16, "running_sums"), (17, "twice")]
section
variable (P : Program) (w : World) (K : PySem.W.Frag) (mg : Str → Option Value) (base : Heap)
/-- the eighteen steps -/
structure Steps : Prop where
  add : Cal P w K mg base CX0 1 "add" ["row", "c"] (spRN within99 fun c l => l.map fun x => x + c)
  times : Cal P w K mg base CX0 1 "times" ["row", "c"] (spRN within99 fun c l => l.map fun x => x * c)
  rest : Cal P w K mg base CX0 1 "rest" ["row", "m"] (spRN (fun m => 1 ≤ m ∧ m ≤ 9) fun m l => l.map (VametBase.restOf m.toNat))
  abs : Cal P w K mg base CX0 1 "without_signs" ["row"] (spR fun l => l.map fun x => if x < 0 then 0 - x else x)
  sort : Cal P w K mg base CX0 1 "rising" ["row"] (spR VametBase.sorted)
  reverse : Cal P w K mg base CX0 1 "turned_round" ["row"] (spR List.reverse)
  rotate : Cal P w K mg base CX0 1 "rotated" ["row", "k"] (spRN (fun k => 0 ≤ k ∧ k ≤ 9) fun k l => l.drop (k.toNat % Nat.max 1 l.length) ++ l.take (k.toNat % Nat.max 1 l.length))
  take : Cal P w K mg base CX0 1 "taken" ["row", "k"] (spRN (fun k => 0 ≤ k ∧ k ≤ 9) fun k l => l.take k.toNat)
  drop : Cal P w K mg base CX0 1 "dropped" ["row", "k"] (spRN (fun k => 0 ≤ k ∧ k ≤ 9) fun k l => l.drop k.toNat)
  above : Cal P w K mg base CX0 1 "above" ["row", "c"] (spRN within99 fun c l => l.filter fun x => decide (c < x))
  once : Cal P w K mg base CX0 1 "once" ["row"] (spR VametBase.onceOnly)
  sum : Cal P w K mg base CX0 1 "sum_alone" ["row"] (spR fun l => [VametBase.total l])
  greatest : Cal P w K mg base CX0 1 "greatest" ["row"] (spR fun l => (VametBase.greatestOf l).toList)
  least : Cal P w K mg base CX0 1 "least" ["row"] (spR fun l => (VametBase.leastOf l).toList)
  count : Cal P w K mg base CX0 1 "count_alone" ["row"] (spR fun l => [(l.length : Int)])
  steps : Cal P w K mg base CX0 1 "differences" ["row"] (spR fun l => (l.zip (l.drop 1)).map fun x => x.2 - x.1)
  sums : Cal P w K mg base CX0 1 "running_sums" ["row"] (spR (VametBase.runningFrom 0))
  twice : Cal P w K mg base CX0 1 "twice" ["row"] (spR fun l => l ++ l)
end
section
variable {P : Program} {w : World} {K : PySem.W.Frag} {mg : Str → Option Value} {base : Heap}
def spAfter : Sp := fun vs H Q _ => ∃ v s a ns, vs = [v, .ref a] ∧ StepAt H v s ∧ H a = some (.lst (ns.map V.int)) ∧ ns.length ≤ 40 ∧ ∀ H' p, Same H H' → H p = none → H' p = some (.lst ((VametBase.done s ns).map V.int)) → Q (.ref p) H'
theorem ok_after_step (D : Df K mg "after_step" s_after_step) (S : Steps P w K mg base) (tW : FTab K mg "STEPS_WITH_NUMBER" tabW) (tA : FTab K mg "STEPS_ALONE" tabA) : Cal P w K mg base CX0 2 "after_step" ["step", "row"] spAfter := by
  obtain ⟨aW, lW, mW, dW, pW⟩ := tW
  obtain ⟨aA, lA, mA, dA, pA⟩ := tA
  refine D.ok (k := 1) sc_after_step (fun vs H Q E h => by obtain ⟨v, s, a, ns, rfl, _⟩ := h; rfl) (fun _ _ _ _ _ _ => bind2 (fun _ _ => rfl) rfl) fun f cdv A outer s0 H vs Q E hr h => ?_
  obtain ⟨v, s, a, ns, rfl, ⟨⟨t, rfl, ht⟩, hok⟩, ha, hl, q⟩ := h
  refine ⟨_, pss_cons (ps_if (pt_cmp (pc_kin dW (pe_ix ix_tup (pv 0) pe_int (fun _ _ => rfl)) (pe_gref rfl mW))) (pss_one (ps_ret (pe_callE (pe_kget dW (pe_gref rfl mW) (pe_ix ix_tup (pv 0) pe_int (fun _ _ => rfl)) (fun _ _ => rfl)) (pa_cons (pv 1) (pa_cons (pe_ix ix_tup (pv 0) pe_int (fun _ _ => rfl)) pa_nil))))) pss_nil)
    (pss_one (ps_ret (pe_callE (pe_kget dA (pe_gref rfl mA) (pe_ix ix_tup (pv 0) pe_int (fun _ _ => rfl)) (fun _ _ => rfl)) (pa_cons (pv 1) pa_nil)))), ?_⟩
  have i0 : atI [V.int (kindOf s), V.int (argOf s)] 0 = some (.int (kindOf s)) := atI_nat (j := 0) rfl
  have i1 : atI [V.int (kindOf s), V.int (argOf s)] 1 = some (.int (argOf s)) := atI_nat (j := 1) rfl
  refine ⟨_, rfl, t, _, _, _, rfl, rfl, SqT.of ht, i0, _, rfl, rfl, _, rfl, ?_⟩
  obtain ⟨fW, gW⟩ := ftab_find (i := kindOf s) pW
  obtain ⟨fA, gA⟩ := ftab_find (i := kindOf s) pA
  have key : (∃ (x n : Str) (C : Int → Prop) (g : Int → List Int → List Int), Cal P w K mg base CX0 1 x ["row", n] (spRN C g) ∧ (tabW.find? fun p => p.1 == kindOf s).map (·.2) = some x ∧ C (argOf s) ∧ g (argOf s) ns = VametBase.done s ns) ∨
      ∃ (x : Str) (g : List Int → List Int), Cal P w K mg base CX0 1 x ["row"] (spR g) ∧ tabW.find? (fun p => p.1 == kindOf s) = none ∧ (tabA.find? fun p => p.1 == kindOf s).map (·.2) = some x ∧ g ns = VametBase.done s ns := by
    cases s with
    | add c => exact .inl ⟨_, _, _, _, S.add, rfl, hok, rfl⟩
    | times c => exact .inl ⟨_, _, _, _, S.times, rfl, hok, rfl⟩
    | rest m => exact .inl ⟨_, _, _, _, S.rest, rfl, (by have := hok.1; have := hok.2; show (1 : Int) ≤ (m : Int) ∧ (m : Int) ≤ 9; omega), rfl⟩
    | rotate m => exact .inl ⟨_, _, _, _, S.rotate, rfl, (by have : m ≤ 9 := hok; show (0 : Int) ≤ (m : Int) ∧ (m : Int) ≤ 9; omega), rfl⟩
    | take m => exact .inl ⟨_, _, _, _, S.take, rfl, (by have : m ≤ 9 := hok; show (0 : Int) ≤ (m : Int) ∧ (m : Int) ≤ 9; omega), rfl⟩
    | drop m => exact .inl ⟨_, _, _, _, S.drop, rfl, (by have : m ≤ 9 := hok; show (0 : Int) ≤ (m : Int) ∧ (m : Int) ≤ 9; omega), rfl⟩
    | above c => exact .inl ⟨_, _, _, _, S.above, rfl, hok, rfl⟩
    | abs => exact .inr ⟨_, _, S.abs, rfl, rfl, rfl⟩
    | sort => exact .inr ⟨_, _, S.sort, rfl, rfl, rfl⟩
    | reverse => exact .inr ⟨_, _, S.reverse, rfl, rfl, rfl⟩
    | once => exact .inr ⟨_, _, S.once, rfl, rfl, rfl⟩
    | sum => exact .inr ⟨_, _, S.sum, rfl, rfl, rfl⟩
    | greatest => exact .inr ⟨_, _, S.greatest, rfl, rfl, rfl⟩
    | least => exact .inr ⟨_, _, S.least, rfl, rfl, rfl⟩
    | count => exact .inr ⟨_, _, S.count, rfl, rfl, rfl⟩
    | steps => exact .inr ⟨_, _, S.steps, rfl, rfl, rfl⟩
    | sums => exact .inr ⟨_, _, S.sums, rfl, rfl, rfl⟩
    | twice => exact .inr ⟨_, _, S.twice, rfl, rfl, rfl⟩
  rcases key with ⟨x, n, C, g, c, e, hC, he⟩ | ⟨x, g, c, e0, e, he⟩
  · obtain ⟨f1, m1, e1⟩ := gW x e
    have e2 : (lW.find? fun p => p.1 == kindOf s).isSome = true := by
      rw [fW]
      cases z : tabW.find? fun p => p.1 == kindOf s with
      | none => rw [z] at e; cases e
      | some y => rfl
    rw [show (if false = true then !((lW.find? fun p => p.1 == kindOf s).isSome) else (lW.find? fun p => p.1 == kindOf s).isSome) = true from e2]
    refine iteT ?_
    refine ⟨_, rfl, t, _, _, _, rfl, rfl, SqT.of ht, i0, _, _, rfl, rfl, e1, callE_of c m1 hr pass0 ?_⟩
    refine ⟨_, rfl, _, rfl, t, _, _, _, rfl, rfl, SqT.of ht, i1, a, ns, _, rfl, ha, hl, hC, fun H' p sm hp hv => q H' p sm hp (by rw [hv, he])⟩
  · obtain ⟨f1, m1, e1⟩ := gA x e
    have e2 : (lW.find? fun p => p.1 == kindOf s).isSome = false := by rw [fW, e0]; rfl
    rw [show (if false = true then !((lW.find? fun p => p.1 == kindOf s).isSome) else (lW.find? fun p => p.1 == kindOf s).isSome) = false from e2]
    refine iteF ?_
    refine ⟨_, rfl, t, _, _, _, rfl, rfl, SqT.of ht, i0, _, _, rfl, rfl, e1, callE_of c m1 hr pass0 ?_⟩
    exact ⟨_, rfl, a, ns, rfl, ha, hl, fun H' p sm hp hv => q H' p sm hp (by rw [hv, he])⟩
/-- an outcome stands at v -/
def OutAt (H : Hp) (v : V) : Option (List Int) → Prop
  | none => v = .non
  | some m => RowAt H v m ∧ m.length ≤ 40
theorem OutAt.same {H H' : Hp} {v : V} {o : Option (List Int)} (sm : Same H H') (r : OutAt H v o) : OutAt H' v o := by
  cases o with
  | none => exact r
  | some m => exact ⟨r.1.same sm, r.2⟩
def spRun : Sp := fun vs H Q _ => ∃ v p a ns, vs = [v, .ref a] ∧ ProgAt H v p ∧ H a = some (.lst (ns.map V.int)) ∧ ns.length ≤ 40 ∧ ∀ H' v', Same H H' → OutAt H' v' (VametBase.run p ns) → Q v' H'
theorem paired_get {α β : Type} {F : α → β → Prop} : ∀ {l : List α} {m : List β} {i : Nat} {a : α}, Paired F l m → l[i]? = some a → ∃ b, m[i]? = some b ∧ F a b ∧ m.drop i = b :: m.drop (i + 1)
  | _, _, _, _, .nil, e => by simp at e
  | _, _, 0, _, .cons r _, e => by cases e; exact ⟨_, rfl, r, rfl⟩
  | _, _, i + 1, a, .cons _ t, e => by
    obtain ⟨b, h1, h2, h3⟩ := paired_get (i := i) (a := a) t e
    exact ⟨b, h1, h2, h3⟩
theorem within_len {m : List Int} (h : VametBase.within m = true) : m.length ≤ 40 := by
  unfold VametBase.within at h
  rw [Bool.and_eq_true] at h
  exact of_decide_eq_true h.1
theorem ok_run (D : Df K mg "run" s_run) (ca : Cal P w K mg base CX0 2 "after_step" ["step", "row"] spAfter) (cb : Cal P w K mg base CX0 1 "is_beyond" ["row"] (fun vs H Q _ => ∃ a ns, vs = [.ref a] ∧ H a = some (.lst (ns.map V.int)) ∧ Q (.bl (!VametBase.within ns)) H)) :
    Cal P w K mg base CX0 3 "run" ["program", "row"] spRun := by
  refine D.ok (k := 2) sc_run (fun vs H Q E h => by obtain ⟨v, s, a, ns, rfl, _⟩ := h; rfl) (fun _ _ _ _ _ _ => bind2 (fun _ _ => rfl) rfl) fun f cdv A outer s0 H vs Q E hr h => ?_
  obtain ⟨v, p, a, ns, rfl, ⟨ap, vs, rfl, hap, hpr⟩, ha, hl, q⟩ := h
  refine ⟨_, pss_cons (ps_for PassesOwn.never rfl (pi_list (pv 0)) (pg_name (i := 2) sc_run.nd rfl (Or.inl rfl))
    (pss_cons (ps_set (i := 1) sc_run.nd rfl (Or.inl rfl) (pe_callC ca hr rfl pass0 (pa_cons (pv 2) (pa_cons (pv 1) pa_nil))))
      (pss_one (ps_if (pt_val (pe_callC cb (hr.mono (by decide)) rfl pass0 (pa_cons (pv 1) pa_nil))) (pss_one (ps_ret pe_non)) pss_nil))))
    (pss_one (ps_ret (pv 1))), ?_⟩
  refine ⟨_, rfl, ap, rfl, ⟨_, SqL.of hap⟩, for_list (K := K) (a := ap) (xs := vs) (fun i σ H' => ∃ (v2 : Option V) (b : Addr) (m : List Int), Same H H' ∧ H' b = some (.lst (m.map V.int)) ∧ m.length ≤ 40 ∧ VametBase.run p ns = VametBase.run (p.drop i) m ∧ σ = [some (.ref ap), some (.ref b), v2])
    ⟨none, a, ns, Same.refl _, ha, hl, rfl, rfl⟩ (fun i σ H' _ ⟨_, _, _, sm, _⟩ => SqL.of (sm _ _ hap)) ?_ ?_⟩
  · rintro i y σ H' hi ⟨v2, b, m, sm, hb, hm, hrun, rfl⟩
    obtain ⟨st, h1, h2, h3⟩ := paired_get hpr hi
    refine ⟨_, rfl, _, rfl, y, st, b, m, rfl, h2.same sm, hb, hm, fun H2 p2 s2 hp2 hv2 => ?_⟩
    refine ⟨_, rfl, p2, _, rfl, hv2, _, rfl, ?_⟩
    rw [h3] at hrun
    have hrun : VametBase.run p ns = if VametBase.within (VametBase.done st m) then VametBase.run (p.drop (i + 1)) (VametBase.done st m) else none := hrun
    cases hw : VametBase.within (VametBase.done st m) with
    | true =>
      rw [hw, if_pos rfl] at hrun
      exact iteF ⟨_, p2, _, sm.trans s2, hv2, within_len hw, hrun, rfl⟩
    | false =>
      rw [hw, if_neg Bool.false_ne_true] at hrun
      refine iteT (q _ _ (sm.trans s2) ?_)
      rw [hrun]
      rfl
  · rintro σ H' ⟨v2, b, m, sm, hb, hm, hrun, rfl⟩
    refine ⟨_, rfl, q _ _ sm ?_⟩
    rw [hrun, Paired.length hpr, List.drop_length]
    exact ⟨⟨b, rfl, hb⟩, hm⟩
end
end Rh

end

-- part RhRel
section
set_option Elab.async false
set_option linter.all false
set_option maxRecDepth 100000
set_option maxHeartbeats 2000000
namespace Rh
open PySem PySem.Spec PyProof.Rows L2
/-! ### == of two rows -/
theorem dp_ints {K : PySem.W.Frag} {H : Hp} : ∀ ns : List Int, DpAll K H (ns.map V.int) (ns.map PyData.int)
  | [] => .nil
  | n :: ns => .cons (.int n) (dp_ints ns)
theorem eqvAll_ints : ∀ ns ms : List Int, PyData.eqvAll (ns.map PyData.int) (ms.map PyData.int) = decide (ns = ms)
  | [], [] => rfl
  | [], m :: ms => by simp [PyData.eqvAll]
  | n :: ns, [] => by simp [PyData.eqvAll]
  | n :: ns, m :: ms => by
    have ih := eqvAll_ints ns ms
    simp only [List.map_cons, PyData.eqvAll, ih]
    simp only [PyData.eqv]
    by_cases h1 : n = m <;> by_cases h2 : ns = ms <;> simp [h1, h2]
theorem eqv_ints (ns ms : List Int) : PyData.eqv (.list (ns.map PyData.int)) (.list (ms.map PyData.int)) = (ns == ms) := by
  show PyData.eqvAll _ _ = _
  rw [eqvAll_ints]
  exact Bool.eq_iff_iff.mpr ⟨fun h => beq_iff_eq.mpr (of_decide_eq_true h), fun h => decide_eq_true (beq_iff_eq.mp h)⟩
theorem depth_ints : ∀ ns : List Int, PyData.depthAll (ns.map PyData.int) = 0
  | [] => rfl
  | n :: ns => by
    show max (PyData.depth (.int n)) (PyData.depthAll (ns.map PyData.int)) = 0
    rw [depth_ints ns]
    rfl
theorem lay_ints : ∀ ns : List Int, PyData.canLayAll0 (ns.map PyData.int) = true
  | [] => rfl
  | n :: ns => by
    show (PyData.canLay0 (.int n) && PyData.canLayAll0 (ns.map PyData.int)) = true
    rw [lay_ints ns]
    rfl
theorem shaped_ints (ns : List Int) : SeqAt.shaped (.list (ns.map PyData.int)) = true := by
  unfold SeqAt.shaped
  have h1 : PyData.depth (.list (ns.map PyData.int)) = 1 := by show PyData.depthAll _ + 1 = 1; rw [depth_ints]
  rw [h1, Bool.and_eq_true]
  exact ⟨lay_ints ns, rfl⟩
/-- what == of two rows wants -/
theorem eq_rows {K : PySem.W.Frag} {H : Hp} {a b : Addr} {ns ms : List Int} {Q : VK} (ha : H a = some (.lst (ns.map V.int))) (hb : H b = some (.lst (ms.map V.int))) (q : Q (.bl (ns == ms)) H) : rEqD K (.ref a) (.ref b) H Q :=
  ⟨_, _, .lst (SqL.of ha) (dp_ints ns), .lst (SqL.of hb) (dp_ints ms), shaped_ints ns, shaped_ints ms, by rw [eqv_ints]; exact q⟩
/-- [g(x) for x in row], values of any kind -/
theorem lc_vals {K : PySem.W.Frag} {a D0 : Addr} {ns : List Int} {g : Int → V} {te : TE} {i0 : Nat} {vs : List Nat} {σ : L2.St} {H : Hp} {Qd : Hp → Prop} (ha : H a = some (.lst (ns.map V.int))) (hD : H D0 = none) (hlen : ns.length ≤ 3000)
    (hw : ∀ x, wipe ((wipe σ vs).set i0 (some x)) vs = wipe σ vs) (ht : ∀ (x : Int) (H' : Hp) (R : VK), x ∈ ns → R (g x) H' → te ((wipe σ vs).set i0 (some (.int x))) H' R) (hq : ∀ H', Same H H' → H' D0 = some (.lst (ns.map g)) → Qd H') :
    ∃ W : Nat → Nat → Hp → Prop, (∃ m, W 0 m (upd H D0 (.lst []))) ∧ ∀ i m H, W i m H →
      ((Itl K a).stop i H ∧ Qd H) ∨ ((Itl K a).go i H ∧ ∃ Nx : Hp → Prop, (∀ H', Nx H' → ∃ m', m' < m ∧ W (i + 1) m' H') ∧ ∀ x H', (Itl K a).yld i H x H' → gName i0 x (wipe σ vs) H' fun σ2 H2 => wipe σ2 vs = wipe σ vs ∧ tYes σ2 H2 fun b H3 =>
        if b = true then te σ2 H3 fun y H4 => ∃ acc, H4 D0 = some (.lst acc) ∧ acc.length < sizeLine ∧ Nx (upd H4 D0 (.lst (acc ++ [y]))) else Nx H3) := by
  refine lc_list (K := K) (a := a) (xs := ns.map V.int) (fun i H' => Same H H' ∧ H' D0 = some (.lst ((ns.take i).map g))) ⟨same_new hD, upd_same⟩ (fun i H' _ p => SqL.of (p.1 _ _ ha)) ?_ fun H' p => ?_
  · rintro i y H' hi ⟨sm, hv⟩
    obtain ⟨z, hz, rfl⟩ := int_at hi
    refine ⟨hw _, ?_⟩
    unfold tYes
    dsimp only
    rw [if_pos rfl]
    refine ht z H' _ (List.mem_of_getElem? hz) ⟨_, hv, ?_, same_put sm hD, ?_⟩
    · simp only [List.length_map, List.length_take]
      exact short_line (by omega)
    · rw [upd_same, take_snoc hz]
      simp
  · obtain ⟨sm, hv⟩ := p
    rw [List.length_map, List.take_length] at hv
    exact hq H' sm hv
def spB (f : List Int → Bool) : Sp := fun vs H Q _ => ∃ a ns, vs = [.ref a] ∧ H a = some (.lst (ns.map V.int)) ∧ ns.length ≤ 40 ∧ ∀ H', Same H H' → Q (.bl (f ns)) H'
def spB2 (f : List Int → List Int → Bool) : Sp := fun vs H Q _ => ∃ a b ns ms, vs = [.ref a, .ref b] ∧ H a = some (.lst (ns.map V.int)) ∧ H b = some (.lst (ms.map V.int)) ∧ ns.length ≤ 40 ∧ ms.length ≤ 40 ∧ ∀ H', Same H H' → Q (.bl (f ns ms)) H'
theorem spB_len {f : List Int → Bool} : ∀ vs H Q E, spB f vs H Q E → vs.length = (["row"] : List Str).length := fun vs H Q E h => by obtain ⟨a, ns, rfl, _⟩ := h; rfl
theorem spB2_len {f : List Int → List Int → Bool} : ∀ vs H Q E, spB2 f vs H Q E → vs.length = (["left", "right"] : List Str).length := fun vs H Q E h => by obtain ⟨a, b, ns, ms, rfl, _⟩ := h; rfl
section
variable {P : Program} {w : World} {K : PySem.W.Frag} {mg : Str → Option Value} {base : Heap}
theorem ok_always (D : Df K mg "always" s_always) : Cal P w K mg base CX0 1 "always" ["row"] (spB fun _ => true) := by
  refine D.ok (k := 0) sc_always spB_len (fun _ _ _ _ _ _ => bind1 (fun _ => rfl) rfl) fun f cdv A outer s H vs Q E hr h => ?_
  obtain ⟨a, ns, rfl, ha, hl, q⟩ := h
  exact ⟨_, pss_one (ps_ret pe_bl), q _ (Same.refl _)⟩
theorem ok_has_numbers (D : Df K mg "has_numbers" s_has_numbers) (hln : mg "len" = none) : Cal P w K mg base CX0 1 "has_numbers" ["row"] (spB fun l => !l.isEmpty) := by
  refine D.ok (k := 0) sc_has_numbers spB_len (fun _ _ _ _ _ _ => bind1 (fun _ => rfl) rfl) fun f cdv A outer s H vs Q E hr h => ?_
  obtain ⟨a, ns, rfl, ha, hl, q⟩ := h
  refine ⟨_, pss_one (ps_ret (pe_cmpR op_gt (pe_callB call_len_seq (by rfl) hln PySem.boot_len (pa_cons (pv 0) pa_nil)) pe_int (nomark _))), ?_⟩
  refine ⟨_, rfl, a, _, rfl, .inl (SqL.of ha), _, _, rfl, rfl, ?_⟩
  have e : decide ((0 : Int) < ((ns.map V.int).length : Int)) = !ns.isEmpty := by
    rw [List.length_map]
    cases ns with
    | nil => rfl
    | cons x l => simp
  show Q (V.bl (decide ((0 : Int) < ((ns.map V.int).length : Int)))) H
  rw [e]
  exact q _ (Same.refl _)
theorem rises_iff : ∀ l : List Int, VametBase.rises l = true ↔ l.Pairwise (· ≤ ·)
  | [] => by simp [VametBase.rises]
  | [a] => by simp [VametBase.rises]
  | a :: b :: l => by
    have ih := rises_iff (b :: l)
    unfold VametBase.rises
    rw [Bool.and_eq_true, decide_eq_true_iff, ih]
    constructor
    · rintro ⟨h1, h2⟩
      refine List.pairwise_cons.mpr ⟨fun y hy => ?_, h2⟩
      rcases List.mem_cons.mp hy with rfl | hy
      · exact h1
      · exact Int.le_trans h1 ((List.pairwise_cons.mp h2).1 y hy)
    · intro h
      obtain ⟨h1, h2⟩ := List.pairwise_cons.mp h
      exact ⟨h1 b List.mem_cons_self, h2⟩
theorem ok_is_rising (D : Df K mg "is_rising" s_is_rising) (hs : mg "sorted" = none) : Cal P w K mg base CX0 1 "is_rising" ["row"] (spB VametBase.rises) := by
  refine D.ok (k := 0) sc_is_rising spB_len (fun _ _ _ _ _ _ => bind1 (fun _ => rfl) rfl) fun f cdv A outer s H vs Q E hr h => ?_
  obtain ⟨a, ns, rfl, ha, hl, q⟩ := h
  refine ⟨_, pss_one (ps_ret (pe_cmpR (op_eqD hr.units) (pv 0) (pe_callB cr_sorted (by rfl) hs (by decide +kernel) (pa_cons (pv 0) pa_nil)) (nomark _))), ?_⟩
  refine ⟨_, rfl, _, rfl, a, ns, rfl, SqL.of ha, by omega, fun ns' p hp hr' hn => eq_rows (ns := ns) (ms := ns') (by rw [upd_ne (ne_of_none ha hn)]; exact ha) upd_same ?_⟩
  have e : (ns == ns') = VametBase.rises ns := by
    refine Bool.eq_iff_iff.mpr ⟨fun h => ?_, fun h => ?_⟩
    · rw [rises_iff, beq_iff_eq.mp h]
      exact hr'
    · exact beq_iff_eq.mpr (Rm.pw_unique hp hr' ((rises_iff ns).mp h)).symm
  rw [e]
  exact q _ (same_new hn)
theorem ok_none_below_zero (D : Df K mg "none_below_zero" s_none_below_zero) (hall : mg "all" = none) : Cal P w K mg base CX0 1 "none_below_zero" ["row"] (spB fun l => l.all fun x => decide (0 ≤ x)) := by
  refine D.ok (k := 0) sc_none_below_zero spB_len (fun _ _ _ _ _ _ => bind1 (fun _ => rfl) rfl) fun f cdv A outer s H vs Q E hr h => ?_
  obtain ⟨a, ns, rfl, ha, hl, q⟩ := h
  refine ⟨_, pss_one (ps_ret (pe_callB (cr_all rfl) (by rfl) hall (by decide +kernel) (pa_cons (pe_lc (own := [("value", 1)]) (g := gName 1) rfl sc_none_below_zero.nd (pi_list (pv 0)) (blkOk_by (own := [("value", 1)]) (N := n_none_below_zero) (sc := defScope s_none_below_zero) (by decide +kernel))
    (fun _ _ _ _ _ => pg_name (i := 1) sc_none_below_zero.nd rfl (Or.inl rfl)) (fun _ _ _ _ _ => pts_nil) (fun _ _ _ _ _ => pe_cmpR op_ge (pv 1) pe_int (nomark _))) pa_nil))), ?_⟩
  refine ⟨_, rfl, a, rfl, ⟨_, SqL.of ha⟩, fun D0 hD => lc_vals (g := fun x => .bl (decide (0 ≤ x))) ha hD (by omega) (fun _ => rfl) (fun x H' R _ r => ⟨_, rfl, _, _, rfl, rfl, r⟩) fun H' sm hv => ?_⟩
  refine ⟨D0, ns.map fun x => decide (0 ≤ x), rfl, SqL.of (by rw [hv, List.map_map]; rfl), ?_⟩
  have e : (ns.map fun x => decide (0 ≤ x)).all id = ns.all fun x => decide (0 ≤ x) := by rw [List.all_map]; rfl
  rw [e]
  exact q _ sm
theorem dedup_once (ns : List Int) : dedup ns = VametBase.onceOnly ns := by
  unfold dedup VametBase.onceOnly
  congr 1
  funext k x
  unfold step_dedup
  have e : (k.any fun y => y == x) = k.contains x := by
    rw [List.contains_eq_any_beq]
    congr 1
    funext y
    exact Bool.eq_iff_iff.mpr ⟨fun h => by simpa using (eq_of_beq h).symm, fun h => by simpa using (eq_of_beq h).symm⟩
  rw [e]
theorem ok_none_twice (D : Df K mg "none_twice" s_none_twice) (hln : mg "len" = none) (hst : mg "set" = none) : Cal P w K mg base CX0 1 "none_twice" ["row"] (spB fun l => (VametBase.onceOnly l).length == l.length) := by
  refine D.ok (k := 0) sc_none_twice spB_len (fun _ _ _ _ _ _ => bind1 (fun _ => rfl) rfl) fun f cdv A outer s H vs Q E hr h => ?_
  obtain ⟨a, ns, rfl, ha, hl, q⟩ := h
  refine ⟨_, pss_one (ps_ret (pe_cmpR op_eq (pe_callB call_len_seti (by rfl) hln PySem.boot_len (pa_cons (pe_callTy (call_set_ints rfl) (by rfl) hst (by decide +kernel) (pa_cons (pv 0) pa_nil)) pa_nil)) (pe_callB call_len_seq (by rfl) hln PySem.boot_len (pa_cons (pv 0) pa_nil)) (nomark _))), ?_⟩
  refine ⟨_, rfl, a, ns, rfl, SqL.of ha, by omega, fun p hp => ⟨p, _, _, rfl, upd_same, _, rfl, a, _, rfl, .inl (SqL.of (by rw [upd_ne (ne_of_none ha hp)]; exact ha)), rfl, ?_⟩⟩
  rw [List.length_map, dedup_once]
  have e : decide (V.int ((VametBase.onceOnly ns).length : Nat) = V.int (ns.length : Nat)) = ((VametBase.onceOnly ns).length == ns.length) := by
    refine Bool.eq_iff_iff.mpr ⟨fun h => ?_, fun h => ?_⟩
    · have h := of_decide_eq_true h
      injection h with h
      simpa using Int.ofNat.inj h
    · exact decide_eq_true (by rw [beq_iff_eq.mp h])
  rw [e]
  exact q _ (same_new hp)
theorem ok_equal (D : Df K mg "equal" s_equal) : Cal P w K mg base CX0 1 "equal" ["left", "right"] (spB2 fun a b => a == b) := by
  refine D.ok (k := 0) sc_equal spB2_len (fun _ _ _ _ _ _ => bind2 (fun _ _ => rfl) rfl) fun f cdv A outer s H vs Q E hr h => ?_
  obtain ⟨a, b, ns, ms, rfl, ha, hb, h1, h2, q⟩ := h
  exact ⟨_, pss_one (ps_ret (pe_cmpR (op_eqD hr.units) (pv 0) (pv 1) (nomark _))), _, rfl, _, rfl, eq_rows ha hb (q _ (Same.refl _))⟩
theorem ok_same_bag (D : Df K mg "same_bag" s_same_bag) (hs : mg "sorted" = none) : Cal P w K mg base CX0 1 "same_bag" ["left", "right"] (spB2 fun a b => VametBase.sorted a == VametBase.sorted b) := by
  refine D.ok (k := 0) sc_same_bag spB2_len (fun _ _ _ _ _ _ => bind2 (fun _ _ => rfl) rfl) fun f cdv A outer s H vs Q E hr h => ?_
  obtain ⟨a, b, ns, ms, rfl, ha, hb, h1, h2, q⟩ := h
  refine ⟨_, pss_one (ps_ret (pe_cmpR (op_eqD hr.units) (pe_callB cr_sorted (by rfl) hs (by decide +kernel) (pa_cons (pv 0) pa_nil)) (pe_callB cr_sorted (by rfl) hs (by decide +kernel) (pa_cons (pv 1) pa_nil)) (nomark _))), ?_⟩
  refine ⟨_, rfl, a, ns, rfl, SqL.of ha, by omega, fun ns' p hp hr' hn => ⟨_, rfl, b, ms, rfl, SqL.of (by rw [upd_ne (ne_of_none hb hn)]; exact hb), by omega, fun ms' p2 hp2 hr2 hn2 => ?_⟩⟩
  have ne : p ≠ p2 := fun z => by rw [← z, upd_same] at hn2; cases hn2
  rw [Rm.sorted_eq hp hr', Rm.sorted_eq hp2 hr2] at *
  exact eq_rows (by rw [upd_ne ne, upd_same]) upd_same (q _ ((same_new hn).trans (same_new hn2)))
theorem ok_as_long (D : Df K mg "as_long" s_as_long) (hln : mg "len" = none) : Cal P w K mg base CX0 1 "as_long" ["left", "right"] (spB2 fun a b => a.length == b.length) := by
  refine D.ok (k := 0) sc_as_long spB2_len (fun _ _ _ _ _ _ => bind2 (fun _ _ => rfl) rfl) fun f cdv A outer s H vs Q E hr h => ?_
  obtain ⟨a, b, ns, ms, rfl, ha, hb, h1, h2, q⟩ := h
  refine ⟨_, pss_one (ps_ret (pe_cmpR op_eq (pe_callB call_len_seq (by rfl) hln PySem.boot_len (pa_cons (pv 0) pa_nil)) (pe_callB call_len_seq (by rfl) hln PySem.boot_len (pa_cons (pv 1) pa_nil)) (nomark _))), ?_⟩
  refine ⟨_, rfl, a, _, rfl, .inl (SqL.of ha), _, rfl, b, _, rfl, .inl (SqL.of hb), rfl, ?_⟩
  rw [List.length_map, List.length_map]
  have e : decide (V.int (ns.length : Nat) = V.int (ms.length : Nat)) = (ns.length == ms.length) := by
    refine Bool.eq_iff_iff.mpr ⟨fun h => ?_, fun h => ?_⟩
    · have h := of_decide_eq_true h
      injection h with h
      simpa using Int.ofNat.inj h
    · exact decide_eq_true (by rw [beq_iff_eq.mp h])
  rw [e]
  exact q _ (Same.refl _)
theorem ok_begins (D : Df K mg "begins" s_begins) (hln : mg "len" = none) : Cal P w K mg base CX0 1 "begins" ["left", "right"] (spB2 fun a b => a.isPrefixOf b) := by
  refine D.ok (k := 0) sc_begins spB2_len (fun _ _ _ _ _ _ => bind2 (fun _ _ => rfl) rfl) fun f cdv A outer s H vs Q E hr h => ?_
  obtain ⟨a, b, ns, ms, rfl, ha, hb, h1, h2, q⟩ := h
  refine ⟨_, pss_one (ps_ret (pe_cmpR (op_eqD hr.units) (pe_slice sl_list (pv 1) po_none (po_some (pe_callB call_len_seq (by rfl) hln PySem.boot_len (pa_cons (pv 0) pa_nil)))) (pv 0) (nomark _))), ?_⟩
  refine ⟨_, rfl, _, rfl, a, _, rfl, .inl (SqL.of ha), _, rfl, b, _, rfl, SqL.of hb, fun p hp => ⟨_, rfl, ?_⟩⟩
  have e : cutV (ms.map V.int) none (some ((ns.map V.int).length : Int)) = (ms.take ns.length).map V.int := by
    rw [cut_take (by omega), Int.toNat_natCast, List.length_map, List.map_take]
  refine eq_rows (ns := ms.take ns.length) (ms := ns) (by rw [upd_same, e]) (by rw [upd_ne (ne_of_none ha hp)]; exact ha) ?_
  have e2 : (ms.take ns.length == ns) = ns.isPrefixOf ms := by
    refine Bool.eq_iff_iff.mpr ⟨fun h => ?_, fun h => ?_⟩
    · rw [List.isPrefixOf_iff_prefix, ← beq_iff_eq.mp h]
      exact List.take_prefix _ _
    · rw [List.isPrefixOf_iff_prefix] at h
      exact beq_iff_eq.mpr (List.prefix_iff_eq_take.mp h).symm
  rw [e2]
  exact q _ (same_new hp)
theorem ok_same_numbers (D : Df K mg "same_numbers" s_same_numbers) (hst : mg "set" = none) : Cal P w K mg base CX0 1 "same_numbers" ["left", "right"] (spB2 fun a b => a.all b.contains && b.all a.contains) := by
  refine D.ok (k := 0) sc_same_numbers spB2_len (fun _ _ _ _ _ _ => bind2 (fun _ _ => rfl) rfl) fun f cdv A outer s H vs Q E hr h => ?_
  obtain ⟨a, b, ns, ms, rfl, ha, hb, h1, h2, q⟩ := h
  refine ⟨_, pss_one (ps_ret (pe_cmpR (op_eq_set hr.units0) (pe_callTy (call_set_ints rfl) (by rfl) hst (by decide +kernel) (pa_cons (pv 0) pa_nil)) (pe_callTy (call_set_ints rfl) (by rfl) hst (by decide +kernel) (pa_cons (pv 1) pa_nil)) (nomark _))), ?_⟩
  refine ⟨_, rfl, a, ns, rfl, SqL.of ha, by omega, fun p hp => ⟨_, rfl, b, ms, rfl, SqL.of (by rw [upd_ne (ne_of_none hb hp)]; exact hb), by omega, fun p2 hp2 => ?_⟩⟩
  have ne : p ≠ p2 := fun z => by rw [← z, upd_same] at hp2; cases hp2
  refine ⟨p, p2, _, _, _, _, rfl, rfl, by rw [upd_ne ne, upd_same], upd_same, fun r hr' => ?_⟩
  have e : r = (ns.all ms.contains && ms.all ns.contains) := by
    rw [dedup_once, dedup_once] at hr'
    have mem : ∀ (l : List Int) (k : Int), (l.any fun y => y == k) = true ↔ k ∈ l := fun l k => by simp
    have cont : ∀ (l m : List Int), l.all m.contains = true ↔ ∀ k ∈ l, k ∈ m := fun l m => by simp
    refine Bool.eq_iff_iff.mpr (hr'.trans ?_)
    rw [Bool.and_eq_true, cont, cont]
    constructor
    · rintro ⟨h3, h4⟩
      have h5 : ∀ k ∈ ns, k ∈ ms := fun k hk => (mem ms k).mp (h4 k ((mem ns k).mpr hk))
      exact ⟨h5, Rm.same_sets h3 h5⟩
    · rintro ⟨h3, h4⟩
      exact ⟨Rm.sets_len h3 h4, fun k hk => (mem ms k).mpr (h3 k ((mem ns k).mp hk))⟩
  rw [e]
  exact q _ ((same_new hp).trans (same_new hp2))
end
end Rh

end

-- part RhCount
section
set_option Elab.async false
set_option linter.all false
set_option maxRecDepth 100000
set_option maxHeartbeats 2000000
namespace Rh
open PySem PySem.Spec PyProof.Rows L2
theorem eqv_tups (ns ms : List Int) : PyData.eqv (.tuple (ns.map PyData.int)) (.tuple (ms.map PyData.int)) = (ns == ms) := by
  show PyData.eqvAll _ _ = _
  rw [eqvAll_ints]
  exact Bool.eq_iff_iff.mpr ⟨fun h => beq_iff_eq.mpr (of_decide_eq_true h), fun h => decide_eq_true (beq_iff_eq.mp h)⟩
theorem ints_inj : ∀ {ns ms : List Int}, ns.map V.int = ms.map V.int → ns = ms
  | [], [], _ => rfl
  | [], _ :: _, h => by cases h
  | _ :: _, [], h => by cases h
  | n :: ns, m :: ms, h => by
    injection h with h1 h2
    injection h1 with h1
    rw [h1, ints_inj h2]
section
variable {X : Cx}
open Classical in
theorem mt_countT (hu : X.A.units + 64 < cLine) : MtR X "list.count" (rCountT X.K) := by
  intro pins s σ H x xs v us Q I rx rxs h
  obtain ⟨a, b, ys, nss, ms, rfl, rfl, hs, hb, pr, q⟩ := h
  cases rx
  cases rxs with
  | cons ry rt =>
    cases rt
    cases ry
    obtain ⟨its, rv, ⟨⟨cls, dd, data, sl⟩, n, ho, hc, hdn, hd⟩, hlen⟩ := I.list hs
    simp only at hc hd
    subst hc hd
    let e : Value → Bool := fun y => decide (∃ c, y = .ref c ∧ SqT X.K H c (ms.map V.int))
    obtain ⟨bs, rb⟩ := Dp.reads I (.tuple (ms.map PyData.int)) (.ref b) (.ref b) (.tup hb (dp_ints ms)) rfl
    have lay : ∀ ns : List Int, PyData.canLay0 (.tuple (ns.map PyData.int)) = true := fun ns => lay_ints ns
    have key : ∀ {l : List V} {m : List Value} {k : List (List Int)}, Vals l m → Paired (fun y ns => ∃ c, y = V.ref c ∧ SqT X.K H c (ns.map V.int)) l k →
        (∀ u ∈ m, SeqAt.EqAt X.A.in1.in1 s u (.ref b) (e u)) ∧ (∀ u ∈ m, SeqAt.EqAt X.A.in1 s u (.ref b) (e u)) ∧ m.countP e = k.countP fun ns => ns == ms := by
      intro l m k r p
      induction p generalizing m with
      | nil => cases r; exact ⟨fun u z => absurd z (by simp), fun u z => absurd z (by simp), rfl⟩
      | cons h1 _ ih =>
        rename_i y ns l0 k0 _
        cases r with
        | cons r1 r2 =>
          rename_i u m0
          obtain ⟨c, rfl, hc⟩ := h1
          obtain rfl : u = Value.ref c := r1
          obtain ⟨i1, i2, i3⟩ := ih r2
          obtain ⟨as, ra⟩ := Dp.reads I (.tuple (ns.map PyData.int)) (.ref c) (.ref c) (.tup hc (dp_ints ns)) rfl
          have he : e (.ref c) = (ns == ms) := by
            refine Bool.eq_iff_iff.mpr ⟨fun z => ?_, fun z => ?_⟩
            · obtain ⟨c', ec, hc'⟩ := of_decide_eq_true z
              cases ec
              exact beq_iff_eq.mpr (ints_inj (I.tuple_inj hc hc'))
            · have z := beq_iff_eq.mp z
              subst z
              exact decide_eq_true ⟨c, rfl, hc⟩
          have d1 : PyData.depth (.tuple (ns.map PyData.int)) = 1 := by show PyData.depthAll _ + 1 = 1; rw [depth_ints]
          have one : ∀ A : Around, A.units + 8 < cLine → SeqAt.EqAt A s (.ref c) (.ref b) (e (.ref c)) := fun A hA => by
            rw [he, ← eqv_tups]
            exact SeqAt.eqAt_reads _ _ A s _ _ as bs ra rb (lay ns) (lay ms) (by rw [d1]; omega)
          refine ⟨fun u hu' => ?_, fun u hu' => ?_, ?_⟩
          · rcases List.mem_cons.mp hu' with rfl | z
            · exact one _ (by show X.A.units + 1 + 1 + 8 < _; omega)
            · exact i1 u z
          · rcases List.mem_cons.mp hu' with rfl | z
            · exact one _ (by show X.A.units + 1 + 8 < _; omega)
            · exact i2 u z
          · rw [List.countP_cons, List.countP_cons, i3, he]
    obtain ⟨k1, k2, k3⟩ := key rv pr
    refine call_meets PySem.F.slot_list_count ⟨_, ho, rfl⟩ PySem.F.entry_list_count (PySem.F.args_list_count_2 _ _)
      (SeqAt.list_countAt a its.toArray n dd sl (.ref b) e) ⟨ho, fun u' hu' => (by first | exact k2 u' (by simpa using hu') | exact k1 u' (by simpa using hu')), ?_⟩
    exact ⟨.int _, H, I.tok _, ⟨_, by rw [← k3]⟩, q⟩
end
end Rh

end

-- part RhRel2
section
set_option Elab.async false
set_option linter.all false
set_option maxRecDepth 100000
set_option maxHeartbeats 2000000
namespace Rh
open PySem PySem.Spec PyProof.Rows L2
theorem bind3 {fd : FuncData} {ps : List Str} (h : ∀ a b c : Value, bindArgs fd ⟨[a, b, c], []⟩ = pure (ps.zip [a, b, c])) (hp : ps.length = 3) : ∀ us : List Value, us.length = ps.length → bindArgs fd ⟨us, []⟩ = pure (ps.zip us) := fun us hl => by
  match us, hl.trans hp with
  | [a, b, c], _ => exact h a b c
section
variable {P : Program} {w : World} {K : PySem.W.Frag} {mg : Str → Option Value} {base : Heap}
theorem ok_at_most (D : Df K mg "at_most" s_at_most) (hzp : mg "zip" = none) (hall : mg "all" = none) (cl : Cal P w K mg base CX0 1 "as_long" ["left", "right"] (spB2 fun a b => a.length == b.length)) :
    Cal P w K mg base CX0 2 "at_most" ["left", "right"] (spB2 fun a b => a.length == b.length && (a.zip b).all fun x => decide (x.1 ≤ x.2)) := by
  refine D.ok (k := 1) sc_at_most spB2_len (fun _ _ _ _ _ _ => bind2 (fun _ _ => rfl) rfl) fun f cdv A outer s H vs Q E hr h => ?_
  obtain ⟨a, b, ns, ms, rfl, ha, hb, h1, h2, q⟩ := h
  refine ⟨_, pss_one (ps_ret (pe_and (pe_callC cl hr rfl pass0 (pa_cons (pv 0) (pa_cons (pv 1) pa_nil))) (pe_one (pe_callB (cr_all rfl) (by rfl) hall (by decide +kernel) (pa_cons
    (pe_lc (own := [("first", 2), ("second", 3)]) (g := gTup K 2 (gCons (gName 2) (gCons (gName 3) gNil))) rfl sc_at_most.nd (pi_zip rfl hzp (pa_cons (pv 0) (pa_cons (pv 1) pa_nil)))
    (blkOk_by (own := [("first", 2), ("second", 3)]) (N := n_at_most) (sc := defScope s_at_most) (by decide +kernel)) (fun _ _ _ _ _ => pg_tup (by rfl) (pgs_cons (pg_name (i := 2) sc_at_most.nd rfl (Or.inl rfl)) (pgs_cons (pg_name (i := 3) sc_at_most.nd rfl (Or.inl rfl)) pgs_nil))) (fun _ _ _ _ _ => pts_nil)
    (fun _ _ _ _ _ => pe_cmpR op_le (pv 2) (pv 3) (nomark _))) pa_nil))))), ?_⟩
  refine ⟨_, rfl, _, rfl, a, b, ns, ms, rfl, ha, hb, h1, h2, fun H1 s1 => ⟨_, rfl, ?_⟩⟩
  dsimp only at q
  refine ite2 (fun hl => ?_) fun hl => ?_
  rotate_left
  · have hl : (ns.length == ms.length) = false := Bool.eq_false_iff.mpr hl
    rw [hl] at q
    exact q _ s1
  · have hl : (ns.length == ms.length) = true := hl
    rw [hl] at q
    refine ⟨_, rfl, _, rfl, a, b, _, _, rfl, SqL.of (s1 _ _ ha), SqL.of (s1 _ _ hb), fun D0 hD => ?_⟩
    refine lc_zip (K := K) (a := a) (b := b) (xs := ns.map V.int) (ys := ms.map V.int) (fun i H' => Same H1 H' ∧ H' D0 = some (.lst ((((ns.zip ms).map fun x => decide (x.1 ≤ x.2)).take i).map V.bl)))
      ⟨same_new hD, upd_same⟩ (fun i H' _ ⟨sm, _⟩ => ⟨SqL.of (sm _ _ (s1 _ _ ha)), SqL.of (sm _ _ (s1 _ _ hb))⟩) ?_ ?_
    · rintro i x y H' T hx hy ⟨sm, h3⟩ hT
      obtain ⟨z1, hz1, rfl⟩ := int_at hx
      obtain ⟨z2, hz2, rfl⟩ := int_at hy
      refine ⟨T, _, rfl, SqT.of upd_same, rfl, _, _, rfl, _, _, rfl, rfl, ?_⟩
      have hTD : D0 ≠ T := fun z => by rw [z, hT] at h3; cases h3
      refine ⟨rfl, _, rfl, _, rfl, _, _, rfl, rfl, _, by rw [upd_ne hTD]; exact h3, ?_, ?_, ?_⟩
      · rw [List.length_map, List.length_take, List.length_map, List.length_zip]
        exact short_line (by omega)
      · exact same_put ((sm.trans (same_new hT))) hD
      · rw [upd_same]
        have hzz : ((ns.zip ms).map fun x => decide (x.1 ≤ x.2))[i]? = some (decide (z1 ≤ z2)) := by
          rw [List.getElem?_map, List.getElem?_zip_eq_some (z := (z1, z2)) |>.mpr ⟨hz1, hz2⟩]
          rfl
        rw [take_snoc hzz, List.map_append]
        rfl
    · rintro H' ⟨sm, h3⟩
      rw [List.take_of_length_le (by simp)] at h3
      refine ⟨D0, _, rfl, SqL.of h3, ?_⟩
      have e : ((ns.zip ms).map fun x => decide (x.1 ≤ x.2)).all id = (ns.zip ms).all fun x => decide (x.1 ≤ x.2) := by rw [List.all_map]; rfl
      rw [e]
      exact q _ (s1.trans sm)
theorem zip_swap (p : Int → Int → Bool) : ∀ (a b : List Int), (a.zip b).all (fun x => p x.1 x.2) = (b.zip a).all fun x => p x.2 x.1
  | [], [] => rfl
  | [], _ :: _ => rfl
  | _ :: _, [] => rfl
  | x :: a, y :: b => by
    rw [List.zip_cons_cons, List.zip_cons_cons, List.all_cons, List.all_cons, zip_swap p a b]
theorem ok_at_least (D : Df K mg "at_least" s_at_least) (cm : Cal P w K mg base CX0 2 "at_most" ["left", "right"] (spB2 fun a b => a.length == b.length && (a.zip b).all fun x => decide (x.1 ≤ x.2))) :
    Cal P w K mg base CX0 3 "at_least" ["left", "right"] (spB2 fun a b => a.length == b.length && (a.zip b).all fun x => decide (x.2 ≤ x.1)) := by
  refine D.ok (k := 2) sc_at_least spB2_len (fun _ _ _ _ _ _ => bind2 (fun _ _ => rfl) rfl) fun f cdv A outer s H vs Q E hr h => ?_
  obtain ⟨a, b, ns, ms, rfl, ha, hb, h1, h2, q⟩ := h
  refine ⟨_, pss_one (ps_ret (pe_callC cm hr rfl pass0 (pa_cons (pv 1) (pa_cons (pv 0) pa_nil)))), ?_⟩
  refine ⟨_, rfl, _, rfl, b, a, ms, ns, rfl, hb, ha, h2, h1, fun H1 s1 => ?_⟩
  have e : (ms.length == ns.length && (ms.zip ns).all fun x => decide (x.1 ≤ x.2)) = (ns.length == ms.length && (ns.zip ms).all fun x => decide (x.2 ≤ x.1)) := by
    rw [zip_swap (fun x y => decide (x ≤ y)) ms ns]
    congr 1
    exact Bool.eq_iff_iff.mpr ⟨fun h => by simpa using (eq_of_beq h).symm, fun h => by simpa using (eq_of_beq h).symm⟩
  dsimp only
  rw [e]
  exact q _ s1
/-- a tuple of defs at the top -/
def TTab (K : PySem.W.Frag) (mg : Str → Option Value) (x : Str) (ns : List Str) : Prop :=
  ∃ a vs, mg x = some (.ref a) ∧ (∀ H, SqT K H a vs) ∧ Paired (fun (v : V) (y : Str) => ∃ f, mg y = some (.ref f) ∧ v = .ref f) vs ns
theorem ttab_at {mg : Str → Option Value} {vs : List V} {ns : List Str} {i : Nat} {x : Str} (p : Paired (fun (v : V) (y : Str) => ∃ f, mg y = some (.ref f) ∧ v = .ref f) vs ns) (h : ns[i]? = some x) : ∃ f, mg x = some (.ref f) ∧ atI vs (i : Int) = some (.ref f) := by
  have hl := Paired.length p
  have hi : i < vs.length := by rw [hl]; exact (List.getElem?_eq_some_iff.mp h).1
  obtain ⟨y, h1, ⟨f, h2, h3⟩, _⟩ := paired_get p (List.getElem?_eq_getElem hi)
  rw [h] at h1
  cases h1
  exact ⟨f, h2, atI_nat (by rw [List.getElem?_eq_getElem hi, h3])⟩
def condKind : VametBase.Cond → Nat
  | .any => 0 | .some => 1 | .rising => 2 | .plus => 3 | .unlike => 4 | .atLeast _ => 5
def condArg : VametBase.Cond → Nat
  | .atLeast k => k | _ => 0
/-- a condition stands at v -/
def CondAt (H : Hp) (v : V) (c : VametBase.Cond) : Prop := ∃ a, v = .ref a ∧ H a = some (.tup [.int (condKind c : Nat), .int (condArg c : Nat)])
theorem CondAt.same {H H' : Hp} {v : V} {c : VametBase.Cond} (s : Same H H') (r : CondAt H v c) : CondAt H' v c := let ⟨a, e, h⟩ := r; ⟨a, e, s _ _ h⟩
theorem SqL_same {K : PySem.W.Frag} {H H' : Hp} {a : Addr} {xs : List V} (s : Same H H') (h : SqL K H a xs) : SqL K H' a xs :=
  h.elim (fun r => .inl (r.elim (fun e => .inl (s _ _ e)) fun ⟨o, e⟩ => .inr ⟨o, s _ _ e⟩)) .inr
theorem SqT_same {K : PySem.W.Frag} {H H' : Hp} {a : Addr} {xs : List V} (s : Same H H') (h : SqT K H a xs) : SqT K H' a xs :=
  h.elim (fun r => .inl (r.elim (fun e => .inl (s _ _ e)) fun ⟨o, e⟩ => .inr ⟨o, s _ _ e⟩)) .inr
/-- a condition stands at v, one of the object's or one of the top's -/
def CondK (K : PySem.W.Frag) (H : Hp) (v : V) (c : VametBase.Cond) : Prop := ∃ a, v = .ref a ∧ SqT K H a [.int (condKind c : Nat), .int (condArg c : Nat)]
theorem CondK.same {K : PySem.W.Frag} {H H' : Hp} {v : V} {c : VametBase.Cond} (s : Same H H') (r : CondK K H v c) : CondK K H' v c := let ⟨a, e, h⟩ := r; ⟨a, e, SqT_same s h⟩
theorem CondAt.k {K : PySem.W.Frag} {H : Hp} {v : V} {c : VametBase.Cond} (r : CondAt H v c) : CondK K H v c := let ⟨a, e, h⟩ := r; ⟨a, e, SqT.of h⟩
abbrev tabC : List Str := ["always", "has_numbers", "is_rising", "none_below_zero", "none_twice"]
abbrev tabR : List Str := ["equal", "same_bag", "same_numbers", "at_most", "at_least", "begins", "as_long"]
end
section
variable (P : Program) (w : World) (K : PySem.W.Frag) (mg : Str → Option Value) (base : Heap)
structure Conds : Prop where
  any : Cal P w K mg base CX0 1 "always" ["row"] (spB fun _ => true)
  some : Cal P w K mg base CX0 1 "has_numbers" ["row"] (spB fun l => !l.isEmpty)
  rising : Cal P w K mg base CX0 1 "is_rising" ["row"] (spB VametBase.rises)
  plus : Cal P w K mg base CX0 1 "none_below_zero" ["row"] (spB fun l => l.all fun x => decide (0 ≤ x))
  unlike : Cal P w K mg base CX0 1 "none_twice" ["row"] (spB fun l => (VametBase.onceOnly l).length == l.length)
structure Rels : Prop where
  equal : Cal P w K mg base CX0 1 "equal" ["left", "right"] (spB2 fun a b => a == b)
  bag : Cal P w K mg base CX0 1 "same_bag" ["left", "right"] (spB2 fun a b => VametBase.sorted a == VametBase.sorted b)
  numbers : Cal P w K mg base CX0 1 "same_numbers" ["left", "right"] (spB2 fun a b => a.all b.contains && b.all a.contains)
  most : Cal P w K mg base CX0 2 "at_most" ["left", "right"] (spB2 fun a b => a.length == b.length && (a.zip b).all fun x => decide (x.1 ≤ x.2))
  least : Cal P w K mg base CX0 3 "at_least" ["left", "right"] (spB2 fun a b => a.length == b.length && (a.zip b).all fun x => decide (x.2 ≤ x.1))
  begins : Cal P w K mg base CX0 1 "begins" ["left", "right"] (spB2 fun a b => a.isPrefixOf b)
  long : Cal P w K mg base CX0 1 "as_long" ["left", "right"] (spB2 fun a b => a.length == b.length)
end
section
variable {P : Program} {w : World} {K : PySem.W.Frag} {mg : Str → Option Value} {base : Heap}
def spSo (K : PySem.W.Frag) : Sp := fun vs H Q _ => ∃ v c a ns, vs = [v, .ref a] ∧ CondK K H v c ∧ H a = some (.lst (ns.map V.int)) ∧ ns.length ≤ 40 ∧ ∀ H', Same H H' → Q (.bl (VametBase.fitsCond c ns)) H'
theorem ok_is_so (D : Df K mg "is_so" s_is_so) (hln : mg "len" = none) (g1 : ∃ t, mg "SO_MANY" = some (.int 5 t)) (S : Conds P w K mg base) (tC : TTab K mg "PLAIN_CONDITIONS" tabC) : Cal P w K mg base CX0 2 "is_so" ["condition", "row"] (spSo K) := by
  obtain ⟨aC, lC, mC, dC, pC⟩ := tC
  refine D.ok (k := 1) sc_is_so (fun vs H Q E h => by obtain ⟨v, s, a, ns, rfl, _⟩ := h; rfl) (fun _ _ _ _ _ _ => bind2 (fun _ _ => rfl) rfl) fun f cdv A outer s0 H vs Q E hr h => ?_
  obtain ⟨v, c, a, ns, rfl, ⟨t, rfl, ht⟩, ha, hl, q⟩ := h
  refine ⟨_, pss_cons (ps_if (pt_cmpR op_eq (pe_ix ix_tup (pv 0) pe_int (fun _ _ => rfl)) (pe_gint rfl g1) (nomark _)) (pss_one (ps_ret (pe_cmpR op_ge (pe_callB call_len_seq (by rfl) hln PySem.boot_len (pa_cons (pv 1) pa_nil)) (pe_ix ix_tup (pv 0) pe_int (fun _ _ => rfl)) (nomark _)))) pss_nil)
    (pss_one (ps_ret (pe_callE (pe_ix ix_tup (pe_gref rfl mC) (pe_ix ix_tup (pv 0) pe_int (fun _ _ => rfl)) (fun _ _ => rfl)) (pa_cons (pv 1) pa_nil)))), ?_⟩
  have i0 : atI [V.int (condKind c : Nat), V.int (condArg c : Nat)] 0 = some (.int (condKind c : Nat)) := atI_nat (j := 0) rfl
  have i1 : atI [V.int (condKind c : Nat), V.int (condArg c : Nat)] 1 = some (.int (condArg c : Nat)) := atI_nat (j := 1) rfl
  refine ⟨_, rfl, t, _, _, _, rfl, rfl, ht, i0, rfl, _, rfl, ?_⟩
  have plain : ∀ {x : Str} {g : List Int → Bool}, Cal P w K mg base CX0 1 x ["row"] (spB g) → tabC[condKind c]? = some x → g ns = VametBase.fitsCond c ns →
      tRet (tCallE (cxOf CX0 P w K mg base n_is_so "is_so" (defScope s_is_so) f cdv A outer s0 H E).nox (tOp (rIxT K) (L2.tC (.ref aC)) (tOp (rIxT K) (tVar 0) (L2.tC (.int 0)))) (tCons (tVar 1) tNil)) { nx := fun _ H' => Q .non H', rt := Q } (L2.start n_is_so [.ref t, .ref a]) H := fun {x g} cc e he => by
    obtain ⟨f1, m1, e1⟩ := ttab_at pC e
    refine ⟨_, rfl, t, _, _, _, rfl, rfl, ht, i0, aC, _, _, _, rfl, rfl, dC H, e1, callE_of (X := (cxOf CX0 P w K mg base n_is_so "is_so" (defScope s_is_so) f cdv A outer s0 H E).nox) cc m1 hr pass0 ?_⟩
    exact ⟨_, rfl, a, ns, rfl, ha, hl, fun H' sm => by rw [he]; exact q _ sm⟩
  cases c with
  | any => exact iteF (plain S.any rfl rfl)
  | some => exact iteF (plain S.some rfl rfl)
  | rising => exact iteF (plain S.rising rfl rfl)
  | plus => exact iteF (plain S.plus rfl rfl)
  | unlike => exact iteF (plain S.unlike rfl rfl)
  | atLeast k =>
    refine iteT ⟨_, rfl, a, _, rfl, .inl (SqL.of ha), _, rfl, t, _, _, _, rfl, rfl, ht, i1, _, _, rfl, rfl, ?_⟩
    rw [List.length_map]
    have e : decide (((condArg (.atLeast k) : Nat) : Int) ≤ (ns.length : Int)) = VametBase.fitsCond (.atLeast k) ns := by
      show decide ((k : Int) ≤ (ns.length : Int)) = decide (k ≤ ns.length)
      exact decide_eq_decide.mpr (by omega)
    rw [← e] at q
    exact q _ (Same.refl _)
def spStands : Sp := fun vs H Q _ => ∃ r a b ns ms, vs = [.int (VametBase.relNumber r), .ref a, .ref b] ∧ H a = some (.lst (ns.map V.int)) ∧ H b = some (.lst (ms.map V.int)) ∧ ns.length ≤ 40 ∧ ms.length ≤ 40 ∧ ∀ H', Same H H' → Q (.bl (VametBase.stands r ns ms)) H'
theorem ok_stands (D : Df K mg "stands" s_stands) (S : Rels P w K mg base) (tR : TTab K mg "WAYS" tabR) : Cal P w K mg base CX0 4 "stands" ["way", "left", "right"] spStands := by
  obtain ⟨aC, lC, mC, dC, pC⟩ := tR
  refine D.ok (k := 3) sc_stands (fun vs H Q E h => by obtain ⟨r, a, b, ns, ms, rfl, _⟩ := h; rfl) (fun _ _ _ _ _ _ => bind3 (fun _ _ _ => rfl) rfl) fun f cdv A outer s0 H vs Q E hr h => ?_
  obtain ⟨r, a, b, ns, ms, rfl, ha, hb, h1, h2, q⟩ := h
  refine ⟨_, pss_one (ps_ret (pe_callE (pe_ix ix_tup (pe_gref rfl mC) (pv 0) (fun _ _ => rfl)) (pa_cons (pv 1) (pa_cons (pv 2) pa_nil)))), ?_⟩
  have plain : ∀ {x : Str} {g : List Int → List Int → Bool} {k i : Nat}, Cal P w K mg base CX0 k x ["left", "right"] (spB2 g) → k ≤ 3 → VametBase.relNumber r = (i : Int) → tabR[i]? = some x → g ns ms = VametBase.stands r ns ms →
      tRet (tCallE (cxOf CX0 P w K mg base n_stands "stands" (defScope s_stands) f cdv A outer s0 H E).nox (tOp (rIxT K) (L2.tC (.ref aC)) (tVar 0)) (tCons (tVar 1) (tCons (tVar 2) tNil))) { nx := fun _ H' => Q .non H', rt := Q } (L2.start n_stands [.int (VametBase.relNumber r), .ref a, .ref b]) H := fun {x g k i} cc hk ei e he => by
    obtain ⟨f1, m1, e1⟩ := ttab_at pC e
    refine ⟨_, rfl, aC, _, _, _, rfl, rfl, dC H, by rw [ei]; exact e1, callE_of (X := (cxOf CX0 P w K mg base n_stands "stands" (defScope s_stands) f cdv A outer s0 H E).nox) cc m1 (hr.mono hk) pass0 ?_⟩
    exact ⟨_, rfl, _, rfl, a, b, ns, ms, rfl, ha, hb, h1, h2, fun H' sm => by rw [he]; exact q _ sm⟩
  cases r with
  | equal => exact plain (i := 0) S.equal (by decide) rfl rfl rfl
  | bag => exact plain (i := 1) S.bag (by decide) rfl rfl rfl
  | numbers => exact plain (i := 2) S.numbers (by decide) rfl rfl rfl
  | most => exact plain (i := 3) S.most (by decide) rfl rfl rfl
  | least => exact plain (i := 4) S.least (by decide) rfl rfl rfl
  | begins => exact plain (i := 5) S.begins (by decide) rfl rfl rfl
  | long => exact plain (i := 6) S.long (by decide) rfl rfl rfl
end
end Rh

end

-- part RhRel3
section
set_option Elab.async false
set_option linter.all false
set_option maxRecDepth 100000
set_option maxHeartbeats 2000000
namespace Rh
open PySem PySem.Spec PyProof.Rows L2
structure ClsR (K : PySem.W.Frag) (C : Addr) : Prop where
  cl : Cls K C
  n1 : NoAttr K C "condition"
  n2 : NoAttr K C "before"
  n3 : NoAttr K C "way"
  n4 : NoAttr K C "after"
def fsR (c b : V) (r : Int) (a : V) : List (Str × V) := [("condition", c), ("before", b), ("way", .int r), ("after", a)]
/-- a relation stands at v -/
def RelAt (C : Addr) (H : Hp) (v : V) (r : VametBase.Relation) : Prop := ∃ a dx vc vb va, v = .ref a ∧ H a = some (.ins C dx (fsR vc vb (VametBase.relNumber r.rel) va)) ∧ CondAt H vc r.cond ∧ ProgAt H vb r.input ∧ ProgAt H va r.output
theorem RelAt.same {C : Addr} {H H' : Hp} {v : V} {r : VametBase.Relation} (s : Same H H') (h : RelAt C H v r) : RelAt C H' v r :=
  let ⟨a, dx, vc, vb, va, e, h1, h2, h3, h4⟩ := h; ⟨a, dx, vc, vb, va, e, s _ _ h1, h2.same s, h3.same s, h4.same s⟩
/-- a relation whose condition may be one of the top's -/
def RelK (K : PySem.W.Frag) (C : Addr) (H : Hp) (v : V) (r : VametBase.Relation) : Prop := ∃ a dx vc vb va, v = .ref a ∧ H a = some (.ins C dx (fsR vc vb (VametBase.relNumber r.rel) va)) ∧ CondK K H vc r.cond ∧ ProgAt H vb r.input ∧ ProgAt H va r.output
theorem RelK.same {K : PySem.W.Frag} {C : Addr} {H H' : Hp} {v : V} {r : VametBase.Relation} (s : Same H H') (h : RelK K C H v r) : RelK K C H' v r :=
  let ⟨a, dx, vc, vb, va, e, h1, h2, h3, h4⟩ := h; ⟨a, dx, vc, vb, va, e, s _ _ h1, h2.same s, h3.same s, h4.same s⟩
theorem RelAt.k {K : PySem.W.Frag} {C : Addr} {H : Hp} {v : V} {r : VametBase.Relation} (h : RelAt C H v r) : RelK K C H v r :=
  let ⟨a, dx, vc, vb, va, e, h1, h2, h3, h4⟩ := h; ⟨a, dx, vc, vb, va, e, h1, h2.k, h3, h4⟩
/-- both sides stand at v, None where there are none -/
def SidesAt (H : Hp) (v : V) : Option VametBase.Sides → Prop
  | none => v = .non
  | some s => ∃ b l r, v = .ref b ∧ H b = some (.tup [.ref l, .ref r]) ∧ H l = some (.lst (s.left.map V.int)) ∧ H r = some (.lst (s.right.map V.int)) ∧ s.left.length ≤ 40 ∧ s.right.length ≤ 40
theorem SidesAt.same {H H' : Hp} {v : V} {o : Option VametBase.Sides} (sm : Same H H') (h : SidesAt H v o) : SidesAt H' v o := by
  cases o with
  | none => exact h
  | some s =>
    obtain ⟨b, l, r, e, h1, h2, h3, h4⟩ := h
    exact ⟨b, l, r, e, sm _ _ h1, sm _ _ h2, sm _ _ h3, h4⟩
/-- both sides, whatever the condition -/
def sides0 (f : VametBase.Program) (r : VametBase.Relation) (x : List Int) : Option VametBase.Sides :=
  ((VametBase.run r.input x).bind (VametBase.run f)).bind fun v => ((VametBase.run f x).bind (VametBase.run r.output)).map fun z => ⟨v, z⟩
theorem sides_eq (f : VametBase.Program) (r : VametBase.Relation) (x : List Int) : VametBase.sides f r x = if VametBase.fitsCond r.cond x then sides0 f r x else none := by
  unfold VametBase.sides sides0
  cases VametBase.fitsCond r.cond x with
  | false => rfl
  | true =>
    cases h1 : VametBase.run f x with
    | none =>
      simp only [Bool.not_true, Bool.false_eq_true, if_false, if_true, Option.bind_none, Option.map_none]
      cases (VametBase.run r.input x).bind (VametBase.run f) <;> rfl
    | some y =>
      cases h2 : VametBase.run r.input x with
      | none => simp
      | some u =>
        cases h3 : VametBase.run f u with
        | none => simp [h3]
        | some v => simp [h3]
section
variable {P : Program} {w : World} {K : PySem.W.Frag} {mg : Str → Option Value} {base : Heap} {C : Addr}
def spBoth : Sp := fun vs H Q _ => ∃ v1 v2 p1 p2 a ns, vs = [v1, v2, .ref a] ∧ ProgAt H v1 p1 ∧ ProgAt H v2 p2 ∧ H a = some (.lst (ns.map V.int)) ∧ ns.length ≤ 40 ∧ ∀ H' v', Same H H' → OutAt H' v' ((VametBase.run p1 ns).bind (VametBase.run p2)) → Q v' H'
theorem ok_run_both (D : Df K mg "run_both" s_run_both) (cr : Cal P w K mg base CX0 3 "run" ["program", "row"] spRun) : Cal P w K mg base CX0 4 "run_both" ["first", "second", "row"] spBoth := by
  refine D.ok (k := 3) sc_run_both (fun vs H Q E h => by obtain ⟨v1, v2, p1, p2, a, ns, rfl, _⟩ := h; rfl) (fun _ _ _ _ _ _ => bind3 (fun _ _ _ => rfl) rfl) fun f cdv A outer s0 H vs Q E hr h => ?_
  obtain ⟨v1, v2, p1, p2, a, ns, rfl, h1, h2, ha, hl, q⟩ := h
  refine ⟨_, pss_cons (ps_set (i := 3) sc_run_both.nd rfl (Or.inl rfl) (pe_callC cr hr rfl pass0 (pa_cons (pv 0) (pa_cons (pv 2) pa_nil))))
    (pss_one (ps_ret (pe_ifExp (pt_cmp (pc_isN (pv 3))) pe_non (pe_callC cr hr rfl pass0 (pa_cons (pv 1) (pa_cons (pv 3) pa_nil)))))), ?_⟩
  refine ⟨_, rfl, _, rfl, v1, p1, a, ns, rfl, h1, ha, hl, fun H1 v' s1 o1 => ?_⟩
  refine ⟨_, rfl, _, rfl, ?_⟩
  cases hrun : VametBase.run p1 ns with
  | none =>
    rw [hrun] at o1 q
    have o1 : v' = .non := o1
    subst o1
    exact iteT (q _ _ s1 rfl)
  | some m =>
    rw [hrun] at o1 q
    obtain ⟨⟨b, rfl, hb⟩, hm⟩ := o1
    refine iteF ⟨_, rfl, _, rfl, v2, p2, b, m, rfl, h2.same s1, hb, hm, fun H2 v2 s2 o2 => q _ _ (s1.trans s2) o2⟩
def spSides (K : PySem.W.Frag) (C : Addr) : Sp := fun vs H Q _ => ∃ v1 v2 p r a ns, vs = [v1, v2, .ref a] ∧ ProgAt H v1 p ∧ RelK K C H v2 r ∧ H a = some (.lst (ns.map V.int)) ∧ ns.length ≤ 40 ∧ ∀ H' v', Same H H' → SidesAt H' v' (sides0 p r ns) → Q v' H'
theorem ok_sides (D : Df K mg "sides" s_sides) (T : ClsR K C) (cb : Cal P w K mg base CX0 4 "run_both" ["first", "second", "row"] spBoth) : Cal P w K mg base CX0 5 "sides" ["program", "relation", "row"] (spSides K C) := by
  refine D.ok (k := 4) sc_sides (fun vs H Q E h => by obtain ⟨v1, v2, p1, p2, a, ns, rfl, _⟩ := h; rfl) (fun _ _ _ _ _ _ => bind3 (fun _ _ _ => rfl) rfl) fun f cdv A outer s0 H vs Q E hr h => ?_
  obtain ⟨v1, v2, p, r, a, ns, rfl, h1, ⟨ar, dx, vc, vb, va, rfl, har, hc, hb, haf⟩, ha, hl, q⟩ := h
  refine ⟨_, pss_cons (ps_set (i := 3) sc_sides.nd rfl (Or.inl rfl) (pe_callC cb hr rfl pass0 (pa_cons (pe_fld (pv 1) rfl) (pa_cons (pv 0) (pa_cons (pv 2) pa_nil)))))
    (pss_cons (ps_if (pt_cmp (pc_isN (pv 3))) (pss_one (ps_ret pe_non)) pss_nil)
    (pss_cons (ps_set (i := 4) sc_sides.nd rfl (Or.inl rfl) (pe_callC cb hr rfl pass0 (pa_cons (pv 0) (pa_cons (pe_fld (pv 1) rfl) (pa_cons (pv 2) pa_nil)))))
    (pss_one (ps_ret (pe_ifExp (pt_cmp (pc_isN (pv 4))) pe_non (pe_tup (pa_cons (pv 3) (pa_cons (pv 4) pa_nil)))))))), ?_⟩
  refine ⟨_, rfl, ar, C, dx, _, _, rfl, har, T.cl, T.n2, rfl, _, rfl, _, rfl, vb, v1, _, p, a, ns, rfl, hb, h1, ha, hl, fun H1 v' s1 o1 => ?_⟩
  refine ⟨_, rfl, _, rfl, ?_⟩
  unfold sides0 at q
  cases hrun : (VametBase.run r.input ns).bind (VametBase.run p) with
  | none =>
    rw [hrun] at o1 q
    have o1 : v' = .non := o1
    subst o1
    exact iteT (q _ _ s1 rfl)
  | some m =>
    rw [hrun] at o1 q
    obtain ⟨⟨b, rfl, hb2⟩, hm⟩ := o1
    refine iteF ?_
    refine ⟨_, rfl, _, rfl, ar, C, dx, _, _, rfl, s1 _ _ har, T.cl, T.n4, rfl, _, rfl, v1, va, p, _, a, ns, rfl, h1.same s1, haf.same s1, s1 _ _ ha, hl, fun H2 v2 s2 o2 => ?_⟩
    refine ⟨_, rfl, _, rfl, ?_⟩
    cases hrun2 : (VametBase.run p ns).bind (VametBase.run r.output) with
    | none =>
      rw [hrun2] at o2 q
      have o2 : v2 = .non := o2
      subst o2
      exact iteT (q _ _ (s1.trans s2) rfl)
    | some m2 =>
      rw [hrun2] at o2 q
      obtain ⟨⟨b2, rfl, hb3⟩, hm2⟩ := o2
      refine iteF ⟨_, rfl, _, rfl, (by show 2 ≤ sizeLine; decide), fun t ht => q _ _ ((s1.trans s2).trans (same_new ht)) ?_⟩
      exact ⟨t, b, b2, rfl, upd_same, by rw [upd_ne (ne_of_same s2 hb2 ht)]; exact s2 _ _ hb2, by rw [upd_ne (ne_of_none hb3 ht)]; exact hb3, hm, hm2⟩
def spJudged (K : PySem.W.Frag) (C : Addr) : Sp := fun vs H Q _ => ∃ v1 v2 p r a ns, vs = [v1, v2, .ref a] ∧ ProgAt H v1 p ∧ RelK K C H v2 r ∧ H a = some (.lst (ns.map V.int)) ∧ ns.length ≤ 40 ∧
  ∀ H' t w', Same H H' → H' t = some (.tup [.int (VametBase.verdictNumber (VametBase.verdict p r ns)), w']) → SidesAt H' w' (VametBase.sides p r ns) → Q (.ref t) H'
theorem ok_judged (D : Df K mg "judged" s_judged) (T : ClsR K C) (g0 : ∃ t, mg "KEPT" = some (.int 0 t)) (g1 : ∃ t, mg "BROKEN" = some (.int 1 t)) (g2 : ∃ t, mg "OFF" = some (.int 2 t)) (cs : Cal P w K mg base CX0 5 "sides" ["program", "relation", "row"] (spSides K C))
    (ci : Cal P w K mg base CX0 2 "is_so" ["condition", "row"] (spSo K)) (ct : Cal P w K mg base CX0 4 "stands" ["way", "left", "right"] spStands) : Cal P w K mg base CX0 6 "judged" ["program", "relation", "row"] (spJudged K C) := by
  refine D.ok (k := 5) sc_judged (fun vs H Q E h => by obtain ⟨v1, v2, p1, p2, a, ns, rfl, _⟩ := h; rfl) (fun _ _ _ _ _ _ => bind3 (fun _ _ _ => rfl) rfl) fun f cdv A outer s0 H vs Q E hr h => ?_
  obtain ⟨v1, v2, p, r, a, ns, rfl, h1, hR, ha, hl, q⟩ := h
  obtain ⟨ar, dx, vc, vb, va, rfl, har, hc, hb, haf⟩ := id hR
  refine ⟨_, pss_cons (ps_set (i := 3) sc_judged.nd rfl (Or.inl rfl) (pe_ifExp (pt_val (pe_callC ci (hr.mono (by decide)) rfl pass0 (pa_cons (pe_fld (pv 1) rfl) (pa_cons (pv 2) pa_nil)))) (pe_callC cs hr rfl pass0 (pa_cons (pv 0) (pa_cons (pv 1) (pa_cons (pv 2) pa_nil)))) pe_non))
    (pss_cons (ps_if (pt_cmp (pc_isN (pv 3))) (pss_one (ps_ret (pe_tup (pa_cons (pe_gint rfl g2) (pa_cons pe_non pa_nil))))) pss_nil)
    (pss_one (ps_ret (pe_tup (pa_cons (pe_ifExp (pt_val (pe_callC ct (hr.mono (by decide)) rfl pass0 (pa_cons (pe_fld (pv 1) rfl) (pa_cons (pe_ix ix_tup (pv 3) pe_int (fun _ _ => rfl)) (pa_cons (pe_ix ix_tup (pv 3) pe_int (fun _ _ => rfl)) pa_nil))))) (pe_gint rfl g0) (pe_gint rfl g1)) (pa_cons (pv 3) pa_nil)))))), ?_⟩
  -- behind the first statement
  have rest : ∀ (H1 : Hp) (v' : V), Same H H1 → SidesAt H1 v' (VametBase.sides p r ns) →
      tSeq (tIfS (tB (tIsN (tVar 3))) (tRet (tTup (tCons (L2.tC (.int 2)) (tCons (L2.tC .non) tNil)))) tNext)
        (tRet (tTup (tCons (tIf (tB (tCall spStands [] E0 (tCons (tFld K (tVar 1) "way") (tCons (tOp (rIxT K) (tVar 3) (L2.tC (.int 0))) (tCons (tOp (rIxT K) (tVar 3) (L2.tC (.int 1))) tNil))))) (L2.tC (.int 0)) (L2.tC (.int 1))) (tCons (tVar 3) tNil))))
        { nx := fun _ H' => Q .non H', rt := Q } [some v1, some (.ref ar), some (.ref a), some v'] H1 := by
    intro H1 v' s1 o1
    refine ⟨_, rfl, _, rfl, ?_⟩
    cases hs : VametBase.sides p r ns with
    | none =>
      rw [hs] at o1 q
      have hv : VametBase.verdict p r ns = .off := by unfold VametBase.verdict; rw [hs]
      rw [hv] at q
      have o1 : v' = .non := o1
      subst o1
      exact iteT ⟨(by show 2 ≤ sizeLine; decide), fun t ht => q _ _ _ (s1.trans (same_new ht)) upd_same rfl⟩
    | some sd =>
      rw [hs] at o1 q
      have hv : VametBase.verdict p r ns = if VametBase.stands r.rel sd.left sd.right then .kept else .broken := by unfold VametBase.verdict; rw [hs]
      obtain ⟨b, l, r2, rfl, hb0, hb1, hb2, l1, l2⟩ := o1
      refine iteF ?_
      refine ⟨_, rfl, ar, C, dx, _, _, rfl, s1 _ _ har, T.cl, T.n3, rfl, _, rfl, b, _, _, _, rfl, rfl, SqT.of hb0, atI_nat (j := 0) rfl, _, rfl, b, _, _, _, rfl, rfl, SqT.of hb0, atI_nat (j := 1) rfl, r.rel, l, r2, _, _, rfl, hb1, hb2, l1, l2, fun H2 s2 => ⟨_, rfl, ?_⟩⟩
      have fin : ∀ z : Int, z = VametBase.verdictNumber (VametBase.verdict p r ns) → (2 ≤ sizeLine ∧ ∀ t, H2 t = none → Q (.ref t) (upd H2 t (.tup [.int z, .ref b]))) := fun z hz => by
        refine ⟨by decide, fun t ht => q _ t _ ((s1.trans s2).trans (same_new ht)) (by rw [upd_same, hz]) ?_⟩
        exact ⟨b, l, r2, rfl, by rw [upd_ne (ne_of_same s2 hb0 ht)]; exact s2 _ _ hb0, by rw [upd_ne (ne_of_same s2 hb1 ht)]; exact s2 _ _ hb1, by rw [upd_ne (ne_of_same s2 hb2 ht)]; exact s2 _ _ hb2, l1, l2⟩
      refine ite2 (fun hc => ?_) fun hc => ?_
      · exact ⟨_, rfl, fin 0 (by rw [hv, if_pos hc]; rfl)⟩
      · exact ⟨_, rfl, fin 1 (by rw [hv, if_neg hc]; rfl)⟩
  refine ⟨_, rfl, ar, C, dx, _, _, rfl, har, T.cl, T.n1, rfl, _, rfl, vc, _, a, ns, rfl, hc, ha, hl, fun H1 s1 => ⟨_, rfl, ?_⟩⟩
  refine ite2 (fun hf => ?_) fun hf => ?_
  · refine ⟨_, rfl, _, rfl, _, rfl, v1, _, p, r, a, ns, rfl, h1.same s1, hR.same s1, s1 _ _ ha, hl, fun H2 v' s2 o2 => rest H2 v' (s1.trans s2) ?_⟩
    rw [sides_eq, if_pos hf]
    exact o2
  · refine rest H1 .non s1 ?_
    rw [sides_eq, if_neg hf]
    rfl
end
end Rh

end

-- part RhRead
section
set_option Elab.async false
set_option linter.all false
set_option maxRecDepth 100000
set_option maxHeartbeats 2000000
namespace Rh
open PySem PySem.Spec PyProof.Rows L2
/-- a method that can be called -/
structure MCal (P : Program) (w : World) (K : PySem.W.Frag) (mg : Str → Option Value) (base : Heap) (CX : CXT) (k : Nat) (C : Addr) (m : Str) (ps : List Str) (sp : Sp) : Prop where
  ex : ∃ (f : Addr) (fd : FuncData), FnOk P w K mg base CX k f fd ps sp ∧ Meth K C m f ∧ Binds K fd ps []
/-- a class that can be made -/
structure ICal (P : Program) (w : World) (K : PySem.W.Frag) (mg : Str → Option Value) (base : Heap) (CX : CXT) (k : Nat) (C : Addr) (x : Str) (ps : List Str) (sp : Sp) : Prop where
  ex : ∃ (f : Addr) (fd : FuncData), FnOk P w K mg base CX k f fd ps sp ∧ Mk K C f ∧ mg x = some (.ref C) ∧ Binds K fd ps []
/-- a method of the text; an __init__ of the text -/
def Dm (K : PySem.W.Frag) (C : Addr) (m qual : Str) (st : Stmt) : Prop := ∃ (f : Addr) (fd : FuncData), Fun K m qual st f fd ∧ Meth K C m f
def Di (K : PySem.W.Frag) (mg : Str → Option Value) (C : Addr) (x qual : Str) (st : Stmt) : Prop := ∃ (f : Addr) (fd : FuncData), Fun K "__init__" qual st f fd ∧ Mk K C f ∧ mg x = some (.ref C)
section
variable {X : Cx} {CX : CXT} {k : Nat} {ps : List Str} {sp : Sp} {E : XK} {x m : Str} {p pos apos : Pos} {e o : Expr} {es : List Expr} {t : TA} {ta : TE} {C : Addr}
theorem pe_makeC (c : ICal X.prog X.w X.K X.mg X.base CX k C x ps sp) (hr : Room (k + 1) X.A) (hg : Gl X x) (hx : Passes CX X E) (ha : PA X (e :: es) t)
    (hdb : (x == ("__debug__" : Str)) = false := by decide) (he : starEach (e :: es) X.env = (false, eval e X.env) :: starEach es X.env := by rfl) (hpl : (backTo pos (starEach es X.env)).any (·.1) = false := by rfl) :
    PE X (.Call (.Name x p) (e :: es) [] pos) (tMake C sp [] E t) := by
  obtain ⟨f, fd, F, M, hm, hb⟩ := c.ex
  exact pe_make M F hr hg hm hb .nil hx ha hdb he hpl
theorem pe_makeC0 (c : ICal X.prog X.w X.K X.mg X.base CX k C x ps sp) (hr : Room (k + 1) X.A) (hg : Gl X x) (hx : Passes CX X E) (hdb : (x == ("__debug__" : Str)) = false := by decide) :
    PE X (.Call (.Name x p) [] [] pos) (tMake C sp [] E tNil) := by
  obtain ⟨f, fd, F, M, hm, hb⟩ := c.ex
  exact pe_make0 M F hr hg hm hb .nil hx hdb
theorem pe_methC {pl : Sem Bool} (he : PE X o ta) (cl : Cls X.K C) (c : MCal X.prog X.w X.K X.mg X.base CX k C m ps sp) (hr : Room k X.A) (hx : Passes CX X E) (ha : PA X (e :: es) t)
    (hst : starEach (e :: es) X.env = (false, eval e X.env) :: starEach es X.env := by rfl) (hpl : (backTo pos (starEach es X.env)).any (·.1) = false := by rfl)
    (ht : eval (.Call (.Attribute o m apos) (e :: es) [] pos) X.env = (do
      let ov ← eval o X.env
      standAt apos.atName
      let (f, first) ← holding [ov] (getMethod ov m pl)
      callWith pos f first (backTo pos (starEach (e :: es) X.env)) (backToKw pos (keywordEach [] X.env))) := by rfl) :
    PE X (.Call (.Attribute o m apos) (e :: es) [] pos) (tMeth C m sp [] E ta t) := by
  obtain ⟨f, fd, F, M, hb⟩ := c.ex
  exact pe_meth he cl M F hr hb .nil hx ha hst hpl ht
theorem pe_methC0 {pl : Sem Bool} (he : PE X o ta) (cl : Cls X.K C) (c : MCal X.prog X.w X.K X.mg X.base CX k C m ps sp) (hr : Room k X.A) (hx : Passes CX X E)
    (ht : eval (.Call (.Attribute o m apos) [] [] pos) X.env = (do
      let ov ← eval o X.env
      standAt apos.atName
      let (f, first) ← holding [ov] (getMethod ov m pl)
      callWith pos f first (backTo pos (starEach [] X.env)) (backToKw pos (keywordEach [] X.env))) := by rfl) :
    PE X (.Call (.Attribute o m apos) [] [] pos) (tMeth C m sp [] E ta tNil) := by
  obtain ⟨f, fd, F, M, hb⟩ := c.ex
  exact pe_meth0 he cl M F hr hb .nil hx ht
end
section
variable {P : Program} {w : World} {K : PySem.W.Frag} {mg : Str → Option Value} {base : Heap}
theorem fn_plain {x qual : Str} {st : Stmt} {N ps : List Str} {k : Nat} {sp : Sp} {f : Addr} {fd : FuncData} (F : Fun K x qual st f fd) (S : FnScope N ps (defScope st)) (len : ∀ vs H Q E, sp vs H Q E → vs.length = ps.length)
    (hbody : ∀ (f : Addr) (cdv : Value) (A : Around) (outer : List Env) (s : Shared) (H : Hp) (vs : List V) (Q : VK) (E : XK), Room k (A.deeper (envOfC qual (defScope st) s.heap.objs.size f cdv)) → sp vs H Q E →
      ∃ t, PSs (cxOf CX0 P w K mg base N qual (defScope st) f cdv A outer s H E).nox (defBody st) t ∧ t { nx := fun _ H' => Q .non H', rt := Q } (start N vs) H) : FnOk P w K mg base CX0 (k + 1) f fd ps sp :=
  F.ok S len fun cdv A outer s H vs Q E hr h => hbody f cdv A outer s H vs Q E hr h
theorem fn_raise {x qual : Str} {st : Stmt} {N ps : List Str} {k : Nat} {sp : Sp} {f : Addr} {fd : FuncData} (F : Fun K x qual st f fd) (S : FnScope N ps (defScope st)) (len : ∀ vs H Q E, sp vs H Q E → vs.length = ps.length)
    (hbody : ∀ (f : Addr) (cdv : Value) (A : Around) (outer : List Env) (s : Shared) (H : Hp) (vs : List V) (Q : VK) (E : XK), Room k (A.deeper (envOfC qual (defScope st) s.heap.objs.size f cdv)) → Xes (cxOf (CXo P w) P w K mg base N qual (defScope st) f cdv A outer s H E) E → sp vs H Q E →
      ∃ t, PSs (cxOf (CXo P w) P w K mg base N qual (defScope st) f cdv A outer s H E) (defBody st) t ∧ t { nx := fun _ H' => Q .non H', rt := Q } (start N vs) H) : FnOk P w K mg base (CXo P w) (k + 1) f fd ps sp := by
  obtain ⟨oc, od, kV, doc, pm, an, cdv, ct, osl, rfl, lk, hcd⟩ := F.ex
  exact fn_of lk hcd S len fun A outer s H vs Q E hr hsp => hbody f cdv A outer s H vs Q E hr xes_def hsp
/-- THE RULE for a def that may raise -/
theorem Df.okx {x : Str} {st : Stmt} {N ps : List Str} {k : Nat} {sp : Sp} (D : Df K mg x st) (S : FnScope N ps (defScope st)) (len : ∀ vs H Q E, sp vs H Q E → vs.length = ps.length)
    (hbd : ∀ (kV doc pm : Value) (an : Option Addr) (cdv ct : Value) (us : List Value), us.length = ps.length → bindArgs (PySem.W.fnOf x x (defArgs st) (defBody st) (defScope st) .none kV doc pm an cdv ct) ⟨us, []⟩ = pure (ps.zip us))
    (hbody : ∀ (f : Addr) (cdv : Value) (A : Around) (outer : List Env) (s : Shared) (H : Hp) (vs : List V) (Q : VK) (E : XK), Room k (A.deeper (envOfC x (defScope st) s.heap.objs.size f cdv)) → Xes (cxOf (CXo P w) P w K mg base N x (defScope st) f cdv A outer s H E) E → sp vs H Q E →
      ∃ t, PSs (cxOf (CXo P w) P w K mg base N x (defScope st) f cdv A outer s H E) (defBody st) t ∧ t { nx := fun _ H' => Q .non H', rt := Q } (start N vs) H) : Cal P w K mg base (CXo P w) (k + 1) x ps sp := by
  obtain ⟨f, fd, F, hm⟩ := D
  exact ⟨f, fd, fn_raise F S len hbody, hm, F.kp, F.binds hbd⟩
end
/-! ### the reader -/
structure ClsD (K : PySem.W.Frag) (C : Addr) : Prop where
  cl : Cls K C
  n1 : NoAttr K C "told"
  n2 : NoAttr K C "place"
def fsD (t : V) (i : Int) : List (Str × V) := [("told", t), ("place", .int i)]
/-- an own class of errors -/
structure Exc (K : PySem.W.Frag) (mg : Str → Option Value) (x : Str) (C : Addr) : Prop where
  at_ : mg x = some (.ref C)
  ex : PySem.W.excIn K C [.type "Exception", .type "BaseException", .type "object"] "Exception.__new__" = true
/-- all but the reader at a stays -/
def SameX (a : Addr) (H H' : Hp) : Prop := ∀ b o, b ≠ a → H b = some o → H' b = some o
theorem SameX.refl (a : Addr) (H : Hp) : SameX a H H := fun _ _ _ h => h
theorem SameX.trans {a : Addr} {H H1 H2 : Hp} (x : SameX a H H1) (y : SameX a H1 H2) : SameX a H H2 := fun b o n h => y b o n (x b o n h)
theorem SameX.of {a : Addr} {H H' : Hp} (s : Same H H') : SameX a H H' := fun b o _ h => s b o h
theorem SameX.upd {a : Addr} {H : Hp} {o : HO} : SameX a H (L2.upd H a o) := fun b o' n h => by rw [upd_ne n]; exact h
section
variable {P : Program} {w : World} {K : PySem.W.Frag} {mg : Str → Option Value} {base : Heap} {C CN : Addr}
def spDInit (C : Addr) : Sp := fun vs H Q _ => ∃ p dx t, vs = [.ref p, .ref t] ∧ H p = some (.ins C dx []) ∧ Q .non (upd (upd H p (.ins C dx [("told", .ref t)])) p (.ins C dx (fsD (.ref t) 0)))
theorem ok_reader_init (D : Di K mg C "Reader" "Reader.__init__" s_Reader_init) (T : ClsD K C) : ICal P w K mg base CX0 1 C "Reader" ["self", "told"] (spDInit C) := by
  obtain ⟨f, fd, F, M, hm⟩ := D
  refine ⟨f, fd, fn_plain (k := 0) F sc_Reader_init (fun vs H Q E h => by obtain ⟨p, dx, t, rfl, _⟩ := h; rfl) ?_, M, hm, F.binds fun _ _ _ _ _ _ => bind2 (fun _ _ => rfl) rfl⟩
  intro f cdv A outer s H vs Q E hr h
  obtain ⟨p, dx, t, rfl, hp, q⟩ := h
  refine ⟨_, pss_cons (ps_fld (pv 0) (pv 1) rfl) (pss_one (ps_fld (pv 0) pe_int rfl)), ?_⟩
  refine ⟨_, rfl, _, rfl, p, C, dx, _, rfl, hp, T.cl, T.n1, (by show 0 < 1000; decide), ?_⟩
  refine ⟨_, rfl, p, C, dx, _, rfl, upd_same, T.cl, T.n2, (by show 1 < 1000; decide), ?_⟩
  exact q
/-- a number of the rest in its range -/
def readIn (lo hi : Int) : List Int → Option (Int × List Int)
  | [] => none
  | z :: r => if lo ≤ z ∧ z ≤ hi then some (z, r) else none
def spTake (C CN : Addr) : Sp := fun vs H Q E => ∃ a dx t, ∃ l : List Int, ∃ i : Nat, ∃ lo hi, vs = [.ref a, .int lo, .int hi] ∧ H a = some (.ins C dx (fsD (.ref t) i)) ∧ H t = some (.lst (l.map V.int)) ∧ i ≤ l.length ∧
  match readIn lo hi (l.drop i) with
  | some (z, _) => Q (.int z) (upd H a (.ins C dx (fsD (.ref t) ((i + 1 : Nat) : Int))))
  | none => E (.ref CN) none H
theorem drop_cons {α : Type} {l : List α} {i : Nat} (h : i < l.length) : l.drop i = l[i] :: l.drop (i + 1) := List.drop_eq_getElem_cons h
theorem ok_take (D : Dm K C "take" "Reader.take" s_Reader_take) (T : ClsD K C) (X : Exc K mg "NotWhole" CN) (hln : mg "len" = none) : MCal P w K mg base (CXo P w) 1 C "take" ["self", "lowest", "highest"] (spTake C CN) := by
  obtain ⟨f, fd, F, M⟩ := D
  refine ⟨f, fd, fn_raise (k := 0) F sc_Reader_take (fun vs H Q E h => by obtain ⟨a, dx, t, l, i, lo, hi, rfl, _⟩ := h; rfl) ?_, M, F.binds fun _ _ _ _ _ _ => bind3 (fun _ _ _ => rfl) rfl⟩
  intro f cdv A outer s H vs Q E hr xs h
  obtain ⟨a, dx, t, l, i, lo, hi, rfl, ha, ht, hi', q⟩ := h
  refine ⟨_, pss_cons (ps_if (pt_cmpR op_eq (pe_fld (pv 0) rfl) (pe_callB call_len_seq (by rfl) hln PySem.boot_len (pa_cons (pe_fld (pv 0) rfl) pa_nil)) (nomark _)) (pss_one (ps_raise0 rfl rfl xs rfl X.at_ X.ex PySem.F.excBase_Exception)) pss_nil)
    (pss_cons (ps_set (i := 3) sc_Reader_take.nd rfl (Or.inl rfl) (pe_ix ix_list (pe_fld (pv 0) rfl) (pe_fld (pv 0) rfl) (fun _ _ => rfl)))
    (pss_cons (ps_if (PW.pt (pw_or (pt_cmpR op_lt (pv 3) (pv 1) (nomark _)) (pw_or1 (pt_cmpR op_gt (pv 3) (pv 2) (nomark _))))) (pss_one (ps_raise0 rfl rfl xs rfl X.at_ X.ex PySem.F.excBase_Exception)) pss_nil)
    (pss_cons (ps_fldaug (pv 0) pe_int in_add) (pss_one (ps_ret (pv 3)))))), ?_⟩
  refine ⟨_, rfl, a, C, dx, _, _, rfl, ha, T.cl, T.n2, rfl, _, rfl, a, C, dx, _, _, rfl, ha, T.cl, T.n1, rfl, t, _, rfl, .inl (SqL.of ht), rfl, _, rfl, ?_⟩
  rw [List.length_map]
  refine ite2 (fun hc => ?_) fun hc => ?_
  · have hc := of_decide_eq_true hc
    injection hc with hc
    have e : l.drop i = [] := List.drop_eq_nil_of_le (by omega)
    rw [e] at q
    exact q
  · have hlt : i < l.length := by
      refine Nat.lt_of_le_of_ne hi' fun z => hc ?_
      rw [z]
      exact decide_eq_true rfl
    rw [drop_cons hlt] at q
    have hat : atI (l.map V.int) (i : Int) = some (.int l[i]) := atI_nat (by rw [List.getElem?_map, List.getElem?_eq_getElem hlt]; rfl)
    refine ⟨_, rfl, a, C, dx, _, _, rfl, ha, T.cl, T.n1, rfl, _, rfl, a, C, dx, _, _, rfl, ha, T.cl, T.n2, rfl, t, _, _, _, rfl, rfl, SqL.of ht, hat, ?_⟩
    generalize l[i] = z at q
    have bad : ¬ (lo ≤ z ∧ z ≤ hi) → E (.ref CN) none H := fun hb => by
      have q : match (if lo ≤ z ∧ z ≤ hi then some (z, l.drop (i + 1)) else none) with
        | some (z, _) => Q (.int z) (upd H a (.ins C dx (fsD (.ref t) ((i + 1 : Nat) : Int))))
        | none => E (.ref CN) none H := q
      rw [if_neg hb] at q
      exact q
    refine ⟨_, rfl, _, rfl, _, _, rfl, rfl, _, rfl, ?_⟩
    refine ite2 (fun h1 => ?_) fun h1 => ?_
    · exact iteT (bad (by have := of_decide_eq_true h1; omega))
    · have h1 : ¬ z < lo := fun y => h1 (decide_eq_true y)
      refine ⟨_, rfl, _, rfl, _, _, rfl, rfl, _, rfl, ?_⟩
      refine ite2 (fun h2 => ?_) fun h2 => ?_
      · exact bad (by have := of_decide_eq_true h2; omega)
      · have h2 : ¬ hi < z := fun y => h2 (decide_eq_true y)
        have q : match (if lo ≤ z ∧ z ≤ hi then some (z, l.drop (i + 1)) else none) with
          | some (z, _) => Q (.int z) (upd H a (.ins C dx (fsD (.ref t) ((i + 1 : Nat) : Int))))
          | none => E (.ref CN) none H := q
        rw [if_pos ⟨by omega, by omega⟩] at q
        refine ⟨_, rfl, a, C, dx, _, _, rfl, ha, T.cl, T.n2, rfl, _, _, rfl, rfl, dx, _, ha, (by show 2 < 1000; decide), _, rfl, ?_⟩
        exact q
def spFinish (C CN : Addr) : Sp := fun vs H Q E => ∃ a dx t, ∃ l : List Int, ∃ i : Nat, vs = [.ref a] ∧ H a = some (.ins C dx (fsD (.ref t) i)) ∧ H t = some (.lst (l.map V.int)) ∧ i ≤ l.length ∧
  match l.drop i with
  | [] => Q .non H
  | _ => E (.ref CN) none H
theorem ok_finish (D : Dm K C "finish" "Reader.finish" s_Reader_finish) (T : ClsD K C) (X : Exc K mg "NotWhole" CN) (hln : mg "len" = none) : MCal P w K mg base (CXo P w) 1 C "finish" ["self"] (spFinish C CN) := by
  obtain ⟨f, fd, F, M⟩ := D
  refine ⟨f, fd, fn_raise (k := 0) F sc_Reader_finish (fun vs H Q E h => by obtain ⟨a, dx, t, l, i, rfl, _⟩ := h; rfl) ?_, M, F.binds fun _ _ _ _ _ _ => bind1 (fun _ => rfl) rfl⟩
  intro f cdv A outer s H vs Q E hr xs h
  obtain ⟨a, dx, t, l, i, rfl, ha, ht, hi', q⟩ := h
  refine ⟨_, pss_one (ps_if (pt_cmpR op_ne (pe_fld (pv 0) rfl) (pe_callB call_len_seq (by rfl) hln PySem.boot_len (pa_cons (pe_fld (pv 0) rfl) pa_nil)) (nomark _)) (pss_one (ps_raise0 rfl rfl xs rfl X.at_ X.ex PySem.F.excBase_Exception)) pss_nil), ?_⟩
  refine ⟨_, rfl, a, C, dx, _, _, rfl, ha, T.cl, T.n2, rfl, _, rfl, a, C, dx, _, _, rfl, ha, T.cl, T.n1, rfl, t, _, rfl, .inl (SqL.of ht), rfl, _, rfl, ?_⟩
  rw [List.length_map]
  by_cases hc : i = l.length
  · have e : l.drop i = [] := List.drop_eq_nil_of_le (by omega)
    rw [e] at q
    rw [decide_eq_true (by rw [hc])]
    exact iteF q
  · have hlt : i < l.length := by omega
    rw [drop_cons hlt] at q
    rw [decide_eq_false (fun z => hc (by injection z with z; exact Int.ofNat.inj z))]
    exact iteT q
end
end Rh

end

-- part RhReadM
section
set_option Elab.async false
set_option linter.all false
set_option maxRecDepth 100000
set_option maxHeartbeats 2000000
namespace Rh
open VametBase (readNat readInt readPair readTimes readListed whole readStep readProgram readRel readCond readRelation readRow readBound)
theorem readInt_eq (x : List Int) : readInt VametBase.TOLD x = readIn (-99) 99 x := by
  cases x with
  | nil => rfl
  | cons z r =>
    unfold readInt readIn VametBase.TOLD
    rfl
theorem readNat_eq (a b : Nat) (x : List Int) : readNat a b x = (readIn a b x).map fun u => (u.1.toNat, u.2) := by
  cases x with
  | nil => rfl
  | cons z r =>
    unfold readNat readIn VametBase.int
    show (if (a : Int) ≤ z ∧ z ≤ (b : Int) then some (z.toNat, r) else none) = (if (a : Int) ≤ z ∧ z ≤ (b : Int) then some (z, r) else none).map _
    split <;> rfl
theorem readIn_pos {lo hi z : Int} {r : List Int} (h : lo ≤ z ∧ z ≤ hi) : readIn lo hi (z :: r) = some (z, r) := by
  show (if lo ≤ z ∧ z ≤ hi then some (z, r) else none) = some (z, r)
  rw [if_pos h]
theorem readIn_neg {lo hi z : Int} {r : List Int} (h : ¬ (lo ≤ z ∧ z ≤ hi)) : readIn lo hi (z :: r) = none := by
  show (if lo ≤ z ∧ z ≤ hi then some (z, r) else none) = none
  rw [if_neg h]
theorem readIn_some {lo hi z : Int} {x r : List Int} (h : readIn lo hi x = some (z, r)) : x = z :: r ∧ lo ≤ z ∧ z ≤ hi := by
  cases x with
  | nil => cases h
  | cons y l =>
    by_cases hq : lo ≤ y ∧ y ≤ hi
    · rw [readIn_pos hq] at h
      cases h
      exact ⟨rfl, hq⟩
    · rw [readIn_neg hq] at h
      cases h
def stepOf (k c : Int) : VStep := match k.toNat with
  | 0 => .add c | 1 => .times c | 2 => .rest c.toNat | 3 => .abs | 4 => .sort | 5 => .reverse | 6 => .rotate c.toNat | 7 => .take c.toNat | 8 => .drop c.toNat | 9 => .above c | 10 => .once | 11 => .sum | 12 => .greatest | 13 => .least | 14 => .count | 15 => .steps | 16 => .sums | _ => .twice
abbrev endsT : List (Int × Int × Int) := [(0, -99, 99), (1, -99, 99), (2, 1, 9), (6, 0, 9), (7, 0, 9), (8, 0, 9), (9, -99, 99)]
def endsOf (k : Int) : Option (Int × Int) := (endsT.find? fun p => p.1 == k).map (·.2)
theorem readStep_eq (x : List Int) : readStep x = (readIn 0 17 x).bind fun u => match endsOf u.1 with
    | none => some (stepOf u.1 0, u.2)
    | some e => (readIn e.1 e.2 u.2).map fun v => (stepOf u.1 v.1, v.2) := by
  cases x with
  | nil => rfl
  | cons z r =>
    by_cases h : 0 ≤ z ∧ z ≤ 17
    · have hz : z = 0 ∨ z = 1 ∨ z = 2 ∨ z = 3 ∨ z = 4 ∨ z = 5 ∨ z = 6 ∨ z = 7 ∨ z = 8 ∨ z = 9 ∨ z = 10 ∨ z = 11 ∨ z = 12 ∨ z = 13 ∨ z = 14 ∨ z = 15 ∨ z = 16 ∨ z = 17 := by omega
      have e : readIn 0 17 (z :: r) = some (z, r) := readIn_pos h
      rw [e]
      rcases hz with rfl | rfl | rfl | rfl | rfl | rfl | rfl | rfl | rfl | rfl | rfl | rfl | rfl | rfl | rfl | rfl | rfl | rfl
      · show (readInt VametBase.TOLD r).map _ = _; rw [readInt_eq]; rfl
      · show (readInt VametBase.TOLD r).map _ = _; rw [readInt_eq]; rfl
      · show (readNat 1 VametBase.SMALL r).map _ = _; rw [readNat_eq, Option.map_map]; rfl
      · rfl
      · rfl
      · rfl
      · show (readNat 0 VametBase.SMALL r).map _ = _; rw [readNat_eq, Option.map_map]; rfl
      · show (readNat 0 VametBase.SMALL r).map _ = _; rw [readNat_eq, Option.map_map]; rfl
      · show (readNat 0 VametBase.SMALL r).map _ = _; rw [readNat_eq, Option.map_map]; rfl
      · show (readInt VametBase.TOLD r).map _ = _; rw [readInt_eq]; rfl
      all_goals rfl
    · have e : readIn 0 17 (z :: r) = none := readIn_neg h
      rw [e]
      show readStep (z :: r) = none
      unfold readStep
      split <;> first | rfl | (rename_i q; injection q with q1 q2; omega)
theorem kindOf_stepOf {k c : Int} (h : 0 ≤ k ∧ k ≤ 17) : kindOf (stepOf k c) = k := by
  have hz : k = 0 ∨ k = 1 ∨ k = 2 ∨ k = 3 ∨ k = 4 ∨ k = 5 ∨ k = 6 ∨ k = 7 ∨ k = 8 ∨ k = 9 ∨ k = 10 ∨ k = 11 ∨ k = 12 ∨ k = 13 ∨ k = 14 ∨ k = 15 ∨ k = 16 ∨ k = 17 := by omega
  rcases hz with rfl | rfl | rfl | rfl | rfl | rfl | rfl | rfl | rfl | rfl | rfl | rfl | rfl | rfl | rfl | rfl | rfl | rfl <;> rfl
theorem argOf_none {k : Int} (h : 0 ≤ k ∧ k ≤ 17) (e : endsOf k = none) : argOf (stepOf k 0) = 0 ∧ okStep (stepOf k 0) := by
  have hz : k = 0 ∨ k = 1 ∨ k = 2 ∨ k = 3 ∨ k = 4 ∨ k = 5 ∨ k = 6 ∨ k = 7 ∨ k = 8 ∨ k = 9 ∨ k = 10 ∨ k = 11 ∨ k = 12 ∨ k = 13 ∨ k = 14 ∨ k = 15 ∨ k = 16 ∨ k = 17 := by omega
  rcases hz with rfl | rfl | rfl | rfl | rfl | rfl | rfl | rfl | rfl | rfl | rfl | rfl | rfl | rfl | rfl | rfl | rfl | rfl <;> first | exact ⟨rfl, trivial⟩ | (exact absurd e (by decide))
theorem argOf_some {k c : Int} {e : Int × Int} (h : 0 ≤ k ∧ k ≤ 17) (he : endsOf k = some e) (hc : e.1 ≤ c ∧ c ≤ e.2) : argOf (stepOf k c) = c ∧ okStep (stepOf k c) := by
  have hz : k = 0 ∨ k = 1 ∨ k = 2 ∨ k = 3 ∨ k = 4 ∨ k = 5 ∨ k = 6 ∨ k = 7 ∨ k = 8 ∨ k = 9 ∨ k = 10 ∨ k = 11 ∨ k = 12 ∨ k = 13 ∨ k = 14 ∨ k = 15 ∨ k = 16 ∨ k = 17 := by omega
  have nat : ∀ {lo hi : Int}, 0 ≤ lo → lo ≤ c ∧ c ≤ hi → ((c.toNat : Nat) : Int) = c := fun h0 h1 => by omega
  rcases hz with rfl | rfl | rfl | rfl | rfl | rfl | rfl | rfl | rfl | rfl | rfl | rfl | rfl | rfl | rfl | rfl | rfl | rfl
  · cases he; exact ⟨rfl, hc⟩
  · cases he; exact ⟨rfl, hc⟩
  · cases he; exact ⟨nat (by decide) hc, (by show 1 ≤ c.toNat ∧ c.toNat ≤ 9; have := hc.1; have := hc.2; simp only at *; omega)⟩
  · cases he
  · cases he
  · cases he
  · cases he; exact ⟨nat (by decide) hc, (by show c.toNat ≤ 9; have := hc.2; simp only at *; omega)⟩
  · cases he; exact ⟨nat (by decide) hc, (by show c.toNat ≤ 9; have := hc.2; simp only at *; omega)⟩
  · cases he; exact ⟨nat (by decide) hc, (by show c.toNat ≤ 9; have := hc.2; simp only at *; omega)⟩
  · cases he; exact ⟨rfl, hc⟩
  all_goals cases he
theorem readRel_eq (x : List Int) : (readRel x).map (fun u => (VametBase.relNumber u.1, u.2)) = readIn 0 6 x := by
  cases x with
  | nil => rfl
  | cons z r =>
    by_cases h : 0 ≤ z ∧ z ≤ 6
    · have hz : z = 0 ∨ z = 1 ∨ z = 2 ∨ z = 3 ∨ z = 4 ∨ z = 5 ∨ z = 6 := by omega
      rcases hz with rfl | rfl | rfl | rfl | rfl | rfl | rfl <;> rfl
    · have e : readIn 0 6 (z :: r) = none := readIn_neg h
      rw [e]
      have : readRel (z :: r) = none := by
        unfold readRel
        split <;> first | rfl | (rename_i q; injection q with q1 q2; omega)
      rw [this]
      rfl
def condOf (k c : Int) : VametBase.Cond := match k.toNat with
  | 0 => .any | 1 => .some | 2 => .rising | 3 => .plus | 4 => .unlike | _ => .atLeast c.toNat
theorem readCond_eq (x : List Int) : readCond x = (readIn 0 5 x).bind fun u => if u.1 = 5 then (readIn 0 9 u.2).map fun v => (condOf u.1 v.1, v.2) else some (condOf u.1 0, u.2) := by
  cases x with
  | nil => rfl
  | cons z r =>
    by_cases h : 0 ≤ z ∧ z ≤ 5
    · have hz : z = 0 ∨ z = 1 ∨ z = 2 ∨ z = 3 ∨ z = 4 ∨ z = 5 := by omega
      have e : readIn 0 5 (z :: r) = some (z, r) := readIn_pos h
      rw [e]
      rcases hz with rfl | rfl | rfl | rfl | rfl | rfl
      · rfl
      · rfl
      · rfl
      · rfl
      · rfl
      · show (readNat 0 VametBase.SMALL r).map _ = _; rw [readNat_eq, Option.map_map]; rfl
    · have e : readIn 0 5 (z :: r) = none := readIn_neg h
      rw [e]
      show readCond (z :: r) = none
      unfold readCond
      split <;> first | rfl | (rename_i q; injection q with q1 q2; omega)
theorem condOf_at {k c : Int} (h : 0 ≤ k ∧ k ≤ 5) (hc : 0 ≤ c) (h5 : k = 5 ∨ c = 0) : ((condKind (condOf k c) : Nat) : Int) = k ∧ ((condArg (condOf k c) : Nat) : Int) = c := by
  have hz : k = 0 ∨ k = 1 ∨ k = 2 ∨ k = 3 ∨ k = 4 ∨ k = 5 := by omega
  rcases hz with rfl | rfl | rfl | rfl | rfl | rfl
  · exact ⟨rfl, by show (0 : Int) = c; omega⟩
  · exact ⟨rfl, by show (0 : Int) = c; omega⟩
  · exact ⟨rfl, by show (0 : Int) = c; omega⟩
  · exact ⟨rfl, by show (0 : Int) = c; omega⟩
  · exact ⟨rfl, by show (0 : Int) = c; omega⟩
  · exact ⟨rfl, by show ((c.toNat : Nat) : Int) = c; omega⟩
end Rh

end

-- part RhRead2
section
set_option Elab.async false
set_option linter.all false
set_option maxRecDepth 100000
set_option maxHeartbeats 2000000
namespace Rh
open PySem PySem.Spec PyProof.Rows L2
/-- what a def that reads promises: R reads the rest of the list -/
def spRd {α : Type} (C CN : Addr) (R : List Int → Option (α × List Int)) (At : Hp → V → α → Prop) : Sp := fun vs H Q E => ∃ a dx t, ∃ l : List Int, ∃ i : Nat, vs = [.ref a] ∧ H a = some (.ins C dx (fsD (.ref t) i)) ∧ H t = some (.lst (l.map V.int)) ∧ i ≤ l.length ∧
  (∀ x rest, R (l.drop i) = some (x, rest) → ∀ H' v, ∀ j : Nat, SameX a H H' → H' a = some (.ins C dx (fsD (.ref t) j)) → j ≤ l.length → l.drop j = rest → At H' v x → Q v H') ∧
  (R (l.drop i) = none → ∀ H', SameX a H H' → E (.ref CN) none H')
theorem spRd_len {α : Type} {C CN : Addr} {R : List Int → Option (α × List Int)} {At : Hp → V → α → Prop} {n : Str} : ∀ vs H Q E, spRd C CN R At vs H Q E → vs.length = ([n] : List Str).length := fun vs H Q E h => by obtain ⟨a, dx, t, l, i, rfl, _⟩ := h; rfl
theorem tCons_C {v : V} {t : TA} {σ : L2.St} {H : Hp} {Q : List V → Hp → Prop} (h : t σ H fun xs H2 => Q (v :: xs) H2) : tCons (tC v) t σ H Q := h
theorem tNil_ {σ : L2.St} {H : Hp} {Q : List V → Hp → Prop} (h : Q [] H) : tNil σ H Q := h
/-- what reader.take(lo, hi) wants -/
theorem take_by {vs : List V} {C CN a dx t : Addr} {l : List Int} {i : Nat} {lo hi : Int} {H : Hp} {Q : VK} {E : XK} (hv : vs = [.ref a, .int lo, .int hi]) (ha : H a = some (.ins C dx (fsD (.ref t) i))) (ht : H t = some (.lst (l.map V.int))) (hi' : i ≤ l.length)
    (h1 : ∀ z rest, readIn lo hi (l.drop i) = some (z, rest) → i + 1 ≤ l.length → l.drop (i + 1) = rest → Q (.int z) (upd H a (.ins C dx (fsD (.ref t) ((i + 1 : Nat) : Int))))) (h2 : readIn lo hi (l.drop i) = none → E (.ref CN) none H) :
    spTake C CN vs H Q E := by
  subst hv
  refine ⟨a, dx, t, l, i, lo, hi, rfl, ha, ht, hi', ?_⟩
  cases hR : readIn lo hi (l.drop i) with
  | none => exact h2 hR
  | some u =>
    obtain ⟨z, rest⟩ := u
    obtain ⟨e, _⟩ := readIn_some hR
    have hlt : i < l.length := by
      refine Nat.lt_of_le_of_ne hi' fun q => ?_
      rw [q, List.drop_length] at e
      cases e
    refine h1 z rest hR hlt ?_
    rw [drop_cons hlt] at e
    injection e
/-- a table of pairs of numbers at the top -/
def NTab (K : PySem.W.Frag) (mg : Str → Option Value) (x : Str) (ns : List (Int × Int × Int)) : Prop :=
  ∃ a l, mg x = some (.ref a) ∧ KD K a l ∧ Paired (fun (p : Int × V) (q : Int × Int × Int) => p.1 = q.1 ∧ ∃ b, p.2 = .ref b ∧ ∀ H, SqT K H b [.int q.2.1, .int q.2.2]) l ns
theorem ntab_find {K : PySem.W.Frag} {i : Int} : ∀ {l : List (Int × V)} {ns : List (Int × Int × Int)}, Paired (fun (p : Int × V) (q : Int × Int × Int) => p.1 = q.1 ∧ ∃ b, p.2 = .ref b ∧ ∀ H, SqT K H b [.int q.2.1, .int q.2.2]) l ns →
    (l.find? fun p => p.1 == i).isSome = ((ns.find? fun p => p.1 == i).map (·.2)).isSome ∧ ∀ e, (ns.find? fun p => p.1 == i).map (·.2) = some e → ∃ b, (l.find? fun p => p.1 == i).map (·.2) = some (.ref b) ∧ ∀ H, SqT K H b [.int e.1, .int e.2]
  | _, _, .nil => ⟨rfl, fun x h => by cases h⟩
  | (a, v) :: l, (c, x) :: ns, .cons ⟨e, b, hv, hq⟩ r => by
    have ih := ntab_find (i := i) r
    have e : a = c := e
    have hv : v = .ref b := hv
    subst e hv
    rw [List.find?_cons, List.find?_cons]
    show Option.isSome (match (a == i) with | true => some (a, V.ref b) | false => _) = Option.isSome (Option.map _ (match (a == i) with | true => some (a, x) | false => _)) ∧ ∀ y, Option.map _ (match (a == i) with | true => some (a, x) | false => _) = some y → ∃ g, Option.map _ (match (a == i) with | true => some (a, V.ref b) | false => _) = _ ∧ _
    cases (a == i) with
    | true => exact ⟨rfl, fun y h => ⟨b, rfl, by cases h; exact hq⟩⟩
    | false => exact ih
section
variable {P : Program} {w : World} {K : PySem.W.Frag} {mg : Str → Option Value} {base : Heap} {C CN : Addr}
theorem fsD_no {t : V} {i : Int} {m : Str} (h1 : ¬ m = "told") (h2 : ¬ m = "place") : (fsD t i).lookup m = none := by
  unfold fsD
  rw [List.lookup_cons, List.lookup_cons, beq_eq_false_iff_ne.mpr h1, beq_eq_false_iff_ne.mpr h2]
  rfl
theorem fsD_take {t : V} {i : Int} : (fsD t i).lookup ("take" : Str) = none := fsD_no (by decide +kernel) (by decide +kernel)
theorem fsD_finish {t : V} {i : Int} : (fsD t i).lookup ("finish" : Str) = none := fsD_no (by decide +kernel) (by decide +kernel)
theorem ok_take_step (D : Df K mg "take_step" s_take_step) (T : ClsD K C) (ct : MCal P w K mg base (CXo P w) 1 C "take" ["self", "lowest", "highest"] (spTake C CN)) (gl : ∃ t, mg "LAST_STEP" = some (.int 17 t)) (tN : NTab K mg "STEP_NUMBERS" endsT) :
    Cal P w K mg base (CXo P w) 2 "take_step" ["reader"] (spRd C CN VametBase.readStep StepAt) := by
  obtain ⟨aN, lN, mN, dN, pN⟩ := tN
  refine D.okx (k := 1) sc_take_step spRd_len (fun _ _ _ _ _ _ => bind1 (fun _ => rfl) rfl) fun f cdv A outer s0 H vs Q E hr xs h => ?_
  obtain ⟨a, dx, t, l, i, rfl, ha, ht, hi, q1, q2⟩ := h
  have px := xs.passes rfl
  refine ⟨_, pss_cons (ps_set (i := 1) sc_take_step.nd rfl (Or.inl rfl) (pe_methC (pv 0) T.cl ct hr px (pa_cons pe_int (pa_cons (pe_gint rfl gl) pa_nil))))
    (pss_cons (ps_if (pt_cmp (pc_knotin dN (pv 1) (pe_gref rfl mN))) (pss_one (ps_ret (pe_tup (pa_cons (pv 1) (pa_cons pe_int pa_nil))))) pss_nil)
    (pss_cons (ps_set (i := 2) sc_take_step.nd rfl (Or.inl rfl) (pe_kget dN (pe_gref rfl mN) (pv 1) (fun _ _ => rfl)))
    (pss_one (ps_ret (pe_tup (pa_cons (pv 1) (pa_cons (pe_methC (pv 0) T.cl ct hr px (pa_cons (pe_ix ix_tup (pv 2) pe_int (fun _ _ => rfl)) (pa_cons (pe_ix ix_tup (pv 2) pe_int (fun _ _ => rfl)) pa_nil))) pa_nil))))))), ?_⟩
  have nta : t ≠ a := ne_of ht ha (by intro z; cases z)
  refine ⟨_, rfl, a, dx, _, rfl, ha, fsD_take, tCons_C (tCons_C (tNil_ ?_))⟩
  refine take_by rfl ha ht hi (fun k r hR hi1 hd1 => ?_) fun hR => q2 (by rw [readStep_eq, hR]; rfl) _ (SameX.refl _ _)
  obtain ⟨_, hk⟩ := readIn_some hR
  obtain ⟨fN, gN⟩ := ntab_find (K := K) (i := k) pN
  have ha1 : (upd H a (.ins C dx (fsD (.ref t) ((i + 1 : Nat) : Int)))) a = some (.ins C dx (fsD (.ref t) ((i + 1 : Nat) : Int))) := upd_same
  have ht1 : (upd H a (.ins C dx (fsD (.ref t) ((i + 1 : Nat) : Int)))) t = some (.lst (l.map V.int)) := by rw [upd_ne nta]; exact ht
  generalize hH1 : upd H a (.ins C dx (fsD (.ref t) ((i + 1 : Nat) : Int))) = H1 at ha1 ht1
  have s1 : SameX a H H1 := by rw [← hH1]; exact SameX.upd
  refine ⟨_, rfl, _, rfl, rfl, _, rfl, ?_⟩
  cases he : endsOf k with
  | none =>
    have e2 : (lN.find? fun p => p.1 == k).isSome = false := by
      rw [fN]
      show (endsOf k).isSome = false
      rw [he]
      rfl
    rw [show (if true = true then !((lN.find? fun p => p.1 == k).isSome) else (lN.find? fun p => p.1 == k).isSome) = true by rw [if_pos rfl, e2]; rfl]
    refine iteT ⟨_, rfl, (by show 2 ≤ sizeLine; decide), fun p hp => ?_⟩
    obtain ⟨ea, eo⟩ := argOf_none hk he
    refine q1 (stepOf k 0) r (by rw [readStep_eq, hR]; show (match endsOf k with | none => _ | some e => _) = _; rw [he]) _ _ (i + 1) (s1.trans (SameX.of (same_new hp))) (by rw [upd_ne (ne_of_none ha1 hp)]; exact ha1) hi1 hd1 ⟨⟨p, rfl, ?_⟩, eo⟩
    rw [upd_same, kindOf_stepOf hk, ea]
  | some e =>
    obtain ⟨b, hb, hsq⟩ := gN e he
    have e2 : (lN.find? fun p => p.1 == k).isSome = true := by
      rw [fN]
      show (endsOf k).isSome = true
      rw [he]
      rfl
    rw [show (if true = true then !((lN.find? fun p => p.1 == k).isSome) else (lN.find? fun p => p.1 == k).isSome) = false by rw [if_pos rfl, e2]; rfl]
    refine iteF ?_
    refine ⟨_, rfl, _, _, rfl, rfl, hb, ?_⟩
    refine ⟨_, rfl, _, rfl, a, dx, _, rfl, ha1, fsD_take, ?_⟩
    refine ⟨_, rfl, b, _, _, _, rfl, rfl, hsq _, atI_nat (j := 0) rfl, _, rfl, b, _, _, _, rfl, rfl, hsq _, atI_nat (j := 1) rfl, ?_⟩
    refine tNil_ ?_
    refine take_by rfl ha1 ht1 hi1 (fun c r2 hR2 hi2 hd2 => ?_) fun hR2 => ?_
    · refine ⟨(by show 2 ≤ sizeLine; decide), fun p hp => ?_⟩
      obtain ⟨_, hc⟩ := readIn_some hR2
      obtain ⟨ea, eo⟩ := argOf_some hk he hc
      have ha2 : (upd H1 a (.ins C dx (fsD (.ref t) ((i + 1 + 1 : Nat) : Int)))) a = some (.ins C dx (fsD (.ref t) ((i + 1 + 1 : Nat) : Int))) := upd_same
      refine q1 (stepOf k c) r2 (by rw [readStep_eq, hR]; show (match endsOf k with | none => _ | some e => (readIn e.1 e.2 r).map _) = _; rw [he, ← hd1]; show (readIn e.1 e.2 (l.drop (i + 1))).map _ = _; rw [hR2]; rfl) _ _ (i + 1 + 1) ((s1.trans SameX.upd).trans (SameX.of (same_new hp))) (by rw [upd_ne (ne_of_none ha2 hp)]; exact ha2) hi2 hd2 ⟨⟨p, rfl, ?_⟩, eo⟩
      rw [upd_same, kindOf_stepOf hk, ea]
    · refine q2 ?_ _ s1
      rw [readStep_eq, hR]
      show (match endsOf k with | none => _ | some e => (readIn e.1 e.2 r).map _) = _
      rw [he, ← hd1]
      show (readIn e.1 e.2 (l.drop (i + 1))).map _ = _
      rw [hR2]
      rfl
end
end Rh

end

-- part RhRead3
section
set_option Elab.async false
set_option linter.all false
set_option maxRecDepth 100000
set_option maxHeartbeats 2000000
namespace Rh
open PySem PySem.Spec PyProof.Rows L2
theorem sameX_put {a D0 : Addr} {H H' : Hp} {o : HO} (s : SameX a H H') (h : H D0 = none) : SameX a H (upd H' D0 o) := fun b o' n e => by rw [upd_ne (ne_of_none e h)]; exact s _ _ n e
theorem StepAt.sameX {a C dx : Addr} {fs : List (Str × V)} {H H' : Hp} {v : V} {s : VStep} (sm : SameX a H H') (ha : H a = some (.ins C dx fs)) (r : StepAt H v s) : StepAt H' v s :=
  ⟨let ⟨b, e, h⟩ := r.at_; ⟨b, e, sm _ _ (ne_of h ha (by intro z; cases z)) h⟩, r.ok⟩
theorem StepAt.put {D0 : Addr} {H : Hp} {v : V} {s : VStep} {acc acc' : List V} (hD : H D0 = some (.lst acc)) (r : StepAt H v s) : StepAt (upd H D0 (.lst acc')) v s :=
  ⟨let ⟨b, e, h⟩ := r.at_; ⟨b, e, by rw [upd_ne (ne_of h hD (by intro z; cases z))]; exact h⟩, r.ok⟩
theorem times_done {α : Type} (R : List Int → Option (α × List Int)) (x : List Int) : VametBase.readTimes R 0 x = some ([], x) := rfl
theorem times_step {α : Type} (R : List Int → Option (α × List Int)) (n : Nat) (x : List Int) : VametBase.readTimes R (n + 1) x = (R x).bind fun u => (VametBase.readTimes R n u.2).map fun v => (u.1 :: v.1, v.2) := rfl
theorem same_free {a : Addr} {H H' : Hp} (s : SameX a H H') {l : Addr} (hl : H' l = none) (ha : H' a ≠ none) : H l = none := by
  cases q : H l with
  | none => rfl
  | some o =>
    have hne : l ≠ a := fun z => ha (by rw [← z]; exact hl)
    rw [s l o hne q] at hl
    cases hl
section
variable {P : Program} {w : World} {K : PySem.W.Frag} {mg : Str → Option Value} {base : Heap} {C CN : Addr}
theorem ok_take_program (D : Df K mg "take_program" s_take_program) (T : ClsD K C) (hrng : mg "range" = none) (ct : MCal P w K mg base (CXo P w) 1 C "take" ["self", "lowest", "highest"] (spTake C CN)) (gl : ∃ t, mg "MOST_STEPS" = some (.int 8 t))
    (cs : Cal P w K mg base (CXo P w) 2 "take_step" ["reader"] (spRd C CN VametBase.readStep StepAt)) : Cal P w K mg base (CXo P w) 3 "take_program" ["reader"] (spRd C CN VametBase.readProgram ProgAt) := by
  refine D.okx (k := 2) sc_take_program spRd_len (fun _ _ _ _ _ _ => bind1 (fun _ => rfl) rfl) fun f cdv A outer s0 H vs Q E hr xs h => ?_
  obtain ⟨a, dx, t, l, i, rfl, ha, ht, hi, q1, q2⟩ := h
  have px := xs.passes rfl
  refine ⟨_, pss_cons (ps_set (i := 1) sc_take_program.nd rfl (Or.inl rfl) (pe_methC (pv 0) T.cl ct (hr.mono (by decide)) px (pa_cons pe_int (pa_cons (pe_gint rfl gl) pa_nil))))
    (pss_one (ps_ret (pe_lcR (own := [("place", 2)]) (g := gName 2) rfl rfl rfl xs rfl sc_take_program.nd (pi_range1 rfl hrng (pa_cons (pv 1) pa_nil)) (blkOk_by (own := [("place", 2)]) (N := n_take_program) (sc := defScope s_take_program) (by decide +kernel))
      (fun _ _ _ _ _ => pg_name (i := 2) sc_take_program.nd rfl (Or.inl rfl)) (fun _ _ _ _ _ => pts_nil) (fun _ _ _ _ _ Eb pb => pe_callC cs hr rfl pb (pa_cons (pv 0) pa_nil))))), ?_⟩
  have nta : t ≠ a := ne_of ht ha (by intro z; cases z)
  have hread : ∀ {k : Int} {r : List Int}, readIn 0 8 (l.drop i) = some (k, r) → VametBase.readProgram (l.drop i) = VametBase.readTimes VametBase.readStep k.toNat r := fun {k r} hR => by
    show (VametBase.readNat 0 8 (l.drop i)).bind _ = _
    rw [readNat_eq]
    show ((readIn 0 8 (l.drop i)).map _).bind _ = _
    rw [hR]
    rfl
  refine ⟨_, rfl, a, dx, _, rfl, ha, fsD_take, tCons_C (tCons_C (tNil_ ?_))⟩
  refine take_by rfl ha ht hi (fun k r hR hi1 hd1 => ?_) fun hR => q2 (by
    show (VametBase.readNat 0 8 (l.drop i)).bind _ = _
    rw [readNat_eq]
    show ((readIn 0 8 (l.drop i)).map _).bind _ = _
    rw [hR]
    rfl) _ (SameX.refl _ _)
  obtain ⟨_, hk⟩ := readIn_some hR
  have hrd := hread hR
  have ha1 : (upd H a (.ins C dx (fsD (.ref t) ((i + 1 : Nat) : Int)))) a = some (.ins C dx (fsD (.ref t) ((i + 1 : Nat) : Int))) := upd_same
  have s1 : SameX a H (upd H a (.ins C dx (fsD (.ref t) ((i + 1 : Nat) : Int)))) := SameX.upd
  generalize hH1 : upd H a (.ins C dx (fsD (.ref t) ((i + 1 : Nat) : Int))) = H1 at ha1 s1
  refine ⟨_, rfl, _, rfl, by omega, by omega, fun D0 hD => ?_⟩
  have hDH : H D0 = none := same_free s1 hD (by rw [ha1]; intro z; cases z)
  have naD : a ≠ D0 := ne_of_none ha1 hD
  generalize hn : k.toNat = n at hrd
  refine lc_range (lo := 0) (n := n) (fun m H' => ∃ (vs : List V) (ps : List VStep) (j : Nat), SameX a H H' ∧ H' a = some (.ins C dx (fsD (.ref t) (j : Nat))) ∧ j ≤ l.length ∧ H' D0 = some (.lst vs) ∧ vs.length = m ∧ Paired (StepAt H') vs ps ∧
      VametBase.readTimes VametBase.readStep n r = (VametBase.readTimes VametBase.readStep (n - m) (l.drop j)).map fun u => (ps ++ u.1, u.2))
    ⟨[], [], i + 1, sameX_put s1 hDH, by rw [upd_ne naD]; exact ha1, hi1, upd_same, rfl, .nil, by rw [hd1]; simp⟩ ?_ ?_
  · rintro m H' hm ⟨vs, ps, j, sm, ha2, hj, hD2, hl2, pr, hrt⟩
    have hnm : n - m = (n - (m + 1)) + 1 := by omega
    rw [hnm, times_step] at hrt
    refine ⟨rfl, _, rfl, a, dx, t, l, j, rfl, ha2, sm _ _ nta ht, hj, fun x rest hx H2 v' j2 s2 ha3 hj2 hd2 hst => ?_, fun hx H2 s2 => q2 ?_ H2 (sm.trans s2)⟩
    · have hD3 : H2 D0 = some (.lst vs) := s2 _ _ (Ne.symm naD) hD2
      refine ⟨vs, hD3, by rw [hl2]; exact short_line (by omega), vs ++ [v'], ps ++ [x], j2, sameX_put (sm.trans s2) hDH, by rw [upd_ne naD]; exact ha3, hj2, upd_same, by simp [hl2], ?_, ?_⟩
      · exact paired_snoc (paired_mono (fun _ _ z => (z.sameX s2 ha2).put hD3) pr) (hst.put hD3)
      · rw [hrt, hx, hd2]
        show (Option.map _ _).map _ = _
        rw [Option.map_map]
        congr 1
        funext u
        show (ps ++ (x :: u.1), u.2) = ((ps ++ [x]) ++ u.1, u.2)
        simp
    · rw [hrd, hrt, hx]
      rfl
  · rintro H' ⟨vs, ps, j, sm, ha2, hj, hD2, hl2, pr, hrt⟩
    rw [Nat.sub_self, times_done] at hrt
    refine q1 ps (l.drop j) (by rw [hrd, hrt]; simp) H' _ j sm ha2 hj rfl ⟨D0, vs, rfl, hD2, pr⟩
end
end Rh

end

-- part RhRead4
section
set_option Elab.async false
set_option linter.all false
set_option maxRecDepth 100000
set_option maxHeartbeats 2000000
namespace Rh
open PySem PySem.Spec PyProof.Rows L2
section
variable {P : Program} {w : World} {K : PySem.W.Frag} {mg : Str → Option Value} {base : Heap} {C CN : Addr}
theorem ok_take_condition (D : Df K mg "take_condition" s_take_condition) (T : ClsD K C) (ct : MCal P w K mg base (CXo P w) 1 C "take" ["self", "lowest", "highest"] (spTake C CN)) (g5 : ∃ t, mg "SO_MANY" = some (.int 5 t)) (g9 : ∃ t, mg "MOST_COUNTED" = some (.int 9 t)) :
    Cal P w K mg base (CXo P w) 2 "take_condition" ["reader"] (spRd C CN VametBase.readCond CondAt) := by
  refine D.okx (k := 1) sc_take_condition spRd_len (fun _ _ _ _ _ _ => bind1 (fun _ => rfl) rfl) fun f cdv A outer s0 H vs Q E hr xs h => ?_
  obtain ⟨a, dx, t, l, i, rfl, ha, ht, hi, q1, q2⟩ := h
  have px := xs.passes rfl
  refine ⟨_, pss_cons (ps_set (i := 1) sc_take_condition.nd rfl (Or.inl rfl) (pe_methC (pv 0) T.cl ct hr px (pa_cons pe_int (pa_cons (pe_gint rfl g5) pa_nil))))
    (pss_cons (ps_if (pt_cmpR op_ne (pv 1) (pe_gint rfl g5) (nomark _)) (pss_one (ps_ret (pe_tup (pa_cons (pv 1) (pa_cons pe_int pa_nil))))) pss_nil)
    (pss_one (ps_ret (pe_tup (pa_cons (pv 1) (pa_cons (pe_methC (pv 0) T.cl ct hr px (pa_cons pe_int (pa_cons (pe_gint rfl g9) pa_nil))) pa_nil)))))), ?_⟩
  have nta : t ≠ a := ne_of ht ha (by intro z; cases z)
  refine ⟨_, rfl, a, dx, _, rfl, ha, fsD_take, tCons_C (tCons_C (tNil_ ?_))⟩
  refine take_by rfl ha ht hi (fun k r hR hi1 hd1 => ?_) fun hR => q2 (by rw [readCond_eq, hR]; rfl) _ (SameX.refl _ _)
  obtain ⟨_, hk⟩ := readIn_some hR
  have ha1 : (upd H a (.ins C dx (fsD (.ref t) ((i + 1 : Nat) : Int)))) a = some (.ins C dx (fsD (.ref t) ((i + 1 : Nat) : Int))) := upd_same
  have ht1 : (upd H a (.ins C dx (fsD (.ref t) ((i + 1 : Nat) : Int)))) t = some (.lst (l.map V.int)) := by rw [upd_ne nta]; exact ht
  generalize hH1 : upd H a (.ins C dx (fsD (.ref t) ((i + 1 : Nat) : Int))) = H1 at ha1 ht1
  have s1 : SameX a H H1 := by rw [← hH1]; exact SameX.upd
  have rd : VametBase.readCond (l.drop i) = if k = 5 then (readIn 0 9 (l.drop (i + 1))).map fun v => (condOf k v.1, v.2) else some (condOf k 0, r) := by rw [readCond_eq, hR, ← hd1]; rfl
  refine ⟨_, rfl, rfl, _, rfl, ?_⟩
  by_cases h5 : k = 5
  · rw [if_pos h5] at rd
    rw [decide_eq_true (by rw [h5])]
    refine iteF ?_
    refine ⟨_, rfl, _, rfl, a, dx, _, rfl, ha1, fsD_take, tCons_C (tCons_C (tNil_ ?_))⟩
    refine take_by rfl ha1 ht1 hi1 (fun c r2 hR2 hi2 hd2 => ?_) fun hR2 => q2 (by rw [rd, hR2]; rfl) _ s1
    obtain ⟨_, hc⟩ := readIn_some hR2
    refine ⟨(by show 2 ≤ sizeLine; decide), fun p hp => ?_⟩
    have ha2 : (upd H1 a (.ins C dx (fsD (.ref t) ((i + 1 + 1 : Nat) : Int)))) a = some (.ins C dx (fsD (.ref t) ((i + 1 + 1 : Nat) : Int))) := upd_same
    obtain ⟨e1, e2⟩ := condOf_at hk hc.1 (.inl h5)
    refine q1 (condOf k c) r2 (by rw [rd, hR2]; rfl) _ _ (i + 1 + 1) ((s1.trans SameX.upd).trans (SameX.of (same_new hp))) (by rw [upd_ne (ne_of_none ha2 hp)]; exact ha2) hi2 hd2 ⟨p, rfl, ?_⟩
    rw [upd_same, e1, e2]
  · rw [if_neg h5] at rd
    rw [decide_eq_false (fun z => h5 (by injection z))]
    refine iteT ⟨_, rfl, (by show 2 ≤ sizeLine; decide), fun p hp => ?_⟩
    obtain ⟨e1, e2⟩ := condOf_at (c := 0) hk (by decide) (.inr rfl)
    refine q1 (condOf k 0) r rd _ _ (i + 1) (s1.trans (SameX.of (same_new hp))) (by rw [upd_ne (ne_of_none ha1 hp)]; exact ha1) hi1 hd1 ⟨p, rfl, ?_⟩
    rw [upd_same, e1, e2]
end
/-! ### whole lists -/
theorem whole_ok {α : Type} {R : List Int → Option (α × List Int)} {l : List Int} {x : α} (h : R l = some (x, [])) : VametBase.whole R l = some x := by
  unfold VametBase.whole
  rw [h]
theorem whole_no {α : Type} {R : List Int → Option (α × List Int)} {l : List Int} (h : R l = none) : VametBase.whole R l = none := by
  unfold VametBase.whole
  rw [h]
theorem whole_more {α : Type} {R : List Int → Option (α × List Int)} {l r : List Int} {x : α} (h : R l = some (x, r)) (hr : r ≠ []) : VametBase.whole R l = none := by
  unfold VametBase.whole
  rw [h]
  cases r with
  | nil => exact absurd rfl hr
  | cons a b => rfl
/-- what a def that reads a whole list promises -/
def spWhole {α : Type} (CN : Addr) (R : List Int → Option (α × List Int)) (At : Hp → V → α → Prop) : Sp := fun vs H Q E => ∃ t, ∃ l : List Int, vs = [.ref t] ∧ H t = some (.lst (l.map V.int)) ∧
  (∀ x, VametBase.whole R l = some x → ∀ H' v, Same H H' → At H' v x → Q v H') ∧ (VametBase.whole R l = none → ∀ H', Same H H' → E (.ref CN) none H')
theorem spWhole_len {α : Type} {CN : Addr} {R : List Int → Option (α × List Int)} {At : Hp → V → α → Prop} {n : Str} : ∀ vs H Q E, spWhole CN R At vs H Q E → vs.length = ([n] : List Str).length := fun vs H Q E h => by obtain ⟨t, l, rfl, _⟩ := h; rfl
theorem finish_by {vs : List V} {C CN a dx t : Addr} {l : List Int} {i : Nat} {H : Hp} {Q : VK} {E : XK} (hv : vs = [.ref a]) (ha : H a = some (.ins C dx (fsD (.ref t) i))) (ht : H t = some (.lst (l.map V.int))) (hi' : i ≤ l.length)
    (h1 : l.drop i = [] → Q .non H) (h2 : l.drop i ≠ [] → E (.ref CN) none H) : spFinish C CN vs H Q E := by
  refine ⟨a, dx, t, l, i, hv, ha, ht, hi', ?_⟩
  cases hR : l.drop i with
  | nil => exact h1 hR
  | cons x r => exact h2 (by rw [hR]; intro z; cases z)
theorem same_made {H H' : Hp} {x dx : Addr} {o o' : HO} (hx : H x = none) (hd : H dx = none) (s : SameX x (upd (upd H dx o) x o') H') : Same H H' := fun b v e => by
  have h1 : b ≠ x := ne_of_none e hx
  exact s b v h1 (by rw [upd_ne h1, upd_ne (ne_of_none e hd)]; exact e)
/-- a reader made -/
theorem dinit_by {C : Addr} {vs : List V} {H : Hp} {t x dx : Addr} {Q : VK} {E : XK} (hv : vs = [.ref x, .ref t]) (hx : H x = none) (hd : H dx = none) (h : ∀ H', SameX x H H' → Same H H' → H' x = some (.ins C dx (fsD (.ref t) (0 : Nat))) → Q .non H') :
    spDInit C vs (upd (upd H dx (.own x)) x (.ins C dx [])) Q E := by
  refine ⟨x, dx, t, hv, upd_same, h _ ?_ ?_ ?_⟩
  · intro b o n e
    rw [upd_ne n, upd_ne n, upd_ne n, upd_ne (ne_of_none e hd)]
    exact e
  · exact same_made hx hd ((SameX.refl _ _).trans (SameX.upd.trans SameX.upd))
  · rw [upd_same]; rfl
section
variable {P : Program} {w : World} {K : PySem.W.Frag} {mg : Str → Option Value} {base : Heap} {C CN : Addr}
/-- what the reading of a whole list needs -/
structure Rdr (P : Program) (w : World) (K : PySem.W.Frag) (mg : Str → Option Value) (base : Heap) (C CN : Addr) : Prop where
  T : ClsD K C
  X : Exc K mg "NotWhole" CN
  mkR : ICal P w K mg base CX0 1 C "Reader" ["self", "told"] (spDInit C)
  tk : MCal P w K mg base (CXo P w) 1 C "take" ["self", "lowest", "highest"] (spTake C CN)
  fin : MCal P w K mg base (CXo P w) 1 C "finish" ["self"] (spFinish C CN)
theorem ok_read_program (D : Df K mg "read_program" s_read_program) (R : Rdr P w K mg base C CN) (cp : Cal P w K mg base (CXo P w) 3 "take_program" ["reader"] (spRd C CN VametBase.readProgram ProgAt)) :
    Cal P w K mg base (CXo P w) 4 "read_program" ["told"] (spWhole CN VametBase.readProgram ProgAt) := by
  refine D.okx (k := 3) sc_read_program spWhole_len (fun _ _ _ _ _ _ => bind1 (fun _ => rfl) rfl) fun f cdv A outer s0 H vs Q E hr xs h => ?_
  obtain ⟨t, l, rfl, ht, q1, q2⟩ := h
  have px := xs.passes rfl
  refine ⟨_, pss_cons (ps_set (i := 1) sc_read_program.nd rfl (Or.inl rfl) (pe_makeC R.mkR (hr.mono (by decide)) rfl pass0 (pa_cons (pv 0) pa_nil)))
    (pss_cons (ps_set (i := 2) sc_read_program.nd rfl (Or.inl rfl) (pe_callC cp hr rfl px (pa_cons (pv 1) pa_nil)))
    (pss_cons (ps_expr (pe_methC0 (pv 1) R.T.cl R.fin (hr.mono (by decide)) px)) (pss_one (ps_ret (pv 2))))), ?_⟩
  refine ⟨_, rfl, fun a dx hna hnd _ => dinit_by rfl hna hnd fun H1 sx1 s1 ha1 => ⟨rfl, ?_⟩⟩
  refine ⟨_, rfl, a, dx, t, l, 0, rfl, ha1, s1 _ _ ht, Nat.zero_le _, fun p rest hp H2 v j sx2 ha2 hj hd hv => ?_, fun hp H2 sx2 => q2 (whole_no hp) H2 ?_⟩
  · have s2 : Same H H2 := fun b o e => sx2 _ _ (ne_of_none e hna) (s1 _ _ e)
    refine ⟨_, rfl, a, dx, _, rfl, ha2, fsD_finish, tNil_ (finish_by rfl ha2 (s2 _ _ ht) hj (fun he => ?_) fun he => ?_)⟩
    · exact ⟨_, rfl, q1 p (whole_ok (by rw [← he, hd]; exact hp)) _ _ s2 hv⟩
    · exact q2 (whole_more hp (by rw [← hd]; exact he)) _ s2
  · exact fun b o e => sx2 _ _ (ne_of_none e hna) (s1 _ _ e)
end
end Rh

end

-- part RhRead5
section
set_option Elab.async false
set_option linter.all false
set_option maxRecDepth 100000
set_option maxHeartbeats 2000000
namespace Rh
open PySem PySem.Spec PyProof.Rows L2
theorem bind4 {fd : FuncData} {ps : List Str} (h : ∀ a b c d : Value, bindArgs fd ⟨[a, b, c, d], []⟩ = pure (ps.zip [a, b, c, d])) (hp : ps.length = 4) : ∀ us : List Value, us.length = ps.length → bindArgs fd ⟨us, []⟩ = pure (ps.zip us) := fun us hl => by
  match us, hl.trans hp with
  | [a, b, c, d], _ => exact h a b c d
theorem bind5 {fd : FuncData} {ps : List Str} (h : ∀ a b c d e : Value, bindArgs fd ⟨[a, b, c, d, e], []⟩ = pure (ps.zip [a, b, c, d, e])) (hp : ps.length = 5) : ∀ us : List Value, us.length = ps.length → bindArgs fd ⟨us, []⟩ = pure (ps.zip us) := fun us hl => by
  match us, hl.trans hp with
  | [a, b, c, d, e], _ => exact h a b c d e
theorem tCons_N {z : Int} {t : TA} {σ : L2.St} {H : Hp} {Q : List V → Hp → Prop} (h : t σ H fun xs H2 => Q (.int (-z) :: xs) H2) : tCons (tUn (rU fun i => .int (-i)) (tC (.int z))) t σ H Q := ⟨z, rfl, h⟩
section
variable {P : Program} {w : World} {K : PySem.W.Frag} {mg : Str → Option Value} {base : Heap} {C CN CB CR : Addr}
def spBInit (C : Addr) : Sp := fun vs H Q _ => ∃ p dx n lo hi, vs = [.ref p, .int n, .int lo, .int hi] ∧ H p = some (.ins C dx []) ∧ ∀ H', SameX p H H' → H' p = some (.ins C dx (fsB n lo hi)) → Q .non H'
theorem ok_bound_init (D : Di K mg C "Bound" "Bound.__init__" s_Bound_init) (T : ClsB K C) : ICal P w K mg base CX0 1 C "Bound" ["self", "length", "lowest", "highest"] (spBInit C) := by
  obtain ⟨f, fd, F, M, hm⟩ := D
  refine ⟨f, fd, fn_plain (k := 0) F sc_Bound_init (fun vs H Q E h => by obtain ⟨p, dx, n, lo, hi, rfl, _⟩ := h; rfl) ?_, M, hm, F.binds fun _ _ _ _ _ _ => bind4 (fun _ _ _ _ => rfl) rfl⟩
  intro f cdv A outer s H vs Q E hr h
  obtain ⟨p, dx, n, lo, hi, rfl, hp, q⟩ := h
  refine ⟨_, pss_cons (ps_fld (pv 0) (pv 1) rfl) (pss_cons (ps_fld (pv 0) (pv 2) rfl) (pss_one (ps_fld (pv 0) (pv 3) rfl))), ?_⟩
  refine ⟨_, rfl, _, rfl, p, C, dx, _, rfl, hp, T.cl, T.n1, (by show 0 < 1000; decide), ?_⟩
  refine ⟨_, rfl, _, rfl, p, C, dx, _, rfl, upd_same, T.cl, T.n2, (by show 1 < 1000; decide), ?_⟩
  refine ⟨_, rfl, _, rfl, p, C, dx, _, rfl, upd_same, T.cl, T.n3, (by show 2 < 1000; decide), ?_⟩
  exact q _ (SameX.upd.trans (SameX.upd.trans SameX.upd)) upd_same
def spRInit (C : Addr) : Sp := fun vs H Q _ => ∃ p dx c b r a, vs = [.ref p, c, b, .int r, a] ∧ H p = some (.ins C dx []) ∧ ∀ H', SameX p H H' → H' p = some (.ins C dx (fsR c b r a)) → Q .non H'
theorem ok_relation_init (D : Di K mg C "Relation" "Relation.__init__" s_Relation_init) (T : ClsR K C) : ICal P w K mg base CX0 1 C "Relation" ["self", "condition", "before", "way", "after"] (spRInit C) := by
  obtain ⟨f, fd, F, M, hm⟩ := D
  refine ⟨f, fd, fn_plain (k := 0) F sc_Relation_init (fun vs H Q E h => by obtain ⟨p, dx, c, b, r, a, rfl, _⟩ := h; rfl) ?_, M, hm, F.binds fun _ _ _ _ _ _ => bind5 (fun _ _ _ _ _ => rfl) rfl⟩
  intro f cdv A outer s H vs Q E hr h
  obtain ⟨p, dx, c, b, r, a, rfl, hp, q⟩ := h
  refine ⟨_, pss_cons (ps_fld (pv 0) (pv 1) rfl) (pss_cons (ps_fld (pv 0) (pv 2) rfl) (pss_cons (ps_fld (pv 0) (pv 3) rfl) (pss_one (ps_fld (pv 0) (pv 4) rfl)))), ?_⟩
  refine ⟨_, rfl, _, rfl, p, C, dx, _, rfl, hp, T.cl, T.n1, (by show 0 < 1000; decide), ?_⟩
  refine ⟨_, rfl, _, rfl, p, C, dx, _, rfl, upd_same, T.cl, T.n2, (by show 1 < 1000; decide), ?_⟩
  refine ⟨_, rfl, _, rfl, p, C, dx, _, rfl, upd_same, T.cl, T.n3, (by show 2 < 1000; decide), ?_⟩
  refine ⟨_, rfl, _, rfl, p, C, dx, _, rfl, upd_same, T.cl, T.n4, (by show 3 < 1000; decide), ?_⟩
  exact q _ (SameX.upd.trans (SameX.upd.trans (SameX.upd.trans SameX.upd))) upd_same
/-- made new -/
theorem binit_by {vs : List V} {H : Hp} {x dx : Addr} {n lo hi : Int} {Q : VK} {E : XK} (hv : vs = [.ref x, .int n, .int lo, .int hi]) (hx : H x = none) (hd : H dx = none) (h : ∀ H', Same H H' → BndAt C H' (.ref x) n lo hi → Q .non H') :
    spBInit C vs (upd (upd H dx (.own x)) x (.ins C dx [])) Q E :=
  ⟨x, dx, n, lo, hi, hv, upd_same, fun H' s e => h H' (same_made hx hd s) ⟨x, dx, rfl, e⟩⟩
theorem rinit_by {vs : List V} {H : Hp} {x dx : Addr} {c b a : V} {r : Int} {Q : VK} {E : XK} (hv : vs = [.ref x, c, b, .int r, a]) (hx : H x = none) (hd : H dx = none) (h : ∀ H', Same H H' → H' x = some (.ins C dx (fsR c b r a)) → Q .non H') :
    spRInit C vs (upd (upd H dx (.own x)) x (.ins C dx [])) Q E :=
  ⟨x, dx, c, b, r, a, hv, upd_same, fun H' s e => h H' (same_made hx hd s) e⟩
end
/-! ### read_relation -/
theorem CondAt.sameX {a C dx : Addr} {fs : List (Str × V)} {H H' : Hp} {v : V} {c : VametBase.Cond} (sm : SameX a H H') (ha : H a = some (.ins C dx fs)) (r : CondAt H v c) : CondAt H' v c :=
  let ⟨b, e, h⟩ := r; ⟨b, e, sm _ _ (ne_of h ha (by intro z; cases z)) h⟩
theorem ProgAt.sameX {a C dx : Addr} {fs : List (Str × V)} {H H' : Hp} {v : V} {p : VametBase.Program} (sm : SameX a H H') (ha : H a = some (.ins C dx fs)) (r : ProgAt H v p) : ProgAt H' v p :=
  let ⟨b, vs, e, h, q⟩ := r; ⟨b, vs, e, sm _ _ (ne_of h ha (by intro z; cases z)) h, paired_mono (fun _ _ z => z.sameX sm ha) q⟩
theorem rel_in {x r : List Int} {z : Int} (h : readIn 0 6 x = some (z, r)) : ∃ q, VametBase.readRel x = some (q, r) ∧ VametBase.relNumber q = z := by
  rw [← readRel_eq] at h
  cases hq : VametBase.readRel x with
  | none => rw [hq] at h; cases h
  | some u =>
    rw [hq] at h
    obtain ⟨q, r2⟩ := u
    injection h with h
    injection h with h1 h2
    subst h1 h2
    exact ⟨q, rfl, rfl⟩
theorem rel_out {x : List Int} (h : readIn 0 6 x = none) : VametBase.readRel x = none := by
  rw [← readRel_eq] at h
  cases hq : VametBase.readRel x with
  | none => rfl
  | some u => rw [hq] at h; cases h
theorem readRelation_eq (x : List Int) : VametBase.readRelation x = (VametBase.readCond x).bind fun c => (VametBase.readProgram c.2).bind fun p => (VametBase.readRel p.2).bind fun w => (VametBase.readProgram w.2).map fun q => (⟨c.1, p.1, w.1, q.1⟩, q.2) := by
  unfold VametBase.readRelation VametBase.readPair
  cases VametBase.readCond x with
  | none => rfl
  | some c =>
    dsimp only [Option.bind_some]
    cases VametBase.readProgram c.2 with
    | none => rfl
    | some p =>
      dsimp only [Option.bind_some]
      cases VametBase.readRel p.2 with
      | none => rfl
      | some w =>
        dsimp only [Option.bind_some]
        cases VametBase.readProgram w.2 with
        | none => rfl
        | some q => rfl
section
variable {P : Program} {w : World} {K : PySem.W.Frag} {mg : Str → Option Value} {base : Heap} {C CN CB CR : Addr}
theorem ok_read_relation (D : Df K mg "read_relation" s_read_relation) (R : Rdr P w K mg base C CN) (TR : ClsR K CR) (g6 : ∃ t, mg "LAST_WAY" = some (.int 6 t)) (cc : Cal P w K mg base (CXo P w) 2 "take_condition" ["reader"] (spRd C CN VametBase.readCond CondAt))
    (cp : Cal P w K mg base (CXo P w) 3 "take_program" ["reader"] (spRd C CN VametBase.readProgram ProgAt)) (cr : ICal P w K mg base CX0 1 CR "Relation" ["self", "condition", "before", "way", "after"] (spRInit CR)) :
    Cal P w K mg base (CXo P w) 4 "read_relation" ["told"] (spWhole CN VametBase.readRelation (RelAt CR)) := by
  refine D.okx (k := 3) sc_read_relation spWhole_len (fun _ _ _ _ _ _ => bind1 (fun _ => rfl) rfl) fun f cdv A outer s0 H vs Q E hr xs h => ?_
  obtain ⟨t, l, rfl, ht, q1, q2⟩ := h
  have px := xs.passes rfl
  refine ⟨_, pss_cons (ps_set (i := 1) sc_read_relation.nd rfl (Or.inl rfl) (pe_makeC R.mkR (hr.mono (by decide)) rfl pass0 (pa_cons (pv 0) pa_nil)))
    (pss_cons (ps_set (i := 2) sc_read_relation.nd rfl (Or.inl rfl) (pe_callC cc (hr.mono (by decide)) rfl px (pa_cons (pv 1) pa_nil)))
    (pss_cons (ps_set (i := 3) sc_read_relation.nd rfl (Or.inl rfl) (pe_callC cp hr rfl px (pa_cons (pv 1) pa_nil)))
    (pss_cons (ps_set (i := 4) sc_read_relation.nd rfl (Or.inl rfl) (pe_methC (pv 1) R.T.cl R.tk (hr.mono (by decide)) px (pa_cons pe_int (pa_cons (pe_gint rfl g6) pa_nil))))
    (pss_cons (ps_set (i := 5) sc_read_relation.nd rfl (Or.inl rfl) (pe_callC cp hr rfl px (pa_cons (pv 1) pa_nil)))
    (pss_cons (ps_expr (pe_methC0 (pv 1) R.T.cl R.fin (hr.mono (by decide)) px))
    (pss_one (ps_ret (pe_makeC cr (hr.mono (by decide)) rfl pass0 (pa_cons (pv 2) (pa_cons (pv 3) (pa_cons (pv 4) (pa_cons (pv 5) pa_nil)))))))))))), ?_⟩
  refine ⟨_, rfl, fun a dx hna hnd _ => dinit_by rfl hna hnd fun H1 _ s1 ha1 => ⟨rfl, ?_⟩⟩
  have sm : ∀ {H' H''}, Same H H' → SameX a H' H'' → Same H H'' := fun s x b o e => x _ _ (ne_of_none e hna) (s _ _ e)
  have rd0 := readRelation_eq (l.drop 0)
  rw [List.drop_zero] at rd0
  -- the condition
  refine ⟨_, rfl, a, dx, t, l, 0, rfl, ha1, s1 _ _ ht, Nat.zero_le _, fun c r1 hc H2 vc j2 sx2 ha2 hj2 hd2 hvc => ?_, fun hc H2 sx2 => q2 (whole_no ?_) H2 (sm s1 sx2)⟩
  rotate_left
  · rw [List.drop_zero] at hc
    rw [rd0, hc]; rfl
  rw [List.drop_zero] at hc
  rw [hc] at rd0
  have s2 := sm s1 sx2
  -- the input's turning
  refine ⟨_, rfl, a, dx, t, l, j2, rfl, ha2, s2 _ _ ht, hj2, fun b r2 hb H3 vb j3 sx3 ha3 hj3 hd3 hvb => ?_, fun hb H3 sx3 => q2 (whole_no ?_) H3 (sm s2 sx3)⟩
  rotate_left
  · rw [hd2] at hb
    rw [rd0]
    show (VametBase.readProgram r1).bind _ = none
    rw [hb]; rfl
  rw [hd2] at hb
  have rd1 : VametBase.readRelation l = (VametBase.readProgram r1).bind fun p => (VametBase.readRel p.2).bind fun w => (VametBase.readProgram w.2).map fun q => (⟨c, p.1, w.1, q.1⟩, q.2) := rd0
  rw [hb] at rd1
  have rd1 : VametBase.readRelation l = (VametBase.readRel r2).bind fun w => (VametBase.readProgram w.2).map fun q => (⟨c, b, w.1, q.1⟩, q.2) := rd1
  have s3 := sm s2 sx3
  -- the way
  refine ⟨_, rfl, a, dx, _, rfl, ha3, fsD_take, tCons_C (tCons_C (tNil_ ?_))⟩
  refine take_by rfl ha3 (s3 _ _ ht) hj3 (fun z r3 hz hj4 hd4 => ?_) fun hz => q2 (whole_no (by rw [rd1, rel_out (by rw [← hd3]; exact hz)]; rfl)) _ s3
  rw [hd3] at hz
  obtain ⟨wy, hw1, hw2⟩ := rel_in hz
  rw [hw1] at rd1
  have rd2 : VametBase.readRelation l = (VametBase.readProgram r3).map fun q => (⟨c, b, wy, q.1⟩, q.2) := rd1
  have ha4 : (upd H3 a (.ins C dx (fsD (.ref t) ((j3 + 1 : Nat) : Int)))) a = some (.ins C dx (fsD (.ref t) ((j3 + 1 : Nat) : Int))) := upd_same
  have sx4 : SameX a H3 (upd H3 a (.ins C dx (fsD (.ref t) ((j3 + 1 : Nat) : Int)))) := SameX.upd
  generalize upd H3 a (.ins C dx (fsD (.ref t) ((j3 + 1 : Nat) : Int))) = H4 at ha4 sx4
  have s4 := sm s3 sx4
  -- the output's turning
  refine ⟨_, rfl, a, dx, t, l, j3 + 1, rfl, ha4, s4 _ _ ht, hj4, fun e r4 he H5 ve j5 sx5 ha5 hj5 hd5 hve => ?_, fun he H5 sx5 => q2 (whole_no ?_) H5 (sm s4 sx5)⟩
  rotate_left
  · rw [hd4] at he
    rw [rd2, he]; rfl
  rw [hd4] at he
  rw [he] at rd2
  have rd3 : VametBase.readRelation l = some (⟨c, b, wy, e⟩, r4) := rd2
  have s5 := sm s4 sx5
  refine ⟨_, rfl, a, dx, _, rfl, ha5, fsD_finish, tNil_ (finish_by rfl ha5 (s5 _ _ ht) hj5 (fun hf => ?_) fun hf => ?_)⟩
  · rw [hd5] at hf
    rw [hf] at rd3
    refine ⟨_, rfl, _, rfl, _, rfl, _, rfl, fun p dp hp hdp _ => rinit_by rfl hp hdp fun H6 s6 h6 => ⟨rfl, ?_⟩⟩
    refine q1 _ (whole_ok rd3) _ _ (s5.trans s6) ⟨p, dp, vc, vb, ve, rfl, ?_, ?_, ?_, ?_⟩
    · rw [h6, hw2]
    · exact (((hvc.sameX sx3 ha2).sameX sx4 ha3).sameX sx5 ha4).same s6
    · exact ((hvb.sameX sx4 ha3).sameX sx5 ha4).same s6
    · exact hve.same s6
  · rw [hd5] at hf
    exact q2 (whole_more rd3 hf) _ s5
end
end Rh

end

-- part RhRead6
section
set_option Elab.async false
set_option linter.all false
set_option maxRecDepth 100000
set_option maxHeartbeats 2000000
namespace Rh
open PySem PySem.Spec PyProof.Rows L2
theorem readNat08 (x : List Int) : VametBase.readNat 0 8 x = (readIn 0 8 x).map fun u => (u.1.toNat, u.2) := readNat_eq 0 8 x
theorem readBound_eq (x : List Int) : VametBase.readBound x = (readIn 0 8 x).bind fun n => (readIn (-99) 99 n.2).bind fun lo => (readIn lo.1 99 lo.2).bind fun hi =>
    if Rm.tot (VametBase.width ⟨n.1.toNat, lo.1, hi.1⟩) (n.1.toNat + 1) ≤ 1500 then some (⟨n.1.toNat, lo.1, hi.1⟩, hi.2) else none := by
  unfold VametBase.readBound VametBase.readPair
  rw [readNat08]
  cases h1 : readIn 0 8 x with
  | none => rfl
  | some n =>
    obtain ⟨n, r⟩ := n
    obtain ⟨_, hn⟩ := readIn_some h1
    dsimp only [Option.bind_some, Option.map_some]
    rw [readInt_eq]
    cases h2 : readIn (-99) 99 r with
    | none => rfl
    | some lo =>
      obtain ⟨lo, r⟩ := lo
      obtain ⟨_, hlo⟩ := readIn_some h2
      dsimp only [Option.bind_some, Option.map_some]
      rw [readInt_eq]
      cases h3 : readIn (-99) 99 r with
      | none =>
        have e : readIn lo 99 r = none := by
          cases r with
          | nil => rfl
          | cons z r =>
            refine readIn_neg fun y => ?_
            rw [readIn_pos (by omega)] at h3
            cases h3
        rw [e]
        rfl
      | some hi =>
        obtain ⟨hi, r3⟩ := hi
        obtain ⟨e3, hhi⟩ := readIn_some h3
        dsimp only [Option.bind_some, Option.map_some]
        by_cases hle : lo ≤ hi
        · have e : readIn lo 99 r = some (hi, r3) := by rw [e3]; exact readIn_pos ⟨hle, hhi.2⟩
          rw [e]
          dsimp only [Option.bind_some]
          have hw : 1 ≤ VametBase.width ⟨n.toNat, lo, hi⟩ := by unfold VametBase.width; show 1 ≤ (hi - lo + 1).toNat; omega
          have hc := count_of (b := ⟨n.toNat, lo, hi⟩) hw
          have hok : VametBase.okBound ⟨n.toNat, lo, hi⟩ = decide (Rm.tot (VametBase.width ⟨n.toNat, lo, hi⟩) (n.toNat + 1) ≤ 1500) := by
            unfold VametBase.okBound VametBase.TOLD VametBase.INPUTS
            rw [hc]
            simp only
            rw [Bool.eq_iff_iff]
            simp only [Bool.and_eq_true, decide_eq_true_eq]
            constructor
            · rintro ⟨_, _, _, _, h⟩
              omega
            · intro h
              refine ⟨by omega, by omega, hle, by omega, by omega⟩
          rw [hok]
          by_cases hq : Rm.tot (VametBase.width ⟨n.toNat, lo, hi⟩) (n.toNat + 1) ≤ 1500
          · rw [decide_eq_true hq, if_pos hq]; rfl
          · rw [decide_eq_false hq, if_neg hq]; rfl
        · have e : readIn lo 99 r = none := by rw [e3]; exact readIn_neg fun y => hle y.1
          rw [e]
          have hok : VametBase.okBound ⟨n.toNat, lo, hi⟩ = false := by
            unfold VametBase.okBound
            rw [show decide (VametBase.Bound.lo ⟨n.toNat, lo, hi⟩ ≤ VametBase.Bound.hi ⟨n.toNat, lo, hi⟩) = false from decide_eq_false hle]
            simp
          rw [hok]
          rfl
/-- a bound that was read -/
def BndOk (C : Addr) (H : Hp) (v : V) (b : VametBase.Bound) : Prop := Bnd C H v b ∧ VametBase.inputCount b ≤ 1500
/-- a row that was read -/
def RowOk (H : Hp) (v : V) (ns : List Int) : Prop := RowAt H v ns ∧ ns.length ≤ 8
section
variable {P : Program} {w : World} {K : PySem.W.Frag} {mg : Str → Option Value} {base : Heap} {C CN CB CR : Addr}
theorem ok_read_bound (D : Df K mg "read_bound" s_read_bound) (R : Rdr P w K mg base C CN) (TB : ClsB K CB) (g8 : ∃ t, mg "LONGEST" = some (.int 8 t)) (g99 : ∃ t, mg "FARTHEST_TOLD" = some (.int 99 t)) (gm : ∃ t, mg "MOST_INPUTS" = some (.int 1500 t))
    (cb : ICal P w K mg base CX0 1 CB "Bound" ["self", "length", "lowest", "highest"] (spBInit CB)) (cm : Cal P w K mg base CX0 2 "how_many" ["bound"] (spMany CB)) :
    Cal P w K mg base (CXo P w) 3 "read_bound" ["told"] (spWhole CN VametBase.readBound (BndOk CB)) := by
  refine D.okx (k := 2) sc_read_bound spWhole_len (fun _ _ _ _ _ _ => bind1 (fun _ => rfl) rfl) fun f cdv A outer s0 H vs Q E hr xs h => ?_
  obtain ⟨t, l, rfl, ht, q1, q2⟩ := h
  have px := xs.passes rfl
  refine ⟨_, pss_cons (ps_set (i := 1) sc_read_bound.nd rfl (Or.inl rfl) (pe_makeC R.mkR hr rfl pass0 (pa_cons (pv 0) pa_nil)))
    (pss_cons (ps_set (i := 2) sc_read_bound.nd rfl (Or.inl rfl) (pe_methC (pv 1) R.T.cl R.tk (hr.mono (by decide)) px (pa_cons pe_int (pa_cons (pe_gint rfl g8) pa_nil))))
    (pss_cons (ps_set (i := 3) sc_read_bound.nd rfl (Or.inl rfl) (pe_methC (pv 1) R.T.cl R.tk (hr.mono (by decide)) px (pa_cons (pe_un un_neg (pe_gint rfl g99)) (pa_cons (pe_gint rfl g99) pa_nil))))
    (pss_cons (ps_set (i := 4) sc_read_bound.nd rfl (Or.inl rfl) (pe_methC (pv 1) R.T.cl R.tk (hr.mono (by decide)) px (pa_cons (pv 3) (pa_cons (pe_gint rfl g99) pa_nil))))
    (pss_cons (ps_expr (pe_methC0 (pv 1) R.T.cl R.fin (hr.mono (by decide)) px))
    (pss_cons (ps_set (i := 5) sc_read_bound.nd rfl (Or.inl rfl) (pe_makeC cb hr rfl pass0 (pa_cons (pv 2) (pa_cons (pv 3) (pa_cons (pv 4) pa_nil)))))
    (pss_cons (ps_if (pt_cmpR op_gt (pe_callC cm hr rfl pass0 (pa_cons (pv 5) pa_nil)) (pe_gint rfl gm) (nomark _)) (pss_one (ps_raise0 rfl rfl xs rfl R.X.at_ R.X.ex PySem.F.excBase_Exception)) pss_nil)
    (pss_one (ps_ret (pv 5))))))))), ?_⟩
  refine ⟨_, rfl, fun a dx hna hnd _ => dinit_by rfl hna hnd fun H1 _ s1 ha1 => ⟨rfl, ?_⟩⟩
  have sm : ∀ {H' H''}, Same H H' → SameX a H' H'' → Same H H'' := fun s x b o e => x _ _ (ne_of_none e hna) (s _ _ e)
  have rd0 := readBound_eq (l.drop 0)
  rw [List.drop_zero] at rd0
  -- the length
  refine ⟨_, rfl, a, dx, _, rfl, ha1, fsD_take, tCons_C (tCons_C (tNil_ ?_))⟩
  refine take_by rfl ha1 (s1 _ _ ht) (Nat.zero_le _) (fun n r1 hn hj2 hd2 => ?_) fun hz => q2 (whole_no (by rw [rd0, ← List.drop_zero (l := l), hz]; rfl)) _ s1
  rw [List.drop_zero] at hn
  rw [hn] at rd0
  obtain ⟨_, in1⟩ := readIn_some hn
  have ha2 : (upd H1 a (.ins C dx (fsD (.ref t) ((0 + 1 : Nat) : Int)))) a = some (.ins C dx (fsD (.ref t) ((0 + 1 : Nat) : Int))) := upd_same
  have sx2 : SameX a H1 (upd H1 a (.ins C dx (fsD (.ref t) ((0 + 1 : Nat) : Int)))) := SameX.upd
  generalize upd H1 a (.ins C dx (fsD (.ref t) ((0 + 1 : Nat) : Int))) = H2 at ha2 sx2
  have s2 := sm s1 sx2
  have rd1 : VametBase.readBound l = (readIn (-99) 99 r1).bind fun lo => (readIn lo.1 99 lo.2).bind fun hi =>
    if Rm.tot (VametBase.width ⟨n.toNat, lo.1, hi.1⟩) (n.toNat + 1) ≤ 1500 then some (⟨n.toNat, lo.1, hi.1⟩, hi.2) else none := rd0
  -- the lowest
  refine ⟨_, rfl, a, dx, _, rfl, ha2, fsD_take, tCons_N (tCons_C (tNil_ ?_))⟩
  refine take_by rfl ha2 (s2 _ _ ht) hj2 (fun lo r2 hlo hj3 hd3 => ?_) fun hz => q2 (whole_no (by rw [rd1, ← hd2, hz]; rfl)) _ s2
  rw [hd2] at hlo
  rw [hlo] at rd1
  obtain ⟨_, in2⟩ := readIn_some hlo
  have ha3 : (upd H2 a (.ins C dx (fsD (.ref t) ((0 + 1 + 1 : Nat) : Int)))) a = some (.ins C dx (fsD (.ref t) ((0 + 1 + 1 : Nat) : Int))) := upd_same
  have sx3 : SameX a H2 (upd H2 a (.ins C dx (fsD (.ref t) ((0 + 1 + 1 : Nat) : Int)))) := SameX.upd
  generalize upd H2 a (.ins C dx (fsD (.ref t) ((0 + 1 + 1 : Nat) : Int))) = H3 at ha3 sx3
  have s3 := sm s2 sx3
  have rd2 : VametBase.readBound l = (readIn lo 99 r2).bind fun hi =>
    if Rm.tot (VametBase.width ⟨n.toNat, lo, hi.1⟩) (n.toNat + 1) ≤ 1500 then some (⟨n.toNat, lo, hi.1⟩, hi.2) else none := rd1
  -- the highest
  refine ⟨_, rfl, a, dx, _, rfl, ha3, fsD_take, ?_⟩
  refine ⟨_, rfl, tCons_C (tNil_ ?_)⟩
  refine take_by rfl ha3 (s3 _ _ ht) hj3 (fun hi r3 hhi hj4 hd4 => ?_) fun hz => q2 (whole_no (by rw [rd2, ← hd3, hz]; rfl)) _ s3
  rw [hd3] at hhi
  rw [hhi] at rd2
  obtain ⟨_, in3⟩ := readIn_some hhi
  have ha4 : (upd H3 a (.ins C dx (fsD (.ref t) ((0 + 1 + 1 + 1 : Nat) : Int)))) a = some (.ins C dx (fsD (.ref t) ((0 + 1 + 1 + 1 : Nat) : Int))) := upd_same
  have sx4 : SameX a H3 (upd H3 a (.ins C dx (fsD (.ref t) ((0 + 1 + 1 + 1 : Nat) : Int)))) := SameX.upd
  generalize upd H3 a (.ins C dx (fsD (.ref t) ((0 + 1 + 1 + 1 : Nat) : Int))) = H4 at ha4 sx4
  have s4 := sm s3 sx4
  have rd3 : VametBase.readBound l = if Rm.tot (VametBase.width ⟨n.toNat, lo, hi⟩) (n.toNat + 1) ≤ 1500 then some (⟨n.toNat, lo, hi⟩, r3) else none := rd2
  refine ⟨_, rfl, a, dx, _, rfl, ha4, fsD_finish, tNil_ (finish_by rfl ha4 (s4 _ _ ht) hj4 (fun hf => ?_) fun hf => ?_)⟩
  rotate_left
  · rw [hd4] at hf
    refine q2 ?_ _ s4
    by_cases hq : Rm.tot (VametBase.width ⟨n.toNat, lo, hi⟩) (n.toNat + 1) ≤ 1500
    · rw [if_pos hq] at rd3; exact whole_more rd3 hf
    · rw [if_neg hq] at rd3; exact whole_no rd3
  rw [hd4] at hf
  rw [hf] at rd3
  refine ⟨_, rfl, _, rfl, _, rfl, fun p dp hp hdp _ => binit_by rfl hp hdp fun H6 s6 h6 => ⟨rfl, ?_⟩⟩
  have hB : Bnd CB H6 (.ref p) ⟨n.toNat, lo, hi⟩ := ⟨by rw [show (((⟨n.toNat, lo, hi⟩ : VametBase.Bound).long : Nat) : Int) = n from Int.toNat_of_nonneg in1.1]; exact h6, in3.1, (by show n.toNat ≤ 8; omega), in2.1, in3.2⟩
  have s6' := s4.trans s6
  refine ⟨_, rfl, _, ⟨n.toNat, lo, hi⟩, rfl, hB, ?_⟩
  refine ⟨_, _, rfl, rfl, _, rfl, ?_⟩
  have hc := count_of hB.w.2.1
  refine ite2 (fun hq => ?_) fun hq => ?_
  · have hq := of_decide_eq_true hq
    refine q2 (whole_no ?_) _ s6'
    rw [rd3, if_neg]
    show ¬ Rm.tot (VametBase.width ⟨n.toNat, lo, hi⟩) (n.toNat + 1) ≤ 1500
    have hq : (1500 : Int) < ((Rm.tot (VametBase.width ⟨n.toNat, lo, hi⟩) (n.toNat + 1) : Nat) : Int) := hq
    omega
  · have hq : ¬ (1500 : Int) < ((Rm.tot (VametBase.width ⟨n.toNat, lo, hi⟩) (n.toNat + 1) : Nat) : Int) := fun y => hq (decide_eq_true y)
    have hq : Rm.tot (VametBase.width ⟨n.toNat, lo, hi⟩) (n.toNat + 1) ≤ 1500 := by omega
    rw [if_pos hq] at rd3
    refine ⟨_, rfl, q1 _ (whole_ok rd3) _ _ s6' ⟨hB, ?_⟩⟩
    rw [hc]
    exact Nat.le_trans (Nat.min_le_right _ _) hq
end
end Rh

end

-- part RhRead7
section
set_option Elab.async false
set_option linter.all false
set_option maxRecDepth 100000
set_option maxHeartbeats 2000000
namespace Rh
open PySem PySem.Spec PyProof.Rows L2
theorem readRow_eq (x : List Int) : VametBase.readRow x = (readIn 0 8 x).bind fun n => VametBase.readTimes (readIn (-99) 99) n.1.toNat n.2 := by
  have e : VametBase.readInt VametBase.TOLD = readIn (-99) 99 := funext readInt_eq
  unfold VametBase.readRow VametBase.readListed
  rw [e, readNat08]
  cases readIn 0 8 x <;> rfl
theorem times_len {R : List Int → Option (Int × List Int)} : ∀ (n : Nat) (x : List Int) {u : List Int × List Int}, VametBase.readTimes R n x = some u → u.1.length = n
  | 0, x, u, h => by cases h; rfl
  | n + 1, x, u, h => by
    rw [times_step] at h
    cases hR : R x with
    | none => rw [hR] at h; cases h
    | some v =>
      rw [hR] at h
      dsimp only [Option.bind_some] at h
      cases hT : VametBase.readTimes R n v.2 with
      | none => rw [hT] at h; cases h
      | some y =>
        rw [hT] at h
        cases h
        show (v.1 :: y.1).length = n + 1
        rw [List.length_cons, times_len n _ hT]
section
variable {P : Program} {w : World} {K : PySem.W.Frag} {mg : Str → Option Value} {base : Heap} {C CN CB CR : Addr}
theorem ok_read_row (D : Df K mg "read_row" s_read_row) (R : Rdr P w K mg base C CN) (hrng : mg "range" = none) (g8 : ∃ t, mg "LONGEST" = some (.int 8 t)) (g99 : ∃ t, mg "FARTHEST_TOLD" = some (.int 99 t)) :
    Cal P w K mg base (CXo P w) 3 "read_row" ["told"] (spWhole CN VametBase.readRow RowOk) := by
  refine D.okx (k := 2) sc_read_row spWhole_len (fun _ _ _ _ _ _ => bind1 (fun _ => rfl) rfl) fun f cdv A outer s0 H vs Q E hr xs h => ?_
  obtain ⟨t, l, rfl, ht, q1, q2⟩ := h
  have px := xs.passes rfl
  refine ⟨_, pss_cons (ps_set (i := 1) sc_read_row.nd rfl (Or.inr rfl) (pe_makeC R.mkR hr rfl pass0 (pa_cons (pv 0) pa_nil)))
    (pss_cons (ps_set (i := 2) sc_read_row.nd rfl (Or.inl rfl) (pe_methC (pv 1) R.T.cl R.tk (hr.mono (by decide)) px (pa_cons pe_int (pa_cons (pe_gint rfl g8) pa_nil))))
    (pss_cons (ps_setLcR (i := 3) (own := [("place", 4)]) (g := gName 4) rfl rfl rfl xs rfl sc_read_row.nd rfl rfl rfl (pi_range1 rfl hrng (pa_cons (pv 2) pa_nil)) (blkOk_by (own := [("place", 4)]) (N := n_read_row) (sc := defScope s_read_row) (by decide +kernel))
      (fun _ _ _ _ _ => pg_name (i := 4) sc_read_row.nd rfl (Or.inl rfl)) (fun _ _ _ _ _ => pts_nil) (fun _ _ _ _ _ Eb pb => pe_methC (pv 1) R.T.cl R.tk (hr.mono (by decide)) pb (pa_cons (pe_un un_neg (pe_gint rfl g99)) (pa_cons (pe_gint rfl g99) pa_nil))))
    (pss_cons (ps_expr (pe_methC0 (pv 1) R.T.cl R.fin (hr.mono (by decide)) px))
    (pss_one (ps_ret (pv 3)))))), ?_⟩
  refine ⟨_, rfl, fun a dx hna hnd _ => dinit_by rfl hna hnd fun H1 _ s1 ha1 => ⟨rfl, ?_⟩⟩
  have sm : ∀ {H' H''}, Same H H' → SameX a H' H'' → Same H H'' := fun s x b o e => x _ _ (ne_of_none e hna) (s _ _ e)
  have rd0 := readRow_eq (l.drop 0)
  rw [List.drop_zero] at rd0
  refine ⟨_, rfl, a, dx, _, rfl, ha1, fsD_take, tCons_C (tCons_C (tNil_ ?_))⟩
  refine take_by rfl ha1 (s1 _ _ ht) (Nat.zero_le _) (fun k r1 hn hj2 hd2 => ?_) fun hz => q2 (whole_no (by rw [rd0, ← List.drop_zero (l := l), hz]; rfl)) _ s1
  rw [List.drop_zero] at hn
  rw [hn] at rd0
  obtain ⟨_, in1⟩ := readIn_some hn
  have ha2 : (upd H1 a (.ins C dx (fsD (.ref t) ((0 + 1 : Nat) : Int)))) a = some (.ins C dx (fsD (.ref t) ((0 + 1 : Nat) : Int))) := upd_same
  have sx2 : SameX a H1 (upd H1 a (.ins C dx (fsD (.ref t) ((0 + 1 : Nat) : Int)))) := SameX.upd
  generalize upd H1 a (.ins C dx (fsD (.ref t) ((0 + 1 : Nat) : Int))) = H2 at ha2 sx2
  have s2 := sm s1 sx2
  have rd1 : VametBase.readRow l = VametBase.readTimes (readIn (-99) 99) k.toNat r1 := rd0
  refine ⟨_, rfl, _, rfl, by omega, by omega, fun D0 hD => ?_⟩
  have naD : a ≠ D0 := ne_of_none ha2 hD
  have hDH : H D0 = none := by
    cases q : H D0 with
    | none => rfl
    | some o => rw [s2 _ _ q] at hD; cases hD
  have hn8 : k.toNat ≤ 8 := by omega
  have nta : t ≠ a := ne_of (s2 _ _ ht) ha2 (by intro z; cases z)
  generalize hn : k.toNat = n at rd1 hn8
  refine lc_range (lo := 0) (n := n) (fun m H' => ∃ (ps : List Int) (j : Nat), Same H H' ∧ H' a = some (.ins C dx (fsD (.ref t) (j : Nat))) ∧ j ≤ l.length ∧ H' D0 = some (.lst (ps.map V.int)) ∧ ps.length = m ∧
      VametBase.readRow l = (VametBase.readTimes (readIn (-99) 99) (n - m) (l.drop j)).map fun u => (ps ++ u.1, u.2))
    ⟨[], 0 + 1, same_put s2 hDH, by rw [upd_ne naD]; exact ha2, hj2, upd_same, rfl, by rw [hd2, rd1]; simp⟩ ?_ ?_
  · rintro m H' hm ⟨ps, j, sm', ha3, hj, hD2, hl2, hrt⟩
    have hnm : n - m = (n - (m + 1)) + 1 := by omega
    rw [hnm, times_step] at hrt
    refine ⟨rfl, ?_⟩
    refine ⟨_, rfl, a, dx, _, rfl, ha3, fsD_take, tCons_N (tCons_C (tNil_ ?_))⟩
    refine take_by rfl ha3 (sm' _ _ ht) hj (fun z r2 hz hj3 hd3 => ?_) fun hz => q2 (whole_no (by rw [hrt, hz]; rfl)) _ sm'
    have sx4 : SameX a H' (upd H' a (.ins C dx (fsD (.ref t) ((j + 1 : Nat) : Int)))) := SameX.upd
    have hD3 := sx4 _ _ (Ne.symm naD) hD2
    refine ⟨_, hD3, by rw [List.length_map, hl2]; exact short_line (by omega), ps ++ [z], j + 1, same_put (sm sm' sx4) hDH, by rw [upd_ne naD, upd_same], hj3, by rw [upd_same, List.map_append]; rfl, by simp [hl2], ?_⟩
    rw [hrt, hz, hd3]
    show (Option.map _ _).map _ = _
    rw [Option.map_map]
    congr 1
    funext u
    show (ps ++ (z :: u.1), u.2) = ((ps ++ [z]) ++ u.1, u.2)
    simp
  · rintro H' ⟨ps, j, sm', ha3, hj, hD2, hl2, hrt⟩
    rw [Nat.sub_self, times_done] at hrt
    have hrt : VametBase.readRow l = some (ps, l.drop j) := by rw [hrt]; simp
    refine ⟨_, rfl, a, dx, _, rfl, ha3, fsD_finish, tNil_ (finish_by rfl ha3 (sm' _ _ ht) hj (fun hf => ?_) fun hf => ?_)⟩
    · rw [hf] at hrt
      exact ⟨_, rfl, q1 _ (whole_ok hrt) _ _ sm' ⟨⟨D0, rfl, hD2⟩, by omega⟩⟩
    · exact q2 (whole_more hrt hf) _ sm'
end
end Rh

end

-- part RhSub
section
set_option Elab.async false
set_option linter.all false
set_option maxRecDepth 100000
set_option maxHeartbeats 2000000
namespace Rh
open PySem PySem.Spec PyProof.Rows L2
structure ClsS (K : PySem.W.Frag) (C : Addr) : Prop where
  cl : Cls K C
  n1 : NoAttr K C "program"
  n2 : NoAttr K C "relation"
  n3 : NoAttr K C "bound"
def fsS (p r b : V) : List (Str × V) := [("program", p), ("relation", r), ("bound", b)]
def fsS1 (p : V) : List (Str × V) := [("program", p)]
def fsS2 (p r : V) : List (Str × V) := [("program", p), ("relation", r)]
theorem put1 {p : V} : putF "program" p [] = fsS1 p := rfl
theorem put2 {p r : V} : putF "relation" r (fsS1 p) = fsS2 p r := rfl
theorem put3 {p r b : V} : putF "bound" b (fsS2 p r) = fsS p r b := rfl
theorem put1' {p r b q : V} : putF "program" q (fsS p r b) = fsS q r b := rfl
theorem put2' {p r b q : V} : putF "relation" q (fsS p r b) = fsS p q b := rfl
theorem put3' {p r b q : V} : putF "bound" q (fsS p r b) = fsS p r q := rfl
/-- the object stands at a -/
def SubAt (CS CR CB : Addr) (H : Hp) (a : Addr) (s : Vametb.State) : Prop := ∃ dx vp vr vb, H a = some (.ins CS dx (fsS vp vr vb)) ∧ ProgAt H vp s.program ∧ RelAt CR H vr s.relation ∧ BndOk CB H vb s.bound
theorem SubAt.same {CS CR CB : Addr} {H H' : Hp} {a : Addr} {s : Vametb.State} (sm : Same H H') (h : SubAt CS CR CB H a s) : SubAt CS CR CB H' a s :=
  let ⟨dx, vp, vr, vb, h1, h2, h3, h4⟩ := h; ⟨dx, vp, vr, vb, sm _ _ h1, h2.same sm, h3.same sm, h4.1.same sm, h4.2⟩
theorem prog_none {H : Hp} {p : Addr} (h : H p = some (.lst [])) : ProgAt H (.ref p) [] := ⟨p, [], rfl, h, .nil⟩
theorem RelAt.sameX {a C dx CR : Addr} {fs : List (Str × V)} {H H' : Hp} {v : V} {r : VametBase.Relation} (sm : SameX a H H') (ha : H a = some (.ins C dx fs)) (hn : v ≠ .ref a) (h : RelAt CR H v r) : RelAt CR H' v r :=
  let ⟨b, d, vc, vb, va, e, h1, h2, h3, h4⟩ := h; ⟨b, d, vc, vb, va, e, sm _ _ (fun z => hn (by rw [e, z])) h1, h2.sameX sm ha, h3.sameX sm ha, h4.sameX sm ha⟩
theorem BndAt.sameX {a C : Addr} {H H' : Hp} {v : V} {n lo hi : Int} (sm : SameX a H H') (hn : v ≠ .ref a) (h : BndAt C H v n lo hi) : BndAt C H' v n lo hi :=
  let ⟨b, d, e, h1⟩ := h; ⟨b, d, e, sm _ _ (fun z => hn (by rw [e, z])) h1⟩
section
variable {P : Program} {w : World} {K : PySem.W.Frag} {mg : Str → Option Value} {base : Heap} {C CN CB CR CS : Addr}
def spSInit (CS CR CB : Addr) : Sp := fun vs H Q _ => ∃ p dx, vs = [.ref p] ∧ H p = some (.ins CS dx []) ∧ ∀ H', SameX p H H' → SubAt CS CR CB H' p Vametb.start → Q .non H'
theorem ok_subject_init (D : Di K mg CS "Subject" "Subject.__init__" s_Subject_init) (T : ClsS K CS) (cr : ICal P w K mg base CX0 1 CR "Relation" ["self", "condition", "before", "way", "after"] (spRInit CR))
    (cb : ICal P w K mg base CX0 1 CB "Bound" ["self", "length", "lowest", "highest"] (spBInit CB)) : ICal P w K mg base CX0 3 CS "Subject" ["self"] (spSInit CS CR CB) := by
  obtain ⟨f, fd, F, M, hm⟩ := D
  refine ⟨f, fd, fn_plain (k := 2) F sc_Subject_init (fun vs H Q E h => by obtain ⟨p, dx, rfl, _⟩ := h; rfl) ?_, M, hm, F.binds fun _ _ _ _ _ _ => bind1 (fun _ => rfl) rfl⟩
  intro f cdv A outer s H vs Q E hr h
  obtain ⟨p, dx, rfl, hp, q⟩ := h
  refine ⟨_, pss_cons (ps_fld (pv 0) (pe_lst pa_nil) rfl) (pss_cons (ps_fld (pv 0) (pe_makeC cr hr rfl pass0 (pa_cons (pe_tup (pa_cons pe_int (pa_cons pe_int pa_nil))) (pa_cons (pe_lst pa_nil) (pa_cons pe_int (pa_cons (pe_lst pa_nil) pa_nil))))) rfl)
    (pss_one (ps_fld (pv 0) (pe_makeC cb hr rfl pass0 (pa_cons pe_int (pa_cons pe_int (pa_cons pe_int pa_nil)))) rfl))), ?_⟩
  refine ⟨Nat.zero_le _, fun a1 h1 => ?_⟩
  have s1 : Same H (upd H a1 (.lst [])) := same_new h1
  have e1 : (upd H a1 (.lst [])) a1 = some (.lst []) := upd_same
  generalize upd H a1 (.lst []) = H1 at s1 e1
  have p1 := s1 _ _ hp
  refine ⟨_, rfl, p, CS, dx, _, rfl, p1, T.cl, T.n1, (by show 0 < 1000; decide), ?_⟩
  have x2 : SameX p H1 (upd H1 p (.ins CS dx (fsS1 (.ref a1)))) := SameX.upd
  have p2 : (upd H1 p (.ins CS dx (fsS1 (.ref a1)))) p = some (.ins CS dx (fsS1 (.ref a1))) := upd_same
  have e2 := x2 _ _ (ne_of e1 p1 (by intro z; cases z)) e1
  rw [put1]
  generalize upd H1 p (.ins CS dx (fsS1 (.ref a1))) = H2 at x2 p2 e2
  -- the relation
  refine ⟨(by show 2 ≤ sizeLine; decide), fun a3 h3 => ?_⟩
  have s3 : Same H2 (upd H2 a3 (.tup [.int 0, .int 0])) := same_new h3
  have e3 : (upd H2 a3 (.tup [.int 0, .int 0])) a3 = some (.tup [.int 0, .int 0]) := upd_same
  generalize upd H2 a3 (.tup [.int 0, .int 0]) = H3 at s3 e3
  refine ⟨Nat.zero_le _, fun a4 h4 => ?_⟩
  have s4 : Same H3 (upd H3 a4 (.lst [])) := same_new h4
  have e4 : (upd H3 a4 (.lst [])) a4 = some (.lst []) := upd_same
  generalize upd H3 a4 (.lst []) = H4 at s4 e4
  refine ⟨Nat.zero_le _, fun a5 h5 => ?_⟩
  have s5 : Same H4 (upd H4 a5 (.lst [])) := same_new h5
  have e5 : (upd H4 a5 (.lst [])) a5 = some (.lst []) := upd_same
  generalize upd H4 a5 (.lst []) = H5 at s5 e5
  refine fun a6 d6 h6 hd6 _ => rinit_by rfl h6 hd6 fun H6 s6 e6 => ⟨rfl, ?_⟩
  have s26 : Same H2 H6 := s3.trans (s4.trans (s5.trans s6))
  have rel : RelAt CR H6 (.ref a6) ⟨.any, [], .equal, []⟩ := ⟨a6, d6, .ref a3, .ref a4, .ref a5, rfl, e6, ⟨a3, rfl, s6 _ _ (s5 _ _ (s4 _ _ e3))⟩, prog_none (s6 _ _ (s5 _ _ e4)), prog_none (s6 _ _ e5)⟩
  have p6 := s26 _ _ p2
  refine ⟨_, rfl, p, CS, dx, _, rfl, p6, T.cl, T.n2, (by show 1 < 1000; decide), ?_⟩
  have x7 : SameX p H6 (upd H6 p (.ins CS dx (fsS2 (.ref a1) (.ref a6)))) := SameX.upd
  have p7 : (upd H6 p (.ins CS dx (fsS2 (.ref a1) (.ref a6)))) p = some (.ins CS dx (fsS2 (.ref a1) (.ref a6))) := upd_same
  rw [put2]
  generalize upd H6 p (.ins CS dx (fsS2 (.ref a1) (.ref a6))) = H7 at x7 p7
  -- the bound
  refine fun a8 d8 h8 hd8 _ => binit_by rfl h8 hd8 fun H8 s8 e8 => ⟨rfl, ?_⟩
  refine ⟨_, rfl, p, CS, dx, _, rfl, s8 _ _ p7, T.cl, T.n3, (by show 2 < 1000; decide), ?_⟩
  have x9 : SameX p H8 (upd H8 p (.ins CS dx (fsS (.ref a1) (.ref a6) (.ref a8)))) := SameX.upd
  have p9 : (upd H8 p (.ins CS dx (fsS (.ref a1) (.ref a6) (.ref a8)))) p = some (.ins CS dx (fsS (.ref a1) (.ref a6) (.ref a8))) := upd_same
  show Q .non (upd H8 p (.ins CS dx (fsS (.ref a1) (.ref a6) (.ref a8))))
  generalize upd H8 p (.ins CS dx (fsS (.ref a1) (.ref a6) (.ref a8))) = H9 at x9 p9
  have np6 : a6 ≠ p := Ne.symm (ne_of_none (s5 _ _ (s4 _ _ (s3 _ _ p2))) h6)
  have np8 : a8 ≠ p := Ne.symm (ne_of_none p7 h8)
  refine q _ (fun b o n e => x9 _ _ n (s8 _ _ (x7 _ _ n (s26 _ _ (x2 _ _ n (s1 _ _ e)))))) ⟨dx, _, _, _, p9, ?_, ?_, ⟨?_, by decide, by decide, by decide, by decide⟩, by decide⟩
  · exact prog_none (x9 _ _ (ne_of e2 p2 (by intro z; cases z)) (s8 _ _ (x7 _ _ (ne_of e2 p2 (by intro z; cases z)) (s26 _ _ e2))))
  · have r7 := rel.sameX x7 p6 (by intro z; injection z with z; exact np6 z)
    exact (r7.same s8).sameX x9 (s8 _ _ p7) (by intro z; injection z with z; exact np6 z)
  · obtain ⟨b8, d8', hb, hb2⟩ := e8
    exact ⟨b8, d8', hb, x9 _ _ (by injection hb with z; rw [← z]; exact np8) hb2⟩
end
end Rh

end

-- part RhSub2
section
set_option Elab.async false
set_option linter.all false
set_option maxRecDepth 100000
set_option maxHeartbeats 2000000
namespace Rh
open PySem PySem.Spec PyProof.Rows L2
section
variable {P : Program} {w : World} {K : PySem.W.Frag} {mg : Str → Option Value} {base : Heap} {C CN CB CR CS : Addr}
/-- a new list of numbers -/
def NewL (H H' : Hp) (p : Addr) (ns : List Int) : Prop := Same H H' ∧ H p = none ∧ H' p = some (.lst (ns.map V.int))
def spCounted : Sp := fun vs H Q _ => ∃ a ns, vs = [.ref a] ∧ H a = some (.lst (ns.map V.int)) ∧ ns.length ≤ 10000000 ∧ ∀ H' p, NewL H H' p (VametBase.listedInts ns) → Q (.ref p) H'
theorem ok_counted (D : Df K mg "counted" s_counted) (hln : mg "len" = none) : Cal P w K mg base CX0 1 "counted" ["row"] spCounted := by
  refine D.ok (k := 0) sc_counted (fun vs H Q E h => by obtain ⟨a, ns, rfl, _⟩ := h; rfl) (fun _ _ _ _ _ _ => bind1 (fun _ => rfl) rfl) fun f cdv A outer s0 H vs Q E hr h => ?_
  obtain ⟨a, ns, rfl, ha, hl, q⟩ := h
  refine ⟨_, pss_one (ps_ret (pe_op op_cat (pe_lst (pa_cons (pe_callB call_len_seq (by rfl) hln PySem.boot_len (pa_cons (pv 0) pa_nil)) pa_nil)) (pv 0))), ?_⟩
  refine ⟨_, rfl, a, _, rfl, .inl (SqL.of ha), (by show 1 ≤ sizeLine; decide), fun p hp => ?_⟩
  refine ⟨_, rfl, p, a, _, _, rfl, rfl, upd_same, by rw [upd_ne (ne_of_none ha hp)]; exact ha, ?_, fun p2 hp2 => ?_⟩
  · rw [List.length_map]
    show 1 + ns.length ≤ 2 ^ 24
    omega
  · have hp2' : H p2 = none := by
      cases z : H p2 with
      | none => rfl
      | some o => rw [upd_ne (ne_of_none z hp), z] at hp2; cases hp2
    refine q _ _ ⟨(same_new hp).trans (same_new hp2), hp2', ?_⟩
    rw [upd_same, List.length_map]
    rfl
def spLook (CS CR CB : Addr) : Sp := fun vs H Q _ => ∃ a s b ns, vs = [.ref a, .ref b] ∧ SubAt CS CR CB H a s ∧ H b = some (.lst (ns.map V.int)) ∧ ns.length ≤ 40 ∧ ∀ H' p, NewL H H' p (Vametb.sidesTold s.program s.relation ns) → (Vametb.sidesTold s.program s.relation ns).length ≤ 83 → Q (.ref p) H'
theorem none_back {H H' : Hp} {p : Addr} (s : Same H H') (h : H' p = none) : H p = none := by
  cases z : H p with
  | none => rfl
  | some o => rw [s _ _ z] at h; cases h
theorem told_off {f : VametBase.Program} {r : VametBase.Relation} {x : List Int} (h : VametBase.sides f r x = none) : VametBase.verdict f r x = .off ∧ Vametb.sidesTold f r x = [2] := by
  have hv : VametBase.verdict f r x = .off := by unfold VametBase.verdict; rw [h]
  refine ⟨hv, ?_⟩
  unfold Vametb.sidesTold
  rw [hv, h]
  rfl
theorem told_on {f : VametBase.Program} {r : VametBase.Relation} {x : List Int} {s : VametBase.Sides} (h : VametBase.sides f r x = some s) : (VametBase.verdictNumber (VametBase.verdict f r x) = 0 ∨ VametBase.verdictNumber (VametBase.verdict f r x) = 1) ∧ Vametb.sidesTold f r x = [VametBase.verdictNumber (VametBase.verdict f r x)] ++ VametBase.listedInts s.left ++ VametBase.listedInts s.right := by
  refine ⟨?_, ?_⟩
  · unfold VametBase.verdict
    rw [h]
    show VametBase.verdictNumber (if VametBase.stands r.rel s.left s.right then .kept else .broken) = 0 ∨ VametBase.verdictNumber (if VametBase.stands r.rel s.left s.right then .kept else .broken) = 1
    split
    · exact .inl rfl
    · exact .inr rfl
  · unfold Vametb.sidesTold
    rw [h]
    rfl
theorem ok_look (D : Df K mg "what_look_tells" s_what_look_tells) (T : ClsS K CS) (g2 : ∃ t, mg "OFF" = some (.int 2 t)) (cc : Cal P w K mg base CX0 1 "counted" ["row"] spCounted) (cj : Cal P w K mg base CX0 6 "judged" ["program", "relation", "row"] (spJudged K CR)) :
    Cal P w K mg base CX0 7 "what_look_tells" ["subject", "row"] (spLook CS CR CB) := by
  refine D.ok (k := 6) sc_what_look_tells (fun vs H Q E h => by obtain ⟨a, s, b, ns, rfl, _⟩ := h; rfl) (fun _ _ _ _ _ _ => bind2 (fun _ _ => rfl) rfl) fun f cdv A outer s0 H vs Q E hr h => ?_
  obtain ⟨a, s, b, ns, rfl, ⟨dx, vp, vr, vb, ha, hp, hR, hB⟩, hb, hl, q⟩ := h
  refine ⟨_, pss_cons (ps_set (i := 2) sc_what_look_tells.nd rfl (Or.inl rfl) (pe_callC cj hr rfl pass0 (pa_cons (pe_fld (pv 0) rfl) (pa_cons (pe_fld (pv 0) rfl) (pa_cons (pv 1) pa_nil)))))
    (pss_cons (ps_if (pt_cmpR op_eq (pe_ix ix_tup (pv 2) pe_int (fun _ _ => rfl)) (pe_gint rfl g2) (nomark _)) (pss_one (ps_ret (pe_lst (pa_cons (pe_gint rfl g2) pa_nil)))) pss_nil)
    (pss_one (ps_ret (pe_op op_cat (pe_op op_cat (pe_lst (pa_cons (pe_ix ix_tup (pv 2) pe_int (fun _ _ => rfl)) pa_nil)) (pe_callC cc (hr.mono (by decide)) rfl pass0 (pa_cons (pe_ix ix_tup (pe_ix ix_tup (pv 2) pe_int (fun _ _ => rfl)) pe_int (fun _ _ => rfl)) pa_nil)))
      (pe_callC cc (hr.mono (by decide)) rfl pass0 (pa_cons (pe_ix ix_tup (pe_ix ix_tup (pv 2) pe_int (fun _ _ => rfl)) pe_int (fun _ _ => rfl)) pa_nil)))))), ?_⟩
  refine ⟨_, rfl, a, CS, dx, _, _, rfl, ha, T.cl, T.n1, rfl, _, rfl, a, CS, dx, _, _, rfl, ha, T.cl, T.n2, rfl, _, rfl, vp, vr, s.program, s.relation, b, ns, rfl, hp, hR.k, hb, hl, fun H1 t w' s1 ht hw => ?_⟩
  refine ⟨_, rfl, t, _, _, _, rfl, rfl, SqT.of ht, atI_nat (j := 0) rfl, rfl, _, rfl, ?_⟩
  cases hs : VametBase.sides s.program s.relation ns with
  | none =>
    obtain ⟨hv, htl⟩ := told_off hs
    rw [hv]
    rw [show decide (V.int (VametBase.verdictNumber .off) = V.int 2) = true from decide_eq_true rfl]
    refine iteT ⟨(by show 1 ≤ sizeLine; decide), fun p hp' => q _ _ ⟨s1.trans (same_new hp'), none_back s1 hp', by rw [upd_same, htl]; rfl⟩ (by rw [htl]; decide)⟩
  | some sd =>
    obtain ⟨hv, htl⟩ := told_on hs
    rw [hs] at hw
    obtain ⟨e, l, r, rfl, he, hle, hre, l1, l2⟩ := hw
    generalize VametBase.verdictNumber (VametBase.verdict s.program s.relation ns) = z at hv htl ht
    rw [show decide (V.int z = V.int 2) = false from decide_eq_false fun y => by injection y with y; omega]
    refine iteF ?_
    refine ⟨_, rfl, t, _, _, _, rfl, rfl, SqT.of ht, atI_nat (j := 0) rfl, (by show 1 ≤ sizeLine; decide), fun p1 hp1 => ?_⟩
    have s2 := same_new (o := .lst [.int z]) hp1
    have e1 : (upd H1 p1 (.lst [.int z])) p1 = some (.lst [.int z]) := upd_same
    generalize upd H1 p1 (.lst [.int z]) = H2 at s2 e1
    refine ⟨_, rfl, t, _, _, _, rfl, rfl, SqT.of (s2 _ _ ht), atI_nat (j := 1) rfl, e, _, _, _, rfl, rfl, SqT.of (s2 _ _ he), atI_nat (j := 0) rfl, l, _, rfl, s2 _ _ hle, by omega, fun H3 p3 ⟨s3, n3, e3⟩ => ?_⟩
    refine ⟨p1, p3, _, _, rfl, rfl, s3 _ _ e1, e3, ?_, fun p4 hp4 => ?_⟩
    · rw [List.length_map]
      exact Nat.le_of_lt (short_line (by simp [VametBase.listedInts]; omega))
    have s4 := same_new (o := .lst ([V.int z] ++ (VametBase.listedInts sd.left).map V.int)) hp4
    have e4 : (upd H3 p4 (.lst ([V.int z] ++ (VametBase.listedInts sd.left).map V.int))) p4 = some (.lst ([V.int z] ++ (VametBase.listedInts sd.left).map V.int)) := upd_same
    generalize upd H3 p4 (.lst ([V.int z] ++ (VametBase.listedInts sd.left).map V.int)) = H4 at s4 e4
    have s24 := s2.trans (s3.trans s4)
    refine ⟨_, rfl, t, _, _, _, rfl, rfl, SqT.of (s24 _ _ ht), atI_nat (j := 1) rfl, e, _, _, _, rfl, rfl, SqT.of (s24 _ _ he), atI_nat (j := 1) rfl, r, _, rfl, s24 _ _ hre, by omega, fun H5 p5 ⟨s5, n5, e5⟩ => ?_⟩
    refine ⟨p4, p5, _, _, rfl, rfl, s5 _ _ e4, e5, ?_, fun p6 hp6 => ?_⟩
    · rw [List.length_append, List.length_map, List.length_map]
      exact Nat.le_of_lt (short_line (by simp [VametBase.listedInts]; omega))
    refine q _ _ ⟨s1.trans (s24.trans (s5.trans (same_new hp6))), none_back (s1.trans (s24.trans s5)) hp6, ?_⟩ ?_
    · rw [upd_same, htl]
      simp
    · rw [htl]
      simp [VametBase.listedInts]
      omega
end
end Rh

end

-- part RhAsk
section
set_option Elab.async false
set_option linter.all false
set_option maxRecDepth 100000
set_option maxHeartbeats 2000000
namespace Rh
open PySem PySem.Spec PyProof.Rows L2
/-- what a call's def promises: pre is what the list handed over has to be, F the call, errs the refusals' errors -/
def spAsk (CS CR CB : Addr) (errs : List (Addr × Int)) (pre : List Int → Prop) (F : List Int → Vametb.Call) : Sp := fun vs H Q E => ∃ a t s l, vs = [.ref a, .ref t] ∧ SubAt CS CR CB H a s ∧ H t = some (.lst (l.map V.int)) ∧ pre l ∧
  (∀ H' p, SameX a H H' → SubAt CS CR CB H' a (Vametb.step s (F l)).1 → H p = none → H' p = some (.lst ((Vametb.step s (F l)).2.map V.int)) → Q (.ref p) H') ∧
  (∀ C z, (C, z) ∈ errs → Vametb.step s (F l) = (s, [z]) → ∀ H', Same H H' → E (.ref C) none H')
theorem spAsk_len {CS CR CB : Addr} {errs : List (Addr × Int)} {pre : List Int → Prop} {F : List Int → Vametb.Call} {m n : Str} : ∀ vs H Q E, spAsk CS CR CB errs pre F vs H Q E → vs.length = ([m, n] : List Str).length := fun vs H Q E h => by obtain ⟨a, t, s, l, rfl, _⟩ := h; rfl
theorem rel_ne {CR CS a dx : Addr} {H : Hp} {v p r b : V} {q : VametBase.Relation} (h : RelAt CR H v q) (ha : H a = some (.ins CS dx (fsS p r b))) : v ≠ .ref a := by
  obtain ⟨c, d, vc, vb, va, rfl, h1, _⟩ := h
  intro z
  injection z with z
  subst z
  rw [h1] at ha
  injection ha with ha
  injection ha with _ _ ha
  injection ha with _ ha
  injection ha with _ ha
  injection ha with _ ha
  cases ha
theorem bnd_ne {CB CS a dx : Addr} {H : Hp} {v p r b : V} {n lo hi : Int} (h : BndAt CB H v n lo hi) (ha : H a = some (.ins CS dx (fsS p r b))) : v ≠ .ref a := by
  obtain ⟨c, d, rfl, h1⟩ := h
  intro z
  injection z with z
  subst z
  rw [h1] at ha
  injection ha with ha
  injection ha with _ _ ha
  injection ha with ha
  injection ha with ha
  exact absurd ha (by decide +kernel)
theorem BndOk.same {C : Addr} {H H' : Hp} {v : V} {b : VametBase.Bound} (s : Same H H') (r : BndOk C H v b) : BndOk C H' v b := ⟨r.1.same s, r.2⟩
theorem BndOk.sameX {a C : Addr} {H H' : Hp} {v : V} {b : VametBase.Bound} (s : SameX a H H') (hn : v ≠ .ref a) (r : BndOk C H v b) : BndOk C H' v b := ⟨⟨r.1.at_.sameX s hn, r.1.le, r.1.l8, r.1.lo, r.1.hi⟩, r.2⟩
theorem BndOk.tot {C : Addr} {H : Hp} {v : V} {b : VametBase.Bound} (r : BndOk C H v b) : Rm.tot (VametBase.width b) (b.long + 1) = VametBase.inputCount b := by
  have := count_of r.1.w.2.1
  have := r.2
  omega
theorem mem2 {CN C : Addr} {z : Int} (h : (C, z) = (CN, z)) : C = CN := by injection h
section
variable {P : Program} {w : World} {K : PySem.W.Frag} {mg : Str → Option Value} {base : Heap} {C CN CB CR CS : Addr} {errs : List (Addr × Int)}
theorem ok_tell_program (D : Df K mg "tell_program" s_tell_program) (T : ClsS K CS) (hln : mg "len" = none) (hE : (CN, -1) ∈ errs) (cr : Cal P w K mg base (CXo P w) 4 "read_program" ["told"] (spWhole CN VametBase.readProgram ProgAt)) :
    Cal P w K mg base (CXo P w) 5 "tell_program" ["subject", "told"] (spAsk CS CR CB errs (fun _ => True) .program) := by
  refine D.okx (k := 4) sc_tell_program spAsk_len (fun _ _ _ _ _ _ => bind2 (fun _ _ => rfl) rfl) fun f cdv A outer s0 H vs Q E hr xs h => ?_
  obtain ⟨a, t, s, l, rfl, ⟨dx, vp, vr, vb, ha, hp, hR, hB⟩, ht, _, q1, q2⟩ := h
  have px := xs.passes rfl
  refine ⟨_, pss_cons (ps_fld (pv 0) (pe_callC cr hr rfl px (pa_cons (pv 1) pa_nil)) rfl) (pss_one (ps_ret (pe_lst (pa_cons (pe_callB call_len_seq (by rfl) hln PySem.boot_len (pa_cons (pe_fld (pv 0) rfl) pa_nil)) pa_nil)))), ?_⟩
  refine ⟨_, rfl, t, l, rfl, ht, fun p hw H1 v s1 hv => ?_, fun hw H1 s1 => q2 CN (-1) hE (by show (match VametBase.whole VametBase.readProgram l with | none => _ | some p => _) = _; rw [hw]) H1 s1⟩
  have st : Vametb.step s (.program l) = ({ s with program := p }, [((p.length : Nat) : Int)]) := by show (match VametBase.whole VametBase.readProgram l with | none => _ | some p => _) = _; rw [hw]; rfl
  rw [st] at q1
  have ha1 := s1 _ _ ha
  refine ⟨_, rfl, a, CS, dx, _, rfl, ha1, T.cl, T.n1, (by show 3 < 1000; decide), ?_⟩
  rw [put1']
  have sx : SameX a H1 (upd H1 a (.ins CS dx (fsS v vr vb))) := SameX.upd
  have e2 : (upd H1 a (.ins CS dx (fsS v vr vb))) a = some (.ins CS dx (fsS v vr vb)) := upd_same
  generalize upd H1 a (.ins CS dx (fsS v vr vb)) = H2 at sx e2
  have hv2 := hv.sameX sx ha1
  have hS : SubAt CS CR CB H2 a { s with program := p } := ⟨dx, v, vr, vb, e2, hv2, (hR.same s1).sameX sx ha1 (rel_ne (hR.same s1) ha1), (hB.same s1).sameX sx (bnd_ne (hB.same s1).1.at_ ha1)⟩
  obtain ⟨b, ws, rfl, hb, pr⟩ := hv2
  refine ⟨_, rfl, a, CS, dx, _, _, rfl, e2, T.cl, T.n1, rfl, b, ws, rfl, .inl (SqL.of hb), (by show 1 ≤ sizeLine; decide), fun p3 h3 => ?_⟩
  refine q1 _ p3 ((SameX.of s1).trans (sx.trans (SameX.of (same_new h3)))) (hS.same (same_new h3)) (none_back s1 ?_) (by rw [upd_same, Paired.length pr]; rfl)
  exact same_free sx h3 (by rw [e2]; intro z; cases z)
theorem ok_tell_relation (D : Df K mg "tell_relation" s_tell_relation) (T : ClsS K CS) (TR : ClsR K CR) (hln : mg "len" = none) (hE : (CN, -1) ∈ errs) (cr : Cal P w K mg base (CXo P w) 4 "read_relation" ["told"] (spWhole CN VametBase.readRelation (RelAt CR))) :
    Cal P w K mg base (CXo P w) 5 "tell_relation" ["subject", "told"] (spAsk CS CR CB errs (fun _ => True) .relation) := by
  refine D.okx (k := 4) sc_tell_relation spAsk_len (fun _ _ _ _ _ _ => bind2 (fun _ _ => rfl) rfl) fun f cdv A outer s0 H vs Q E hr xs h => ?_
  obtain ⟨a, t, s, l, rfl, ⟨dx, vp, vr, vb, ha, hp, hR, hB⟩, ht, _, q1, q2⟩ := h
  have px := xs.passes rfl
  refine ⟨_, pss_cons (ps_fld (pv 0) (pe_callC cr hr rfl px (pa_cons (pv 1) pa_nil)) rfl) (pss_one (ps_ret (pe_lst (pa_cons (pe_callB call_len_seq (by rfl) hln PySem.boot_len (pa_cons (pe_fld (pe_fld (pv 0) rfl) rfl) pa_nil)) (pa_cons (pe_callB call_len_seq (by rfl) hln PySem.boot_len (pa_cons (pe_fld (pe_fld (pv 0) rfl) rfl) pa_nil)) pa_nil))))), ?_⟩
  refine ⟨_, rfl, t, l, rfl, ht, fun p hw H1 v s1 hv => ?_, fun hw H1 s1 => q2 CN (-1) hE (by show (match VametBase.whole VametBase.readRelation l with | none => _ | some p => _) = _; rw [hw]) H1 s1⟩
  have st : Vametb.step s (.relation l) = ({ s with relation := p }, [((p.input.length : Nat) : Int), ((p.output.length : Nat) : Int)]) := by show (match VametBase.whole VametBase.readRelation l with | none => _ | some p => _) = _; rw [hw]; rfl
  rw [st] at q1
  have ha1 := s1 _ _ ha
  refine ⟨_, rfl, a, CS, dx, _, rfl, ha1, T.cl, T.n2, (by show 3 < 1000; decide), ?_⟩
  rw [put2']
  have sx : SameX a H1 (upd H1 a (.ins CS dx (fsS vp v vb))) := SameX.upd
  have e2 : (upd H1 a (.ins CS dx (fsS vp v vb))) a = some (.ins CS dx (fsS vp v vb)) := upd_same
  generalize upd H1 a (.ins CS dx (fsS vp v vb)) = H2 at sx e2
  have hv2 := hv.sameX sx ha1 (rel_ne hv ha1)
  have hS : SubAt CS CR CB H2 a { s with relation := p } := ⟨dx, vp, v, vb, e2, (hp.same s1).sameX sx ha1, hv2, (hB.same s1).sameX sx (bnd_ne (hB.same s1).1.at_ ha1)⟩
  obtain ⟨b, db, vc, vbe, vaf, rfl, hb, _, ⟨b1, w1, rfl, hb1, pr1⟩, ⟨b2, w2, rfl, hb2, pr2⟩⟩ := hv2
  refine ⟨_, rfl, a, CS, dx, _, _, rfl, e2, T.cl, T.n2, rfl, b, CR, db, _, _, rfl, hb, TR.cl, TR.n2, rfl, b1, w1, rfl, .inl (SqL.of hb1), ?_⟩
  refine ⟨_, rfl, a, CS, dx, _, _, rfl, e2, T.cl, T.n2, rfl, b, CR, db, _, _, rfl, hb, TR.cl, TR.n4, rfl, b2, w2, rfl, .inl (SqL.of hb2), (by show 2 ≤ sizeLine; decide), fun p3 h3 => ?_⟩
  refine q1 _ p3 ((SameX.of s1).trans (sx.trans (SameX.of (same_new h3)))) (hS.same (same_new h3)) (none_back s1 ?_) (by rw [upd_same, Paired.length pr1, Paired.length pr2]; rfl)
  exact same_free sx h3 (by rw [e2]; intro z; cases z)
theorem ok_tell_bound (D : Df K mg "tell_bound" s_tell_bound) (T : ClsS K CS) (hE : (CN, -1) ∈ errs) (cr : Cal P w K mg base (CXo P w) 3 "read_bound" ["told"] (spWhole CN VametBase.readBound (BndOk CB))) (cm : Cal P w K mg base CX0 2 "how_many" ["bound"] (spMany CB)) :
    Cal P w K mg base (CXo P w) 5 "tell_bound" ["subject", "told"] (spAsk CS CR CB errs (fun _ => True) .bound) := by
  refine D.okx (k := 4) sc_tell_bound spAsk_len (fun _ _ _ _ _ _ => bind2 (fun _ _ => rfl) rfl) fun f cdv A outer s0 H vs Q E hr xs h => ?_
  obtain ⟨a, t, s, l, rfl, ⟨dx, vp, vr, vb, ha, hp, hR, hB⟩, ht, _, q1, q2⟩ := h
  have px := xs.passes rfl
  refine ⟨_, pss_cons (ps_fld (pv 0) (pe_callC cr (hr.mono (by decide)) rfl px (pa_cons (pv 1) pa_nil)) rfl) (pss_one (ps_ret (pe_lst (pa_cons (pe_callC cm (hr.mono (by decide)) rfl pass0 (pa_cons (pe_fld (pv 0) rfl) pa_nil)) pa_nil)))), ?_⟩
  refine ⟨_, rfl, t, l, rfl, ht, fun p hw H1 v s1 hv => ?_, fun hw H1 s1 => q2 CN (-1) hE (by show (match VametBase.whole VametBase.readBound l with | none => _ | some p => _) = _; rw [hw]) H1 s1⟩
  have st : Vametb.step s (.bound l) = ({ s with bound := p }, [((VametBase.inputCount p : Nat) : Int)]) := by show (match VametBase.whole VametBase.readBound l with | none => _ | some p => _) = _; rw [hw]; rfl
  rw [st] at q1
  have ha1 := s1 _ _ ha
  refine ⟨_, rfl, a, CS, dx, _, rfl, ha1, T.cl, T.n3, (by show 3 < 1000; decide), ?_⟩
  rw [put3']
  have sx : SameX a H1 (upd H1 a (.ins CS dx (fsS vp vr v))) := SameX.upd
  have e2 : (upd H1 a (.ins CS dx (fsS vp vr v))) a = some (.ins CS dx (fsS vp vr v)) := upd_same
  generalize upd H1 a (.ins CS dx (fsS vp vr v)) = H2 at sx e2
  have hv2 := hv.sameX sx (bnd_ne hv.1.at_ ha1)
  have hS : SubAt CS CR CB H2 a { s with bound := p } := ⟨dx, vp, vr, v, e2, (hp.same s1).sameX sx ha1, (hR.same s1).sameX sx ha1 (rel_ne (hR.same s1) ha1), hv2⟩
  refine ⟨_, rfl, a, CS, dx, _, _, rfl, e2, T.cl, T.n3, rfl, v, p, rfl, hv2.1, (by show 1 ≤ sizeLine; decide), fun p3 h3 => ?_⟩
  refine q1 _ p3 ((SameX.of s1).trans (sx.trans (SameX.of (same_new h3)))) (hS.same (same_new h3)) (none_back s1 ?_) (by rw [upd_same, hv2.tot]; rfl)
  exact same_free sx h3 (by rw [e2]; intro z; cases z)
theorem place_le (w : Nat) : ∀ f n k, (VametBase.placeFrom w f n k).1 ≤ n + f
  | 0, n, k => Nat.le_refl _
  | f + 1, n, k => by
    show (if k < VametBase.powerOf w n then (n, k) else VametBase.placeFrom w f (n + 1) (k - VametBase.powerOf w n)).1 ≤ n + (f + 1)
    split
    · exact Nat.le_add_right _ _
    · have := place_le w f (n + 1) (k - VametBase.powerOf w n)
      omega
theorem digits_len (w : Nat) : ∀ n k, (VametBase.digits w n k).length = n
  | 0, _ => rfl
  | n + 1, k => by
    show (VametBase.digits w n (k / w) ++ [k % w]).length = n + 1
    rw [List.length_append, digits_len w n]
    rfl
theorem input_len (b : VametBase.Bound) (k : Nat) : (VametBase.inputAt b k).length ≤ b.long + 1 := by
  unfold VametBase.inputAt
  simp only
  rw [List.length_map, digits_len]
  have := place_le (VametBase.width b) (b.long + 1) 0 k
  omega
theorem ok_ask_numbered (D : Df K mg "ask_numbered" s_ask_numbered) (T : ClsS K CS) (X : Exc K mg "NoSuch" CN) (hE : (CN, -2) ∈ errs) (cm : Cal P w K mg base CX0 2 "how_many" ["bound"] (spMany CB)) (cn : Cal P w K mg base CX0 2 "numbered" ["bound", "number"] (spNumbered CB)) (cc : Cal P w K mg base CX0 1 "counted" ["row"] spCounted) :
    Cal P w K mg base (CXo P w) 3 "ask_numbered" ["subject", "told"] (spAsk CS CR CB errs (fun l => ∃ k, l = [k]) fun l => .input (l.headD 0)) := by
  refine D.okx (k := 2) sc_ask_numbered spAsk_len (fun _ _ _ _ _ _ => bind2 (fun _ _ => rfl) rfl) fun f cdv A outer s0 H vs Q E hr xs h => ?_
  obtain ⟨a, t, s, l, rfl, hS, ht, ⟨k, rfl⟩, q1, q2⟩ := h
  obtain ⟨dx, vp, vr, vb, ha, hp, hR, hB⟩ := id hS
  have px := xs.passes rfl
  refine ⟨_, pss_cons (ps_if (PW.pt (pw_or (pt_cmpR op_lt (pe_ix ix_list (pv 1) pe_int (fun _ _ => rfl)) pe_int (nomark _)) (pw_or1 (pt_cmpR op_ge (pe_ix ix_list (pv 1) pe_int (fun _ _ => rfl)) (pe_callC cm hr rfl pass0 (pa_cons (pe_fld (pv 0) rfl) pa_nil)) (nomark _))))) (pss_one (ps_raise0 rfl rfl xs rfl X.at_ X.ex PySem.F.excBase_Exception)) pss_nil)
    (pss_one (ps_ret (pe_callC cc (hr.mono (by decide)) rfl pass0 (pa_cons (pe_callC cn hr rfl pass0 (pa_cons (pe_fld (pv 0) rfl) (pa_cons (pe_ix ix_list (pv 1) pe_int (fun _ _ => rfl)) pa_nil))) pa_nil)))), ?_⟩
  have st : Vametb.step s (.input k) = if k < 0 ∨ ((VametBase.inputCount s.bound : Nat) : Int) ≤ k then (s, [-2]) else (s, VametBase.listedInts (VametBase.inputAt s.bound k.toNat)) := rfl
  refine ⟨_, rfl, t, _, _, _, rfl, rfl, SqL.of ht, atI_nat (j := 0) rfl, _, _, rfl, rfl, _, rfl, ?_⟩
  have no : (k < 0 ∨ ((VametBase.inputCount s.bound : Nat) : Int) ≤ k) → E (.ref CN) none H := fun hc => q2 CN (-2) hE (by show Vametb.step s (.input k) = _; rw [st, if_pos hc]) H (Same.refl _)
  refine ite2 (fun h1 => ?_) fun h1 => ?_
  · exact iteT (no (.inl (of_decide_eq_true h1)))
  · have h1 : ¬ k < 0 := fun y => h1 (decide_eq_true y)
    refine ⟨_, rfl, t, _, _, _, rfl, rfl, SqL.of ht, atI_nat (j := 0) rfl, _, rfl, a, CS, dx, _, _, rfl, ha, T.cl, T.n3, rfl, vb, s.bound, rfl, hB.1, ?_⟩
    rw [hB.tot]
    refine ⟨_, _, rfl, rfl, _, rfl, ?_⟩
    refine ite2 (fun h2 => ?_) fun h2 => ?_
    · exact no (.inr (of_decide_eq_true h2))
    · have h2 : ¬ ((VametBase.inputCount s.bound : Nat) : Int) ≤ k := fun y => h2 (decide_eq_true y)
      have st : Vametb.step s (.input k) = (s, VametBase.listedInts (VametBase.inputAt s.bound k.toNat)) := by rw [st, if_neg (by omega)]
      have q1 : ∀ H' p, SameX a H H' → SubAt CS CR CB H' a (Vametb.step s (.input k)).1 → H p = none → H' p = some (.lst ((Vametb.step s (.input k)).2.map V.int)) → Q (.ref p) H' := q1
      rw [st] at q1
      refine ⟨_, rfl, a, CS, dx, _, _, rfl, ha, T.cl, T.n3, rfl, _, rfl, t, _, _, _, rfl, rfl, SqL.of ht, atI_nat (j := 0) rfl, vb, s.bound, k.toNat, ?_, hB.1, by omega, by have := hB.2; omega, fun H1 p s1 hp1 e1 => ?_⟩
      · rw [Int.toNat_of_nonneg (by omega)]
        rfl
      · refine ⟨p, _, rfl, e1, ?_, fun H2 p2 ⟨s2, n2, e2⟩ => q1 _ _ (SameX.of (s1.trans s2)) (hS.same (s1.trans s2)) (none_back s1 n2) e2⟩
        have := input_len s.bound k.toNat
        have := hB.1.l8
        omega
theorem ok_ask_look (D : Df K mg "ask_look" s_ask_look) (hE : (CN, -1) ∈ errs) (cr : Cal P w K mg base (CXo P w) 3 "read_row" ["told"] (spWhole CN VametBase.readRow RowOk)) (cl : Cal P w K mg base CX0 7 "what_look_tells" ["subject", "row"] (spLook CS CR CB)) :
    Cal P w K mg base (CXo P w) 8 "ask_look" ["subject", "told"] (spAsk CS CR CB errs (fun _ => True) .look) := by
  refine D.okx (k := 7) sc_ask_look spAsk_len (fun _ _ _ _ _ _ => bind2 (fun _ _ => rfl) rfl) fun f cdv A outer s0 H vs Q E hr xs h => ?_
  obtain ⟨a, t, s, l, rfl, hS, ht, _, q1, q2⟩ := h
  have px := xs.passes rfl
  refine ⟨_, pss_one (ps_ret (pe_callC cl hr rfl pass0 (pa_cons (pv 0) (pa_cons (pe_callC cr (hr.mono (by decide)) rfl px (pa_cons (pv 1) pa_nil)) pa_nil)))), ?_⟩
  refine ⟨_, rfl, _, rfl, t, l, rfl, ht, fun p hw H1 v s1 hv => ?_, fun hw H1 s1 => q2 CN (-1) hE (by show (match VametBase.whole VametBase.readRow l with | none => _ | some p => _) = _; rw [hw]) H1 s1⟩
  have st : Vametb.step s (.look l) = (s, Vametb.sidesTold s.program s.relation p) := by show (match VametBase.whole VametBase.readRow l with | none => _ | some p => _) = _; rw [hw]
  rw [st] at q1
  obtain ⟨⟨b, rfl, hb⟩, hl⟩ := hv
  exact ⟨a, s, b, p, rfl, hS.same s1, hb, by omega, fun H2 p2 ⟨s2, n2, e2⟩ _ => q1 _ _ (SameX.of (s1.trans s2)) (hS.same (s1.trans s2)) (none_back s1 n2) e2⟩
end
end Rh

end

-- part RhLc
section
set_option Elab.async false
set_option linter.all false
set_option maxRecDepth 100000
set_option maxHeartbeats 2000000
namespace Rh
open PySem PySem.Spec PyProof.Rows L2
theorem same_updN {H G : Hp} {D : Addr} {o : HO} (hD : H D = none) (s : Same H G) : Same H (upd G D o) := fun b u e => by
  rw [upd_ne (fun z => by rw [z, hD] at e; cases e)]
  exact s _ _ e
/-- a comprehension without an if, its list laid aside while an element is looked at: F tells how the values stand to the data ds -/
theorem lc_gen {J : It} {D0 : Addr} {xs : List V} {α : Type} {ds : List α} (F : Hp → V → α → Prop) {te : TE} {i0 : Nat} {vs : List Nat} {σ : L2.St} {H : Hp} {Qd : Hp → Prop} (hF : ∀ G G' y d, Same G G' → F G y d → F G' y d) (hD : H D0 = none) (hlen : ds.length = xs.length) (hs : xs.length ≤ 3000)
    (hgo : ∀ i G, i < xs.length → Same H G → J.go i G) (hyld : ∀ (i : Nat) G x G', i < xs.length → Same H G → J.yld i G x G' → G' = G ∧ xs[i]? = some x) (hstop : ∀ G, Same H G → J.stop xs.length G)
    (hw : ∀ x, wipe ((wipe σ vs).set i0 (some x)) vs = wipe σ vs) (ht : ∀ (i : Nat) x d G R, xs[i]? = some x → ds[i]? = some d → Same H G → (∀ G' y, Same G G' → F G' y d → R y G') → te ((wipe σ vs).set i0 (some x)) G R)
    (hq : ∀ G ys, G D0 = none → Same H G → Paired (F G) ys ds → Qd (upd G D0 (.lst ys))) :
    ∃ W : Nat → Nat → Hp → Prop, (∃ m, W 0 m (upd H D0 (.lst []))) ∧ ∀ i m H', W i m H' →
      (J.stop i H' ∧ Qd H') ∨ (J.go i H' ∧ ∃ Nx : Hp → Prop, (∀ H', Nx H' → ∃ m', m' < m ∧ W (i + 1) m' H') ∧ ∀ x H'', J.yld i H' x H'' → gName i0 x (wipe σ vs) H'' fun σ2 H2 => wipe σ2 vs = wipe σ vs ∧ tYes σ2 H2 fun b H3 =>
        if b = true then tHide te σ2 H3 fun y H4 => ∃ acc, H4 D0 = some (.lst acc) ∧ acc.length < sizeLine ∧ Nx (upd H4 D0 (.lst (acc ++ [y]))) else Nx H3) := by
  refine ⟨fun i m H' => m = xs.length - i ∧ i ≤ xs.length ∧ ∃ G ys, H' = upd G D0 (.lst ys) ∧ G D0 = none ∧ Same H G ∧ Paired (F G) ys (ds.take i), ⟨xs.length, by simp, Nat.zero_le _, H, [], rfl, hD, Same.refl _, .nil⟩, ?_⟩
  rintro i m H' ⟨rfl, hi, G, ys, rfl, hG, sm, pr⟩
  have smu : Same H (upd G D0 (.lst ys)) := same_updN hD sm
  by_cases hlt : i < xs.length
  · refine .inr ⟨hgo i _ hlt smu, fun H' => ∃ G ys, H' = upd G D0 (.lst ys) ∧ G D0 = none ∧ Same H G ∧ Paired (F G) ys (ds.take (i + 1)), fun H' p' => ⟨xs.length - (i + 1), by omega, rfl, hlt, p'⟩, fun x H'' y => ?_⟩
    obtain ⟨rfl, hx⟩ := hyld i _ x _ hlt smu y
    refine ⟨hw _, ?_⟩
    unfold tYes
    dsimp only
    rw [if_pos rfl]
    have hd : i < ds.length := by omega
    refine ⟨D0, ys, upd_same, ?_⟩
    rw [del_upd hG]
    refine ht i x ds[i] G _ hx (List.getElem?_eq_getElem hd) sm fun G' y s' f' hG' => ⟨ys, upd_same, ?_, G', ys ++ [y], upd_upd, hG', sm.trans s', ?_⟩
    · have := Paired.length pr
      rw [List.length_take] at this
      exact short_line (by omega)
    · rw [List.take_add_one, List.getElem?_eq_getElem hd]
      exact paired_snoc (paired_mono (fun _ _ z => hF _ _ _ _ s' z) pr) f'
  · have e : i = xs.length := by omega
    subst e
    rw [List.take_of_length_le (by omega)] at pr
    exact .inl ⟨hstop _ smu, hq G ys hG sm pr⟩
section
variable {K : PySem.W.Frag} {a D0 : Addr} {xs : List V} {α : Type} {ds : List α} {te : TE} {i0 : Nat} {vs : List Nat} {σ : L2.St} {H : Hp} {Qd : Hp → Prop}
theorem lc_hl (F : Hp → V → α → Prop) (hF : ∀ G G' y d, Same G G' → F G y d → F G' y d) (ha : SqL K H a xs) (hD : H D0 = none) (hlen : ds.length = xs.length) (hs : xs.length ≤ 3000)
    (hw : ∀ x, wipe ((wipe σ vs).set i0 (some x)) vs = wipe σ vs) (ht : ∀ (i : Nat) x d G R, xs[i]? = some x → ds[i]? = some d → Same H G → (∀ G' y, Same G G' → F G' y d → R y G') → te ((wipe σ vs).set i0 (some x)) G R)
    (hq : ∀ G ys, G D0 = none → Same H G → Paired (F G) ys ds → Qd (upd G D0 (.lst ys))) :
    ∃ W : Nat → Nat → Hp → Prop, (∃ m, W 0 m (upd H D0 (.lst []))) ∧ ∀ i m H', W i m H' →
      ((Itl K a).stop i H' ∧ Qd H') ∨ ((Itl K a).go i H' ∧ ∃ Nx : Hp → Prop, (∀ H', Nx H' → ∃ m', m' < m ∧ W (i + 1) m' H') ∧ ∀ x H'', (Itl K a).yld i H' x H'' → gName i0 x (wipe σ vs) H'' fun σ2 H2 => wipe σ2 vs = wipe σ vs ∧ tYes σ2 H2 fun b H3 =>
        if b = true then tHide te σ2 H3 fun y H4 => ∃ acc, H4 D0 = some (.lst acc) ∧ acc.length < sizeLine ∧ Nx (upd H4 D0 (.lst (acc ++ [y]))) else Nx H3) :=
  lc_gen (J := Itl K a) F hF hD hlen hs (fun i G hi s => ⟨xs, xs[i], SqL_same s ha, by simp [hi]⟩) (fun i G x G' _ s y => ⟨y.1, y.2 xs (SqL_same s ha)⟩) (fun G s => ⟨xs, SqL_same s ha, Nat.le_refl _⟩) hw ht hq
theorem lc_ht (F : Hp → V → α → Prop) (hF : ∀ G G' y d, Same G G' → F G y d → F G' y d) (ha : SqT K H a xs) (hD : H D0 = none) (hlen : ds.length = xs.length) (hs : xs.length ≤ 3000)
    (hw : ∀ x, wipe ((wipe σ vs).set i0 (some x)) vs = wipe σ vs) (ht : ∀ (i : Nat) x d G R, xs[i]? = some x → ds[i]? = some d → Same H G → (∀ G' y, Same G G' → F G' y d → R y G') → te ((wipe σ vs).set i0 (some x)) G R)
    (hq : ∀ G ys, G D0 = none → Same H G → Paired (F G) ys ds → Qd (upd G D0 (.lst ys))) :
    ∃ W : Nat → Nat → Hp → Prop, (∃ m, W 0 m (upd H D0 (.lst []))) ∧ ∀ i m H', W i m H' →
      ((Itt K a).stop i H' ∧ Qd H') ∨ ((Itt K a).go i H' ∧ ∃ Nx : Hp → Prop, (∀ H', Nx H' → ∃ m', m' < m ∧ W (i + 1) m' H') ∧ ∀ x H'', (Itt K a).yld i H' x H'' → gName i0 x (wipe σ vs) H'' fun σ2 H2 => wipe σ2 vs = wipe σ vs ∧ tYes σ2 H2 fun b H3 =>
        if b = true then tHide te σ2 H3 fun y H4 => ∃ acc, H4 D0 = some (.lst acc) ∧ acc.length < sizeLine ∧ Nx (upd H4 D0 (.lst (acc ++ [y]))) else Nx H3) :=
  lc_gen (J := Itt K a) F hF hD hlen hs (fun i G hi s => ⟨xs, xs[i], SqT_same s ha, by simp [hi]⟩) (fun i G x G' _ s y => ⟨y.1, y.2 xs (SqT_same s ha)⟩) (fun G s => ⟨xs, SqT_same s ha, Nat.le_refl _⟩) hw ht hq
theorem lc_hr {n : Nat} (F : Hp → V → α → Prop) (hF : ∀ G G' y d, Same G G' → F G y d → F G' y d) (hD : H D0 = none) (hlen : ds.length = n) (hs : n ≤ 3000)
    (hw : ∀ x, wipe ((wipe σ vs).set i0 (some x)) vs = wipe σ vs) (ht : ∀ (i : Nat) d G R, i < n → ds[i]? = some d → Same H G → (∀ G' y, Same G G' → F G' y d → R y G') → te ((wipe σ vs).set i0 (some (.int (i : Nat)))) G R)
    (hq : ∀ G ys, G D0 = none → Same H G → Paired (F G) ys ds → Qd (upd G D0 (.lst ys))) :
    ∃ W : Nat → Nat → Hp → Prop, (∃ m, W 0 m (upd H D0 (.lst []))) ∧ ∀ i m H', W i m H' →
      ((Itr 0 n).stop i H' ∧ Qd H') ∨ ((Itr 0 n).go i H' ∧ ∃ Nx : Hp → Prop, (∀ H', Nx H' → ∃ m', m' < m ∧ W (i + 1) m' H') ∧ ∀ x H'', (Itr 0 n).yld i H' x H'' → gName i0 x (wipe σ vs) H'' fun σ2 H2 => wipe σ2 vs = wipe σ vs ∧ tYes σ2 H2 fun b H3 =>
        if b = true then tHide te σ2 H3 fun y H4 => ∃ acc, H4 D0 = some (.lst acc) ∧ acc.length < sizeLine ∧ Nx (upd H4 D0 (.lst (acc ++ [y]))) else Nx H3) := by
  refine lc_gen (J := Itr 0 n) (xs := (List.range n).map fun i : Nat => V.int (i : Nat)) F hF hD (by simp [hlen]) (by simp [hs]) (fun i G hi s => (show i < n from by simpa using hi)) (fun i G x G' hi s y => ?_) (fun G s => by show n ≤ _; simp) hw (fun i x d G R hx hd s k => ?_) hq
  · have hi : i < n := by simpa using hi
    obtain ⟨y1, rfl⟩ := y
    refine ⟨y1, ?_⟩
    rw [List.getElem?_map, List.getElem?_range hi]
    simp
  · have hi : i < n := by
      have := (List.getElem?_eq_some_iff.mp hx).1
      simpa using this
    rw [List.getElem?_map, List.getElem?_range hi] at hx
    cases hx
    exact ht i d G R hi hd s k
end
end Rh

end

-- part RhFind
section
set_option Elab.async false
set_option linter.all false
set_option maxRecDepth 100000
set_option maxHeartbeats 2000000
namespace Rh
open PySem PySem.Spec PyProof.Rows L2
/-- rows that a run may begin with -/
abbrev Fine (rs : List (List Int)) : Prop := (∀ x ∈ rs, x.length ≤ 40) ∧ rs.length ≤ 1500
theorem inputs_len (b : VametBase.Bound) : (Vametb.inputs b).length = VametBase.inputCount b := by
  unfold Vametb.inputs
  rw [List.length_map, List.length_range]
theorem fine_inputs {b : VametBase.Bound} (h8 : b.long ≤ 8) (hc : VametBase.inputCount b ≤ 1500) : Fine (Vametb.inputs b) := by
  refine ⟨fun x hx => ?_, by rw [inputs_len]; exact hc⟩
  unfold Vametb.inputs at hx
  obtain ⟨k, _, rfl⟩ := List.mem_map.mp hx
  have := input_len b k
  omega
def verdN (f : VametBase.Program) (r : VametBase.Relation) (x : List Int) : Int := VametBase.verdictNumber (VametBase.verdict f r x)
theorem paired_ints {ns : List Int} : ∀ {ys : List V}, Paired (fun (y : V) (d : Int) => y = .int d) ys ns → ys = ns.map V.int := by
  intro ys p
  induction p with
  | nil => rfl
  | cons h _ ih => rw [h, ih]; rfl
/-- both sides at many inputs stand at v -/
def PairsOf (H : Hp) (v : V) (ss : List VametBase.Sides) : Prop := ∃ a vs, v = .ref a ∧ H a = some (.lst vs) ∧ Paired (fun u s => SidesAt H u (some s)) vs ss
theorem PairsOf.same {H H' : Hp} {v : V} {ss : List VametBase.Sides} (s : Same H H') (h : PairsOf H v ss) : PairsOf H' v ss :=
  let ⟨a, vs, e, h1, p⟩ := h; ⟨a, vs, e, s _ _ h1, paired_mono (fun _ _ z => z.same s) p⟩
section
variable {P : Program} {w : World} {K : PySem.W.Frag} {mg : Str → Option Value} {base : Heap} {C CN CO CT CB CR CS : Addr} {errs : List (Addr × Int)}
def spGone (CS CR CB CT : Addr) : Sp := fun vs H Q E => ∃ a s, vs = [.ref a] ∧ SubAt CS CR CB H a s ∧ (VametBase.inputCount s.bound ≤ 300 → ∀ H' v, Same H H' → RowsAt H' v (Vametb.inputs s.bound) → Fine (Vametb.inputs s.bound) → Q v H') ∧ (300 < VametBase.inputCount s.bound → E (.ref CT) none H)
theorem ok_gone_through (D : Df K mg "gone_through" s_gone_through) (T : ClsS K CS) (X : Exc K mg "TooMany" CT) (g3 : ∃ t, mg "MOST_GONE_THROUGH" = some (.int 300 t)) (cm : Cal P w K mg base CX0 2 "how_many" ["bound"] (spMany CB)) (ci : Cal P w K mg base CX0 3 "all_inputs" ["bound"] (spInputs CB)) :
    Cal P w K mg base (CXo P w) 4 "gone_through" ["subject"] (spGone CS CR CB CT) := by
  refine D.okx (k := 3) sc_gone_through (fun vs H Q E h => by obtain ⟨a, s, rfl, _⟩ := h; rfl) (fun _ _ _ _ _ _ => bind1 (fun _ => rfl) rfl) fun f cdv A outer s0 H vs Q E hr xs h => ?_
  obtain ⟨a, s, rfl, ⟨dx, vp, vr, vb, ha, hp, hR, hB⟩, q1, q2⟩ := h
  refine ⟨_, pss_cons (ps_if (pt_cmpR op_gt (pe_callC cm (hr.mono (by decide)) rfl pass0 (pa_cons (pe_fld (pv 0) rfl) pa_nil)) (pe_gint rfl g3) (nomark _)) (pss_one (ps_raise0 rfl rfl xs rfl X.at_ X.ex PySem.F.excBase_Exception)) pss_nil)
    (pss_one (ps_ret (pe_callC ci hr rfl pass0 (pa_cons (pe_fld (pv 0) rfl) pa_nil)))), ?_⟩
  refine ⟨_, rfl, a, CS, dx, _, _, rfl, ha, T.cl, T.n3, rfl, vb, s.bound, rfl, hB.1, ?_⟩
  rw [hB.tot]
  refine ⟨_, _, rfl, rfl, _, rfl, ?_⟩
  refine ite2 (fun hc => ?_) fun hc => ?_
  · have hc : (300 : Int) < ((VametBase.inputCount s.bound : Nat) : Int) := of_decide_eq_true hc
    exact q2 (by omega)
  · have hc : ¬ (300 : Int) < ((VametBase.inputCount s.bound : Nat) : Int) := fun y => hc (decide_eq_true y)
    exact ⟨_, rfl, a, CS, dx, _, _, rfl, ha, T.cl, T.n3, rfl, vb, s.bound, rfl, hB.1, hB.2, fun H1 v s1 r1 => q1 (by omega) H1 v s1 r1 (fine_inputs hB.1.l8 hB.2)⟩
def spVerd (K : PySem.W.Frag) (CR : Addr) : Sp := fun vs H Q _ => ∃ v1 v2 v3 p r rs, vs = [v1, v2, v3] ∧ ProgAt H v1 p ∧ RelK K CR H v2 r ∧ RowsAt H v3 rs ∧ Fine rs ∧ ∀ H' l, NewL H H' l (rs.map (verdN p r)) → Q (.ref l) H'
theorem ok_all_verdicts (D : Df K mg "all_verdicts" s_all_verdicts) (cj : Cal P w K mg base CX0 6 "judged" ["program", "relation", "row"] (spJudged K CR)) : Cal P w K mg base CX0 7 "all_verdicts" ["program", "relation", "rows"] (spVerd K CR) := by
  refine D.ok (k := 6) sc_all_verdicts (fun vs H Q E h => by obtain ⟨v1, v2, v3, p, r, rs, rfl, _⟩ := h; rfl) (fun _ _ _ _ _ _ => bind3 (fun _ _ _ => rfl) rfl) fun f cdv A outer s0 H vs Q E hr h => ?_
  obtain ⟨v1, v2, v3, p, r, rs, rfl, hp, hR, ⟨b, us, rfl, hb, pr⟩, ⟨f1, f2⟩, q⟩ := h
  refine ⟨_, pss_one (ps_ret (pe_lc (own := [("row", 3)]) (g := gName 3) (te := tHide (tOp (rIxT K) (tCall (spJudged K CR) [] E0 (tCons (tVar 0) (tCons (tVar 1) (tCons (tVar 3) tNil)))) (tC (.int 0)))) rfl sc_all_verdicts.nd (pi_list (pv 2)) (blkOk_by (own := [("row", 3)]) (N := n_all_verdicts) (sc := defScope s_all_verdicts) (by decide +kernel))
      (fun _ _ _ _ _ => pg_name (i := 3) sc_all_verdicts.nd rfl (Or.inl rfl)) (fun _ _ _ _ _ => pts_nil)
      (fun _ _ _ _ _ => pe_hide (pe_ix ix_tup (pe_callC cj hr rfl pass0 (pa_cons (pv 0) (pa_cons (pv 1) (pa_cons (pv 3) pa_nil)))) pe_int (fun _ _ => rfl))))), ?_⟩
  have hl := Paired.length pr
  refine ⟨_, rfl, b, rfl, ⟨_, SqL.of hb⟩, fun D0 hD => ?_⟩
  refine lc_hl (a := b) (xs := us) (ds := rs.map (verdN p r)) (fun _ y d => y = .int d) (fun _ _ _ _ _ z => z) (SqL.of hb) hD (by rw [List.length_map, hl]) (by omega) (fun _ => rfl) ?_ ?_
  · intro i x d G R hx hd sm k
    obtain ⟨ns, hns, ⟨c, rfl, hc⟩, _⟩ := paired_get pr hx
    have ed : verdN p r ns = d := by
      rw [List.getElem?_map, hns] at hd
      exact Option.some.inj hd
    refine ⟨_, rfl, _, rfl, _, rfl, v1, v2, p, r, c, ns, rfl, hp.same sm, hR.same sm, sm _ _ hc, f1 _ (List.mem_of_getElem? hns), fun H2 t w' s2 ht hw => ?_⟩
    exact ⟨t, _, _, _, rfl, rfl, SqT.of ht, atI_nat (j := 0) rfl, k _ _ s2 (by rw [← ed]; rfl)⟩
  · intro G ys hG sm pr2
    rw [paired_ints pr2]
    exact q _ _ ⟨same_updN hD sm, hD, upd_same⟩
def spPairs (K : PySem.W.Frag) (CR : Addr) : Sp := fun vs H Q _ => ∃ v1 v2 v3 p r rs, vs = [v1, v2, v3] ∧ ProgAt H v1 p ∧ RelK K CR H v2 r ∧ RowsAt H v3 rs ∧ Fine rs ∧ ∀ H' v, Same H H' → PairsOf H' v (rs.filterMap (VametBase.sides p r)) → Q v H'
theorem ok_all_pairs (D : Df K mg "all_pairs" s_all_pairs) (cj : Cal P w K mg base CX0 6 "judged" ["program", "relation", "row"] (spJudged K CR)) : Cal P w K mg base CX0 7 "all_pairs" ["program", "relation", "rows"] (spPairs K CR) := by
  refine D.ok (k := 6) sc_all_pairs (fun vs H Q E h => by obtain ⟨v1, v2, v3, p, r, rs, rfl, _⟩ := h; rfl) (fun _ _ _ _ _ _ => bind3 (fun _ _ _ => rfl) rfl) fun f cdv A outer s0 H vs Q E hr h => ?_
  obtain ⟨v1, v2, v3, p, r, rs, rfl, hp, hR, ⟨b, us, rfl, hb, pr⟩, ⟨f1, f2⟩, q⟩ := h
  refine ⟨_, pss_cons (ps_setLc (i := 3) (own := [("row", 4)]) (g := gName 4) (te := tHide (tOp (rIxT K) (tCall (spJudged K CR) [] E0 (tCons (tVar 0) (tCons (tVar 1) (tCons (tVar 4) tNil)))) (tC (.int 1)))) rfl sc_all_pairs.nd rfl rfl (sw_true rfl rfl rfl (by decide +kernel)) (pi_list (pv 2)) (blkOk_by (own := [("row", 4)]) (N := n_all_pairs) (sc := defScope s_all_pairs) (by decide +kernel))
      (fun _ _ _ _ _ => pg_name (i := 4) sc_all_pairs.nd rfl (Or.inl rfl)) (fun _ _ _ _ _ => pts_nil)
      (fun _ _ _ _ _ => pe_hide (pe_ix ix_tup (pe_callC cj hr rfl pass0 (pa_cons (pv 0) (pa_cons (pv 1) (pa_cons (pv 4) pa_nil)))) pe_int (fun _ _ => rfl))))
    (pss_one (ps_ret (pe_lc (own := [("pair", 5)]) (g := gName 5) rfl sc_all_pairs.nd (pi_list (pv 3)) (blkOk_by (own := [("pair", 5)]) (N := n_all_pairs) (sc := defScope s_all_pairs) (by decide +kernel))
      (fun _ _ _ _ _ => pg_name (i := 5) sc_all_pairs.nd rfl (Or.inl rfl)) (fun _ _ _ _ _ => pts_one (pt_cmp (pc_notN (pv 5)))) (fun _ _ _ _ _ => pv 5)))), ?_⟩
  have hl := Paired.length pr
  refine ⟨_, rfl, b, rfl, ⟨_, SqL.of hb⟩, fun D0 hD => ?_⟩
  refine lc_hl (a := b) (xs := us) (ds := rs.map (VametBase.sides p r)) SidesAt (fun _ _ _ _ s z => z.same s) (SqL.of hb) hD (by rw [List.length_map, hl]) (by omega) (fun _ => rfl) ?_ ?_
  · intro i x d G R hx hd sm k
    obtain ⟨ns, hns, ⟨c, rfl, hc⟩, _⟩ := paired_get pr hx
    have ed : VametBase.sides p r ns = d := by
      rw [List.getElem?_map, hns] at hd
      exact Option.some.inj hd
    refine ⟨_, rfl, _, rfl, _, rfl, v1, v2, p, r, c, ns, rfl, hp.same sm, hR.same sm, sm _ _ hc, f1 _ (List.mem_of_getElem? hns), fun H2 t w' s2 ht hw => ?_⟩
    exact ⟨t, _, _, _, rfl, rfl, SqT.of ht, atI_nat (j := 1) rfl, k _ _ s2 (by rw [← ed]; exact hw)⟩
  · intro G ys hG sm pr2
    have s1 : Same H (upd G D0 (.lst ys)) := same_updN hD sm
    have e1 : (upd G D0 (.lst ys)) D0 = some (.lst ys) := upd_same
    have pr2 : Paired (SidesAt (upd G D0 (.lst ys))) ys (rs.map (VametBase.sides p r)) := paired_mono (fun _ _ z => z.same (same_new hG)) pr2
    generalize upd G D0 (.lst ys) = H1 at s1 e1 pr2
    have hy := Paired.length pr2
    rw [List.length_map] at hy
    refine ⟨_, rfl, D0, rfl, ⟨_, SqL.of e1⟩, fun D1 hD1 => ?_⟩
    refine lc_list (K := K) (a := D0) (xs := ys) (fun i H' => ∃ zs, Same H1 H' ∧ H' D1 = some (.lst zs) ∧ zs.length ≤ i ∧ Paired (fun u s => SidesAt H1 u (some s)) zs ((rs.take i).filterMap (VametBase.sides p r))) ⟨[], same_new hD1, upd_same, Nat.le_refl _, .nil⟩ (fun i H' _ ⟨_, z, _⟩ => SqL.of (z _ _ e1)) ?_ ?_
    · rintro i y H' hi ⟨zs, sm2, hz, hzl, pz⟩
      obtain ⟨d, hd, hS, _⟩ := paired_get pr2 hi
      have hil : i < rs.length := by
        have := (List.getElem?_eq_some_iff.mp hi).1
        omega
      have ed : VametBase.sides p r rs[i] = d := by
        rw [List.getElem?_map, List.getElem?_eq_getElem hil] at hd
        exact Option.some.inj hd
      have et : (rs.take (i + 1)).filterMap (VametBase.sides p r) = (rs.take i).filterMap (VametBase.sides p r) ++ (VametBase.sides p r rs[i]).toList := by
        rw [List.take_add_one, List.getElem?_eq_getElem hil, List.filterMap_append]
        congr 1
      refine ⟨rfl, ?_⟩
      refine ⟨_, rfl, _, rfl, ?_⟩
      cases d with
      | none =>
        have hS : y = .non := hS
        subst hS
        refine iteF ⟨zs, sm2, hz, by omega, ?_⟩
        rw [et, ed]
        simpa using pz
      | some sd =>
        obtain ⟨c, l, r2, rfl, h0⟩ := id hS
        refine iteT ⟨_, rfl, zs, hz, short_line (by omega), zs ++ [.ref c], same_put sm2 hD1, upd_same, by rw [List.length_append, List.length_singleton]; omega, ?_⟩
        rw [et, ed]
        exact paired_snoc pz hS
    · rintro H' ⟨zs, sm2, hz, _, pz⟩
      rw [hy, List.take_length] at pz
      exact q _ _ (s1.trans sm2) ⟨D1, zs, rfl, hz, paired_mono (fun _ _ z => z.same sm2) pz⟩
end
end Rh

end

-- part RhHeld
section
set_option Elab.async false
set_option linter.all false
set_option maxRecDepth 100000
set_option maxHeartbeats 2000000
namespace Rh
open PySem PySem.Spec PyProof.Rows L2
/-- the verdicts' numbers over all inputs -/
def verds (f : VametBase.Program) (r : VametBase.Relation) (b : VametBase.Bound) : List Int := (Vametb.inputs b).map fun x => VametBase.verdictNumber (VametBase.verdict f r x)
/-- the places of a number -/
def placesN (ns : List Int) (z : Int) : List Nat := (List.range ns.length).filter fun i => ns[i]? == some z
theorem verds_len (f : VametBase.Program) (r : VametBase.Relation) (b : VametBase.Bound) : (verds f r b).length = VametBase.inputCount b := by
  unfold verds
  rw [List.length_map, inputs_len]
theorem vn_inj {v u : VametBase.Verdict} (h : VametBase.verdictNumber v = VametBase.verdictNumber u) : v = u := by
  cases v <;> cases u <;> first | rfl | (exact absurd h (by decide))
theorem places_verds (f : VametBase.Program) (r : VametBase.Relation) (b : VametBase.Bound) (v : VametBase.Verdict) : placesN (verds f r b) (VametBase.verdictNumber v) = Vametb.placesOf f r b v := by
  unfold placesN Vametb.placesOf
  rw [verds_len]
  refine List.filter_congr fun i hi => ?_
  have hi : i < VametBase.inputCount b := List.mem_range.mp hi
  have e : (verds f r b)[i]? = some (VametBase.verdictNumber (VametBase.verdict f r (VametBase.inputAt b i))) := by
    unfold verds Vametb.inputs
    rw [List.getElem?_map, List.getElem?_map, List.getElem?_range hi]
    rfl
  rw [e]
  unfold Vametb.isVerdict
  rw [Bool.eq_iff_iff]
  constructor
  · intro h
    have h := beq_iff_eq.mp h
    injection h with h
    exact beq_iff_eq.mpr (vn_inj h)
  · intro h
    rw [beq_iff_eq.mp h]
    exact beq_iff_eq.mpr rfl
theorem placesN_snoc (ns : List Int) (z y : Int) : placesN (ns ++ [y]) z = placesN ns z ++ (if y = z then [ns.length] else []) := by
  unfold placesN
  rw [List.length_append, List.length_singleton, List.range_succ, List.filter_append]
  congr 1
  · refine List.filter_congr fun i hi => ?_
    have hi := List.mem_range.mp hi
    rw [List.getElem?_append_left hi]
  · by_cases h : y = z
    · subst h; simp [List.filter]
    · simp [List.filter, beq_eq_false_iff_ne.mpr h, h]
theorem placesN_take (ns : List Int) (z : Int) : ∀ k, k ≤ ns.length → (placesN (ns.take k) z).length = (ns.take k).countP fun y => y == z
  | 0, _ => rfl
  | k + 1, h => by
    have hk : k < ns.length := h
    rw [take_snoc (List.getElem?_eq_getElem hk), placesN_snoc, List.length_append, placesN_take ns z k (by omega), List.countP_append]
    congr 1
    by_cases h : ns[k] = z
    · simp [h]
    · simp [h]
theorem placesN_count (ns : List Int) (z : Int) : (placesN ns z).length = ns.countP fun y => y == z := by
  have := placesN_take ns z ns.length (Nat.le_refl _)
  rwa [List.take_length] at this
theorem placesN_lt {ns : List Int} {z : Int} {i : Nat} (h : i ∈ placesN ns z) : i < ns.length := List.mem_range.mp (List.mem_filter.mp h).1
theorem placesN_le (ns : List Int) (z : Int) : (placesN ns z).length ≤ ns.length := by
  rw [placesN_count]
  exact List.countP_le_length
section
variable {P : Program} {w : World} {K : PySem.W.Frag} {mg : Str → Option Value} {base : Heap} {C CN CO CT CB CR CS : Addr} {errs : List (Addr × Int)}
def spVerdicts (CS CR CB CT : Addr) : Sp := fun vs H Q E => ∃ a s, vs = [.ref a] ∧ SubAt CS CR CB H a s ∧ (VametBase.inputCount s.bound ≤ 300 → ∀ H' p, NewL H H' p (verds s.program s.relation s.bound) → Q (.ref p) H') ∧ (300 < VametBase.inputCount s.bound → E (.ref CT) none H)
theorem ok_verdicts_of (D : Df K mg "verdicts_of" s_verdicts_of) (T : ClsS K CS) (cg : Cal P w K mg base (CXo P w) 4 "gone_through" ["subject"] (spGone CS CR CB CT)) (cv : Cal P w K mg base CX0 7 "all_verdicts" ["program", "relation", "rows"] (spVerd K CR)) :
    Cal P w K mg base (CXo P w) 8 "verdicts_of" ["subject"] (spVerdicts CS CR CB CT) := by
  refine D.okx (k := 7) sc_verdicts_of (fun vs H Q E h => by obtain ⟨a, s, rfl, _⟩ := h; rfl) (fun _ _ _ _ _ _ => bind1 (fun _ => rfl) rfl) fun f cdv A outer s0 H vs Q E hr xs h => ?_
  obtain ⟨a, s, rfl, hS, q1, q2⟩ := h
  obtain ⟨dx, vp, vr, vb, ha, hp, hR, hB⟩ := id hS
  have px := xs.passes rfl
  refine ⟨_, pss_one (ps_ret (pe_callC cv hr rfl pass0 (pa_cons (pe_fld (pv 0) rfl) (pa_cons (pe_fld (pv 0) rfl) (pa_cons (pe_callC cg (hr.mono (by decide)) rfl px (pa_cons (pv 0) pa_nil)) pa_nil))))), ?_⟩
  refine ⟨_, rfl, a, CS, dx, _, _, rfl, ha, T.cl, T.n1, rfl, _, rfl, a, CS, dx, _, _, rfl, ha, T.cl, T.n2, rfl, _, rfl, a, s, rfl, hS, fun hc H1 v s1 r1 fi => ?_, q2⟩
  exact ⟨vp, vr, v, s.program, s.relation, _, rfl, hp.same s1, (hR.same s1).k, r1, fi, fun H2 l ⟨s2, n2, e2⟩ => q1 hc _ _ ⟨s1.trans s2, none_back s1 n2, e2⟩⟩
def spPairsOf (CS CR CB CT : Addr) : Sp := fun vs H Q E => ∃ a s, vs = [.ref a] ∧ SubAt CS CR CB H a s ∧ (VametBase.inputCount s.bound ≤ 300 → ∀ H' v, Same H H' → PairsOf H' v (Vametb.allSides s.program s.relation s.bound) → (Vametb.allSides s.program s.relation s.bound).length ≤ 300 → Q v H') ∧ (300 < VametBase.inputCount s.bound → E (.ref CT) none H)
theorem ok_pairs_of (D : Df K mg "pairs_of" s_pairs_of) (T : ClsS K CS) (cg : Cal P w K mg base (CXo P w) 4 "gone_through" ["subject"] (spGone CS CR CB CT)) (cv : Cal P w K mg base CX0 7 "all_pairs" ["program", "relation", "rows"] (spPairs K CR)) :
    Cal P w K mg base (CXo P w) 8 "pairs_of" ["subject"] (spPairsOf CS CR CB CT) := by
  refine D.okx (k := 7) sc_pairs_of (fun vs H Q E h => by obtain ⟨a, s, rfl, _⟩ := h; rfl) (fun _ _ _ _ _ _ => bind1 (fun _ => rfl) rfl) fun f cdv A outer s0 H vs Q E hr xs h => ?_
  obtain ⟨a, s, rfl, hS, q1, q2⟩ := h
  obtain ⟨dx, vp, vr, vb, ha, hp, hR, hB⟩ := id hS
  have px := xs.passes rfl
  refine ⟨_, pss_one (ps_ret (pe_callC cv hr rfl pass0 (pa_cons (pe_fld (pv 0) rfl) (pa_cons (pe_fld (pv 0) rfl) (pa_cons (pe_callC cg (hr.mono (by decide)) rfl px (pa_cons (pv 0) pa_nil)) pa_nil))))), ?_⟩
  refine ⟨_, rfl, a, CS, dx, _, _, rfl, ha, T.cl, T.n1, rfl, _, rfl, a, CS, dx, _, _, rfl, ha, T.cl, T.n2, rfl, _, rfl, a, s, rfl, hS, fun hc H1 v s1 r1 fi => ?_, q2⟩
  refine ⟨vp, vr, v, s.program, s.relation, _, rfl, hp.same s1, (hR.same s1).k, r1, fi, fun H2 l s2 p2 => q1 hc _ _ (s1.trans s2) p2 ?_⟩
  have h1 : (Vametb.allSides s.program s.relation s.bound).length ≤ (Vametb.inputs s.bound).length := List.length_filterMap_le _ _
  rw [inputs_len] at h1
  omega
def spBroken : Sp := fun vs H Q _ => ∃ a ns, vs = [.ref a] ∧ H a = some (.lst (ns.map V.int)) ∧ ns.length ≤ 1500 ∧ ∀ H' p, NewL H H' p ((placesN ns 1).map Int.ofNat) → Q (.ref p) H'
theorem ok_all_broken (D : Df K mg "all_broken" s_all_broken) (hen : mg "enumerate" = none) (g1 : ∃ t, mg "BROKEN" = some (.int 1 t)) : Cal P w K mg base CX0 1 "all_broken" ["verdicts"] spBroken := by
  refine D.ok (k := 0) sc_all_broken (fun vs H Q E h => by obtain ⟨a, ns, rfl, _⟩ := h; rfl) (fun _ _ _ _ _ _ => bind1 (fun _ => rfl) rfl) fun f cdv A outer s0 H vs Q E hr h => ?_
  obtain ⟨a, ns, rfl, ha, hl, q⟩ := h
  refine ⟨_, pss_one (ps_ret (pe_lc (own := [("number", 1), ("verdict", 2)]) (g := gTup K 2 (gCons (gName 1) (gCons (gName 2) gNil))) rfl sc_all_broken.nd (pi_enum rfl hen (pa_cons (pv 0) pa_nil)) (blkOk_by (own := [("number", 1), ("verdict", 2)]) (N := n_all_broken) (sc := defScope s_all_broken) (by decide +kernel))
    (fun _ _ _ _ _ => pg_tup (by rfl) (pgs_cons (pg_name (i := 1) sc_all_broken.nd rfl (Or.inl rfl)) (pgs_cons (pg_name (i := 2) sc_all_broken.nd rfl (Or.inl rfl)) pgs_nil))) (fun _ _ _ _ _ => pts_one (pt_cmpR op_eq (pv 2) (pe_gint rfl g1) (nomark _))) (fun _ _ _ _ _ => pv 1))), ?_⟩
  refine ⟨_, rfl, a, _, rfl, SqL.of ha, fun D0 hD => ?_⟩
  refine lc_enum (K := K) (a := a) (xs := ns.map V.int) (fun i H' => Same H H' ∧ H' D0 = some (.lst (((placesN (ns.take i) 1).map Int.ofNat).map V.int))) ⟨same_new hD, upd_same⟩ (fun i H' _ z => SqL.of (z.1 _ _ ha)) ?_ ?_
  · rintro i y H' Tp hi ⟨sm, hv⟩ hT
    obtain ⟨z, hz, rfl⟩ := int_at hi
    have hTD : D0 ≠ Tp := fun e => by rw [e, hT] at hv; cases hv
    have hil : i < ns.length := (List.getElem?_eq_some_iff.mp hz).1
    have smT : Same H (upd H' Tp (.tup [.int (i : Nat), .int z])) := sm.trans (same_new hT)
    have hvT : (upd H' Tp (.tup [.int (i : Nat), .int z])) D0 = some (.lst (((placesN (ns.take i) 1).map Int.ofNat).map V.int)) := by rw [upd_ne hTD]; exact hv
    have hTT : (upd H' Tp (.tup [.int (i : Nat), .int z])) Tp = some (.tup [.int (i : Nat), .int z]) := upd_same
    generalize upd H' Tp (.tup [.int (i : Nat), .int z]) = H2 at smT hvT hTT
    refine ⟨Tp, _, rfl, SqT.of hTT, rfl, _, _, rfl, _, _, rfl, rfl, ?_⟩
    refine ⟨rfl, ?_⟩
    refine ⟨_, rfl, rfl, _, rfl, ?_⟩
    have hlen : (ns.take i).length = i := by rw [List.length_take]; omega
    by_cases hc : z = 1
    · rw [show decide (V.int z = V.int 1) = true from decide_eq_true (by rw [hc])]
      refine iteT ⟨_, rfl, _, hvT, ?_, same_put smT hD, ?_⟩
      · rw [List.length_map, List.length_map]
        have := placesN_le (ns.take i) 1
        exact short_line (by omega)
      · rw [upd_same, take_snoc hz, placesN_snoc, if_pos hc, hlen, List.map_append, List.map_append]
        rfl
    · rw [show decide (V.int z = V.int 1) = false from decide_eq_false fun y => hc (by injection y)]
      refine iteF ⟨smT, ?_⟩
      rw [hvT, take_snoc hz, placesN_snoc, if_neg hc, List.append_nil]
  · rintro H' ⟨sm, hv⟩
    rw [List.length_map, List.take_length] at hv
    exact q _ _ ⟨sm, hD, hv⟩
end
end Rh

end

-- part RhHeld2
section
set_option Elab.async false
set_option linter.all false
set_option maxRecDepth 100000
set_option maxHeartbeats 2000000
namespace Rh
open PySem PySem.Spec PyProof.Rows L2
theorem eqV_int (y k : Int) : eqV (.int y) (.int k) = (y == k) := by
  rw [Bool.eq_iff_iff]
  simp [eqV]
theorem count_ints (ns : List Int) (k : Int) : ((ns.map V.int).countP fun z => eqV z (.int k)) = ns.countP fun y => y == k := by
  rw [List.countP_map]
  rfl
theorem held_ans (s : Vametb.State) : Vametb.step s .held = (s, if 300 < VametBase.inputCount s.bound then [-7] else Vametb.heldTold s) := rfl
theorem count_places (s : Vametb.State) (v : VametBase.Verdict) : ((verds s.program s.relation s.bound).countP fun y => y == VametBase.verdictNumber v) = (Vametb.placesOf s.program s.relation s.bound v).length := by
  rw [← placesN_count, places_verds]
section
variable {P : Program} {w : World} {K : PySem.W.Frag} {mg : Str → Option Value} {base : Heap} {C CN CO CT CB CR CS : Addr} {errs : List (Addr × Int)}
theorem ok_ask_held (D : Df K mg "ask_held" s_ask_held) (hln : mg "len" = none) (g0 : ∃ t, mg "KEPT" = some (.int 0 t)) (g2 : ∃ t, mg "OFF" = some (.int 2 t)) (hE : (CT, -7) ∈ errs) (cv : Cal P w K mg base (CXo P w) 8 "verdicts_of" ["subject"] (spVerdicts CS CR CB CT)) (cb : Cal P w K mg base CX0 1 "all_broken" ["verdicts"] spBroken) :
    Cal P w K mg base (CXo P w) 9 "ask_held" ["subject", "told"] (spAsk CS CR CB errs (fun _ => True) fun _ => .held) := by
  refine D.okx (k := 8) sc_ask_held spAsk_len (fun _ _ _ _ _ _ => bind2 (fun _ _ => rfl) rfl) fun f cdv A outer s0 H vs Q E hr xs h => ?_
  obtain ⟨a, t, s, l, rfl, hS, ht, _, q1, q2⟩ := h
  have px := xs.passes rfl
  refine ⟨_, pss_cons (ps_set (i := 2) sc_ask_held.nd rfl (Or.inl rfl) (pe_callC cv hr rfl px (pa_cons (pv 0) pa_nil)))
    (pss_cons (ps_set (i := 3) sc_ask_held.nd rfl (Or.inl rfl) (pe_callC cb (hr.mono (by decide)) rfl pass0 (pa_cons (pv 2) pa_nil)))
    (pss_cons (ps_set (i := 4) sc_ask_held.nd rfl (Or.inl rfl) (pe_ifExp (pt_truth (pv 3) (by intro _; rfl)) (pe_ix ix_list (pv 3) pe_int (fun _ _ => rfl)) (pe_un un_neg pe_int)))
    (pss_one (ps_ret (pe_lst (pa_cons (pe_bm PySem.F.plainAttrs_list PySem.F.slot_list_count PySem.F.type_list_count mt_count_list (pv 2) (pa_cons (pe_gint rfl g0) pa_nil)) (pa_cons (pe_callB call_len_seq (by rfl) hln PySem.boot_len (pa_cons (pv 3) pa_nil)) (pa_cons (pe_bm PySem.F.plainAttrs_list PySem.F.slot_list_count PySem.F.type_list_count mt_count_list (pv 2) (pa_cons (pe_gint rfl g2) pa_nil)) (pa_cons (pv 4) pa_nil))))))))), ?_⟩
  have st := held_ans s
  have hc1500 : VametBase.inputCount s.bound ≤ 1500 := let ⟨_, _, _, _, _, _, _, hB⟩ := hS; hB.2
  refine ⟨_, rfl, a, s, rfl, hS, fun hc H1 p1 ⟨s1, n1, e1⟩ => ?_, fun hc => q2 CT (-7) hE (by show Vametb.step s .held = _; rw [st, if_pos hc]) H (Same.refl _)⟩
  rw [if_neg (by omega)] at st
  have q1 : ∀ H' p, SameX a H H' → SubAt CS CR CB H' a (Vametb.step s .held).1 → H p = none → H' p = some (.lst ((Vametb.step s .held).2.map V.int)) → Q (.ref p) H' := q1
  rw [st] at q1
  refine ⟨_, rfl, p1, _, rfl, e1, by rw [verds_len]; exact hc1500, fun H2 p2 ⟨s2, n2, e2⟩ => ?_⟩
  have ev : placesN (verds s.program s.relation s.bound) 1 = Vametb.placesOf s.program s.relation s.bound .broken := places_verds s.program s.relation s.bound .broken
  rw [ev] at e2
  have s12 := s1.trans s2
  have e1' := s2 _ _ e1
  have done : ∀ z : Int, z = (match (Vametb.placesOf s.program s.relation s.bound .broken).head? with | none => -1 | some k => Vametb.int k) → 4 ≤ sizeLine ∧ ∀ p, H2 p = none → Q (.ref p) (upd H2 p (.lst [.int ((((verds s.program s.relation s.bound).map V.int).countP fun z => eqV z (.int 0) : Nat) : Int), .int ((((Vametb.placesOf s.program s.relation s.bound .broken).map Int.ofNat).map V.int).length : Nat), .int ((((verds s.program s.relation s.bound).map V.int).countP fun z => eqV z (.int 2) : Nat) : Int), .int z])) := fun z hz => by
    refine ⟨by decide, fun p hp => q1 _ _ (SameX.of (s12.trans (same_new hp))) (hS.same (s12.trans (same_new hp))) (none_back s12 hp) ?_⟩
    rw [upd_same, count_ints, count_ints, List.length_map, List.length_map, hz]
    have k0 := count_places s .kept
    have k2 := count_places s .off
    rw [show VametBase.verdictNumber .kept = 0 from rfl] at k0
    rw [show VametBase.verdictNumber .off = 2 from rfl] at k2
    rw [k0, k2]
    rfl
  refine ⟨_, rfl, !((Vametb.placesOf s.program s.relation s.bound .broken).map Int.ofNat).isEmpty, .inl ⟨_, SqL.of e2, by rw [isEmpty_map]⟩, ?_⟩
  generalize hpl : Vametb.placesOf s.program s.relation s.bound .broken = pl at e2 done
  cases pl with
  | nil =>
    refine iteF ?_
    refine ⟨_, rfl, ?_⟩
    refine ⟨_, rfl, .inl ⟨rfl, _, SqL.of e1'⟩, p1, _, _, rfl, rfl, SqL.of e1', rfl, flat_ints _, ?_⟩
    refine ⟨_, rfl, p2, _, rfl, .inl (SqL.of e2), ?_⟩
    refine ⟨_, rfl, .inl ⟨rfl, _, SqL.of e1'⟩, p1, _, _, rfl, rfl, SqL.of e1', rfl, flat_ints _, _, rfl, ?_⟩
    exact done (-1) rfl
  | cons k r =>
    refine iteT ?_
    refine ⟨_, rfl, p2, _, _, _, rfl, rfl, SqL.of e2, atI_nat (j := 0) rfl, ?_⟩
    refine ⟨_, rfl, .inl ⟨rfl, _, SqL.of e1'⟩, p1, _, _, rfl, rfl, SqL.of e1', rfl, flat_ints _, ?_⟩
    refine ⟨_, rfl, p2, _, rfl, .inl (SqL.of e2), ?_⟩
    refine ⟨_, rfl, .inl ⟨rfl, _, SqL.of e1'⟩, p1, _, _, rfl, rfl, SqL.of e1', rfl, flat_ints _, _, rfl, ?_⟩
    exact done k rfl
theorem breaking_ans (s : Vametb.State) (n : Int) : Vametb.step s (.breaking n) = (s, if 300 < VametBase.inputCount s.bound then [-7] else (match (if 0 ≤ n then (Vametb.placesOf s.program s.relation s.bound .broken)[n.toNat]? else none) with
    | none => [-2]
    | some k => Vametb.int k :: (VametBase.listedInts (VametBase.inputAt s.bound k) ++ Vametb.sidesTold s.program s.relation (VametBase.inputAt s.bound k)))) := rfl
theorem ok_ask_breaking (D : Df K mg "ask_breaking" s_ask_breaking) (hln : mg "len" = none) (T : ClsS K CS) (X : Exc K mg "NoSuch" CO) (hE : (CT, -7) ∈ errs) (hO : (CO, -2) ∈ errs) (cv : Cal P w K mg base (CXo P w) 8 "verdicts_of" ["subject"] (spVerdicts CS CR CB CT)) (cb : Cal P w K mg base CX0 1 "all_broken" ["verdicts"] spBroken)
    (cn : Cal P w K mg base CX0 2 "numbered" ["bound", "number"] (spNumbered CB)) (cc : Cal P w K mg base CX0 1 "counted" ["row"] spCounted) (cl : Cal P w K mg base CX0 7 "what_look_tells" ["subject", "row"] (spLook CS CR CB)) :
    Cal P w K mg base (CXo P w) 9 "ask_breaking" ["subject", "told"] (spAsk CS CR CB errs (fun l => ∃ k, l = [k]) fun l => .breaking (l.headD 0)) := by
  refine D.okx (k := 8) sc_ask_breaking spAsk_len (fun _ _ _ _ _ _ => bind2 (fun _ _ => rfl) rfl) fun f cdv A outer s0 H vs Q E hr xs h => ?_
  obtain ⟨a, t, s, l, rfl, hS, ht, ⟨n, rfl⟩, q1, q2⟩ := h
  have px := xs.passes rfl
  refine ⟨_, pss_cons (ps_set (i := 2) sc_ask_breaking.nd rfl (Or.inl rfl) (pe_callC cb (hr.mono (by decide)) rfl pass0 (pa_cons (pe_callC cv hr rfl px (pa_cons (pv 0) pa_nil)) pa_nil)))
    (pss_cons (ps_if (PW.pt (pw_or (pt_cmpR op_lt (pe_ix ix_list (pv 1) pe_int (fun _ _ => rfl)) pe_int (nomark _)) (pw_or1 (pt_cmpR op_ge (pe_ix ix_list (pv 1) pe_int (fun _ _ => rfl)) (pe_callB call_len_seq (by rfl) hln PySem.boot_len (pa_cons (pv 2) pa_nil)) (nomark _))))) (pss_one (ps_raise0 rfl rfl xs rfl X.at_ X.ex PySem.F.excBase_Exception)) pss_nil)
    (pss_cons (ps_set (i := 3) sc_ask_breaking.nd rfl (Or.inl rfl) (pe_ix ix_list (pv 2) (pe_ix ix_list (pv 1) pe_int (fun _ _ => rfl)) (fun _ _ => rfl)))
    (pss_cons (ps_set (i := 4) sc_ask_breaking.nd rfl (Or.inl rfl) (pe_callC cn (hr.mono (by decide)) rfl pass0 (pa_cons (pe_fld (pv 0) rfl) (pa_cons (pv 3) pa_nil))))
    (pss_one (ps_ret (pe_op op_cat (pe_op op_cat (pe_lst (pa_cons (pv 3) pa_nil)) (pe_callC cc (hr.mono (by decide)) rfl pass0 (pa_cons (pv 4) pa_nil))) (pe_callC cl (hr.mono (by decide)) rfl pass0 (pa_cons (pv 0) (pa_cons (pv 4) pa_nil))))))))), ?_⟩
  have st := breaking_ans s n
  obtain ⟨dx, vp, vr, vb, ha, hp, hR, hB⟩ := id hS
  have q1 : ∀ H' p, SameX a H H' → SubAt CS CR CB H' a (Vametb.step s (.breaking n)).1 → H p = none → H' p = some (.lst ((Vametb.step s (.breaking n)).2.map V.int)) → Q (.ref p) H' := q1
  have q2 : ∀ C z, (C, z) ∈ errs → Vametb.step s (.breaking n) = (s, [z]) → ∀ H', Same H H' → E (.ref C) none H' := q2
  refine ⟨_, rfl, a, s, rfl, hS, fun hc H1 p1 ⟨s1, n1, e1⟩ => ?_, fun hc => q2 CT (-7) hE (by rw [st, if_pos hc]) H (Same.refl _)⟩
  rw [if_neg (by omega)] at st
  refine ⟨p1, _, rfl, e1, by rw [verds_len]; omega, fun H2 p2 ⟨s2, n2, e2⟩ => ?_⟩
  have ev : placesN (verds s.program s.relation s.bound) 1 = Vametb.placesOf s.program s.relation s.bound .broken := places_verds s.program s.relation s.bound .broken
  have hlt : ∀ i ∈ Vametb.placesOf s.program s.relation s.bound .broken, i < VametBase.inputCount s.bound := fun i hi => by
    rw [← ev] at hi
    have := placesN_lt hi
    rwa [verds_len] at this
  rw [ev] at e2
  generalize Vametb.placesOf s.program s.relation s.bound .broken = pl at e2 st hlt
  have s12 := s1.trans s2
  have ht2 := s12 _ _ ht
  refine ⟨_, rfl, t, _, _, _, rfl, rfl, SqL.of ht2, atI_nat (j := 0) rfl, _, _, rfl, rfl, _, rfl, ?_⟩
  refine ite2 (fun h1 => ?_) fun h1 => ?_
  · have h1 := of_decide_eq_true h1
    refine iteT (q2 CO (-2) hO ?_ _ s12)
    rw [st, if_neg (by omega : ¬ 0 ≤ n)]
  · have h1 : ¬ n < 0 := fun y => h1 (decide_eq_true y)
    rw [if_pos (by omega : 0 ≤ n)] at st
    refine ⟨_, rfl, t, _, _, _, rfl, rfl, SqL.of ht2, atI_nat (j := 0) rfl, _, rfl, p2, _, rfl, .inl (SqL.of e2), _, _, rfl, rfl, _, rfl, ?_⟩
    rw [List.length_map, List.length_map]
    refine ite2 (fun h2 => ?_) fun h2 => ?_
    · have h2 : ((pl.length : Nat) : Int) ≤ n := of_decide_eq_true h2
      refine q2 CO (-2) hO ?_ _ s12
      rw [st, List.getElem?_eq_none (by omega)]
    · have h2 : ¬ ((pl.length : Nat) : Int) ≤ n := fun y => h2 (decide_eq_true y)
      have hn : n.toNat < pl.length := by omega
      rw [List.getElem?_eq_getElem hn] at st
      have hk := hlt _ (List.getElem_mem hn)
      have hat : atI ((pl.map Int.ofNat).map V.int) ((n.toNat : Nat) : Int) = some (.int (pl[n.toNat] : Nat)) := by
        refine atI_nat ?_
        rw [List.getElem?_map, List.getElem?_map, List.getElem?_eq_getElem (by omega)]
        rfl
      rw [Int.toNat_of_nonneg (by omega)] at hat
      generalize pl[n.toNat] = k at st hk hat
      have st : Vametb.step s (.breaking n) = (s, Vametb.int k :: (VametBase.listedInts (VametBase.inputAt s.bound k) ++ Vametb.sidesTold s.program s.relation (VametBase.inputAt s.bound k))) := st
      rw [st] at q1
      have hlen : (VametBase.inputAt s.bound k).length ≤ 9 := by
        have := input_len s.bound k
        have := hB.1.l8
        omega
      refine ⟨_, rfl, _, rfl, t, _, _, _, rfl, rfl, SqL.of ht2, atI_nat (j := 0) rfl, p2, _, _, _, rfl, rfl, SqL.of e2, hat, ?_⟩
      refine ⟨_, rfl, a, CS, dx, _, _, rfl, s12 _ _ ha, T.cl, T.n3, rfl, _, rfl, vb, s.bound, k, rfl, hB.1.same s12, hk, by have := hB.2; omega, fun H3 p3 s3 n3 e3 => ?_⟩
      refine ⟨_, rfl, (by show 1 ≤ sizeLine; decide), fun p4 h4 => ?_⟩
      have s4 := same_new (o := .lst [.int (k : Nat)]) h4
      have e4 : (upd H3 p4 (.lst [.int (k : Nat)])) p4 = some (.lst [.int (k : Nat)]) := upd_same
      generalize upd H3 p4 (.lst [.int (k : Nat)]) = H4 at s4 e4
      refine ⟨_, rfl, p3, _, rfl, s4 _ _ e3, by omega, fun H5 p5 ⟨s5, n5, e5⟩ => ?_⟩
      refine ⟨p4, p5, _, _, rfl, rfl, s5 _ _ e4, e5, ?_, fun p6 h6 => ?_⟩
      · rw [List.length_map]
        exact Nat.le_of_lt (short_line (by simp [VametBase.listedInts]; omega))
      have s6 := same_new (o := .lst ([V.int (k : Nat)] ++ (VametBase.listedInts (VametBase.inputAt s.bound k)).map V.int)) h6
      have e6 : (upd H5 p6 (.lst ([V.int (k : Nat)] ++ (VametBase.listedInts (VametBase.inputAt s.bound k)).map V.int))) p6 = some (.lst ([V.int (k : Nat)] ++ (VametBase.listedInts (VametBase.inputAt s.bound k)).map V.int)) := upd_same
      generalize upd H5 p6 (.lst ([V.int (k : Nat)] ++ (VametBase.listedInts (VametBase.inputAt s.bound k)).map V.int)) = H6 at s6 e6
      have s36 := s4.trans (s5.trans s6)
      have s16 := s12.trans (s3.trans s36)
      refine ⟨_, rfl, _, rfl, a, s, p3, _, rfl, hS.same s16, s36 _ _ e3, by omega, fun H7 p7 ⟨s7, n7, e7⟩ htold => ?_⟩
      refine ⟨p6, p7, _, _, rfl, rfl, s7 _ _ e6, e7, ?_, fun p8 h8 => ?_⟩
      · rw [List.length_append, List.length_map, List.length_map]
        exact Nat.le_of_lt (short_line (by simp [VametBase.listedInts]; omega))
      have s18 := s16.trans (s7.trans (same_new (o := .lst ([V.int (k : Nat)] ++ (VametBase.listedInts (VametBase.inputAt s.bound k)).map V.int ++ (Vametb.sidesTold s.program s.relation (VametBase.inputAt s.bound k)).map V.int)) h8))
      refine q1 _ _ (SameX.of s18) (hS.same s18) (none_back (s16.trans s7) h8) ?_
      rw [upd_same]
      simp [Vametb.int]
end
end Rh

end

-- part RhStand
section
set_option Elab.async false
set_option linter.all false
set_option maxRecDepth 100000
set_option maxHeartbeats 2000000
namespace Rh
open PySem PySem.Spec PyProof.Rows L2
/-- a dict of the top whose values are tuples of numbers -/
def GTab (K : PySem.W.Frag) (mg : Str → Option Value) (x : Str) (ns : List (Int × List Int)) : Prop :=
  ∃ a l, mg x = some (.ref a) ∧ KD K a l ∧ Paired (fun (p : Int × V) (q : Int × List Int) => p.1 = q.1 ∧ ∃ b, p.2 = .ref b ∧ ∀ H, SqT K H b (q.2.map V.int)) l ns
theorem gtab_find {K : PySem.W.Frag} {i : Int} : ∀ {l : List (Int × V)} {ns : List (Int × List Int)}, Paired (fun (p : Int × V) (q : Int × List Int) => p.1 = q.1 ∧ ∃ b, p.2 = .ref b ∧ ∀ H, SqT K H b (q.2.map V.int)) l ns →
    ((ns.find? fun p => p.1 == i) = none ∧ (l.find? fun p => p.1 == i) = none) ∨ ∃ e b, (ns.find? fun p => p.1 == i).map (·.2) = some e ∧ (l.find? fun p => p.1 == i).map (·.2) = some (.ref b) ∧ ∀ H, SqT K H b (e.map V.int)
  | _, _, .nil => .inl ⟨rfl, rfl⟩
  | (a, v) :: l, (c, x) :: ns, .cons ⟨e, b, hv, hq⟩ r => by
    have ih := gtab_find (i := i) r
    have e : a = c := e
    have hv : v = .ref b := hv
    subst e hv
    by_cases h : a = i
    · subst h
      exact .inr ⟨x, b, by simp, by simp, hq⟩
    · have h : (a == i) = false := beq_eq_false_iff_ne.mpr h
      rw [List.find?_cons, List.find?_cons]
      simp only [h]
      exact ih
abbrev tabFol : List (Int × List Int) := [(0, [1, 2, 3, 4, 5, 6]), (1, [2, 6]), (3, [6]), (4, [6])]
def folOf (i : Int) : List Int := ((tabFol.find? fun p => p.1 == i).map (·.2)).getD []
theorem fol_le (p : VametBase.Rel) : (folOf (VametBase.relNumber p)).length ≤ 6 := by cases p <;> decide
theorem fol_is (p q : VametBase.Rel) : (p != q && Vametb.implies p q) = (folOf (VametBase.relNumber p)).contains (VametBase.relNumber q) := by cases p <;> cases q <;> decide
theorem strongest_is (l : List VametBase.Rel) : (Vametb.strongest l).map VametBase.relNumber = (l.map VametBase.relNumber).filter fun z => !(l.flatMap fun p => folOf (VametBase.relNumber p)).contains z := by
  unfold Vametb.strongest
  rw [List.filter_map]
  congr 1
  refine List.filter_congr fun q _ => ?_
  simp only [Function.comp]
  congr 1
  rw [Bool.eq_iff_iff, List.any_eq_true, List.contains_iff_mem, List.mem_flatMap]
  constructor
  · rintro ⟨p, hp, h⟩
    rw [fol_is] at h
    exact ⟨p, hp, List.contains_iff_mem.mp h⟩
  · rintro ⟨p, hp, h⟩
    refine ⟨p, hp, ?_⟩
    rw [fol_is]
    exact List.contains_iff_mem.mpr h
theorem rel_at {i : Nat} (h : i < 7) : ∃ r, Vametb.rels[i]? = some r ∧ VametBase.relNumber r = (i : Int) := by
  match i, h with
  | 0, _ => exact ⟨.equal, rfl, rfl⟩
  | 1, _ => exact ⟨.bag, rfl, rfl⟩
  | 2, _ => exact ⟨.numbers, rfl, rfl⟩
  | 3, _ => exact ⟨.most, rfl, rfl⟩
  | 4, _ => exact ⟨.least, rfl, rfl⟩
  | 5, _ => exact ⟨.begins, rfl, rfl⟩
  | 6, _ => exact ⟨.long, rfl, rfl⟩
/-- whether a way holds at all pairs -/
def allStand (ss : List VametBase.Sides) (r : VametBase.Rel) : Bool := ss.all fun s => VametBase.stands r s.left s.right
section
variable {P : Program} {w : World} {K : PySem.W.Frag} {mg : Str → Option Value} {base : Heap} {C CN CO CT CB CR CS : Addr} {errs : List (Addr × Int)}
def spHolds : Sp := fun vs H Q _ => ∃ r v ss, vs = [.int (VametBase.relNumber r), v] ∧ PairsOf H v ss ∧ ss.length ≤ 1500 ∧ ∀ H', Same H H' → Q (.bl (allStand ss r)) H'
theorem paired_bls {bs : List Bool} : ∀ {ys : List V}, Paired (fun (y : V) (d : Bool) => y = .bl d) ys bs → ys = bs.map V.bl := by
  intro ys p
  induction p with
  | nil => rfl
  | cons h _ ih => rw [h, ih]; rfl
theorem ok_holds (D : Df K mg "holds" s_holds) (hall : mg "all" = none) (ct : Cal P w K mg base CX0 4 "stands" ["way", "left", "right"] spStands) : Cal P w K mg base CX0 5 "holds" ["way", "pairs"] spHolds := by
  refine D.ok (k := 4) sc_holds (fun vs H Q E h => by obtain ⟨r, v, ss, rfl, _⟩ := h; rfl) (fun _ _ _ _ _ _ => bind2 (fun _ _ => rfl) rfl) fun f cdv A outer s0 H vs Q E hr h => ?_
  obtain ⟨r, v, ss, rfl, ⟨b, us, rfl, hb, pr⟩, hs, q⟩ := h
  refine ⟨_, pss_one (ps_ret (pe_callB (cr_all rfl) (by rfl) hall (by decide +kernel) (pa_cons (pe_lc (own := [("pair", 2)]) (g := gName 2) (te := tHide (tCall spStands [] E0 (tCons (tVar 0) (tCons (tOp (rIxT K) (tVar 2) (tC (.int 0))) (tCons (tOp (rIxT K) (tVar 2) (tC (.int 1))) tNil))))) rfl sc_holds.nd (pi_list (pv 1)) (blkOk_by (own := [("pair", 2)]) (N := n_holds) (sc := defScope s_holds) (by decide +kernel))
    (fun _ _ _ _ _ => pg_name (i := 2) sc_holds.nd rfl (Or.inl rfl)) (fun _ _ _ _ _ => pts_nil) (fun _ _ _ _ _ => pe_hide (pe_callC ct hr rfl pass0 (pa_cons (pv 0) (pa_cons (pe_ix ix_tup (pv 2) pe_int (fun _ _ => rfl)) (pa_cons (pe_ix ix_tup (pv 2) pe_int (fun _ _ => rfl)) pa_nil)))))) pa_nil))), ?_⟩
  have hl := Paired.length pr
  refine ⟨_, rfl, b, rfl, ⟨_, SqL.of hb⟩, fun D0 hD => ?_⟩
  refine lc_hl (a := b) (xs := us) (ds := ss.map fun s => VametBase.stands r s.left s.right) (fun _ y d => y = .bl d) (fun _ _ _ _ _ z => z) (SqL.of hb) hD (by rw [List.length_map, hl]) (by omega) (fun _ => rfl) ?_ ?_
  · intro i x d G R hx hd sm k
    obtain ⟨sd, hsd, ⟨c, l, r2, rfl, h0, h1, h2, l1, l2⟩, _⟩ := paired_get pr hx
    have ed : VametBase.stands r sd.left sd.right = d := by
      rw [List.getElem?_map, hsd] at hd
      exact Option.some.inj hd
    exact ⟨_, rfl, _, rfl, c, _, _, _, rfl, rfl, SqT.of (sm _ _ h0), atI_nat (j := 0) rfl, _, rfl, c, _, _, _, rfl, rfl, SqT.of (sm _ _ h0), atI_nat (j := 1) rfl, r, l, r2, _, _, rfl, sm _ _ h1, sm _ _ h2, l1, l2, fun H2 s2 => k _ _ s2 (by rw [ed])⟩
  · intro G ys hG sm pr2
    refine ⟨D0, ss.map fun s => VametBase.stands r s.left s.right, rfl, SqL.of (by rw [upd_same, paired_bls pr2]), ?_⟩
    have e : (ss.map fun s => VametBase.stands r s.left s.right).all id = allStand ss r := by rw [List.all_map]; rfl
    rw [e]
    exact q _ (same_updN hD sm)
def spWays : Sp := fun vs H Q _ => ∃ v ss, vs = [v] ∧ PairsOf H v ss ∧ ss.length ≤ 1500 ∧ ∀ H' l, NewL H H' l ((Vametb.rels.filter (allStand ss)).map VametBase.relNumber) → Q (.ref l) H'
theorem ok_ways (D : Df K mg "ways_that_hold" s_ways_that_hold) (hln : mg "len" = none) (hrng : mg "range" = none) (tR : TTab K mg "WAYS" tabR) (ch : Cal P w K mg base CX0 5 "holds" ["way", "pairs"] spHolds) : Cal P w K mg base CX0 6 "ways_that_hold" ["pairs"] spWays := by
  obtain ⟨aW, lW, mW, dW, pW⟩ := tR
  refine D.ok (k := 5) sc_ways_that_hold (fun vs H Q E h => by obtain ⟨v, ss, rfl, _⟩ := h; rfl) (fun _ _ _ _ _ _ => bind1 (fun _ => rfl) rfl) fun f cdv A outer s0 H vs Q E hr h => ?_
  obtain ⟨v, ss, rfl, hP, hs, q⟩ := h
  refine ⟨_, pss_one (ps_ret (pe_lc (own := [("way", 1)]) (g := gName 1) rfl sc_ways_that_hold.nd (pi_range1 rfl hrng (pa_cons (pe_callB call_len_seq (by rfl) hln PySem.boot_len (pa_cons (pe_gref rfl mW) pa_nil)) pa_nil)) (blkOk_by (own := [("way", 1)]) (N := n_ways_that_hold) (sc := defScope s_ways_that_hold) (by decide +kernel))
    (fun _ _ _ _ _ => pg_name (i := 1) sc_ways_that_hold.nd rfl (Or.inl rfl)) (fun _ _ _ _ _ => pts_one (pt_val (pe_callC ch hr rfl pass0 (pa_cons (pv 1) (pa_cons (pv 0) pa_nil))))) (fun _ _ _ _ _ => pv 1))), ?_⟩
  have l7 : lW.length = 7 := Paired.length pW
  refine ⟨aW, _, rfl, .inr (dW H), _, rfl, by omega, by omega, fun D0 hD => ?_⟩
  rw [l7, Int.toNat_natCast]
  refine lc_range (lo := 0) (n := 7) (fun i H' => Same H H' ∧ H' D0 = some (.lst ((((Vametb.rels.take i).filter (allStand ss)).map VametBase.relNumber).map V.int))) ⟨same_new hD, upd_same⟩ ?_ ?_
  · rintro i H' hi ⟨sm, hv⟩
    obtain ⟨r, hr1, hr2⟩ := rel_at hi
    have et : (Vametb.rels.take (i + 1)).filter (allStand ss) = (Vametb.rels.take i).filter (allStand ss) ++ (if allStand ss r then [r] else []) := by
      rw [List.take_add_one, hr1, List.filter_append]
      congr 1
      cases h : allStand ss r <;> simp [h]
    refine ⟨rfl, _, rfl, _, rfl, r, v, ss, by rw [hr2, Int.zero_add]; rfl, hP.same sm, hs, fun H2 s2 => ⟨_, rfl, ?_⟩⟩
    cases h : allStand ss r with
    | false =>
      refine iteF ⟨sm.trans s2, ?_⟩
      rw [et, h]
      simpa using s2 _ _ hv
    | true =>
      refine iteT ⟨_, rfl, _, s2 _ _ hv, ?_, same_put (sm.trans s2) hD, ?_⟩
      · rw [List.length_map, List.length_map]
        have := List.length_filter_le (allStand ss) (Vametb.rels.take i)
        rw [List.length_take] at this
        exact short_line (by omega)
      · rw [upd_same, et, h, if_pos rfl, List.map_append, List.map_append]
        simp [hr2]
  · rintro H' ⟨sm, hv⟩
    exact q _ _ ⟨sm, hD, hv⟩
def spStrong : Sp := fun vs H Q _ => ∃ a l, vs = [.ref a] ∧ H a = some (.lst ((l.map VametBase.relNumber).map V.int)) ∧ l.length ≤ 7 ∧ ∀ H' p, NewL H H' p ((Vametb.strongest l).map VametBase.relNumber) → Q (.ref p) H'
theorem ok_strongest (D : Df K mg "strongest" s_strongest) (tF : GTab K mg "FOLLOWING" tabFol) : Cal P w K mg base CX0 1 "strongest" ["ways"] spStrong := by
  obtain ⟨aF, lF, mF, dF, pF⟩ := tF
  refine D.ok (k := 0) sc_strongest (fun vs H Q E h => by obtain ⟨a, l, rfl, _⟩ := h; rfl) (fun _ _ _ _ _ _ => bind1 (fun _ => rfl) rfl) fun f cdv A outer s0 H vs Q E hr h => ?_
  obtain ⟨a, l, rfl, ha, hl, q⟩ := h
  refine ⟨_, pss_cons (ps_set (i := 1) sc_strongest.nd rfl (Or.inr rfl) (pe_lst pa_nil))
    (pss_cons (ps_for PassesOwn.never rfl (pi_list (pv 0)) (pg_name (i := 2) sc_strongest.nd rfl (Or.inl rfl)) (pss_one (ps_expr (pe_bm PySem.F.plainAttrs_list PySem.F.slot_list_extend PySem.F.type_list_extend mt_extendT (pv 1) (pa_cons (pe_kget2 dF (pe_gref rfl mF) (pv 2) (pe_tup pa_nil) ⟨rfl, rfl, rfl, rfl⟩) pa_nil)))))
    (pss_one (ps_ret (pe_lc (own := [("way", 2)]) (g := gName 2) rfl sc_strongest.nd (pi_list (pv 0)) (blkOk_by (own := [("way", 2)]) (N := n_strongest) (sc := defScope s_strongest) (by decide +kernel))
    (fun _ _ _ _ _ => pg_name (i := 2) sc_strongest.nd rfl (Or.inl rfl)) (fun _ _ _ _ _ => pts_one (pt_cmpR (r := rIn K true) op_notIn_seq (pv 2) (pv 1) (by rfl))) (fun _ _ _ _ _ => pv 2))))), ?_⟩
  refine ⟨Nat.zero_le _, fun p1 h1 => ?_⟩
  have s1 : Same H (upd H p1 (.lst [])) := same_new h1
  have e1 : (upd H p1 (.lst [])) p1 = some (.lst []) := upd_same
  have n1 : a ≠ p1 := ne_of_none ha h1
  generalize upd H p1 (.lst []) = H1 at s1 e1
  have hla : ((l.map VametBase.relNumber).map V.int).length = l.length := by rw [List.length_map, List.length_map]
  have hlw : ∀ i : Nat, i ≤ 7 → ((l.take i).flatMap fun p => folOf (VametBase.relNumber p)).length ≤ 6 * i := by
    intro i _
    induction i with
    | zero => simp
    | succ i ih =>
      by_cases hi : i < l.length
      · rw [List.take_add_one, List.getElem?_eq_getElem hi, List.flatMap_append, List.length_append]
        have := fol_le l[i]
        have := ih (by omega)
        have e3 : (Option.toList (some l[i])).flatMap (fun p => folOf (VametBase.relNumber p)) = folOf (VametBase.relNumber l[i]) := by simp
        rw [e3]
        omega
      · have e : l.take (i + 1) = l.take i := by rw [List.take_of_length_le (by omega), List.take_of_length_le (by omega)]
        rw [e]
        have := ih (by omega)
        omega
  refine ⟨_, rfl, a, rfl, ⟨_, SqL.of (s1 _ _ ha)⟩, ?_⟩
  refine for_list (K := K) (a := a) (xs := (l.map VametBase.relNumber).map V.int) (fun i σ H' => (∃ u, σ = [some (.ref a), some (.ref p1), u]) ∧ (∀ c o, c ≠ p1 → H1 c = some o → H' c = some o) ∧ H' p1 = some (.lst (((l.take i).flatMap fun p => folOf (VametBase.relNumber p)).map V.int)))
    ⟨⟨_, rfl⟩, fun c o _ e => e, e1⟩ (fun i σ H' _ z => SqL.of (z.2.1 _ _ n1 (s1 _ _ ha))) ?_ ?_
  · rintro i y σ H' hi ⟨⟨u, rfl⟩, sm, hv⟩
    obtain ⟨z, hz, rfl⟩ := int_at hi
    have hil : i < l.length := by
      have := (List.getElem?_eq_some_iff.mp hz).1
      simpa using this
    have ez : z = VametBase.relNumber l[i] := by
      rw [List.getElem?_map, List.getElem?_eq_getElem hil] at hz
      exact (Option.some.inj hz).symm
    have et : (l.take (i + 1)).flatMap (fun p => folOf (VametBase.relNumber p)) = (l.take i).flatMap (fun p => folOf (VametBase.relNumber p)) ++ folOf z := by
      rw [List.take_add_one, List.getElem?_eq_getElem hil, List.flatMap_append, ez]
      simp
    have hw := hlw i (by omega)
    refine ⟨_, rfl, .inl ⟨rfl, _, SqL.of hv⟩, rfl, _, rfl, (by show 0 ≤ sizeLine; decide), fun t ht => ⟨z, rfl, ?_⟩⟩
    have st : Same H' (upd H' t (.tup [])) := same_new ht
    have et2 : (upd H' t (.tup [])) t = some (.tup []) := upd_same
    generalize upd H' t (.tup []) = H2 at st et2
    have fl : (folOf z).length ≤ 6 := by rw [ez]; exact fol_le _
    have go : ∀ b, SqT K H2 b ((folOf z).map V.int) → rExtendT K (.ref p1) [.ref b] H2 fun _ H3 => (∃ u, ([some (.ref a), some (.ref p1), some (.int z)] : L2.St) = [some (.ref a), some (.ref p1), u]) ∧ (∀ c o, c ≠ p1 → H1 c = some o → H3 c = some o) ∧ H3 p1 = some (.lst (((l.take (i + 1)).flatMap fun p => folOf (VametBase.relNumber p)).map V.int)) := fun b hb => by
      refine ⟨p1, b, _, _, rfl, rfl, st _ _ hv, hb, ?_, ⟨_, rfl⟩, fun c o hc e => ?_, ?_⟩
      · rw [List.length_map, List.length_map]
        exact Nat.le_of_lt (short_line (by omega))
      · rw [upd_ne hc]
        exact st _ _ (sm _ _ hc e)
      · rw [upd_same, et, List.map_append]
    rcases gtab_find (i := z) pF with ⟨h0, h0'⟩ | ⟨e, b, h0, h0', hq⟩
    · rw [h0']
      refine go t ?_
      have : folOf z = [] := by unfold folOf; rw [h0]; rfl
      rw [this]
      exact SqT.of et2
    · rw [h0']
      refine go b ?_
      have : folOf z = e := by unfold folOf; rw [h0]; rfl
      rw [this]
      exact hq H2
  · rintro σ H' ⟨⟨u, rfl⟩, sm, hv⟩
    rw [hla, List.take_length] at hv
    have sH : Same H H' := fun c o e => sm c o (ne_of_none e h1) (s1 _ _ e)
    have hwl := hlw 7 (by omega)
    rw [List.take_of_length_le hl] at hwl
    generalize hw : (l.flatMap fun p => folOf (VametBase.relNumber p)) = ws at hv hwl
    refine ⟨_, rfl, a, rfl, ⟨_, SqL.of (sH _ _ ha)⟩, fun D0 hD => ?_⟩
    refine lc_list (K := K) (a := a) (xs := (l.map VametBase.relNumber).map V.int) (fun i H2 => Same H' H2 ∧ H2 D0 = some (.lst ((((l.map VametBase.relNumber).take i).filter fun z => !ws.contains z).map V.int))) ⟨same_new hD, upd_same⟩ (fun i H2 _ z => SqL.of (z.1 _ _ (sH _ _ ha))) ?_ ?_
    · rintro i y H2 hi ⟨sm2, hv2⟩
      obtain ⟨z, hz, rfl⟩ := int_at hi
      refine ⟨rfl, ?_⟩
      refine ⟨_, rfl, _, rfl, p1, _, rfl, .inl (SqL.of (sm2 _ _ hv)), rfl, flat_ints _, _, rfl, ?_⟩
      rw [inV_ints]
      have et : ((l.map VametBase.relNumber).take (i + 1)).filter (fun z => !ws.contains z) = ((l.map VametBase.relNumber).take i).filter (fun z => !ws.contains z) ++ (if !ws.contains z then [z] else []) := by
        rw [take_snoc hz, List.filter_append]
        congr 1
        show (match !ws.contains z with | true => [z] | false => []) = _
        cases ws.contains z <;> rfl
      cases h : ws.contains z with
      | true =>
        refine iteF ⟨sm2, ?_⟩
        rw [et, h]
        simpa using hv2
      | false =>
        refine iteT ⟨_, rfl, _, hv2, ?_, same_put sm2 hD, ?_⟩
        · rw [List.length_map]
          have := List.length_filter_le (fun z => !ws.contains z) ((l.map VametBase.relNumber).take i)
          rw [List.length_take, List.length_map] at this
          exact short_line (by omega)
        · rw [upd_same, et, h, List.map_append]
          rfl
    · rintro H2 ⟨sm2, hv2⟩
      rw [hla, List.take_of_length_le (by simp)] at hv2
      refine q _ _ ⟨sH.trans sm2, none_back sH hD, ?_⟩
      rw [strongest_is, hw]
      exact hv2
end
end Rh

end

-- part RhStand2
section
set_option Elab.async false
set_option linter.all false
set_option maxRecDepth 100000
set_option maxHeartbeats 2000000
namespace Rh
open PySem PySem.Spec PyProof.Rows L2
theorem held_is (f : VametBase.Program) (r : VametBase.Relation) (b : VametBase.Bound) (q : VametBase.Rel) : Vametb.holds f (Vametb.withRel r q) b = allStand (Vametb.allSides f r b) q := by
  have hv : ∀ x, Vametb.isVerdict f (Vametb.withRel r q) .broken x = true ↔ ∃ s, VametBase.sides f r x = some s ∧ VametBase.stands q s.left s.right = false := fun x => by
    have e : VametBase.verdict f (Vametb.withRel r q) x = (match VametBase.sides f r x with | none => .off | some s => if VametBase.stands q s.left s.right then .kept else .broken) := rfl
    unfold Vametb.isVerdict
    rw [e, beq_iff_eq]
    cases VametBase.sides f r x with
    | none => simp
    | some s =>
      cases h : VametBase.stands q s.left s.right <;> simp [h]
  unfold Vametb.holds Vametb.placesOf allStand Vametb.allSides Vametb.inputs
  rw [Bool.eq_iff_iff, List.isEmpty_iff, List.filter_eq_nil_iff, List.all_eq_true]
  constructor
  · intro h s hs
    obtain ⟨x, hx, e⟩ := List.mem_filterMap.mp hs
    obtain ⟨k, hk, rfl⟩ := List.mem_map.mp hx
    cases hst : VametBase.stands q s.left s.right with
    | true => rfl
    | false => exact absurd ((hv _).mpr ⟨s, e, hst⟩) (h k hk)
  · intro h k hk hb
    obtain ⟨s, e, hst⟩ := (hv _).mp hb
    have := h s (List.mem_filterMap.mpr ⟨_, List.mem_map.mpr ⟨k, hk, rfl⟩, e⟩)
    rw [hst] at this
    cases this
theorem heldRels_is (f : VametBase.Program) (r : VametBase.Relation) (b : VametBase.Bound) : Vametb.heldRels f r b = Vametb.rels.filter (allStand (Vametb.allSides f r b)) := by
  unfold Vametb.heldRels
  exact List.filter_congr fun q _ => held_is f r b q
theorem told_is (l : List VametBase.Rel) : Vametb.relsTold l = VametBase.listedInts (l.map VametBase.relNumber) := by
  unfold Vametb.relsTold VametBase.listedInts
  rw [List.length_map]
  rfl
theorem stand_ans (s : Vametb.State) : Vametb.step s .stand = (s, if 300 < VametBase.inputCount s.bound then [-7] else Vametb.relsTold (Vametb.heldRels s.program s.relation s.bound) ++ Vametb.relsTold (Vametb.strongest (Vametb.heldRels s.program s.relation s.bound))) := rfl
section
variable {P : Program} {w : World} {K : PySem.W.Frag} {mg : Str → Option Value} {base : Heap} {C CN CO CT CB CR CS : Addr} {errs : List (Addr × Int)}
theorem ok_ask_stand (D : Df K mg "ask_stand" s_ask_stand) (hE : (CT, -7) ∈ errs) (cp : Cal P w K mg base (CXo P w) 8 "pairs_of" ["subject"] (spPairsOf CS CR CB CT)) (cw : Cal P w K mg base CX0 6 "ways_that_hold" ["pairs"] spWays)
    (cs : Cal P w K mg base CX0 1 "strongest" ["ways"] spStrong) (cc : Cal P w K mg base CX0 1 "counted" ["row"] spCounted) :
    Cal P w K mg base (CXo P w) 9 "ask_stand" ["subject", "told"] (spAsk CS CR CB errs (fun _ => True) fun _ => .stand) := by
  refine D.okx (k := 8) sc_ask_stand spAsk_len (fun _ _ _ _ _ _ => bind2 (fun _ _ => rfl) rfl) fun f cdv A outer s0 H vs Q E hr xs h => ?_
  obtain ⟨a, t, s, l, rfl, hS, ht, _, q1, q2⟩ := h
  have px := xs.passes rfl
  refine ⟨_, pss_cons (ps_set (i := 2) sc_ask_stand.nd rfl (Or.inl rfl) (pe_callC cw (hr.mono (by decide)) rfl pass0 (pa_cons (pe_callC cp hr rfl px (pa_cons (pv 0) pa_nil)) pa_nil)))
    (pss_one (ps_ret (pe_op op_cat (pe_callC cc (hr.mono (by decide)) rfl pass0 (pa_cons (pv 2) pa_nil)) (pe_callC cc (hr.mono (by decide)) rfl pass0 (pa_cons (pe_callC cs (hr.mono (by decide)) rfl pass0 (pa_cons (pv 2) pa_nil)) pa_nil))))), ?_⟩
  have st := stand_ans s
  refine ⟨_, rfl, a, s, rfl, hS, fun hc H1 v s1 p1 hl1 => ?_, fun hc => q2 CT (-7) hE (by show Vametb.step s .stand = _; rw [st, if_pos hc]) H (Same.refl _)⟩
  rw [if_neg (by omega), heldRels_is] at st
  have q1 : ∀ H' p, SameX a H H' → SubAt CS CR CB H' a (Vametb.step s .stand).1 → H p = none → H' p = some (.lst ((Vametb.step s .stand).2.map V.int)) → Q (.ref p) H' := q1
  rw [st, told_is, told_is] at q1
  refine ⟨v, _, rfl, p1, by omega, fun H2 p2 ⟨s2, n2, e2⟩ => ?_⟩
  have hl : (Vametb.rels.filter (allStand (Vametb.allSides s.program s.relation s.bound))).length ≤ 7 := List.length_filter_le _ _
  generalize Vametb.rels.filter (allStand (Vametb.allSides s.program s.relation s.bound)) = hw at e2 q1 hl
  have hl2 : (Vametb.strongest hw).length ≤ 7 := Nat.le_trans (List.length_filter_le _ _) hl
  refine ⟨_, rfl, p2, _, rfl, e2, by rw [List.length_map]; omega, fun H3 p3 ⟨s3, n3, e3⟩ => ?_⟩
  refine ⟨_, rfl, p2, hw, rfl, s3 _ _ e2, hl, fun H4 p4 ⟨s4, n4, e4⟩ => ?_⟩
  refine ⟨p4, _, rfl, e4, by rw [List.length_map]; omega, fun H5 p5 ⟨s5, n5, e5⟩ => ?_⟩
  have s35 := s4.trans s5
  refine ⟨p3, p5, _, _, rfl, rfl, s35 _ _ e3, e5, ?_, fun p6 h6 => ?_⟩
  · rw [List.length_map, List.length_map]
    exact Nat.le_of_lt (short_line (by simp [VametBase.listedInts]; omega))
  have s16 := (s1.trans (s2.trans (s3.trans s35)))
  have s17 := s16.trans (same_new (o := .lst ((VametBase.listedInts (hw.map VametBase.relNumber)).map V.int ++ (VametBase.listedInts ((Vametb.strongest hw).map VametBase.relNumber)).map V.int)) h6)
  refine q1 _ _ (SameX.of s17) (hS.same s17) (none_back s16 h6) ?_
  rw [upd_same, List.map_append]
end
end Rh

end

-- part RhConds
section
set_option Elab.async false
set_option linter.all false
set_option maxRecDepth 100000
set_option maxHeartbeats 2000000
namespace Rh
open PySem PySem.Spec PyProof.Rows L2
/-- the conditions of the top -/
def LTab (K : PySem.W.Frag) (mg : Str → Option Value) (x : Str) (cs : List VametBase.Cond) : Prop := ∃ a vs, mg x = some (.ref a) ∧ (∀ H, SqT K H a vs) ∧ Paired (fun (v : V) c => ∀ H, CondK K H v c) vs cs
/-- the verdicts at the rows that are so -/
def fit (c : VametBase.Cond) (rs : List (List Int)) (ns : List Int) : List Int := ((rs.zip ns).filter fun p => VametBase.fitsCond c p.1).map (·.2)
def cnt (l : List Int) (z : Int) : Nat := l.countP fun y => y == z
/-- two counts stand at v -/
def CntAt (H : Hp) (v : V) (u : Nat × Nat) : Prop := ∃ t, v = .ref t ∧ H t = some (.tup [.int (u.1 : Nat), .int (u.2 : Nat)])
theorem CntAt.same {H H' : Hp} {v : V} {u : Nat × Nat} (s : Same H H') (h : CntAt H v u) : CntAt H' v u := let ⟨t, e, h⟩ := h; ⟨t, e, s _ _ h⟩
theorem filter1 {α : Type} (p : α → Bool) (z : α) : [z].filter p = if p z then [z] else [] := by
  show (match p z with | true => [z] | false => []) = _
  cases p z <;> rfl
section
variable {P : Program} {w : World} {K : PySem.W.Frag} {mg : Str → Option Value} {base : Heap} {C CN CO CT CB CR CS : Addr} {errs : List (Addr × Int)}
def spKB (K : PySem.W.Frag) : Sp := fun vs H Q _ => ∃ v vr b c rs ns, vs = [v, vr, .ref b] ∧ CondK K H v c ∧ RowsAt H vr rs ∧ Fine rs ∧ H b = some (.lst (ns.map V.int)) ∧ ns.length = rs.length ∧
  ∀ H' u, Same H H' → CntAt H' u (cnt (fit c rs ns) 0, cnt (fit c rs ns) 1) → Q u H'
theorem ok_kept_and_broken (D : Df K mg "kept_and_broken" s_kept_and_broken) (hzp : mg "zip" = none) (g0 : ∃ t, mg "KEPT" = some (.int 0 t)) (g1 : ∃ t, mg "BROKEN" = some (.int 1 t)) (ci : Cal P w K mg base CX0 2 "is_so" ["condition", "row"] (spSo K)) :
    Cal P w K mg base CX0 3 "kept_and_broken" ["condition", "rows", "verdicts"] (spKB K) := by
  refine D.ok (k := 2) sc_kept_and_broken (fun vs H Q E h => by obtain ⟨v, vr, b, c, rs, ns, rfl, _⟩ := h; rfl) (fun _ _ _ _ _ _ => bind3 (fun _ _ _ => rfl) rfl) fun f cdv A outer s0 H vs Q E hr h => ?_
  obtain ⟨v, vr, b, c, rs, ns, rfl, hc, ⟨a, us, rfl, ha, pr⟩, ⟨f1, f2⟩, hb, hlen, q⟩ := h
  refine ⟨_, pss_cons (ps_setLc (i := 3) (own := [("row", 4), ("verdict", 5)]) (g := gTup K 2 (gCons (gName 4) (gCons (gName 5) gNil))) (tt := tB (tCall (spSo K) [] E0 (tCons (tVar 0) (tCons (tVar 4) tNil)))) rfl sc_kept_and_broken.nd rfl rfl (sw_true rfl rfl rfl (by decide +kernel)) (pi_zip rfl hzp (pa_cons (pv 1) (pa_cons (pv 2) pa_nil)))
      (blkOk_by (own := [("row", 4), ("verdict", 5)]) (N := n_kept_and_broken) (sc := defScope s_kept_and_broken) (by decide +kernel)) (fun _ _ _ _ _ => pg_tup (by rfl) (pgs_cons (pg_name (i := 4) sc_kept_and_broken.nd rfl (Or.inl rfl)) (pgs_cons (pg_name (i := 5) sc_kept_and_broken.nd rfl (Or.inl rfl)) pgs_nil)))
      (fun _ _ _ _ _ => pts_one (pt_val (pe_callC ci hr rfl pass0 (pa_cons (pv 0) (pa_cons (pv 4) pa_nil))))) (fun _ _ _ _ _ => pv 5))
    (pss_one (ps_ret (pe_tup (pa_cons (pe_bm PySem.F.plainAttrs_list PySem.F.slot_list_count PySem.F.type_list_count mt_count_list (pv 3) (pa_cons (pe_gint rfl g0) pa_nil)) (pa_cons (pe_bm PySem.F.plainAttrs_list PySem.F.slot_list_count PySem.F.type_list_count mt_count_list (pv 3) (pa_cons (pe_gint rfl g1) pa_nil)) pa_nil))))), ?_⟩
  have hl := Paired.length pr
  have hu : us.length = rs.length := hl
  refine ⟨_, rfl, _, rfl, a, b, _, _, rfl, SqL.of ha, SqL.of hb, fun D0 hD => ?_⟩
  have fl : ∀ i, (((rs.zip ns).take i).filter fun p => VametBase.fitsCond c p.1).length ≤ i := fun i => by
    have h1 := List.length_filter_le (fun p : List Int × Int => VametBase.fitsCond c p.1) ((rs.zip ns).take i)
    rw [List.length_take] at h1
    omega
  refine lc_zip (K := K) (a := a) (b := b) (xs := us) (ys := ns.map V.int) (fun i H' => Same H H' ∧ H' D0 = some (.lst (((((rs.zip ns).take i).filter fun p => VametBase.fitsCond c p.1).map (·.2)).map V.int))) ⟨same_new hD, upd_same⟩ (fun i H' _ ⟨sm, _⟩ => ⟨SqL.of (sm _ _ ha), SqL.of (sm _ _ hb)⟩) ?_ ?_
  · rintro i x y H' T hx hy ⟨sm, hv⟩ hT
    obtain ⟨z, hz, rfl⟩ := int_at hy
    obtain ⟨row, hrow, ⟨d, rfl, hd⟩, _⟩ := paired_get pr hx
    have hTD : D0 ≠ T := fun e => by rw [e, hT] at hv; cases hv
    have smT : Same H (upd H' T (.tup [.ref d, .int z])) := sm.trans (same_new hT)
    have hvT : (upd H' T (.tup [.ref d, .int z])) D0 = H' D0 := by rw [upd_ne hTD]
    rw [hv] at hvT
    have hTT : (upd H' T (.tup [.ref d, .int z])) T = some (.tup [.ref d, .int z]) := upd_same
    generalize upd H' T (.tup [.ref d, .int z]) = H2 at smT hvT hTT
    have ez : (rs.zip ns)[i]? = some (row, z) := by
      have h1 : i < rs.length := (List.getElem?_eq_some_iff.mp hrow).1
      have h2 : i < ns.length := (List.getElem?_eq_some_iff.mp hz).1
      have e1 := (List.getElem?_eq_some_iff.mp hrow).2
      have e2 := (List.getElem?_eq_some_iff.mp hz).2
      rw [List.getElem?_eq_getElem (by rw [List.length_zip]; omega), List.getElem_zip, e1, e2]
    have et : ((rs.zip ns).take (i + 1)).filter (fun p => VametBase.fitsCond c p.1) = ((rs.zip ns).take i).filter (fun p => VametBase.fitsCond c p.1) ++ (if VametBase.fitsCond c row then [(row, z)] else []) := by
      rw [take_snoc ez, List.filter_append, filter1]
    refine ⟨T, _, rfl, SqT.of hTT, rfl, _, _, rfl, _, _, rfl, rfl, ?_⟩
    refine ⟨rfl, ?_⟩
    refine ⟨_, rfl, _, rfl, v, c, d, row, rfl, hc.same smT, smT _ _ hd, f1 _ (List.mem_of_getElem? hrow), fun H3 s3 => ⟨_, rfl, ?_⟩⟩
    cases h : VametBase.fitsCond c row with
    | false =>
      refine iteF ⟨smT.trans s3, ?_⟩
      rw [et, h]
      simpa using s3 _ _ hvT
    | true =>
      refine iteT ⟨_, rfl, _, s3 _ _ hvT, ?_, same_put (smT.trans s3) hD, ?_⟩
      · rw [List.length_map, List.length_map]
        have := fl i
        have h1 : i < rs.length := (List.getElem?_eq_some_iff.mp hrow).1
        exact short_line (by omega)
      · rw [upd_same, et, h, if_pos rfl, List.map_append, List.map_append]
        rfl
  · rintro H' ⟨sm, hv⟩
    rw [List.take_of_length_le (by rw [List.length_map, List.length_zip]; omega)] at hv
    have hv : H' D0 = some (.lst ((fit c rs ns).map V.int)) := hv
    refine ⟨_, rfl, .inl ⟨rfl, _, SqL.of hv⟩, D0, _, _, rfl, rfl, SqL.of hv, rfl, flat_ints _, ?_⟩
    refine ⟨_, rfl, .inl ⟨rfl, _, SqL.of hv⟩, D0, _, _, rfl, rfl, SqL.of hv, rfl, flat_ints _, (by show 2 ≤ sizeLine; decide), fun t ht => ?_⟩
    refine q _ _ (sm.trans (same_new ht)) ⟨t, rfl, ?_⟩
    rw [upd_same, count_ints, count_ints]
    rfl
/-- kept and broken under a condition, by what the free relation's verdicts are -/
def undN (p : VametBase.Program) (r : VametBase.Relation) (rs : List (List Int)) (c : VametBase.Cond) : Nat × Nat := (cnt (fit c rs (rs.map (verdN p (Vametb.withCond r .any)))) 0, cnt (fit c rs (rs.map (verdN p (Vametb.withCond r .any)))) 1)
def spUnder (K : PySem.W.Frag) (CR : Addr) : Sp := fun vs H Q _ => ∃ v1 v2 v3 p r rs, vs = [v1, v2, v3] ∧ ProgAt H v1 p ∧ RelK K CR H v2 r ∧ RowsAt H v3 rs ∧ Fine rs ∧
  ∀ H' l us, Same H H' → H l = none → H' l = some (.lst us) → Paired (CntAt H') us (Vametb.conds.map (undN p r rs)) → Q (.ref l) H'
theorem ok_under (D : Df K mg "under_conditions" s_under_conditions) (TR : ClsR K CR) (tL : LTab K mg "LOOKED_AT" Vametb.conds) (mkR : ICal P w K mg base CX0 1 CR "Relation" ["self", "condition", "before", "way", "after"] (spRInit CR))
    (cv : Cal P w K mg base CX0 7 "all_verdicts" ["program", "relation", "rows"] (spVerd K CR)) (ck : Cal P w K mg base CX0 3 "kept_and_broken" ["condition", "rows", "verdicts"] (spKB K)) : Cal P w K mg base CX0 8 "under_conditions" ["program", "relation", "rows"] (spUnder K CR) := by
  obtain ⟨aL, lL, mL, dL, pL⟩ := tL
  refine D.ok (k := 7) sc_under_conditions (fun vs H Q E h => by obtain ⟨v1, v2, v3, p, r, rs, rfl, _⟩ := h; rfl) (fun _ _ _ _ _ _ => bind3 (fun _ _ _ => rfl) rfl) fun f cdv A outer s0 H vs Q E hr h => ?_
  obtain ⟨v1, v2, v3, p, r, rs, rfl, hp, ⟨ar, dx, vc, vb, va, rfl, har, hc, hb, haf⟩, hrs, hfi, q⟩ := h
  refine ⟨_, pss_cons (ps_set (i := 3) sc_under_conditions.nd rfl (Or.inl rfl) (pe_makeC mkR (hr.mono (by decide)) rfl pass0 (pa_cons (pe_ix ix_tup (pe_gref rfl mL) pe_int (fun _ _ => rfl)) (pa_cons (pe_fld (pv 1) rfl) (pa_cons (pe_fld (pv 1) rfl) (pa_cons (pe_fld (pv 1) rfl) pa_nil))))))
    (pss_cons (ps_set (i := 4) sc_under_conditions.nd rfl (Or.inr rfl) (pe_callC cv hr rfl pass0 (pa_cons (pv 0) (pa_cons (pv 3) (pa_cons (pv 2) pa_nil)))))
    (pss_one (ps_ret (pe_lc (own := [("condition", 5)]) (g := gName 5) (te := tHide (tCall (spKB K) [] E0 (tCons (tVar 5) (tCons (tVar 2) (tCons (tVar 4) tNil))))) rfl sc_under_conditions.nd (pi_tup (pe_gref rfl mL)) (blkOk_by (own := [("condition", 5)]) (N := n_under_conditions) (sc := defScope s_under_conditions) (by decide +kernel))
      (fun _ _ _ _ _ => pg_name (i := 5) sc_under_conditions.nd rfl (Or.inl rfl)) (fun _ _ _ _ _ => pts_nil) (fun _ _ _ _ _ => pe_hide (pe_callC ck (hr.mono (by decide)) rfl pass0 (pa_cons (pv 5) (pa_cons (pv 2) (pa_cons (pv 4) pa_nil))))))))), ?_⟩
  have hlL : lL.length = 7 := Paired.length pL
  obtain ⟨c0, hc0, hk0, _⟩ := paired_get pL (List.getElem?_eq_getElem (show 0 < lL.length by omega))
  have ec0 : c0 = .any := by
    have : some VametBase.Cond.any = some c0 := hc0
    injection this with this
    exact this.symm
  subst ec0
  refine ⟨aL, _, _, _, rfl, rfl, dL H, atI_nat (j := 0) (List.getElem?_eq_getElem (by omega)), ?_⟩
  refine ⟨_, rfl, ar, CR, dx, _, _, rfl, har, TR.cl, TR.n2, rfl, _, rfl, ar, CR, dx, _, _, rfl, har, TR.cl, TR.n3, rfl, _, rfl, ar, CR, dx, _, _, rfl, har, TR.cl, TR.n4, rfl, ?_⟩
  refine fun a6 d6 h6 hd6 _ => rinit_by rfl h6 hd6 fun H6 s6 e6 => ⟨rfl, ?_⟩
  obtain ⟨c6, ec6, hc6⟩ := hk0 H6
  have rel : RelK K CR H6 (.ref a6) (Vametb.withCond r .any) := ⟨a6, d6, _, vb, va, rfl, e6, ⟨c6, ec6, hc6⟩, hb.same s6, haf.same s6⟩
  refine ⟨_, rfl, _, rfl, _, rfl, v1, _, v3, p, _, rs, rfl, hp.same s6, rel, hrs.same s6, hfi, fun H7 l7 ⟨s7, n7, e7⟩ => ?_⟩
  have s17 := s6.trans s7
  refine ⟨aL, rfl, ⟨_, dL H7⟩, fun D0 hD => ?_⟩
  refine lc_ht (a := aL) (xs := lL) (ds := Vametb.conds.map (undN p r rs)) CntAt (fun _ _ _ _ s z => z.same s) (dL H7) hD (by rw [List.length_map, hlL]; rfl) (by omega) (fun _ => rfl) ?_ ?_
  · intro i x d G R hx hd sm k
    obtain ⟨c, hci, hk, _⟩ := paired_get pL hx
    have ed : undN p r rs c = d := by
      rw [List.getElem?_map, hci] at hd
      exact Option.some.inj hd
    exact ⟨_, rfl, _, rfl, _, rfl, x, v3, l7, c, rs, _, rfl, hk G, hrs.same (s17.trans sm), hfi, sm _ _ e7, by rw [List.length_map], fun H2 u s2 hu => k _ _ s2 (by rw [← ed]; exact hu)⟩
  · intro G ys hG sm pr2
    exact q _ D0 ys (s17.trans (same_updN hD sm)) (none_back s17 hD) upd_same (paired_mono (fun _ _ z => z.same (same_new hG)) pr2)
end
end Rh

end

-- part RhConds2
section
set_option Elab.async false
set_option linter.all false
set_option maxRecDepth 100000
set_option maxHeartbeats 2000000
namespace Rh
open PySem PySem.Spec PyProof.Rows L2
theorem verd_cond (f : VametBase.Program) (r : VametBase.Relation) (c : VametBase.Cond) (x : List Int) : verdN f (Vametb.withCond r c) x = if VametBase.fitsCond c x then verdN f (Vametb.withCond r .any) x else 2 := by
  unfold verdN VametBase.verdict
  rw [sides_eq, sides_eq]
  show VametBase.verdictNumber (match (if VametBase.fitsCond c x then sides0 f (Vametb.withCond r .any) x else none) with | none => .off | some s => if VametBase.stands r.rel s.left s.right then .kept else .broken) = if VametBase.fitsCond c x then VametBase.verdictNumber (match (if true then sides0 f (Vametb.withCond r .any) x else none) with | none => .off | some s => if VametBase.stands r.rel s.left s.right then .kept else .broken) else 2
  cases VametBase.fitsCond c x with
  | true => rfl
  | false => rfl
theorem cnt_fit (f : VametBase.Program) (r : VametBase.Relation) (c : VametBase.Cond) {z : Int} (hz : z ≠ 2) : ∀ rs : List (List Int), cnt (fit c rs (rs.map (verdN f (Vametb.withCond r .any)))) z = (rs.map (verdN f (Vametb.withCond r c))).countP fun y => y == z
  | [] => rfl
  | x :: rs => by
    have ih := cnt_fit f r c hz rs
    unfold cnt fit at ih ⊢
    simp only [List.map_cons, List.zip_cons_cons, List.filter_cons, List.countP_cons]
    rw [verd_cond f r c x, ← ih]
    cases VametBase.fitsCond c x with
    | true => simp [List.countP_cons]
    | false =>
      have : ((2 : Int) == z) = false := beq_eq_false_iff_ne.mpr (Ne.symm hz)
      simp [this]
theorem count_placesR (f : VametBase.Program) (r : VametBase.Relation) (b : VametBase.Bound) (v : VametBase.Verdict) : ((verds f r b).countP fun y => y == VametBase.verdictNumber v) = (Vametb.placesOf f r b v).length := by
  rw [← placesN_count, places_verds]
theorem und_is (f : VametBase.Program) (r : VametBase.Relation) (b : VametBase.Bound) (c : VametBase.Cond) : undN f r (Vametb.inputs b) c = Vametb.under f r b c := by
  unfold undN Vametb.under
  rw [cnt_fit f r c (by decide), cnt_fit f r c (by decide)]
  have h0 := count_placesR f (Vametb.withCond r c) b .kept
  have h1 := count_placesR f (Vametb.withCond r c) b .broken
  rw [← h0, ← h1]
  rfl
theorem conds_ans (s : Vametb.State) : Vametb.step s .conds = (s, if 300 < VametBase.inputCount s.bound then [-7] else Vametb.conds.flatMap fun c => [Vametb.int (Vametb.under s.program s.relation s.bound c).1, Vametb.int (Vametb.under s.program s.relation s.bound c).2]) := rfl
section
variable {P : Program} {w : World} {K : PySem.W.Frag} {mg : Str → Option Value} {base : Heap} {C CN CO CT CB CR CS : Addr} {errs : List (Addr × Int)}
theorem ok_ask_conds (D : Df K mg "ask_conds" s_ask_conds) (T : ClsS K CS) (hE : (CT, -7) ∈ errs) (cg : Cal P w K mg base (CXo P w) 4 "gone_through" ["subject"] (spGone CS CR CB CT)) (cu : Cal P w K mg base CX0 8 "under_conditions" ["program", "relation", "rows"] (spUnder K CR)) :
    Cal P w K mg base (CXo P w) 9 "ask_conds" ["subject", "told"] (spAsk CS CR CB errs (fun _ => True) fun _ => .conds) := by
  refine D.okx (k := 8) sc_ask_conds spAsk_len (fun _ _ _ _ _ _ => bind2 (fun _ _ => rfl) rfl) fun f cdv A outer s0 H vs Q E hr xs h => ?_
  obtain ⟨a, t, s, l, rfl, hS, ht, _, q1, q2⟩ := h
  have px := xs.passes rfl
  refine ⟨_, pss_cons (ps_set (i := 2) sc_ask_conds.nd rfl (Or.inl rfl) (pe_lst pa_nil))
    (pss_cons (ps_for PassesOwn.leaving rfl (pi_list (pe_callC cu hr rfl pass0 (pa_cons (pe_fld (pv 0) rfl) (pa_cons (pe_fld (pv 0) rfl) (pa_cons (pe_callC cg (hr.mono (by decide)) rfl px (pa_cons (pv 0) pa_nil)) pa_nil))))) (pg_name (i := 3) sc_ask_conds.nd rfl (Or.inl rfl))
      (pss_one (ps_expr (pe_bm PySem.F.plainAttrs_list PySem.F.slot_list_extend PySem.F.type_list_extend mt_extendT (pv 2) (pa_cons (pv 3) pa_nil)))))
    (pss_one (ps_ret (pv 2)))), ?_⟩
  have st := conds_ans s
  refine ⟨Nat.zero_le _, fun p1 h1 => ?_⟩
  have s1 : Same H (upd H p1 (.lst [])) := same_new h1
  have e1 : (upd H p1 (.lst [])) p1 = some (.lst []) := upd_same
  generalize upd H p1 (.lst []) = H1 at s1 e1
  obtain ⟨dx, vp, vr, vb, ha, hp, hR, hB⟩ := hS.same s1
  refine ⟨_, rfl, a, CS, dx, _, _, rfl, ha, T.cl, T.n1, rfl, _, rfl, a, CS, dx, _, _, rfl, ha, T.cl, T.n2, rfl, _, rfl, a, s, rfl, hS.same s1, fun hc H2 v2 s2 r2 fi => ?_, fun hc => q2 CT (-7) hE (by show Vametb.step s .conds = _; rw [st, if_pos hc]) H1 s1⟩
  rw [if_neg (by omega)] at st
  have q1 : ∀ H' p, SameX a H H' → SubAt CS CR CB H' a (Vametb.step s .conds).1 → H p = none → H' p = some (.lst ((Vametb.step s .conds).2.map V.int)) → Q (.ref p) H' := q1
  rw [st] at q1
  refine ⟨vp, vr, v2, s.program, s.relation, _, rfl, hp.same s2, (hR.same s2).k, r2, fi, fun H3 l3 us s3 n3 e3 pr => ?_⟩
  have e13 := s3 _ _ (s2 _ _ e1)
  have n31 : l3 ≠ p1 := fun z => by rw [z, s2 _ _ e1] at n3; cases n3
  have hul := Paired.length pr
  refine ⟨l3, rfl, ⟨_, SqL.of e3⟩, ?_⟩
  refine for_list (K := K) (a := l3) (xs := us) (fun i σ H' => (∃ u, σ = [some (.ref a), some (.ref t), some (.ref p1), u]) ∧ (∀ c o, c ≠ p1 → H3 c = some o → H' c = some o) ∧ H' p1 = some (.lst (((Vametb.conds.take i).flatMap fun c => [Vametb.int (Vametb.under s.program s.relation s.bound c).1, Vametb.int (Vametb.under s.program s.relation s.bound c).2]).map V.int)))
    ⟨⟨_, rfl⟩, fun c o _ e => e, e13⟩ (fun i σ H' _ z => SqL.of (z.2.1 _ _ n31 e3)) ?_ ?_
  · rintro i y σ H' hi ⟨⟨u, rfl⟩, sm, hv⟩
    obtain ⟨d, hd, ⟨b, rfl, hb⟩, _⟩ := paired_get pr hi
    have hbp : b ≠ p1 := fun z => by rw [z, e13] at hb; cases hb
    have hil : i < Vametb.conds.length := by
      have := (List.getElem?_eq_some_iff.mp hd).1
      simpa using this
    have ed : d = Vametb.under s.program s.relation s.bound Vametb.conds[i] := by
      rw [List.getElem?_map, List.getElem?_eq_getElem hil] at hd
      rw [← und_is]
      exact (Option.some.inj hd).symm
    have et : (Vametb.conds.take (i + 1)).flatMap (fun c => [Vametb.int (Vametb.under s.program s.relation s.bound c).1, Vametb.int (Vametb.under s.program s.relation s.bound c).2]) = (Vametb.conds.take i).flatMap (fun c => [Vametb.int (Vametb.under s.program s.relation s.bound c).1, Vametb.int (Vametb.under s.program s.relation s.bound c).2]) ++ [Vametb.int d.1, Vametb.int d.2] := by
      rw [List.take_add_one, List.getElem?_eq_getElem hil, List.flatMap_append, ed]
      simp
    have hw : ((Vametb.conds.take i).flatMap (fun c => [Vametb.int (Vametb.under s.program s.relation s.bound c).1, Vametb.int (Vametb.under s.program s.relation s.bound c).2])).length ≤ 14 := by
      have hi7 : i < 7 := hil
      match i, hi7 with
      | 0, _ => exact (by show 0 ≤ 14; omega)
      | 1, _ => exact (by show 2 ≤ 14; omega)
      | 2, _ => exact (by show 4 ≤ 14; omega)
      | 3, _ => exact (by show 6 ≤ 14; omega)
      | 4, _ => exact (by show 8 ≤ 14; omega)
      | 5, _ => exact (by show 10 ≤ 14; omega)
      | 6, _ => exact (by show 12 ≤ 14; omega)
    refine ⟨_, rfl, .inl ⟨rfl, _, SqL.of hv⟩, _, rfl, p1, b, _, _, rfl, rfl, hv, SqT.of (sm _ _ hbp hb), ?_, ⟨_, rfl⟩, fun c o hc e => ?_, ?_⟩
    · rw [List.length_map]
      exact Nat.le_of_lt (short_line (by show _ + 2 ≤ _; omega))
    · rw [upd_ne hc]
      exact sm _ _ hc e
    · rw [upd_same, et, List.map_append]
      rfl
  · rintro σ H' ⟨⟨u, rfl⟩, sm, hv⟩
    have sH : Same H H' := fun c o e => sm c o (ne_of_none e h1) (s3 _ _ (s2 _ _ (s1 _ _ e)))
    rw [hul, List.length_map, List.take_length] at hv
    exact ⟨_, rfl, q1 _ _ (SameX.of sH) (hS.same sH) h1 hv⟩
end
end Rh

end

-- part RhCut
section
set_option Elab.async false
set_option linter.all false
set_option maxRecDepth 100000
set_option maxHeartbeats 2000000
namespace Rh
open PySem PySem.Spec PyProof.Rows L2
theorem find_take {α : Type} {p : α → Bool} {l : List α} {i : Nat} {c : α} (h : (l.take i).find? p = none) (hc : l[i]? = some c) (hp : p c = true) : l.find? p = some c := by
  have hi : i < l.length := (List.getElem?_eq_some_iff.mp hc).1
  have e : l = l.take i ++ (c :: l.drop (i + 1)) := by
    have : l.drop i = c :: l.drop (i + 1) := by
      rw [List.drop_eq_getElem_cons hi]
      congr 1
      exact (List.getElem?_eq_some_iff.mp hc).2
    rw [← this, List.take_append_drop]
  rw [e, List.find?_append, h, List.find?_cons, hp]
  rfl
theorem find_take_snoc {α : Type} {p : α → Bool} {l : List α} {i : Nat} {c : α} (h : (l.take i).find? p = none) (hc : l[i]? = some c) (hp : p c = false) : (l.take (i + 1)).find? p = none := by
  rw [take_snoc hc, List.find?_append, h, List.find?_cons, hp]
  rfl
/-- a condition stands at v, None where there is none -/
def CutAt (K : PySem.W.Frag) (H : Hp) (v : V) : Option VametBase.Cond → Prop
  | none => v = .non
  | some c => CondK K H v c
def cutP (p : VametBase.Program) (r : VametBase.Relation) (rs : List (List Int)) (c : VametBase.Cond) : Bool := (undN p r rs c).2 == 0 && (undN p r rs c).1 != 0
section
variable {P : Program} {w : World} {K : PySem.W.Frag} {mg : Str → Option Value} {base : Heap} {C CN CO CT CB CR CS : Addr} {errs : List (Addr × Int)}
def spCut (K : PySem.W.Frag) (CR : Addr) : Sp := fun vs H Q _ => ∃ v1 v2 v3 p r rs, vs = [v1, v2, v3] ∧ ProgAt H v1 p ∧ RelK K CR H v2 r ∧ RowsAt H v3 rs ∧ Fine rs ∧ ∀ H' v, Same H H' → CutAt K H' v (Vametb.conds.find? (cutP p r rs)) → Q v H'
theorem ok_first_cut (D : Df K mg "first_cut" s_first_cut) (hzp : mg "zip" = none) (tL : LTab K mg "LOOKED_AT" Vametb.conds) (cu : Cal P w K mg base CX0 8 "under_conditions" ["program", "relation", "rows"] (spUnder K CR)) :
    Cal P w K mg base CX0 9 "first_cut" ["program", "relation", "rows"] (spCut K CR) := by
  obtain ⟨aL, lL, mL, dL, pL⟩ := tL
  refine D.ok (k := 8) sc_first_cut (fun vs H Q E h => by obtain ⟨v1, v2, v3, p, r, rs, rfl, _⟩ := h; rfl) (fun _ _ _ _ _ _ => bind3 (fun _ _ _ => rfl) rfl) fun f cdv A outer s0 H vs Q E hr h => ?_
  obtain ⟨v1, v2, v3, p, r, rs, rfl, hp, hR, hrs, hfi, q⟩ := h
  refine ⟨_, pss_cons (ps_for PassesOwn.never rfl (pi_zipT rfl hzp (pa_cons (pe_gref rfl mL) (pa_cons (pe_callC cu hr rfl pass0 (pa_cons (pv 0) (pa_cons (pv 1) (pa_cons (pv 2) pa_nil)))) pa_nil))) (pg_tup (by rfl) (pgs_cons (pg_name (i := 3) sc_first_cut.nd rfl (Or.inl rfl)) (pgs_cons (pg_name (i := 4) sc_first_cut.nd rfl (Or.inl rfl)) pgs_nil)))
      (pss_one (ps_if (PW.pt (pw_and (pt_cmpR op_gt (pe_ix ix_tup (pv 4) pe_int (fun _ _ => rfl)) pe_int (nomark _)) (pw_and1 (pt_cmpR op_eq (pe_ix ix_tup (pv 4) pe_int (fun _ _ => rfl)) pe_int (nomark _))))) (pss_one (ps_ret (pv 3))) pss_nil)))
    (pss_one (ps_ret pe_non)), ?_⟩
  refine ⟨_, rfl, _, rfl, _, rfl, v1, v2, v3, p, r, rs, rfl, hp, hR, hrs, hfi, fun H1 l1 us s1 n1 e1 pr => ?_⟩
  have hlL : lL.length = 7 := Paired.length pL
  have hul : us.length = 7 := by
    have := Paired.length pr
    rw [List.length_map] at this
    exact this
  refine ⟨aL, l1, _, _, rfl, dL H1, SqL.of e1, ?_⟩
  refine for_zipT (K := K) (a := aL) (b := l1) (xs := lL) (ys := us) (fun i σ H' => (∃ u3 u4, σ = [some v1, some v2, some v3, u3, u4]) ∧ Same H1 H' ∧ (Vametb.conds.take i).find? (cutP p r rs) = none) (by omega) ⟨⟨_, _, rfl⟩, Same.refl _, rfl⟩ (fun i σ H' _ z => ⟨dL H', SqL.of (z.2.1 _ _ e1)⟩) ?_ ?_
  · rintro i x y σ H' Tp hx hy ⟨⟨u3, u4, rfl⟩, sm, hf⟩ hT
    obtain ⟨c, hc, hk, _⟩ := paired_get pL hx
    obtain ⟨d, hd, ⟨b, rfl, hb⟩, _⟩ := paired_get pr hy
    have ed : undN p r rs c = d := by
      rw [List.getElem?_map, hc] at hd
      exact Option.some.inj hd
    have sT : Same H1 (upd H' Tp (.tup [x, .ref b])) := sm.trans (same_new hT)
    have hTT : (upd H' Tp (.tup [x, .ref b])) Tp = some (.tup [x, .ref b]) := upd_same
    generalize upd H' Tp (.tup [x, .ref b]) = H2 at sT hTT
    refine ⟨Tp, _, rfl, SqT.of hTT, rfl, _, _, rfl, _, _, rfl, rfl, ?_⟩
    have hb2 := sT _ _ hb
    have ep : cutP p r rs c = (d.2 == 0 && d.1 != 0) := by unfold cutP; rw [ed]
    have no : (d.2 == 0 && d.1 != 0) = false → (∃ u3 u4, ([some v1, some v2, some v3, some x, some (.ref b)] : L2.St) = [some v1, some v2, some v3, u3, u4]) ∧ Same H1 H2 ∧ (Vametb.conds.take (i + 1)).find? (cutP p r rs) = none := fun hn => ⟨⟨_, _, rfl⟩, sT, find_take_snoc hf hc (by rw [ep]; exact hn)⟩
    refine ⟨_, rfl, b, _, _, _, rfl, rfl, SqT.of hb2, atI_nat (j := 0) rfl, _, _, rfl, rfl, _, rfl, ?_⟩
    refine ite2 (fun h1 => ?_) fun h1 => ?_
    · have h1 : (0 : Int) < ((d.1 : Nat) : Int) := of_decide_eq_true h1
      refine ⟨_, rfl, b, _, _, _, rfl, rfl, SqT.of hb2, atI_nat (j := 1) rfl, rfl, _, rfl, ?_⟩
      by_cases h2 : d.2 = 0
      · rw [show decide (V.int ((d.2 : Nat) : Int) = V.int 0) = true from decide_eq_true (by rw [h2]; rfl)]
        refine iteT ⟨_, rfl, q _ _ (s1.trans sT) ?_⟩
        rw [find_take hf hc (by rw [ep]; simp [h2]; omega)]
        exact hk H2
      · rw [show decide (V.int ((d.2 : Nat) : Int) = V.int 0) = false from decide_eq_false fun y => h2 (by injection y with y; omega)]
        exact iteF (no (by simp [h2]))
    · have h1 : ¬ (0 : Int) < ((d.1 : Nat) : Int) := fun y => h1 (decide_eq_true y)
      have h0 : d.1 = 0 := by omega
      exact iteF (no (by simp [h0]))
  · rintro σ H' ⟨⟨u3, u4, rfl⟩, sm, hf⟩
    rw [hlL] at hf
    refine q _ _ (s1.trans sm) ?_
    have hf : Vametb.conds.find? (cutP p r rs) = none := hf
    rw [hf]
    rfl
def spTold (K : PySem.W.Frag) : Sp := fun vs H Q _ => ∃ v c, vs = [v] ∧ CondK K H v c ∧ ∀ H' l, NewL H H' l (VametBase.flatCond c) → Q (.ref l) H'
theorem ok_condition_told (D : Df K mg "condition_told" s_condition_told) (hli : mg "list" = none) (g5 : ∃ t, mg "SO_MANY" = some (.int 5 t)) : Cal P w K mg base CX0 1 "condition_told" ["condition"] (spTold K) := by
  refine D.ok (k := 0) sc_condition_told (fun vs H Q E h => by obtain ⟨v, c, rfl, _⟩ := h; rfl) (fun _ _ _ _ _ _ => bind1 (fun _ => rfl) rfl) fun f cdv A outer s0 H vs Q E hr h => ?_
  obtain ⟨v, c, rfl, ⟨t, rfl, ht⟩, q⟩ := h
  refine ⟨_, pss_one (ps_ret (pe_ifExp (pt_cmpR op_eq (pe_ix ix_tup (pv 0) pe_int (fun _ _ => rfl)) (pe_gint rfl g5) (nomark _)) (pe_callTy call_list_of (by rfl) hli (by decide +kernel) (pa_cons (pv 0) pa_nil)) (pe_lst (pa_cons (pe_ix ix_tup (pv 0) pe_int (fun _ _ => rfl)) pa_nil)))), ?_⟩
  have i0 : atI [V.int (condKind c : Nat), V.int (condArg c : Nat)] 0 = some (.int (condKind c : Nat)) := atI_nat (j := 0) rfl
  refine ⟨_, rfl, t, _, _, _, rfl, rfl, ht, i0, rfl, _, rfl, ?_⟩
  have plain : VametBase.flatCond c = [(condKind c : Int)] → tLst (tCons (tOp (rIxT K) (tVar 0) (L2.tC (.int 0))) tNil) (L2.start n_condition_told [.ref t]) H Q := fun e => by
    refine ⟨_, rfl, t, _, _, _, rfl, rfl, ht, i0, (by show 1 ≤ sizeLine; decide), fun p hp => q _ _ ⟨same_new hp, hp, ?_⟩⟩
    rw [upd_same, e]
    rfl
  cases c with
  | any => exact iteF (plain rfl)
  | some => exact iteF (plain rfl)
  | rising => exact iteF (plain rfl)
  | plus => exact iteF (plain rfl)
  | unlike => exact iteF (plain rfl)
  | atLeast k => exact iteT ⟨_, rfl, t, _, rfl, .inr ht, fun p hp => q _ _ ⟨same_new hp, hp, by rw [upd_same]; rfl⟩⟩
theorem cut_ans (s : Vametb.State) : Vametb.step s .cut = (s, if 300 < VametBase.inputCount s.bound then [-7] else (match Vametb.cut s.program s.relation s.bound with | none => [0] | some c => 1 :: VametBase.flatCond c)) := rfl
theorem cut_is (s : Vametb.State) : Vametb.cut s.program s.relation s.bound = Vametb.conds.find? (cutP s.program s.relation (Vametb.inputs s.bound)) := by
  unfold Vametb.cut cutP
  congr 1
  funext c
  rw [und_is]
theorem flat_le (c : VametBase.Cond) : (VametBase.flatCond c).length ≤ 2 := by cases c <;> (show _ ≤ 2; simp [VametBase.flatCond])
theorem ok_ask_cut (D : Df K mg "ask_cut" s_ask_cut) (T : ClsS K CS) (hE : (CT, -7) ∈ errs) (cg : Cal P w K mg base (CXo P w) 4 "gone_through" ["subject"] (spGone CS CR CB CT)) (cu : Cal P w K mg base CX0 9 "first_cut" ["program", "relation", "rows"] (spCut K CR))
    (ct : Cal P w K mg base CX0 1 "condition_told" ["condition"] (spTold K)) : Cal P w K mg base (CXo P w) 10 "ask_cut" ["subject", "told"] (spAsk CS CR CB errs (fun _ => True) fun _ => .cut) := by
  refine D.okx (k := 9) sc_ask_cut spAsk_len (fun _ _ _ _ _ _ => bind2 (fun _ _ => rfl) rfl) fun f cdv A outer s0 H vs Q E hr xs h => ?_
  obtain ⟨a, t, s, l, rfl, hS, ht, _, q1, q2⟩ := h
  have px := xs.passes rfl
  refine ⟨_, pss_cons (ps_set (i := 2) sc_ask_cut.nd rfl (Or.inl rfl) (pe_callC cu hr rfl pass0 (pa_cons (pe_fld (pv 0) rfl) (pa_cons (pe_fld (pv 0) rfl) (pa_cons (pe_callC cg (hr.mono (by decide)) rfl px (pa_cons (pv 0) pa_nil)) pa_nil)))))
    (pss_one (ps_ret (pe_ifExp (pt_cmp (pc_isN (pv 2))) (pe_lst (pa_cons pe_int pa_nil)) (pe_op op_cat (pe_lst (pa_cons pe_int pa_nil)) (pe_callC ct (hr.mono (by decide)) rfl pass0 (pa_cons (pv 2) pa_nil)))))), ?_⟩
  have st := cut_ans s
  obtain ⟨dx, vp, vr, vb, ha, hp, hR, hB⟩ := id hS
  refine ⟨_, rfl, a, CS, dx, _, _, rfl, ha, T.cl, T.n1, rfl, _, rfl, a, CS, dx, _, _, rfl, ha, T.cl, T.n2, rfl, _, rfl, a, s, rfl, hS, fun hc H2 v2 s2 r2 fi => ?_, fun hc => q2 CT (-7) hE (by show Vametb.step s .cut = _; rw [st, if_pos hc]) H (Same.refl _)⟩
  rw [if_neg (by omega), cut_is] at st
  have q1 : ∀ H' p, SameX a H H' → SubAt CS CR CB H' a (Vametb.step s .cut).1 → H p = none → H' p = some (.lst ((Vametb.step s .cut).2.map V.int)) → Q (.ref p) H' := q1
  rw [st] at q1
  refine ⟨vp, vr, v2, s.program, s.relation, _, rfl, hp.same s2, (hR.same s2).k, r2, fi, fun H3 v3 s3 c3 => ?_⟩
  generalize Vametb.conds.find? (cutP s.program s.relation (Vametb.inputs s.bound)) = o at c3 q1
  have s13 := s2.trans s3
  refine ⟨_, rfl, _, rfl, ?_⟩
  cases o with
  | none =>
    have c3 : v3 = .non := c3
    subst c3
    refine iteT ⟨(by show 1 ≤ sizeLine; decide), fun p hp' => q1 _ _ (SameX.of (s13.trans (same_new hp'))) (hS.same (s13.trans (same_new hp'))) (none_back s13 hp') (by rw [upd_same]; rfl)⟩
  | some c =>
    obtain ⟨b, rfl, hb⟩ := id c3
    refine iteF ⟨(by show 1 ≤ sizeLine; decide), fun p4 h4 => ?_⟩
    have s4 := same_new (o := .lst [.int 1]) h4
    have e4 : (upd H3 p4 (.lst [.int 1])) p4 = some (.lst [.int 1]) := upd_same
    generalize upd H3 p4 (.lst [.int 1]) = H4 at s4 e4
    refine ⟨_, rfl, _, c, rfl, CondK.same s4 c3, fun H5 p5 ⟨s5, n5, e5⟩ => ?_⟩
    refine ⟨p4, p5, _, _, rfl, rfl, s5 _ _ e4, e5, ?_, fun p6 h6 => ?_⟩
    · rw [List.length_map]
      have := flat_le c
      exact Nat.le_of_lt (short_line (by show 1 + _ ≤ _; omega))
    have s16 := s13.trans (s4.trans s5)
    have s17 := s16.trans (same_new (o := .lst ([V.int 1] ++ (VametBase.flatCond c).map V.int)) h6)
    exact q1 _ _ (SameX.of s17) (hS.same s17) (none_back s16 h6) (by rw [upd_same]; rfl)
end
end Rh

end

-- part RhSlack
section
set_option Elab.async false
set_option linter.all false
set_option maxRecDepth 100000
set_option maxHeartbeats 2000000
namespace Rh
open PySem PySem.Spec PyProof.Rows L2
/-- place by place, of two rows as long -/
def dif (s : VametBase.Sides) : List Int := (s.left.zip s.right).map fun x => x.1 - x.2
def slackOf (ss : List VametBase.Sides) : Option (Int × Int) := (ss.mapM Vametb.differences).bind fun l => match VametBase.leastOf l.flatten, VametBase.greatestOf l.flatten with
  | some a, some c => some (a, c)
  | _, _ => none
theorem mapM_all : ∀ {ss : List VametBase.Sides}, (∀ s ∈ ss, s.left.length = s.right.length) → ss.mapM Vametb.differences = some (ss.map dif)
  | [], _ => rfl
  | s :: ss, h => by
    have h1 : Vametb.differences s = some (dif s) := if_pos (h s (by simp))
    rw [List.mapM_cons, h1, mapM_all fun t ht => h t (by simp [ht])]
    rfl
theorem mapM_not : ∀ {ss : List VametBase.Sides} {s : VametBase.Sides}, s ∈ ss → s.left.length ≠ s.right.length → ss.mapM Vametb.differences = none
  | t :: ss, s, hm, hn => by
    rw [List.mapM_cons]
    rcases List.mem_cons.mp hm with rfl | hm
    · rw [show Vametb.differences s = none from if_neg hn]
      rfl
    · cases Vametb.differences t with
      | none => rfl
      | some d =>
        rw [mapM_not hm hn]
        rfl
theorem slack_all {ss : List VametBase.Sides} (h : ∀ s ∈ ss, s.left.length = s.right.length) : slackOf ss = match VametBase.leastOf (ss.flatMap dif), VametBase.greatestOf (ss.flatMap dif) with
    | some a, some c => some (a, c)
    | _, _ => none := by
  unfold slackOf
  rw [mapM_all h]
  rfl
/-- the ends stand at v, None where there are none -/
def EndsAt (H : Hp) (v : V) : Option (Int × Int) → Prop
  | none => v = .non
  | some x => ∃ t, v = .ref t ∧ H t = some (.tup [.int x.1, .int x.2])
theorem line16 {n : Nat} (h : n ≤ 1000000) : n ≤ sizeLine := Nat.le_trans h (by decide)
section
variable {P : Program} {w : World} {K : PySem.W.Frag} {mg : Str → Option Value} {base : Heap} {C CN CO CT CB CR CS : Addr} {errs : List (Addr × Int)}
def spSlack : Sp := fun vs H Q _ => ∃ v ss, vs = [v] ∧ PairsOf H v ss ∧ ss.length ≤ 300 ∧ ∀ H' u, Same H H' → EndsAt H' u (slackOf ss) → Q u H'
theorem ok_slack (D : Df K mg "slack" s_slack) (hzp : mg "zip" = none) (hmi : mg "min" = none) (hma : mg "max" = none) (cl : Cal P w K mg base CX0 1 "as_long" ["left", "right"] (spB2 fun a b => a.length == b.length)) : Cal P w K mg base CX0 2 "slack" ["pairs"] spSlack := by
  refine D.ok (k := 1) sc_slack (fun vs H Q E h => by obtain ⟨v, ss, rfl, _⟩ := h; rfl) (fun _ _ _ _ _ _ => bind1 (fun _ => rfl) rfl) fun f cdv A outer s0 H vs Q E hr h => ?_
  obtain ⟨v, ss, rfl, ⟨b, us, rfl, hb, pr⟩, hs, q⟩ := h
  refine ⟨_, pss_cons (ps_set (i := 1) sc_slack.nd rfl (Or.inl rfl) (pe_lst pa_nil))
    (pss_cons (ps_for PassesOwn.never rfl (pi_list (pv 0)) (pg_name (i := 2) sc_slack.nd rfl (Or.inl rfl))
      (pss_cons (ps_if (pt_not (pt_val (pe_callC cl hr rfl pass0 (pa_cons (pe_ix ix_tup (pv 2) pe_int (fun _ _ => rfl)) (pa_cons (pe_ix ix_tup (pv 2) pe_int (fun _ _ => rfl)) pa_nil))))) (pss_one (ps_ret pe_non)) pss_nil)
      (pss_one (ps_expr (pe_bm PySem.F.plainAttrs_list PySem.F.slot_list_extend PySem.F.type_list_extend mt_extend (pv 1) (pa_cons (pe_lc (own := [("left", 3), ("right", 4)]) (g := gTup K 2 (gCons (gName 3) (gCons (gName 4) gNil))) rfl sc_slack.nd (pi_zip rfl hzp (pa_cons (pe_ix ix_tup (pv 2) pe_int (fun _ _ => rfl)) (pa_cons (pe_ix ix_tup (pv 2) pe_int (fun _ _ => rfl)) pa_nil)))
        (blkOk_by (own := [("left", 3), ("right", 4)]) (N := n_slack) (sc := defScope s_slack) (by decide +kernel)) (fun _ _ _ _ _ => pg_tup (by rfl) (pgs_cons (pg_name (i := 3) sc_slack.nd rfl (Or.inl rfl)) (pgs_cons (pg_name (i := 4) sc_slack.nd rfl (Or.inl rfl)) pgs_nil))) (fun _ _ _ _ _ => pts_nil)
        (fun _ _ _ _ _ => pe_op op_sub (pv 3) (pv 4))) pa_nil))))))
    (pss_one (ps_ret (pe_ifExp (pt_truth (pv 1) (by intro _; rfl)) (pe_tup (pa_cons (pe_callB (cr_min rfl) (by rfl) hmi (by decide +kernel) (pa_cons (pv 1) pa_nil)) (pa_cons (pe_callB (cr_max rfl) (by rfl) hma (by decide +kernel) (pa_cons (pv 1) pa_nil)) pa_nil))) pe_non)))), ?_⟩
  have hl := Paired.length pr
  refine ⟨Nat.zero_le _, fun p1 h1 => ?_⟩
  have s1 : Same H (upd H p1 (.lst [])) := same_new h1
  have e1 : (upd H p1 (.lst [])) p1 = some (.lst []) := upd_same
  generalize upd H p1 (.lst []) = H1 at s1 e1
  have np : ∀ {c o}, H c = some o → c ≠ p1 := fun e => ne_of_none e h1
  refine ⟨_, rfl, b, rfl, ⟨_, SqL.of (s1 _ _ hb)⟩, ?_⟩
  refine for_list (K := K) (a := b) (xs := us) (fun i σ H' => (∃ u2 u3 u4, σ = [some (.ref b), some (.ref p1), u2, u3, u4]) ∧ (∀ c o, c ≠ p1 → H1 c = some o → H' c = some o) ∧ H' p1 = some (.lst (((ss.take i).flatMap dif).map V.int)) ∧ ((ss.take i).flatMap dif).length ≤ 40 * i ∧ ∀ s ∈ ss.take i, s.left.length = s.right.length)
    ⟨⟨_, _, _, rfl⟩, fun c o _ e => e, e1, Nat.le_refl _, fun s hs => by simp at hs⟩ (fun i σ H' _ z => SqL.of (z.2.1 _ _ (np hb) (s1 _ _ hb))) ?_ ?_
  · rintro i x σ H' hi ⟨⟨u2, u3, u4, rfl⟩, sm, hv, hw, heq⟩
    obtain ⟨sd, hsd, ⟨c, l, r2, rfl, h0, hL, hR, l1, l2⟩, _⟩ := paired_get pr hi
    have hil : i < ss.length := (List.getElem?_eq_some_iff.mp hsd).1
    have sH : Same H H' := fun c o e => sm c o (np e) (s1 _ _ e)
    refine ⟨_, rfl, c, _, _, _, rfl, rfl, SqT.of (sH _ _ h0), atI_nat (j := 0) rfl, _, rfl, c, _, _, _, rfl, rfl, SqT.of (sH _ _ h0), atI_nat (j := 1) rfl, l, r2, _, _, rfl, sH _ _ hL, sH _ _ hR, l1, l2, fun H2 s2 => ⟨_, rfl, ?_⟩⟩
    refine ite2 (fun hx => ?_) fun hx => ?_
    rotate_left
    · have hlen : sd.left.length = sd.right.length := by
        by_cases hlen : sd.left.length = sd.right.length
        · exact hlen
        · exact absurd (show (!(sd.left.length == sd.right.length)) = true by rw [beq_eq_false_iff_ne.mpr hlen]; rfl) hx
      have sH2 := sH.trans s2
      have hv2 := s2 _ _ hv
      refine ⟨_, rfl, .inl ⟨rfl, _, SqL.of hv2⟩, ?_⟩
      refine ⟨_, rfl, c, _, _, _, rfl, rfl, SqT.of (sH2 _ _ h0), atI_nat (j := 0) rfl, _, rfl, c, _, _, _, rfl, rfl, SqT.of (sH2 _ _ h0), atI_nat (j := 1) rfl, l, r2, _, _, rfl, SqL.of (sH2 _ _ hL), SqL.of (sH2 _ _ hR), fun D0 hD => ?_⟩
      refine lc_zip (K := K) (a := l) (b := r2) (xs := sd.left.map V.int) (ys := sd.right.map V.int) (fun j H3 => Same H2 H3 ∧ H3 D0 = some (.lst (((dif sd).take j).map V.int))) ⟨same_new hD, upd_same⟩ (fun j H3 _ z => ⟨SqL.of (z.1 _ _ (sH2 _ _ hL)), SqL.of (z.1 _ _ (sH2 _ _ hR))⟩) ?_ ?_
      · rintro j x y H3 T hx hy ⟨sm3, h3⟩ hT
        obtain ⟨z1, hz1, rfl⟩ := int_at hx
        obtain ⟨z2, hz2, rfl⟩ := int_at hy
        refine ⟨T, _, rfl, SqT.of upd_same, rfl, _, _, rfl, _, _, rfl, rfl, ?_⟩
        have hTD : D0 ≠ T := fun z => by rw [z, hT] at h3; cases h3
        refine ⟨rfl, _, rfl, _, rfl, _, _, rfl, rfl, _, by rw [upd_ne hTD]; exact h3, ?_, ?_, ?_⟩
        · rw [List.length_map, List.length_take]
          have : j < sd.left.length := (List.getElem?_eq_some_iff.mp hz1).1
          exact short_line (by omega)
        · exact same_put (sm3.trans (same_new hT)) hD
        · have ez : (dif sd)[j]? = some (z1 - z2) := by
            have g1 := (List.getElem?_eq_some_iff.mp hz1)
            have g2 := (List.getElem?_eq_some_iff.mp hz2)
            obtain ⟨g1, e1⟩ := g1
            obtain ⟨g2, e2⟩ := g2
            unfold dif
            rw [List.getElem?_map, List.getElem?_eq_getElem (by rw [List.length_zip]; omega), List.getElem_zip, e1, e2]
            rfl
          rw [upd_same, take_snoc ez, List.map_append]
          rfl
      · rintro H3 ⟨sm3, h3⟩
        have hdl : (dif sd).length = sd.left.length := by
          unfold dif
          rw [List.length_map, List.length_zip]
          omega
        rw [List.take_of_length_le (by rw [hdl, List.length_map, List.length_map]; omega)] at h3
        have et : (ss.take (i + 1)).flatMap dif = (ss.take i).flatMap dif ++ dif sd := by
          rw [take_snoc hsd, List.flatMap_append]
          simp
        have nD : D0 ≠ p1 := fun z => by rw [z, hv2] at hD; cases hD
        refine ⟨p1, D0, _, _, rfl, rfl, sm3 _ _ hv2, h3, ?_, ⟨_, _, _, rfl⟩, fun c o hc e => ?_, ?_, ?_, ?_⟩
        · rw [List.length_map, List.length_map]
          exact line16 (by omega)
        · rw [upd_ne hc]
          exact sm3 _ _ (s2 _ _ (sm _ _ hc e))
        · rw [upd_same, et, List.map_append]
        · rw [et, List.length_append]
          omega
        · intro s hs
          rw [take_snoc hsd] at hs
          rcases List.mem_append.mp hs with hs | hs
          · exact heq s hs
          · rw [List.mem_singleton.mp hs]
            exact hlen
    · have hlen : sd.left.length ≠ sd.right.length := fun e => by
        have hx : (!(sd.left.length == sd.right.length)) = true := hx
        rw [beq_iff_eq.mpr e] at hx
        cases hx
      refine q _ _ (sH.trans s2) ?_
      have : slackOf ss = none := by
        unfold slackOf
        rw [mapM_not (List.mem_of_getElem? hsd) hlen]
        rfl
      rw [this]
      rfl
  · rintro σ H' ⟨⟨u2, u3, u4, rfl⟩, sm, hv, hw, heq⟩
    rw [hl, List.take_length] at hv hw heq
    have sH : Same H H' := fun c o e => sm c o (np e) (s1 _ _ e)
    have es := slack_all heq
    generalize ss.flatMap dif = fo at hv es
    refine ⟨_, rfl, !fo.isEmpty, .inl ⟨_, SqL.of hv, by rw [isEmpty_map]⟩, ?_⟩
    cases fo with
    | nil =>
      refine iteF (q _ _ sH ?_)
      rw [es]
      rfl
    | cons x fo =>
      refine iteT ⟨_, rfl, p1, x :: fo, rfl, SqL.of hv, by simp, fun m hm hle => ?_⟩
      refine ⟨_, rfl, p1, x :: fo, rfl, SqL.of hv, by simp, fun m2 hm2 hle2 => ⟨(by show 2 ≤ sizeLine; decide), fun t ht => q _ _ (sH.trans (same_new ht)) ?_⟩⟩
      have a1 : VametBase.leastOf (x :: fo) = some m := Rm.least_eq hm hle
      have a2 : VametBase.greatestOf (x :: fo) = some m2 := Rm.greatest_eq hm2 hle2
      rw [es, a1, a2]
      exact ⟨t, rfl, upd_same⟩
theorem slack_ans (s : Vametb.State) : Vametb.step s .slack = (s, if 300 < VametBase.inputCount s.bound then [-7] else (match slackOf (Vametb.allSides s.program s.relation s.bound) with | none => [0] | some x => [1, x.1, x.2])) := rfl
theorem ok_ask_slack (D : Df K mg "ask_slack" s_ask_slack) (hE : (CT, -7) ∈ errs) (cp : Cal P w K mg base (CXo P w) 8 "pairs_of" ["subject"] (spPairsOf CS CR CB CT)) (cs : Cal P w K mg base CX0 2 "slack" ["pairs"] spSlack) :
    Cal P w K mg base (CXo P w) 9 "ask_slack" ["subject", "told"] (spAsk CS CR CB errs (fun _ => True) fun _ => .slack) := by
  refine D.okx (k := 8) sc_ask_slack spAsk_len (fun _ _ _ _ _ _ => bind2 (fun _ _ => rfl) rfl) fun f cdv A outer s0 H vs Q E hr xs h => ?_
  obtain ⟨a, t, s, l, rfl, hS, ht, _, q1, q2⟩ := h
  have px := xs.passes rfl
  refine ⟨_, pss_cons (ps_set (i := 2) sc_ask_slack.nd rfl (Or.inl rfl) (pe_callC cs (hr.mono (by decide)) rfl pass0 (pa_cons (pe_callC cp hr rfl px (pa_cons (pv 0) pa_nil)) pa_nil)))
    (pss_one (ps_ret (pe_ifExp (pt_cmp (pc_isN (pv 2))) (pe_lst (pa_cons pe_int pa_nil)) (pe_lst (pa_cons pe_int (pa_cons (pe_ix ix_tup (pv 2) pe_int (fun _ _ => rfl)) (pa_cons (pe_ix ix_tup (pv 2) pe_int (fun _ _ => rfl)) pa_nil))))))), ?_⟩
  have st := slack_ans s
  refine ⟨_, rfl, a, s, rfl, hS, fun hc H1 v s1 p1 hl1 => ?_, fun hc => q2 CT (-7) hE (by show Vametb.step s .slack = _; rw [st, if_pos hc]) H (Same.refl _)⟩
  rw [if_neg (by omega)] at st
  have q1 : ∀ H' p, SameX a H H' → SubAt CS CR CB H' a (Vametb.step s .slack).1 → H p = none → H' p = some (.lst ((Vametb.step s .slack).2.map V.int)) → Q (.ref p) H' := q1
  rw [st] at q1
  refine ⟨v, _, rfl, p1, hl1, fun H2 u s2 hu => ?_⟩
  have s12 := s1.trans s2
  generalize slackOf (Vametb.allSides s.program s.relation s.bound) = o at hu q1
  refine ⟨_, rfl, _, rfl, ?_⟩
  cases o with
  | none =>
    have hu : u = .non := hu
    subst hu
    exact iteT ⟨(by show 1 ≤ sizeLine; decide), fun p hp' => q1 _ _ (SameX.of (s12.trans (same_new hp'))) (hS.same (s12.trans (same_new hp'))) (none_back s12 hp') (by rw [upd_same]; rfl)⟩
  | some x =>
    obtain ⟨c, rfl, hcc⟩ := hu
    refine iteF ⟨_, rfl, c, _, _, _, rfl, rfl, SqT.of hcc, atI_nat (j := 0) rfl, _, rfl, c, _, _, _, rfl, rfl, SqT.of hcc, atI_nat (j := 1) rfl, (by show 3 ≤ sizeLine; decide), fun p hp' => ?_⟩
    exact q1 _ _ (SameX.of (s12.trans (same_new hp'))) (hS.same (s12.trans (same_new hp'))) (none_back s12 hp') (by rw [upd_same]; rfl)
end
end Rh

end

-- part RhAgainst
section
set_option Elab.async false
set_option linter.all false
set_option maxRecDepth 100000
set_option maxHeartbeats 2000000
namespace Rh
open PySem PySem.Spec PyProof.Rows L2
def fourOf : List (Int × Int) := [(0, 0), (0, 1), (1, 0), (1, 1)]
def cntP (ns ms : List Int) (x : Int × Int) : Nat := ((ns.zip ms).map fun p => [p.1, p.2]).countP fun l => l == [x.1, x.2]
theorem pairs_nss {K : PySem.W.Frag} {H : Hp} : ∀ {ns ms : List Int} {ts : List V}, PairsAt H ts ((ns.map V.int).zip (ms.map V.int)) → Paired (fun y l => ∃ c, y = V.ref c ∧ SqT K H c (l.map V.int)) ts ((ns.zip ms).map fun p => [p.1, p.2])
  | [], _, _, h => by cases h; exact .nil
  | _ :: _, [], _, h => by cases h; exact .nil
  | n :: ns, m :: ms, _, h => by
    cases h with
    | cons h1 h2 =>
      obtain ⟨T, rfl, hT⟩ := h1
      exact .cons ⟨T, rfl, SqT.of hT⟩ (pairs_nss h2)
theorem cnt_against (f : VametBase.Program) (r q : VametBase.Relation) (a b : VametBase.Verdict) : ∀ rs : List (List Int), cntP (rs.map (verdN f r)) (rs.map (verdN f q)) (VametBase.verdictNumber a, VametBase.verdictNumber b) = ((rs.map fun x => (VametBase.verdict f r x, VametBase.verdict f q x)).filter fun v => v == (a, b)).length
  | [] => rfl
  | x :: rs => by
    have ih := cnt_against f r q a b rs
    unfold cntP at ih ⊢
    simp only [List.map_cons, List.zip_cons_cons, List.countP_cons, List.filter_cons]
    rw [ih]
    have e : ([verdN f r x, verdN f q x] == [VametBase.verdictNumber a, VametBase.verdictNumber b]) = ((VametBase.verdict f r x, VametBase.verdict f q x) == (a, b)) := by
      rw [Bool.eq_iff_iff, beq_iff_eq, beq_iff_eq]
      constructor
      · intro h
        injection h with h1 h
        injection h with h2 _
        rw [vn_inj h1, vn_inj h2]
      · intro h
        injection h with h1 h2
        unfold verdN
        rw [h1, h2]
    rw [e]
    cases (VametBase.verdict f r x, VametBase.verdict f q x) == (a, b) <;> simp
theorem against_is (s : Vametb.State) (q : VametBase.Relation) : Vametb.againstTold s q = fourOf.map fun x => ((cntP ((Vametb.inputs s.bound).map (verdN s.program s.relation)) ((Vametb.inputs s.bound).map (verdN s.program q)) x : Nat) : Int) := by
  have h := fun a b => cnt_against s.program s.relation q a b (Vametb.inputs s.bound)
  have h1 := h .kept .kept
  have h2 := h .kept .broken
  have h3 := h .broken .kept
  have h4 := h .broken .broken
  unfold Vametb.againstTold fourOf
  simp only [List.map_cons, List.map_nil]
  rw [← h1, ← h2, ← h3, ← h4]
  rfl
section
variable {P : Program} {w : World} {K : PySem.W.Frag} {mg : Str → Option Value} {base : Heap} {C CN CO CT CB CR CS : Addr} {errs : List (Addr × Int)}
def spAgainst (K : PySem.W.Frag) (CR : Addr) : Sp := fun vs H Q _ => ∃ v1 v2 v3 v4 p r q rs, vs = [v1, v2, v3, v4] ∧ ProgAt H v1 p ∧ RelK K CR H v2 r ∧ RelK K CR H v3 q ∧ RowsAt H v4 rs ∧ Fine rs ∧
  ∀ H' l, NewL H H' l (fourOf.map fun x => ((cntP (rs.map (verdN p r)) (rs.map (verdN p q)) x : Nat) : Int)) → Q (.ref l) H'
theorem ok_counts_against (D : Df K mg "counts_against" s_counts_against) (hli : mg "list" = none) (hzp : mg "zip" = none) (g0 : ∃ t, mg "KEPT" = some (.int 0 t)) (g1 : ∃ t, mg "BROKEN" = some (.int 1 t)) (cv : Cal P w K mg base CX0 7 "all_verdicts" ["program", "relation", "rows"] (spVerd K CR)) :
    Cal P w K mg base CX0 8 "counts_against" ["program", "first", "second", "rows"] (spAgainst K CR) := by
  refine D.ok (k := 7) sc_counts_against (fun vs H Q E h => by obtain ⟨v1, v2, v3, v4, p, r, q, rs, rfl, _⟩ := h; rfl) (fun _ _ _ _ _ _ => bind4 (fun _ _ _ _ => rfl) rfl) fun f cdv A outer s0 H vs Q E hr h => ?_
  obtain ⟨v1, v2, v3, v4, p, r, q, rs, rfl, hp, hR, hR2, hrs, hfi, qq⟩ := h
  refine ⟨_, pss_cons (ps_set (i := 4) sc_counts_against.nd rfl (Or.inr rfl) (pe_listzip rfl rfl hli rfl hzp (pa_cons (pe_callC cv hr rfl pass0 (pa_cons (pv 0) (pa_cons (pv 1) (pa_cons (pv 3) pa_nil)))) (pa_cons (pe_callC cv hr rfl pass0 (pa_cons (pv 0) (pa_cons (pv 2) (pa_cons (pv 3) pa_nil)))) pa_nil))))
    (pss_cons (ps_set (i := 5) sc_counts_against.nd rfl (Or.inl rfl) (pe_tup (pa_cons (pe_tup (pa_cons (pe_gint rfl g0) (pa_cons (pe_gint rfl g0) pa_nil))) (pa_cons (pe_tup (pa_cons (pe_gint rfl g0) (pa_cons (pe_gint rfl g1) pa_nil))) (pa_cons (pe_tup (pa_cons (pe_gint rfl g1) (pa_cons (pe_gint rfl g0) pa_nil))) (pa_cons (pe_tup (pa_cons (pe_gint rfl g1) (pa_cons (pe_gint rfl g1) pa_nil))) pa_nil))))))
    (pss_one (ps_ret (pe_lc (own := [("both", 6)]) (g := gName 6) (te := tHide (tBM K "list" (rCountT K) (tVar 4) (tCons (tVar 6) tNil))) rfl sc_counts_against.nd (pi_tup (pv 5)) (blkOk_by (own := [("both", 6)]) (N := n_counts_against) (sc := defScope s_counts_against) (by decide +kernel))
      (fun _ _ _ _ _ => pg_name (i := 6) sc_counts_against.nd rfl (Or.inl rfl)) (fun _ _ _ _ _ => pts_nil) (fun _ _ _ _ _ => pe_hide (pe_bm PySem.F.plainAttrs_list PySem.F.slot_list_count PySem.F.type_list_count (mt_countT hr.units) (pv 4) (pa_cons (pv 6) pa_nil))))))), ?_⟩
  refine ⟨_, rfl, _, rfl, _, rfl, v1, v2, v4, p, r, rs, rfl, hp, hR, hrs, hfi, fun H1 l1 ⟨s1, n1, e1⟩ => ?_⟩
  refine ⟨_, rfl, _, rfl, _, rfl, v1, v3, v4, p, q, rs, rfl, hp.same s1, hR2.same s1, hrs.same s1, hfi, fun H2 l2 ⟨s2, n2, e2⟩ => ?_⟩
  refine ⟨l1, l2, _, _, rfl, SqL.of (s2 _ _ e1), SqL.of e2, by simp, by simp only [List.length_map]; exact short_line (by have := hfi.2; omega), fun H3 l3 ts s3 n3 e3 pr => ?_⟩
  have pr3 := pairs_nss (K := K) pr
  -- the four pairs
  refine ⟨(by show 2 ≤ sizeLine; decide), fun t1 h1 => ⟨(by show 2 ≤ sizeLine; decide), fun t2 h2 => ⟨(by show 2 ≤ sizeLine; decide), fun t3 h3 => ⟨(by show 2 ≤ sizeLine; decide), fun t4 h4 => ⟨(by show 4 ≤ sizeLine; decide), fun t5 h5 => ?_⟩⟩⟩⟩⟩
  have k1 := same_new (o := .tup [.int 0, .int 0]) h1
  have k2 := same_new (o := .tup [.int 0, .int 1]) h2
  have k3 := same_new (o := .tup [.int 1, .int 0]) h3
  have k4 := same_new (o := .tup [.int 1, .int 1]) h4
  have k5 := same_new (o := .tup [.ref t1, .ref t2, .ref t3, .ref t4]) h5
  have f1 := k5 _ _ (k4 _ _ (k3 _ _ (k2 _ _ (upd_same (H := H3) (a := t1) (o := .tup [.int 0, .int 0])))))
  have f2 := k5 _ _ (k4 _ _ (k3 _ _ (upd_same (a := t2) (o := .tup [.int 0, .int 1]))))
  have f3 := k5 _ _ (k4 _ _ (upd_same (a := t3) (o := .tup [.int 1, .int 0])))
  have f4 := k5 _ _ (upd_same (a := t4) (o := .tup [.int 1, .int 1]))
  have f5 := upd_same (H := upd (upd (upd (upd H3 t1 (.tup [.int 0, .int 0])) t2 (.tup [.int 0, .int 1])) t3 (.tup [.int 1, .int 0])) t4 (.tup [.int 1, .int 1])) (a := t5) (o := .tup [.ref t1, .ref t2, .ref t3, .ref t4])
  have s4 := k1.trans (k2.trans (k3.trans (k4.trans k5)))
  generalize upd (upd (upd (upd (upd H3 t1 (.tup [.int 0, .int 0])) t2 (.tup [.int 0, .int 1])) t3 (.tup [.int 1, .int 0])) t4 (.tup [.int 1, .int 1])) t5 (.tup [.ref t1, .ref t2, .ref t3, .ref t4]) = H4 at f1 f2 f3 f4 f5 s4
  have sA : Same H H4 := s1.trans (s2.trans (fun b o z => s4 _ _ (s3 _ _ z)))
  refine ⟨_, rfl, t5, rfl, ⟨_, SqT.of f5⟩, fun D0 hD => ?_⟩
  refine lc_ht (a := t5) (xs := [.ref t1, .ref t2, .ref t3, .ref t4]) (ds := fourOf.map fun x => ((cntP (rs.map (verdN p r)) (rs.map (verdN p q)) x : Nat) : Int)) (fun _ y d => y = .int d) (fun _ _ _ _ _ z => z) (SqT.of f5) hD rfl (by show 4 ≤ 3000; decide) (fun _ => rfl) ?_ ?_
  · intro i x d G R hx hd sm k
    have go : ∀ (t : Addr) (z1 z2 : Int), H4 t = some (.tup [.int z1, .int z2]) → x = .ref t → d = ((cntP (rs.map (verdN p r)) (rs.map (verdN p q)) (z1, z2) : Nat) : Int) → tBM K "list" (rCountT K) (tVar 4) (tCons (tVar 6) tNil) [some v1, some v2, some v3, some v4, some (.ref l3), some (.ref t5), some x] G R := fun t z1 z2 ht ex ed => by
      subst ex
      have e3' := sm _ _ (s4 _ _ e3)
      refine ⟨_, rfl, .inl ⟨rfl, _, SqL.of e3'⟩, _, rfl, l3, t, ts, _, [z1, z2], rfl, rfl, SqL.of e3', SqT.of (sm _ _ ht), paired_mono (fun y l ⟨c, e, hc⟩ => ⟨c, e, SqT_same (s4.trans sm) hc⟩) pr3, ?_⟩
      exact k _ _ (Same.refl _) (by rw [ed]; rfl)
    match i, hx, hd with
    | 0, hx, hd => exact go t1 0 0 f1 (Option.some.inj hx).symm (Option.some.inj hd).symm
    | 1, hx, hd => exact go t2 0 1 f2 (Option.some.inj hx).symm (Option.some.inj hd).symm
    | 2, hx, hd => exact go t3 1 0 f3 (Option.some.inj hx).symm (Option.some.inj hd).symm
    | 3, hx, hd => exact go t4 1 1 f4 (Option.some.inj hx).symm (Option.some.inj hd).symm
    | i + 4, hx, _ => cases hx
  · intro G ys hG sm pr2
    rw [paired_ints pr2]
    exact qq _ _ ⟨sA.trans (same_updN hD sm), none_back sA hD, upd_same⟩
end
end Rh

end

-- part RhAgainst2
section
set_option Elab.async false
set_option linter.all false
set_option maxRecDepth 100000
set_option maxHeartbeats 2000000
namespace Rh
open PySem PySem.Spec PyProof.Rows L2
section
variable {P : Program} {w : World} {K : PySem.W.Frag} {mg : Str → Option Value} {base : Heap} {C CN CO CT CB CR CS : Addr} {errs : List (Addr × Int)}
theorem ok_ask_against (D : Df K mg "ask_against" s_ask_against) (T : ClsS K CS) (hE : (CT, -7) ∈ errs) (hN : (CN, -1) ∈ errs) (cr : Cal P w K mg base (CXo P w) 4 "read_relation" ["told"] (spWhole CN VametBase.readRelation (RelAt CR))) (cg : Cal P w K mg base (CXo P w) 4 "gone_through" ["subject"] (spGone CS CR CB CT))
    (cu : Cal P w K mg base CX0 8 "counts_against" ["program", "first", "second", "rows"] (spAgainst K CR)) : Cal P w K mg base (CXo P w) 9 "ask_against" ["subject", "told"] (spAsk CS CR CB errs (fun _ => True) .against) := by
  refine D.okx (k := 8) sc_ask_against spAsk_len (fun _ _ _ _ _ _ => bind2 (fun _ _ => rfl) rfl) fun f cdv A outer s0 H vs Q E hr xs h => ?_
  obtain ⟨a, t, s, l, rfl, hS, ht, _, q1, q2⟩ := h
  have px := xs.passes rfl
  refine ⟨_, pss_cons (ps_set (i := 2) sc_ask_against.nd rfl (Or.inl rfl) (pe_callC cr (hr.mono (by decide)) rfl px (pa_cons (pv 1) pa_nil)))
    (pss_one (ps_ret (pe_callC cu hr rfl pass0 (pa_cons (pe_fld (pv 0) rfl) (pa_cons (pe_fld (pv 0) rfl) (pa_cons (pv 2) (pa_cons (pe_callC cg (hr.mono (by decide)) rfl px (pa_cons (pv 0) pa_nil)) pa_nil))))))), ?_⟩
  have st : Vametb.step s (.against l) = (match VametBase.whole VametBase.readRelation l with | none => (s, [-1]) | some r => (s, if 300 < VametBase.inputCount s.bound then [-7] else Vametb.againstTold s r)) := rfl
  refine ⟨_, rfl, t, l, rfl, ht, fun p hw H1 v s1 hv => ?_, fun hw H1 s1 => q2 CN (-1) hN (by rw [st, hw]) H1 s1⟩
  rw [hw] at st
  have st : Vametb.step s (.against l) = (s, if 300 < VametBase.inputCount s.bound then [-7] else Vametb.againstTold s p) := st
  obtain ⟨dx, vp, vr, vb, ha, hp, hR, hB⟩ := hS.same s1
  refine ⟨_, rfl, a, CS, dx, _, _, rfl, ha, T.cl, T.n1, rfl, _, rfl, a, CS, dx, _, _, rfl, ha, T.cl, T.n2, rfl, _, rfl, _, rfl, a, s, rfl, hS.same s1, fun hc H2 v2 s2 r2 fi => ?_, fun hc => q2 CT (-7) hE (by rw [st, if_pos hc]) H1 s1⟩
  rw [if_neg (by omega), against_is] at st
  rw [st] at q1
  refine ⟨vp, vr, v, v2, s.program, s.relation, p, _, rfl, hp.same s2, (hR.same s2).k, (hv.same s2).k, r2, fi, fun H3 l3 ⟨s3, n3, e3⟩ => ?_⟩
  have sA := s1.trans (s2.trans s3)
  exact q1 _ _ (SameX.of sA) (hS.same sA) (none_back (s1.trans s2) n3) e3
end
end Rh

end

-- part RhSmall
section
set_option Elab.async false
set_option linter.all false
set_option maxRecDepth 100000
set_option maxHeartbeats 2000000
namespace Rh
open PySem PySem.Spec PyProof.Rows L2
theorem near_up {x : Int} (h : 0 < x) : Vametb.nearer x = [0, 1 * ((if x < 0 then -x else x) / 2), x - 1] := by
  unfold Vametb.nearer
  rw [if_neg (by omega)]
  simp only [if_neg (show ¬ x < 0 by omega)]
  congr 2
  omega
theorem near_down {x : Int} (h : x < 0) : Vametb.nearer x = [0, (-1) * ((if x < 0 then -x else x) / 2), x - (-1)] := by
  unfold Vametb.nearer
  rw [if_neg (by omega)]
  simp only [if_pos h]
  congr 2
  omega
theorem same_del {H H' : Hp} {d : Addr} (s : Same H H') : Same (del H d) (del H' d) := fun b o e => by
  obtain ⟨n, e⟩ := del_some e
  rw [del_ne n]
  exact s _ _ e
theorem del_sub {H : Hp} {d : Addr} : Same (del H d) H := fun b o e => (del_some e).2
section
variable {P : Program} {w : World} {K : PySem.W.Frag} {mg : Str → Option Value} {base : Heap} {C CN CO CT CB CR CS : Addr} {errs : List (Addr × Int)}
def spNear : Sp := fun vs H Q _ => ∃ x, vs = [.int x] ∧ ∀ H' l, NewL H H' l (Vametb.nearer x) → Q (.ref l) H'
theorem ok_nearer (D : Df K mg "nearer" s_nearer) (hab : mg "abs" = none) : Cal P w K mg base CX0 1 "nearer" ["value"] spNear := by
  refine D.ok (k := 0) sc_nearer (fun vs H Q E h => by obtain ⟨x, rfl, _⟩ := h; rfl) (fun _ _ _ _ _ _ => bind1 (fun _ => rfl) rfl) fun f cdv A outer s0 H vs Q E hr h => ?_
  obtain ⟨x, rfl, q⟩ := h
  refine ⟨_, pss_cons (ps_if (pt_cmpR op_eq (pv 0) pe_int (nomark _)) (pss_one (ps_ret (pe_lst pa_nil))) pss_nil)
    (pss_cons (ps_set (i := 1) sc_nearer.nd rfl (Or.inl rfl) (pe_ifExp (pt_cmpR op_gt (pv 0) pe_int (nomark _)) pe_int (pe_un un_neg pe_int)))
    (pss_one (ps_ret (pe_lst (pa_cons pe_int (pa_cons (pe_op op_mul (pv 1) (pe_op op_fdiv (pe_callB call_abs (by rfl) hab (by decide +kernel) (pa_cons (pv 0) pa_nil)) pe_int)) (pa_cons (pe_op op_sub (pv 0) (pv 1)) pa_nil))))))), ?_⟩
  refine ⟨_, rfl, rfl, _, rfl, ?_⟩
  by_cases h0 : x = 0
  · rw [show decide (V.int x = V.int 0) = true from decide_eq_true (by rw [h0])]
    refine iteT ⟨Nat.zero_le _, fun p hp => q _ _ ⟨same_new hp, hp, ?_⟩⟩
    rw [upd_same, h0]
    rfl
  · rw [show decide (V.int x = V.int 0) = false from decide_eq_false fun y => h0 (by injection y)]
    refine iteF ⟨_, rfl, _, _, rfl, rfl, _, rfl, ?_⟩
    refine ite2 (fun h1 => ?_) fun h1 => ?_
    · have h1 : 0 < x := of_decide_eq_true h1
      refine ⟨_, rfl, _, rfl, _, rfl, _, _, rfl, rfl, ⟨by decide, by decide⟩, _, _, rfl, rfl, .inl ⟨by decide, by decide⟩, ?_⟩
      refine ⟨_, rfl, _, rfl, _, _, rfl, rfl, (by show 3 ≤ sizeLine; decide), fun p hp => q _ _ ⟨same_new hp, hp, ?_⟩⟩
      rw [upd_same, near_up h1]
      rfl
    · have h1 : ¬ 0 < x := fun y => h1 (decide_eq_true y)
      refine ⟨_, rfl, _, rfl, _, rfl, _, rfl, _, _, rfl, rfl, ⟨by decide, by decide⟩, _, _, rfl, rfl, .inl ⟨by decide, by decide⟩, ?_⟩
      refine ⟨_, rfl, _, rfl, _, _, rfl, rfl, (by show 3 ≤ sizeLine; decide), fun p hp => q _ _ ⟨same_new hp, hp, ?_⟩⟩
      rw [upd_same, near_down (by omega)]
      rfl
end
end Rh

end

-- part RhSmall2
section
set_option Elab.async false
set_option linter.all false
set_option maxRecDepth 100000
set_option maxHeartbeats 2000000
namespace Rh
open PySem PySem.Spec PyProof.Rows L2
/-- the rows behind those with a number less -/
def nearAt (ns : List Int) (i : Nat) : List (List Int) := (Vametb.nearer ((ns[i]?).getD 0)).map fun n => ns.take i ++ [n] ++ ns.drop (i + 1)
def lessAt (ns : List Int) (i : Nat) : List Int := ns.take i ++ ns.drop (i + 1)
theorem flatMap_eq {α β : Type} {f g : α → List β} : ∀ {l : List α}, (∀ a ∈ l, f a = g a) → l.flatMap f = l.flatMap g
  | [], _ => rfl
  | a :: l, h => by
    rw [List.flatMap_cons, List.flatMap_cons, h a (by simp), flatMap_eq fun b hb => h b (by simp [hb])]
theorem smaller_is (ns : List Int) : Vametb.smaller ns = (List.range ns.length).map (lessAt ns) ++ (List.range ns.length).flatMap (nearAt ns) := by
  unfold Vametb.smaller
  congr 1
  · refine List.map_congr_left fun i _ => ?_
    rw [List.eraseIdx_eq_take_drop_succ]
    rfl
  · refine flatMap_eq fun i hi => ?_
    have hi := List.mem_range.mp hi
    unfold nearAt
    refine List.map_congr_left fun n _ => ?_
    rw [List.set_eq_take_append_cons_drop, if_pos hi]
    simp
theorem near_le (x : Int) : (Vametb.nearer x).length ≤ 3 := by
  unfold Vametb.nearer
  split
  · exact Nat.zero_le _
  · exact Nat.le_refl 3
theorem nearAt_le (ns : List Int) : ∀ i, ((List.range i).flatMap (nearAt ns)).length ≤ 3 * i
  | 0 => Nat.le_refl _
  | i + 1 => by
    rw [List.range_succ, List.flatMap_append, List.length_append]
    have h1 := nearAt_le ns i
    have h2 : ([i].flatMap (nearAt ns)).length ≤ 3 := by
      have e : [i].flatMap (nearAt ns) = nearAt ns i := by simp
      rw [e]
      unfold nearAt
      rw [List.length_map]
      exact near_le _
    omega
theorem paired_app {α β : Type} {F : α → β → Prop} : ∀ {l l' : List α} {m m' : List β}, Paired F l m → Paired F l' m' → Paired F (l ++ l') (m ++ m')
  | _, _, _, _, .nil, r => r
  | _, _, _, _, .cons q t, r => .cons q (paired_app t r)
abbrev tLeft (K : PySem.W.Frag) : TE := tSl (rSlL K) (tVar 0) tNoPart (tPart (tVar 2))
abbrev tRight (K : PySem.W.Frag) : TE := tSl (rSlL K) (tVar 0) (tPart (tOp (rI0 fun i j => .int (i + j)) (tVar 2) (tC (.int 1)))) tNoPart
section
variable {P : Program} {w : World} {K : PySem.W.Frag} {mg : Str → Option Value} {base : Heap} {C CN CO CT CB CR CS : Addr} {errs : List (Addr × Int)}
def spSmaller : Sp := fun vs H Q _ => ∃ a ns, vs = [.ref a] ∧ H a = some (.lst (ns.map V.int)) ∧ ns.length ≤ 40 ∧ ∀ H' v, Same H H' → RowsAt H' v (Vametb.smaller ns) → Q v H'
theorem ok_smaller_rows (D : Df K mg "smaller_rows" s_smaller_rows) (hln : mg "len" = none) (hrng : mg "range" = none) (hen : mg "enumerate" = none) (cn : Cal P w K mg base CX0 1 "nearer" ["value"] spNear) : Cal P w K mg base CX0 2 "smaller_rows" ["row"] spSmaller := by
  refine D.ok (k := 1) sc_smaller_rows (fun vs H Q E h => by obtain ⟨a, ns, rfl, _⟩ := h; rfl) (fun _ _ _ _ _ _ => bind1 (fun _ => rfl) rfl) fun f cdv A outer s0 H vs Q E hr h => ?_
  obtain ⟨a, ns, rfl, ha, hl, q⟩ := h
  refine ⟨_, pss_cons (ps_setLc (i := 1) (own := [("place", 2)]) (g := gName 2) (te := tHide (tOp rCat (tLeft K) (tRight K))) rfl sc_smaller_rows.nd rfl rfl (sw_true rfl rfl rfl (by decide +kernel)) (pi_range1 rfl hrng (pa_cons (pe_callB call_len_seq (by rfl) hln PySem.boot_len (pa_cons (pv 0) pa_nil)) pa_nil))
      (blkOk_by (own := [("place", 2)]) (N := n_smaller_rows) (sc := defScope s_smaller_rows) (by decide +kernel)) (fun _ _ _ _ _ => pg_name (i := 2) sc_smaller_rows.nd rfl (Or.inl rfl)) (fun _ _ _ _ _ => pts_nil)
      (fun _ _ _ _ _ => pe_hide (pe_op op_cat (pe_slice sl_list (pv 0) po_none (po_some (pv 2))) (pe_slice sl_list (pv 0) (po_some (pe_op op_add (pv 2) pe_int)) po_none))))
    (pss_cons (ps_for PassesOwn.never rfl (pi_enum rfl hen (pa_cons (pv 0) pa_nil)) (pg_tup (by rfl) (pgs_cons (pg_name (i := 2) sc_smaller_rows.nd rfl (Or.inr rfl)) (pgs_cons (pg_name (i := 3) sc_smaller_rows.nd rfl (Or.inl rfl)) pgs_nil)))
      (pss_one (ps_expr (pe_bm PySem.F.plainAttrs_list PySem.F.slot_list_extend PySem.F.type_list_extend mt_extend (pv 1) (pa_cons (pe_hide (pe_lc (own := [("other", 4)]) (g := gName 4) (te := tHide (tOp rCat (tOp rCat (tLeft K) (tLst (tCons (tVar 4) tNil))) (tRight K))) rfl sc_smaller_rows.nd (pi_list (pe_callC cn hr rfl pass0 (pa_cons (pv 3) pa_nil)))
        (blkOk_by (own := [("other", 4)]) (N := n_smaller_rows) (sc := defScope s_smaller_rows) (by decide +kernel)) (fun _ _ _ _ _ => pg_name (i := 4) sc_smaller_rows.nd rfl (Or.inl rfl)) (fun _ _ _ _ _ => pts_nil)
        (fun _ _ _ _ _ => pe_hide (pe_op op_cat (pe_op op_cat (pe_slice sl_list (pv 0) po_none (po_some (pv 2))) (pe_lst (pa_cons (pv 4) pa_nil))) (pe_slice sl_list (pv 0) (po_some (pe_op op_add (pv 2) pe_int)) po_none))))) pa_nil)))))
    (pss_one (ps_ret (pv 1)))), ?_⟩
  have cl : ∀ i : Nat, cutV (ns.map V.int) none (some (i : Int)) = (ns.take i).map V.int := fun i => by rw [cut_take (by omega), Int.toNat_natCast, List.map_take]
  have cr : ∀ i : Nat, cutV (ns.map V.int) (some ((i : Int) + 1)) none = (ns.drop (i + 1)).map V.int := fun i => by
    rw [cut_drop (by omega), List.map_drop]
    congr 1
  have tl : ∀ i : Nat, (ns.take i).length ≤ 40 := fun i => by rw [List.length_take]; omega
  have dl : ∀ i : Nat, (ns.drop i).length ≤ 40 := fun i => by rw [List.length_drop]; omega
  refine ⟨_, rfl, a, _, rfl, .inl (SqL.of ha), _, rfl, by rw [List.length_map]; omega, by rw [List.length_map]; omega, fun D0 hD => ?_⟩
  rw [List.length_map, Int.toNat_natCast]
  refine lc_hr (n := ns.length) (ds := (List.range ns.length).map (lessAt ns)) RowAt (fun _ _ _ _ s z => z.same s) hD (by simp) (by omega) (fun _ => rfl) ?_ ?_
  · intro i d G R hi hd sm k
    have ed : lessAt ns i = d := by
      rw [List.getElem?_map, List.getElem?_range hi] at hd
      exact Option.some.inj hd
    have haG := sm _ _ ha
    refine ⟨_, rfl, _, rfl, _, rfl, a, _, rfl, SqL.of haG, fun p1 h1 => ?_⟩
    rw [cl]
    have s1 := same_new (o := .lst ((ns.take i).map V.int)) h1
    have e1 : (upd G p1 (.lst ((ns.take i).map V.int))) p1 = some (.lst ((ns.take i).map V.int)) := upd_same
    generalize upd G p1 (.lst ((ns.take i).map V.int)) = G1 at s1 e1
    refine ⟨_, rfl, _, rfl, _, _, rfl, rfl, _, rfl, a, _, rfl, SqL.of (s1 _ _ haG), fun p2 h2 => ?_⟩
    rw [cr]
    have s2 := same_new (o := .lst ((ns.drop (i + 1)).map V.int)) h2
    have e2 : (upd G1 p2 (.lst ((ns.drop (i + 1)).map V.int))) p2 = some (.lst ((ns.drop (i + 1)).map V.int)) := upd_same
    generalize upd G1 p2 (.lst ((ns.drop (i + 1)).map V.int)) = G2 at s2 e2
    refine ⟨p1, p2, _, _, rfl, rfl, s2 _ _ e1, e2, ?_, fun p3 h3 => k _ _ (s1.trans (s2.trans (same_new h3))) ⟨p3, rfl, ?_⟩⟩
    · rw [List.length_map, List.length_map]
      have := tl i
      have := dl (i + 1)
      exact Nat.le_of_lt (short_line (by omega))
    · rw [upd_same, ← ed]
      unfold lessAt
      rw [List.map_append]
  · intro G ys hG sm pr
    have e1 : (upd G D0 (.lst ys)) D0 = some (.lst ys) := upd_same
    have d1 : del (upd G D0 (.lst ys)) D0 = G := del_upd hG
    have s1 : Same H (upd G D0 (.lst ys)) := same_updN hD sm
    refine ⟨_, rfl, a, _, rfl, SqL.of (s1 _ _ ha), ?_⟩
    refine for_enum (K := K) (a := a) (xs := ns.map V.int) (fun i σ H' => (∃ u2 u3 u4, σ = [some (.ref a), some (.ref D0), u2, u3, u4]) ∧ ∃ zs, H' D0 = some (.lst zs) ∧ Same H (del H' D0) ∧ Paired (RowAt (del H' D0)) zs ((List.range ns.length).map (lessAt ns) ++ (List.range i).flatMap (nearAt ns)))
      ⟨⟨_, _, _, rfl⟩, ys, e1, by rw [d1]; exact sm, by rw [d1]; simpa using pr⟩ (fun i σ H' _ z => ?_) ?_ ?_
    · obtain ⟨_, zs, _, sm', _⟩ := z
      exact SqL.of (del_sub _ _ (sm' _ _ ha))
    · rintro i x σ H' T hx ⟨⟨u2, u3, u4, rfl⟩, zs, hv, sm', pr'⟩ hT
      obtain ⟨z, hz, rfl⟩ := int_at hx
      have hil : i < ns.length := (List.getElem?_eq_some_iff.mp hz).1
      have sT : Same H' (upd H' T (.tup [.int (i : Nat), .int z])) := same_new hT
      have hTT : (upd H' T (.tup [.int (i : Nat), .int z])) T = some (.tup [.int (i : Nat), .int z]) := upd_same
      generalize upd H' T (.tup [.int (i : Nat), .int z]) = H2 at sT hTT
      refine ⟨T, _, rfl, SqT.of hTT, rfl, _, _, rfl, _, _, rfl, rfl, ?_⟩
      have hv2 := sT _ _ hv
      have sd : Same H (del H2 D0) := sm'.trans (same_del sT)
      have prd : Paired (RowAt (del H2 D0)) zs ((List.range ns.length).map (lessAt ns) ++ (List.range i).flatMap (nearAt ns)) := paired_mono (fun _ _ q => q.same (same_del sT)) pr'
      have hzl : zs.length ≤ 160 := by
        have h1 := Paired.length prd
        rw [List.length_append, List.length_map, List.length_range] at h1
        have h2 := nearAt_le ns i
        omega
      have dn : (del H2 D0) D0 = none := del_same
      refine ⟨_, rfl, .inl ⟨rfl, _, SqL.of hv2⟩, D0, zs, hv2, ?_⟩
      generalize del H2 D0 = G2 at sd prd dn
      have haG := sd _ _ ha
      refine ⟨_, rfl, z, rfl, fun H3 l3 ⟨s3, n3, e3⟩ => ⟨l3, rfl, ⟨_, SqL.of e3⟩, fun D1 hD1 => ?_⟩⟩
      have ez : (ns[i]?).getD 0 = z := by rw [hz]; rfl
      have nl : (nearAt ns i).length = (Vametb.nearer z).length := by unfold nearAt; rw [List.length_map, ez]
      have n3l := near_le z
      refine lc_hl (a := l3) (xs := (Vametb.nearer z).map V.int) (ds := nearAt ns i) RowAt (fun _ _ _ _ s q => q.same s) (SqL.of e3) hD1 (by rw [nl, List.length_map]) (by rw [List.length_map]; omega) (fun _ => rfl) ?_ ?_
      · intro j y d G R hy hd smG k
        obtain ⟨m, hm, rfl⟩ := int_at hy
        have ed : ns.take i ++ [m] ++ ns.drop (i + 1) = d := by
          unfold nearAt at hd
          rw [ez, List.getElem?_map, hm] at hd
          exact Option.some.inj hd
        have haG' := smG _ _ (s3 _ _ haG)
        refine ⟨_, rfl, _, rfl, _, rfl, a, _, rfl, SqL.of haG', fun p1 h1 => ?_⟩
        rw [cl]
        have s1 := same_new (o := .lst ((ns.take i).map V.int)) h1
        have e1 : (upd G p1 (.lst ((ns.take i).map V.int))) p1 = some (.lst ((ns.take i).map V.int)) := upd_same
        generalize upd G p1 (.lst ((ns.take i).map V.int)) = G1 at s1 e1
        refine ⟨_, rfl, (by show 1 ≤ sizeLine; decide), fun p2 h2 => ?_⟩
        have s2 := same_new (o := .lst [.int m]) h2
        have e2 : (upd G1 p2 (.lst [.int m])) p2 = some (.lst [.int m]) := upd_same
        generalize upd G1 p2 (.lst [.int m]) = G2' at s2 e2
        refine ⟨p1, p2, _, _, rfl, rfl, s2 _ _ e1, e2, ?_, fun p3 h3 => ?_⟩
        · rw [List.length_map]
          have := tl i
          exact Nat.le_of_lt (short_line (by show _ + 1 ≤ _; omega))
        have s3' := same_new (o := .lst ((ns.take i).map V.int ++ [.int m])) h3
        have e3' : (upd G2' p3 (.lst ((ns.take i).map V.int ++ [.int m]))) p3 = some (.lst ((ns.take i).map V.int ++ [.int m])) := upd_same
        generalize upd G2' p3 (.lst ((ns.take i).map V.int ++ [.int m])) = G3' at s3' e3'
        have s13 := s1.trans (s2.trans s3')
        refine ⟨_, rfl, _, rfl, _, _, rfl, rfl, _, rfl, a, _, rfl, SqL.of (s13 _ _ haG'), fun p4 h4 => ?_⟩
        rw [cr]
        have s4 := same_new (o := .lst ((ns.drop (i + 1)).map V.int)) h4
        have e4 : (upd G3' p4 (.lst ((ns.drop (i + 1)).map V.int))) p4 = some (.lst ((ns.drop (i + 1)).map V.int)) := upd_same
        generalize upd G3' p4 (.lst ((ns.drop (i + 1)).map V.int)) = G4' at s4 e4
        refine ⟨p3, p4, _, _, rfl, rfl, s4 _ _ e3', e4, ?_, fun p5 h5 => k _ _ (s13.trans (s4.trans (same_new h5))) ⟨p5, rfl, ?_⟩⟩
        · rw [List.length_append, List.length_map, List.length_map]
          have := tl i
          have := dl (i + 1)
          exact Nat.le_of_lt (short_line (by show _ + 1 + _ ≤ _; omega))
        · rw [upd_same, ← ed]
          simp
      · intro G ws hG smG pr2 hp1
        have hDn : D1 ≠ D0 := fun q => by rw [q, upd_same] at hp1; cases hp1
        have sG3 : Same G2 (upd G D1 (.lst ws)) := s3.trans (same_updN hD1 smG)
        have e5 : (upd G D1 (.lst ws)) D1 = some (.lst ws) := upd_same
        have pr3 : Paired (RowAt (upd G D1 (.lst ws))) ws (nearAt ns i) := paired_mono (fun _ _ q => q.same (same_new hG)) pr2
        generalize upd G D1 (.lst ws) = H5 at hp1 sG3 e5 pr3
        have hwl : ws.length ≤ 3 := by
          have := Paired.length pr3
          omega
        refine ⟨D0, D1, _, _, rfl, rfl, upd_same, by rw [upd_ne hDn]; exact e5, Nat.le_of_lt (short_line (by omega)), ⟨_, _, _, rfl⟩, zs ++ ws, upd_same, ?_, ?_⟩
        · rw [upd_upd, del_upd hp1]
          exact sd.trans sG3
        · rw [upd_upd, del_upd hp1, List.range_succ, List.flatMap_append, ← List.append_assoc]
          have e6 : [i].flatMap (nearAt ns) = nearAt ns i := by simp
          rw [e6]
          exact paired_app (paired_mono (fun _ _ q => q.same sG3) prd) pr3
    · rintro σ H' ⟨⟨u2, u3, u4, rfl⟩, zs, hv, sm', pr'⟩
      rw [List.length_map, ← smaller_is] at pr'
      exact ⟨_, rfl, q _ _ (sm'.trans del_sub) ⟨D0, zs, rfl, hv, paired_mono (fun _ _ q => q.same del_sub) pr'⟩⟩
end
end Rh

end

-- part RhShrink
section
set_option Elab.async false
set_option linter.all false
set_option maxRecDepth 100000
set_option maxHeartbeats 2000000
namespace Rh
open PySem PySem.Spec PyProof.Rows L2
theorem smaller_fine {ns : List Int} (h : ns.length ≤ 40) : Fine (Vametb.smaller ns) := by
  refine ⟨fun x hx => ?_, ?_⟩
  · unfold Vametb.smaller at hx
    rcases List.mem_append.mp hx with hx | hx
    · obtain ⟨i, _, rfl⟩ := List.mem_map.mp hx
      have := List.length_eraseIdx_le ns i
      omega
    · obtain ⟨i, _, hx⟩ := List.mem_flatMap.mp hx
      obtain ⟨n, _, rfl⟩ := List.mem_map.mp hx
      rw [List.length_set]
      exact h
  · rw [smaller_is, List.length_append, List.length_map, List.length_range]
    have := nearAt_le ns ns.length
    omega
/-- a row stands at v, None where there is none -/
def FoundAt (H : Hp) (v : V) : Option (List Int) → Prop
  | none => v = .non
  | some y => RowAt H v y
section
variable {P : Program} {w : World} {K : PySem.W.Frag} {mg : Str → Option Value} {base : Heap} {C CN CO CT CB CR CS : Addr} {errs : List (Addr × Int)}
def spIsB (K : PySem.W.Frag) (CR : Addr) : Sp := fun vs H Q _ => ∃ v1 v2 p r a ns, vs = [v1, v2, .ref a] ∧ ProgAt H v1 p ∧ RelK K CR H v2 r ∧ H a = some (.lst (ns.map V.int)) ∧ ns.length ≤ 40 ∧ ∀ H', Same H H' → Q (.bl (Vametb.isVerdict p r .broken ns)) H'
theorem ok_is_broken (D : Df K mg "is_broken" s_is_broken) (g1 : ∃ t, mg "BROKEN" = some (.int 1 t)) (cj : Cal P w K mg base CX0 6 "judged" ["program", "relation", "row"] (spJudged K CR)) : Cal P w K mg base CX0 7 "is_broken" ["program", "relation", "row"] (spIsB K CR) := by
  refine D.ok (k := 6) sc_is_broken (fun vs H Q E h => by obtain ⟨v1, v2, p, r, a, ns, rfl, _⟩ := h; rfl) (fun _ _ _ _ _ _ => bind3 (fun _ _ _ => rfl) rfl) fun f cdv A outer s0 H vs Q E hr h => ?_
  obtain ⟨v1, v2, p, r, a, ns, rfl, hp, hR, ha, hl, q⟩ := h
  refine ⟨_, pss_one (ps_ret (pe_cmpR op_eq (pe_ix ix_tup (pe_callC cj hr rfl pass0 (pa_cons (pv 0) (pa_cons (pv 1) (pa_cons (pv 2) pa_nil)))) pe_int (fun _ _ => rfl)) (pe_gint rfl g1) (nomark _))), ?_⟩
  refine ⟨_, rfl, _, rfl, _, rfl, v1, v2, p, r, a, ns, rfl, hp, hR, ha, hl, fun H1 t w' s1 ht hw => ?_⟩
  refine ⟨t, _, _, _, rfl, rfl, SqT.of ht, atI_nat (j := 0) rfl, rfl, ?_⟩
  have e : decide (V.int (VametBase.verdictNumber (VametBase.verdict p r ns)) = V.int 1) = Vametb.isVerdict p r .broken ns := by
    unfold Vametb.isVerdict
    cases VametBase.verdict p r ns <;> decide
  rw [e]
  exact q _ s1
def spFirst (K : PySem.W.Frag) (CR : Addr) : Sp := fun vs H Q _ => ∃ v1 v2 v3 p r rs, vs = [v1, v2, v3] ∧ ProgAt H v1 p ∧ RelK K CR H v2 r ∧ RowsAt H v3 rs ∧ Fine rs ∧ ∀ H' v, Same H H' → FoundAt H' v (rs.find? (Vametb.isVerdict p r .broken)) → Q v H'
theorem ok_first_broken (D : Df K mg "first_broken" s_first_broken) (cb : Cal P w K mg base CX0 7 "is_broken" ["program", "relation", "row"] (spIsB K CR)) : Cal P w K mg base CX0 8 "first_broken" ["program", "relation", "rows"] (spFirst K CR) := by
  refine D.ok (k := 7) sc_first_broken (fun vs H Q E h => by obtain ⟨v1, v2, v3, p, r, rs, rfl, _⟩ := h; rfl) (fun _ _ _ _ _ _ => bind3 (fun _ _ _ => rfl) rfl) fun f cdv A outer s0 H vs Q E hr h => ?_
  obtain ⟨v1, v2, v3, p, r, rs, rfl, hp, hR, ⟨b, us, rfl, hb, pr⟩, ⟨f1, f2⟩, q⟩ := h
  refine ⟨_, pss_cons (ps_for PassesOwn.never rfl (pi_list (pv 2)) (pg_name (i := 3) sc_first_broken.nd rfl (Or.inl rfl)) (pss_one (ps_if (pt_val (pe_callC cb hr rfl pass0 (pa_cons (pv 0) (pa_cons (pv 1) (pa_cons (pv 3) pa_nil))))) (pss_one (ps_ret (pv 3))) pss_nil)))
    (pss_one (ps_ret pe_non)), ?_⟩
  have hl := Paired.length pr
  refine ⟨_, rfl, b, rfl, ⟨_, SqL.of hb⟩, ?_⟩
  refine for_list (K := K) (a := b) (xs := us) (fun i σ H' => (∃ u3, σ = [some v1, some v2, some (.ref b), u3]) ∧ Same H H' ∧ (rs.take i).find? (Vametb.isVerdict p r .broken) = none) ⟨⟨_, rfl⟩, Same.refl _, rfl⟩ (fun i σ H' _ z => SqL.of (z.2.1 _ _ hb)) ?_ ?_
  · rintro i x σ H' hx ⟨⟨u3, rfl⟩, sm, hf⟩
    obtain ⟨ns, hns, ⟨c, rfl, hc⟩, _⟩ := paired_get pr hx
    refine ⟨_, rfl, _, rfl, _, rfl, v1, v2, p, r, c, ns, rfl, hp.same sm, hR.same sm, sm _ _ hc, f1 _ (List.mem_of_getElem? hns), fun H2 s2 => ⟨_, rfl, ?_⟩⟩
    cases h : Vametb.isVerdict p r .broken ns with
    | true =>
      refine iteT ⟨_, rfl, q _ _ (sm.trans s2) ?_⟩
      rw [find_take hf hns h]
      exact ⟨c, rfl, s2 _ _ (sm _ _ hc)⟩
    | false => exact iteF ⟨⟨_, rfl⟩, sm.trans s2, find_take_snoc hf hns h⟩
  · rintro σ H' ⟨⟨u3, rfl⟩, sm, hf⟩
    rw [hl, List.take_length] at hf
    refine q _ _ sm ?_
    rw [hf]
    rfl
def spMade (K : PySem.W.Frag) (CR : Addr) : Sp := fun vs H Q _ => ∃ v1 v2 p r a ns, vs = [v1, v2, .ref a] ∧ ProgAt H v1 p ∧ RelK K CR H v2 r ∧ H a = some (.lst (ns.map V.int)) ∧ ns.length ≤ 40 ∧ ∀ H' b, Same H H' → H' b = some (.lst ((Vametb.shrunk p r 60 ns).map V.int)) → (Vametb.shrunk p r 60 ns).length ≤ 40 → Q (.ref b) H'
theorem shrunk_step (p : VametBase.Program) (r : VametBase.Relation) (n : Nat) (x : List Int) : Vametb.shrunk p r (n + 1) x = match (Vametb.smaller x).find? (Vametb.isVerdict p r .broken) with | none => x | some y => Vametb.shrunk p r n y := rfl
theorem ok_made_smaller (D : Df K mg "made_smaller" s_made_smaller) (hrng : mg "range" = none) (g60 : ∃ t, mg "MOST_TIMES" = some (.int 60 t)) (cf : Cal P w K mg base CX0 8 "first_broken" ["program", "relation", "rows"] (spFirst K CR)) (cs : Cal P w K mg base CX0 2 "smaller_rows" ["row"] spSmaller) :
    Cal P w K mg base CX0 9 "made_smaller" ["program", "relation", "row"] (spMade K CR) := by
  refine D.ok (k := 8) sc_made_smaller (fun vs H Q E h => by obtain ⟨v1, v2, p, r, a, ns, rfl, _⟩ := h; rfl) (fun _ _ _ _ _ _ => bind3 (fun _ _ _ => rfl) rfl) fun f cdv A outer s0 H vs Q E hr h => ?_
  obtain ⟨v1, v2, p, r, a, ns, rfl, hp, hR, ha, hl, q⟩ := h
  refine ⟨_, pss_cons (ps_for PassesOwn.never rfl (pi_range1 rfl hrng (pa_cons (pe_gint rfl g60) pa_nil)) (pg_name (i := 3) sc_made_smaller.nd rfl (Or.inl rfl))
      (pss_cons (ps_set (i := 4) sc_made_smaller.nd rfl (Or.inl rfl) (pe_callC cf hr rfl pass0 (pa_cons (pv 0) (pa_cons (pv 1) (pa_cons (pe_callC cs (hr.mono (by decide)) rfl pass0 (pa_cons (pv 2) pa_nil)) pa_nil)))))
      (pss_cons (ps_if (pt_cmp (pc_isN (pv 4))) (pss_one (ps_ret (pv 2))) pss_nil) (pss_one (ps_set (i := 2) sc_made_smaller.nd rfl (Or.inl rfl) (pv 4))))))
    (pss_one (ps_ret (pv 2))), ?_⟩
  refine ⟨_, rfl, by decide, by decide, ?_⟩
  refine for_range (lo := 0) (n := 60) (fun i σ H' => ∃ b ms u3 u4, σ = [some v1, some v2, some (.ref b), u3, u4] ∧ Same H H' ∧ H' b = some (.lst (ms.map V.int)) ∧ ms.length ≤ 40 ∧ i ≤ 60 ∧ Vametb.shrunk p r (60 - i) ms = Vametb.shrunk p r 60 ns) ⟨a, ns, _, _, rfl, Same.refl _, ha, hl, by omega, rfl⟩ ?_ ?_
  · rintro i σ H' hi ⟨b, ms, u3, u4, rfl, sm, hb, hm, _, he⟩
    have e60 : 60 - i = (60 - (i + 1)) + 1 := by omega
    rw [e60, shrunk_step] at he
    refine ⟨_, rfl, _, rfl, _, rfl, b, ms, rfl, hb, hm, fun H2 v2' s2 r2 => ?_⟩
    have s12 := sm.trans s2
    refine ⟨v1, v2, v2', p, r, _, rfl, hp.same s12, hR.same s12, r2, smaller_fine hm, fun H3 v3 s3 f3 => ?_⟩
    have s13 := s12.trans s3
    refine ⟨_, rfl, _, rfl, ?_⟩
    cases hfi : (Vametb.smaller ms).find? (Vametb.isVerdict p r .broken) with
    | none =>
      rw [hfi] at f3 he
      have f3 : v3 = .non := f3
      subst f3
      have he : ms = Vametb.shrunk p r 60 ns := he
      exact iteT ⟨_, rfl, q _ _ s13 (by rw [← he]; exact s3 _ _ (s2 _ _ hb)) (by rw [← he]; exact hm)⟩
    | some y =>
      rw [hfi] at f3 he
      obtain ⟨c, rfl, hc⟩ := f3
      have hy : y.length ≤ 40 := (smaller_fine hm).1 y (List.mem_of_find?_eq_some hfi)
      exact iteF ⟨_, rfl, c, y, _, _, rfl, s13, hc, hy, by omega, he⟩
  · rintro σ H' ⟨b, ms, u3, u4, rfl, sm, hb, hm, _, he⟩
    have he : ms = Vametb.shrunk p r 60 ns := he
    exact ⟨_, rfl, q _ _ sm (by rw [← he]; exact hb) (by rw [← he]; exact hm)⟩
theorem ok_ask_shrink (D : Df K mg "ask_shrink" s_ask_shrink) (T : ClsS K CS) (X : Exc K mg "NotBroken" CO) (hN : (CN, -1) ∈ errs) (hO : (CO, -4) ∈ errs) (cr : Cal P w K mg base (CXo P w) 3 "read_row" ["told"] (spWhole CN VametBase.readRow RowOk))
    (cb : Cal P w K mg base CX0 7 "is_broken" ["program", "relation", "row"] (spIsB K CR)) (cm : Cal P w K mg base CX0 9 "made_smaller" ["program", "relation", "row"] (spMade K CR)) (cc : Cal P w K mg base CX0 1 "counted" ["row"] spCounted) :
    Cal P w K mg base (CXo P w) 10 "ask_shrink" ["subject", "told"] (spAsk CS CR CB errs (fun _ => True) .shrink) := by
  refine D.okx (k := 9) sc_ask_shrink spAsk_len (fun _ _ _ _ _ _ => bind2 (fun _ _ => rfl) rfl) fun f cdv A outer s0 H vs Q E hr xs h => ?_
  obtain ⟨a, t, s, l, rfl, hS, ht, _, q1, q2⟩ := h
  have px := xs.passes rfl
  refine ⟨_, pss_cons (ps_set (i := 2) sc_ask_shrink.nd rfl (Or.inl rfl) (pe_callC cr (hr.mono (by decide)) rfl px (pa_cons (pv 1) pa_nil)))
    (pss_cons (ps_if (pt_not (pt_val (pe_callC cb (hr.mono (by decide)) rfl pass0 (pa_cons (pe_fld (pv 0) rfl) (pa_cons (pe_fld (pv 0) rfl) (pa_cons (pv 2) pa_nil)))))) (pss_one (ps_raise0 rfl rfl xs rfl X.at_ X.ex PySem.F.excBase_Exception)) pss_nil)
    (pss_one (ps_ret (pe_callC cc (hr.mono (by decide)) rfl pass0 (pa_cons (pe_callC cm hr rfl pass0 (pa_cons (pe_fld (pv 0) rfl) (pa_cons (pe_fld (pv 0) rfl) (pa_cons (pv 2) pa_nil)))) pa_nil))))), ?_⟩
  have st : Vametb.step s (.shrink l) = (match VametBase.whole VametBase.readRow l with | none => (s, [-1]) | some x => if !Vametb.isVerdict s.program s.relation .broken x then (s, [-4]) else (s, VametBase.listedInts (Vametb.shrunk s.program s.relation 60 x))) := rfl
  refine ⟨_, rfl, t, l, rfl, ht, fun x hw H1 v s1 hv => ?_, fun hw H1 s1 => q2 CN (-1) hN (by rw [st, hw]) H1 s1⟩
  rw [hw] at st
  have st : Vametb.step s (.shrink l) = if !Vametb.isVerdict s.program s.relation .broken x then (s, [-4]) else (s, VametBase.listedInts (Vametb.shrunk s.program s.relation 60 x)) := st
  obtain ⟨⟨b, rfl, hb⟩, hlx⟩ := hv
  obtain ⟨dx, vp, vr, vb, ha, hp, hR, hB⟩ := hS.same s1
  refine ⟨_, rfl, a, CS, dx, _, _, rfl, ha, T.cl, T.n1, rfl, _, rfl, a, CS, dx, _, _, rfl, ha, T.cl, T.n2, rfl, _, rfl, vp, vr, s.program, s.relation, b, x, rfl, hp, hR.k, hb, by omega, fun H2 s2 => ⟨_, rfl, ?_⟩⟩
  have s12 := s1.trans s2
  cases hbr : Vametb.isVerdict s.program s.relation .broken x with
  | false =>
    rw [hbr] at st
    exact iteT (q2 CO (-4) hO st H2 s12)
  | true =>
    rw [hbr] at st
    have st : Vametb.step s (.shrink l) = (s, VametBase.listedInts (Vametb.shrunk s.program s.relation 60 x)) := st
    rw [st] at q1
    refine iteF ?_
    refine ⟨_, rfl, a, CS, dx, _, _, rfl, s2 _ _ ha, T.cl, T.n1, rfl, _, rfl, a, CS, dx, _, _, rfl, s2 _ _ ha, T.cl, T.n2, rfl, _, rfl, vp, vr, s.program, s.relation, b, x, rfl, hp.same s2, (hR.same s2).k, s2 _ _ hb, by omega, fun H3 c s3 hc3 hl3 => ?_⟩
    have s13 := s12.trans s3
    refine ⟨c, _, rfl, hc3, by omega, fun H4 p4 ⟨s4, n4, e4⟩ => ?_⟩
    exact q1 _ _ (SameX.of (s13.trans s4)) (hS.same (s13.trans s4)) (none_back s13 n4) e4
end
end Rh

end

-- part RhAns
section
set_option Elab.async false
set_option linter.all false
set_option maxRecDepth 100000
set_option maxHeartbeats 2000000
namespace Rh
open PySem PySem.Spec PyProof.Rows L2
/-- the call of a computed def, its errors wished -/
def tCallX (P : Program) (w : World) (K : PySem.W.Frag) (mg : Str → Option Value) (base : Heap) (A : Around) (CX : CXT) (E : XK) (tf : TE) (t : TA) : TE := fun σ H Q => tf σ H fun v H1 => ∃ (f : Addr) (fd : FuncData) (ps : List Str) (sp : Sp) (k : Nat), v = .ref f ∧ FnOk P w K mg base CX k f fd ps sp ∧ Room k A ∧ PySem.W.keepIn K (.ref f) = true ∧ Binds K fd ps [] ∧
  t σ H1 fun vs H2 => sp vs H2 Q E
section
variable {X : Cx} {CX : CXT} {E : XK}
theorem pe_callX {fe e : Expr} {es : List Expr} {pos : Pos} {tf : TE} {t : TA} (hx : Passes CX X E) (hf : PE X fe tf) (ha : PA X (e :: es) t) (he : starEach (e :: es) X.env = (false, eval e X.env) :: starEach es X.env := by rfl) (hpl : (backTo pos (starEach es X.env)).any (·.1) = false := by rfl)
    (hev : eval (.Call fe (e :: es) [] pos) X.env = (do callWith pos (← eval fe X.env) [] (backTo pos (starEach (e :: es) X.env)) (backToKw pos (keywordEach [] X.env))) := by rfl) : PE X (.Call fe (e :: es) [] pos) (tCallX X.prog X.w X.K X.mg X.base X.A CX E tf t) := by
  intro pins s σ H Q I h
  refine Call_ (thn (hf pins s σ H _ I h) fun u s1 ⟨v, H1, I1, rv, f, fd, ps, sp, k, ev, F, hr, hk, hb, q⟩ => ?_) hev
  subst ev
  obtain rfl : u = Value.ref f := rv
  refine PySem.W.callWith_K (h₀ := X.base) I.ok.mod.kin hk (thn (ha pos pins s1 σ H1 _ I1 q) fun us s2 ⟨vs, H2, I2, r, q2⟩ => ⟨I2.kIn, ?_⟩) he hpl
  exact run_fn F hr hb .nil hx I2 r (by rw [List.append_nil]; exact q2)
end
/-- errors of own classes part from each other -/
def Parts (K : PySem.W.Frag) (Cs : List Addr) : Prop := ∀ C ∈ Cs, ∀ C0 ∈ Cs, PySem.W.exmOne K (.ref C) (.ref C0) = some (decide (C = C0))
/-- every call of the document has its def -/
def Asks (P : Program) (w : World) (K : PySem.W.Frag) (mg : Str → Option Value) (base : Heap) (CS CR CB : Addr) (errs : List (Addr × Int)) (tab : List (Int × Str)) (n : Nat) (Called : Int → List Int → Vametb.Call → Prop) : Prop :=
  ∀ c l k, Called c l k → ∃ (x : Str) (ps : List Str) (kk : Nat) (pre : List Int → Prop) (F : List Int → Vametb.Call), kk ≤ n ∧ (tab.find? fun p => p.1 == c).map (·.2) = some x ∧ Cal P w K mg base (CXo P w) kk x ps (spAsk CS CR CB errs pre F) ∧ pre l ∧ F l = k
def tNeg (z : Int) : TS := tRet (tLst (tCons (tUn (rU fun i => .int (-i)) (tC (.int z))) tNil))
def thA (CN CO CK CT : Addr) : Addr → TS := fun C D σ H => if C = CN then tNeg 1 D σ H else if C = CO then tNeg 2 D σ H else if C = CK then tNeg 4 D σ H else if C = CT then tNeg 7 D σ H else False
section
variable {P : Program} {w : World} {K : PySem.W.Frag} {mg : Str → Option Value} {base : Heap} {C CN CO CK CT CB CR CS : Addr} {tab : List (Int × Str)} {n : Nat} {Called : Int → List Int → Vametb.Call → Prop}
def spAnswer (CS CR CB : Addr) (Called : Int → List Int → Vametb.Call → Prop) : Sp := fun vs H Q _ => ∃ a c t s l k, vs = [.ref a, .int c, .ref t] ∧ SubAt CS CR CB H a s ∧ H t = some (.lst (l.map V.int)) ∧ Called c l k ∧
  ∀ H' p, SameX a H H' → SubAt CS CR CB H' a (Vametb.step s k).1 → H p = none → H' p = some (.lst ((Vametb.step s k).2.map V.int)) → Q (.ref p) H'
theorem ok_answer (D : Df K mg "answer" s_answer) (XN : Exc K mg "NotWhole" CN) (XO : Exc K mg "NoSuch" CO) (XK : Exc K mg "NotBroken" CK) (XT : Exc K mg "TooMany" CT) (dj : Parts K [CN, CO, CK, CT]) (n1 : CO ≠ CN) (n2 : CK ≠ CN) (n3 : CT ≠ CN) (n4 : CK ≠ CO) (n5 : CT ≠ CO) (n6 : CT ≠ CK) (tC : FTab K mg "CALLS" tab) (as : Asks P w K mg base CS CR CB [(CN, -1), (CO, -2), (CK, -4), (CT, -7)] tab n Called) :
    Cal P w K mg base CX0 (n + 1) "answer" ["subject", "call", "told"] (spAnswer CS CR CB Called) := by
  obtain ⟨aC, lC, mC, dC, pC⟩ := tC
  refine D.ok (k := n) sc_answer (fun vs H Q E h => by obtain ⟨a, c, t, s, l, k, rfl, _⟩ := h; rfl) (fun _ _ _ _ _ _ => bind3 (fun _ _ _ => rfl) rfl) fun f cdv A outer s0 H vs Q E hr h => ?_
  obtain ⟨a, c, t, s, l, k, rfl, hS, ht, hc, q⟩ := h
  refine ⟨_, pss_one (ps_try (Cs := [CN, CO, CK, CT]) (th := thA CN CO CK CT) (tb := fun D => tRet (tCallX P w K mg base (A.deeper (envOfC "answer" (defScope s_answer) s0.heap.objs.size f cdv)) (CXo P w) (EH [CN, CO, CK, CT] (thA CN CO CK CT) D) (tKGet (L2.tC (.ref aC)) (tVar 1) lC aC) (tCons (tVar 0) (tCons (tVar 2) tNil)))) rfl rfl rfl (fun D pn E' xs => by exact pss_one (ps_ret (pe_callX (xs.passes rfl) (pe_kget dC (pe_gref rfl mC) (pv 1) (fun _ _ => rfl)) (pa_cons (pv 0) (pa_cons (pv 2) pa_nil)))))
    (ph_cons rfl XN.at_ (fun C h => dj C h CN (by simp)) (fun ea => pss_one (ps_ret (pe_lst (pa_cons (pe_un un_neg pe_int) pa_nil))))
    (ph_cons rfl XO.at_ (fun C h => dj C h CO (by simp)) (fun ea => pss_one (ps_ret (pe_lst (pa_cons (pe_un un_neg pe_int) pa_nil))))
    (ph_cons rfl XK.at_ (fun C h => dj C h CK (by simp)) (fun ea => pss_one (ps_ret (pe_lst (pa_cons (pe_un un_neg pe_int) pa_nil))))
    (ph_cons rfl XT.at_ (fun C h => dj C h CT (by simp)) (fun ea => pss_one (ps_ret (pe_lst (pa_cons (pe_un un_neg pe_int) pa_nil)))) ph_nil))))), ?_⟩
  obtain ⟨x, ps, kk, pre, F, hk, hx, cal, hpre, hF⟩ := as c l k hc
  obtain ⟨_, gC⟩ := ftab_find (i := c) pC
  obtain ⟨f1, m1, e1⟩ := gC x hx
  obtain ⟨f', fd, FO, hm', hkp, hb⟩ := cal.ex
  have e : f1 = f' := by rw [m1] at hm'; cases hm'; rfl
  subst e
  subst hF
  refine ⟨_, rfl, _, _, rfl, rfl, e1, f1, fd, ps, _, kk, rfl, FO, hr.mono hk, hkp, hb, _, rfl, _, rfl, a, t, s, l, rfl, hS, ht, hpre, q, ?_⟩
  intro C z hz hst H' sm
  have ans : ∀ z, Vametb.step s (F l) = (s, [z]) → 1 ≤ sizeLine ∧ ∀ p, H' p = none → Q (.ref p) (upd H' p (.lst [.int z])) := fun z hz => ⟨by decide, fun p hp => q _ p (SameX.of (sm.trans (same_new hp))) (by rw [hz]; exact hS.same (sm.trans (same_new hp))) (none_back sm hp) (by rw [upd_same, hz]; rfl)⟩
  simp only [List.mem_cons, List.not_mem_nil, or_false, Prod.mk.injEq] at hz
  rcases hz with ⟨rfl, rfl⟩ | ⟨rfl, rfl⟩ | ⟨rfl, rfl⟩ | ⟨rfl, rfl⟩
  · refine ⟨C, rfl, by simp, fun σ => ?_⟩
    exact (if_pos rfl).mpr ⟨_, rfl, ans _ hst⟩
  · refine ⟨C, rfl, by simp, fun σ => ?_⟩
    show (if C = CN then _ else _)
    rw [if_neg n1, if_pos rfl]
    exact ⟨_, rfl, ans _ hst⟩
  · refine ⟨C, rfl, by simp, fun σ => ?_⟩
    show (if C = CN then _ else _)
    rw [if_neg n2, if_neg n4, if_pos rfl]
    exact ⟨_, rfl, ans _ hst⟩
  · refine ⟨C, rfl, by simp, fun σ => ?_⟩
    show (if C = CN then _ else _)
    rw [if_neg n3, if_neg n5, if_neg n6, if_pos rfl]
    exact ⟨_, rfl, ans _ hst⟩
end
end Rh

end

-- part RhAns2
section
set_option Elab.async false
set_option linter.all false
set_option maxRecDepth 100000
set_option maxHeartbeats 2000000
namespace Rh
open PySem PySem.Spec PyProof.Rows L2
/-- a tuple of numbers at the top -/
def ITab (K : PySem.W.Frag) (mg : Str → Option Value) (x : Str) (ns : List Int) : Prop := ∃ a, mg x = some (.ref a) ∧ ∀ H, SqT K H a (ns.map V.int)
/-- where what is handed over begins and ends -/
def SpanOf (L N : List Int) (l : List Int) (i : Nat) (e1 e2 : Int) : Prop := ∃ p, l[i]? = some p ∧
  ((L.contains p = true ∧ ∃ n, l[i + 1]? = some n ∧ e1 = (i : Int) + 2 ∧ e2 = (i : Int) + 2 + n) ∨ (L.contains p = false ∧ N.contains p = true ∧ e1 = (i : Int) + 1 ∧ e2 = (i : Int) + 2) ∨ (L.contains p = false ∧ N.contains p = false ∧ e1 = (i : Int) + 1 ∧ e2 = (i : Int) + 1))
section
variable {P : Program} {w : World} {K : PySem.W.Frag} {mg : Str → Option Value} {base : Heap} {C CN CO CT CB CR CS : Addr} {tab : List (Int × Str)} {n : Nat} {Called : Int → List Int → Vametb.Call → Prop} {L N : List Int}
def spSpan (K : PySem.W.Frag) (L N : List Int) : Sp := fun vs H Q _ => ∃ c l, ∃ i : Nat, ∃ e1 e2, vs = [.ref c, .int i] ∧ SqL K H c (l.map V.int) ∧ SpanOf L N l i e1 e2 ∧ ∀ H' t, Same H H' → H' t = some (.tup [.int e1, .int e2]) → Q (.ref t) H'
theorem ok_span (D : Df K mg "span_told" s_span_told) (tL : ITab K mg "CALLS_WITH_LIST" L) (tN : ITab K mg "CALLS_WITH_NUMBER" N) : Cal P w K mg base CX0 1 "span_told" ["calls", "place"] (spSpan K L N) := by
  obtain ⟨aL, mL, hL⟩ := tL
  obtain ⟨aN, mN, hN⟩ := tN
  refine D.ok (k := 0) sc_span_told (fun vs H Q E h => by obtain ⟨c, l, i, e1, e2, rfl, _⟩ := h; rfl) (fun _ _ _ _ _ _ => bind2 (fun _ _ => rfl) rfl) fun f cdv A outer s0 H vs Q E hr h => ?_
  obtain ⟨c, l, i, e1, e2, rfl, hc, ⟨p, hp, hs⟩, q⟩ := h
  refine ⟨_, pss_cons (ps_if (pt_cmpR op_in_seq (pe_ix ix_list (pv 0) (pv 1) (fun _ _ => rfl)) (pe_gref rfl mL) (by rfl))
      (pss_one (ps_ret (pe_tup (pa_cons (pe_op op_add (pv 1) pe_int) (pa_cons (pe_op op_add (pe_op op_add (pv 1) pe_int) (pe_ix ix_list (pv 0) (pe_op op_add (pv 1) pe_int) (fun _ _ => rfl))) pa_nil))))) pss_nil)
    (pss_cons (ps_if (pt_cmpR op_in_seq (pe_ix ix_list (pv 0) (pv 1) (fun _ _ => rfl)) (pe_gref rfl mN) (by rfl))
      (pss_one (ps_ret (pe_tup (pa_cons (pe_op op_add (pv 1) pe_int) (pa_cons (pe_op op_add (pv 1) pe_int) pa_nil))))) pss_nil)
    (pss_one (ps_ret (pe_tup (pa_cons (pe_op op_add (pv 1) pe_int) (pa_cons (pe_op op_add (pv 1) pe_int) pa_nil)))))), ?_⟩
  have hat : atI (l.map V.int) (i : Int) = some (.int p) := atI_nat (by rw [List.getElem?_map, hp]; rfl)
  refine ⟨_, rfl, _, rfl, c, _, _, _, rfl, rfl, hc, hat, aL, _, rfl, .inr (hL H), rfl, flat_ints _, _, rfl, ?_⟩
  rw [inV_ints]
  rcases hs with ⟨h1, n, hn, rfl, rfl⟩ | ⟨h1, h2, rfl, rfl⟩ | ⟨h1, h2, rfl, rfl⟩
  · rw [h1]
    refine iteT ?_
    have hat2 : atI (l.map V.int) ((i : Int) + 1) = some (.int n) := atI_nat (j := i + 1) (by rw [List.getElem?_map, hn]; rfl)
    refine ⟨_, rfl, _, _, rfl, rfl, ?_⟩
    refine ⟨_, rfl, _, _, rfl, rfl, _, rfl, _, rfl, _, _, rfl, rfl, c, _, _, _, rfl, rfl, hc, hat2, _, _, rfl, rfl, (by show 2 ≤ sizeLine; decide), fun t ht => q _ _ (same_new ht) upd_same⟩
  · rw [h1]
    refine iteF ?_
    refine ⟨_, rfl, _, rfl, c, _, _, _, rfl, rfl, hc, hat, aN, _, rfl, .inr (hN H), rfl, flat_ints _, _, rfl, ?_⟩
    rw [inV_ints, h2]
    refine iteT ⟨_, rfl, _, _, rfl, rfl, _, rfl, _, _, rfl, rfl, (by show 2 ≤ sizeLine; decide), fun t ht => q _ _ (same_new ht) upd_same⟩
  · rw [h1]
    refine iteF ?_
    refine ⟨_, rfl, _, rfl, c, _, _, _, rfl, rfl, hc, hat, aN, _, rfl, .inr (hN H), rfl, flat_ints _, _, rfl, ?_⟩
    rw [inV_ints, h2]
    refine iteF ⟨_, rfl, _, _, rfl, rfl, _, rfl, _, _, rfl, rfl, (by show 2 ≤ sizeLine; decide), fun t ht => q _ _ (same_new ht) upd_same⟩
end
end Rh

end

-- part RhFlat
section
set_option Elab.async false
set_option linter.all false
set_option maxRecDepth 100000
set_option maxHeartbeats 2000000
namespace Rh
/-- which list is handed over with which call -/
inductive Called : Int → List Int → Vametb.Call → Prop
  | program (l) : Called 0 l (.program l)
  | relation (l) : Called 1 l (.relation l)
  | bound (l) : Called 2 l (.bound l)
  | input (k) : Called 3 [k] (.input k)
  | look (l) : Called 4 l (.look l)
  | held : Called 5 [] .held
  | breaking (n) : Called 6 [n] (.breaking n)
  | stand : Called 7 [] .stand
  | conds : Called 8 [] .conds
  | cut : Called 9 [] .cut
  | slack : Called 10 [] .slack
  | shrink (l) : Called 11 l (.shrink l)
  | against (l) : Called 12 l (.against l)
abbrev withList : List Int := [0, 1, 2, 4, 11, 12]
abbrev withNum : List Int := [3, 6]
theorem row_some {r x t : List Int} (h : PyFlat.row r = some (x, t)) : ∃ n : Nat, ∃ r2, r = (n : Int) :: r2 ∧ n ≤ r2.length ∧ x = r2.take n ∧ t = r2.drop n := by
  cases r with
  | nil => cases h
  | cons n r2 =>
    unfold PyFlat.row at h
    dsimp only at h
    split at h
    · rename_i hc
      injection h with h
      injection h with h1 h2
      exact ⟨n.toNat, r2, by rw [Int.toNat_of_nonneg hc.1], hc.2, h1.symm, h2.symm⟩
    · cases h
theorem rows1 {r t : List Int} {xs : List (List Int)} (h : PyFlat.rows 1 r = some (xs, t)) : ∃ x, xs = [x] ∧ PyFlat.row r = some (x, t) := by
  unfold PyFlat.rows at h
  cases hr : PyFlat.row r with
  | none => rw [hr] at h; cases h
  | some u =>
    obtain ⟨x, s⟩ := u
    rw [hr] at h
    cases h
    exact ⟨x, rfl, rfl⟩
/-- a call with one list -/
theorem call_list {p : Int} {r t : List Int} {c : List (List Int)} (hs : PyVametb.shape p = some (0, 1)) (h : PyFlat.call PyVametb.shape (p :: r) = some (c, t)) : ∃ n : Nat, ∃ r2, r = (n : Int) :: r2 ∧ n ≤ r2.length ∧ c = [[p], r2.take n] ∧ t = r2.drop n := by
  unfold PyFlat.call at h
  dsimp only at h
  rw [hs] at h
  simp only [Nat.not_lt_zero, if_false, List.drop_zero, List.take_zero] at h
  cases hr : PyFlat.rows 1 r with
  | none => rw [hr] at h; cases h
  | some u =>
    obtain ⟨xs, t'⟩ := u
    rw [hr] at h
    cases h
    obtain ⟨x, rfl, hx⟩ := rows1 hr
    obtain ⟨n, r2, e1, e2, e3, e4⟩ := row_some hx
    exact ⟨n, r2, e1, e2, by rw [e3], e4⟩
theorem call_num {p : Int} {r t : List Int} {c : List (List Int)} (hs : PyVametb.shape p = some (1, 0)) (h : PyFlat.call PyVametb.shape (p :: r) = some (c, t)) : ∃ z r2, r = z :: r2 ∧ c = [[p, z]] ∧ t = r2 := by
  unfold PyFlat.call at h
  dsimp only at h
  rw [hs] at h
  cases r with
  | nil => cases h
  | cons z r2 =>
    simp only [List.length_cons] at h
    rw [if_neg (by omega)] at h
    cases h
    exact ⟨z, r2, rfl, rfl, rfl⟩
theorem call_none {p : Int} {r t : List Int} {c : List (List Int)} (hs : PyVametb.shape p = some (0, 0)) (h : PyFlat.call PyVametb.shape (p :: r) = some (c, t)) : c = [[p]] ∧ t = r := by
  unfold PyFlat.call at h
  dsimp only at h
  rw [hs] at h
  simp only [Nat.not_lt_zero, if_false, List.drop_zero, List.take_zero] at h
  cases h
  exact ⟨rfl, rfl⟩
theorem shape_in {p : Int} {u : Nat × Nat} (h : PyVametb.shape p = some u) : p = 0 ∨ p = 1 ∨ p = 2 ∨ p = 3 ∨ p = 4 ∨ p = 5 ∨ p = 6 ∨ p = 7 ∨ p = 8 ∨ p = 9 ∨ p = 10 ∨ p = 11 ∨ p = 12 := by
  by_cases h0 : p = 0 ∨ p = 1 ∨ p = 2 ∨ p = 3 ∨ p = 4 ∨ p = 5 ∨ p = 6 ∨ p = 7 ∨ p = 8 ∨ p = 9 ∨ p = 10 ∨ p = 11 ∨ p = 12
  · exact h0
  · unfold PyVametb.shape at h
    simp only [not_or] at h0
    obtain ⟨a0, a1, a2, a3, a4, a5, a6, a7, a8, a9, a10, a11, a12⟩ := h0
    rw [if_neg a0, if_neg a1, if_neg a2, if_neg a3, if_neg a4, if_neg a5, if_neg a6, if_neg a7, if_neg a8, if_neg a9, if_neg a10, if_neg a11, if_neg a12] at h
    cases h
/-- what a turn of the loop needs of a call -/
structure TurnOf (l : List Int) (i : Nat) (c : List (List Int)) (t : List Int) : Prop where
  ex : ∃ (p : Int) (e1 e2 : Nat) (k : Vametb.Call), l[i]? = some p ∧ i < e1 ∧ e1 ≤ e2 ∧ e2 ≤ l.length ∧ SpanOf withList withNum l i e1 e2 ∧ t = l.drop e2 ∧ Called p ((l.drop e1).take (e2 - e1)) k ∧ VametbNeutral.callOf (PyVametb.whole c) = some k
theorem drop_at {l r : List Int} {i : Nat} {p : Int} (h : l.drop i = p :: r) : i < l.length ∧ l[i]? = some p ∧ l.drop (i + 1) = r := by
  have hi : i < l.length := by
    rcases Nat.lt_or_ge i l.length with z | z
    · exact z
    · rw [List.drop_eq_nil_of_le z] at h; cases h
  rw [List.drop_eq_getElem_cons hi] at h
  injection h with h1 h2
  exact ⟨hi, by rw [List.getElem?_eq_getElem hi, h1], h2⟩
theorem turn_list {l r t : List Int} {i : Nat} {p : Int} {c : List (List Int)} {k : List Int → Vametb.Call} (hd : l.drop i = p :: r) (hs : PyVametb.shape p = some (0, 1)) (hL : withList.contains p = true) (h : PyFlat.call PyVametb.shape (p :: r) = some (c, t))
    (hk : ∀ x, Called p x (k x) ∧ VametbNeutral.callOf (PyVametb.whole [[p], x]) = some (k x)) : TurnOf l i c t := by
  obtain ⟨n, r2, rfl, hn, rfl, rfl⟩ := call_list hs h
  obtain ⟨hi, hp, hd1⟩ := drop_at hd
  obtain ⟨hi1, hp1, hd2⟩ := drop_at hd1
  have hlen : l.length = i + 2 + r2.length := by
    have := congrArg List.length hd2
    rw [List.length_drop] at this
    omega
  refine ⟨p, i + 2, i + 2 + n, k (r2.take n), hp, by omega, by omega, by omega, ⟨p, hp, .inl ⟨hL, n, hp1, by omega, by omega⟩⟩, ?_, ?_, (hk _).2⟩
  · rw [← List.drop_drop, show l.drop (i + 2) = r2 from hd2]
  · rw [show l.drop (i + 2) = r2 from hd2, show i + 2 + n - (i + 2) = n by omega]
    exact (hk _).1
theorem turn_num {l r t : List Int} {i : Nat} {p : Int} {c : List (List Int)} {k : Int → Vametb.Call} (hd : l.drop i = p :: r) (hs : PyVametb.shape p = some (1, 0)) (hL : withList.contains p = false) (hN : withNum.contains p = true) (h : PyFlat.call PyVametb.shape (p :: r) = some (c, t))
    (hk : ∀ x, Called p [x] (k x) ∧ VametbNeutral.callOf (PyVametb.whole [[p, x]]) = some (k x)) : TurnOf l i c t := by
  obtain ⟨z, r2, rfl, rfl, rfl⟩ := call_num hs h
  obtain ⟨hi, hp, hd1⟩ := drop_at hd
  obtain ⟨hi1, hp1, hd2⟩ := drop_at hd1
  refine ⟨p, i + 1, i + 2, k z, hp, by omega, by omega, by omega, ⟨p, hp, .inr (.inl ⟨hL, hN, by omega, by omega⟩)⟩, hd2.symm, ?_, (hk _).2⟩
  rw [hd1, show i + 2 - (i + 1) = 1 by omega]
  exact (hk _).1
theorem turn_none {l r t : List Int} {i : Nat} {p : Int} {c : List (List Int)} {k : Vametb.Call} (hd : l.drop i = p :: r) (hs : PyVametb.shape p = some (0, 0)) (hL : withList.contains p = false) (hN : withNum.contains p = false) (h : PyFlat.call PyVametb.shape (p :: r) = some (c, t))
    (hk : Called p [] k ∧ VametbNeutral.callOf (PyVametb.whole [[p]]) = some k) : TurnOf l i c t := by
  obtain ⟨rfl, rfl⟩ := call_none hs h
  obtain ⟨hi, hp, hd1⟩ := drop_at hd
  refine ⟨p, i + 1, i + 1, k, hp, by omega, by omega, by omega, ⟨p, hp, .inr (.inr ⟨hL, hN, by omega, by omega⟩)⟩, hd1.symm, ?_, hk.2⟩
  rw [show i + 1 - (i + 1) = 0 by omega]
  exact hk.1
theorem turn_of {l r t : List Int} {i : Nat} {p : Int} {c : List (List Int)} (hd : l.drop i = p :: r) (h : PyFlat.call PyVametb.shape (p :: r) = some (c, t)) : TurnOf l i c t := by
  cases hs : PyVametb.shape p with
  | none =>
    unfold PyFlat.call at h
    dsimp only at h
    rw [hs] at h
    cases h
  | some u =>
    rcases shape_in hs with rfl | rfl | rfl | rfl | rfl | rfl | rfl | rfl | rfl | rfl | rfl | rfl | rfl
    · exact turn_list hd rfl rfl h fun x => ⟨.program x, rfl⟩
    · exact turn_list hd rfl rfl h fun x => ⟨.relation x, rfl⟩
    · exact turn_list hd rfl rfl h fun x => ⟨.bound x, rfl⟩
    · exact turn_num hd rfl rfl rfl h fun x => ⟨.input x, rfl⟩
    · exact turn_list hd rfl rfl h fun x => ⟨.look x, rfl⟩
    · exact turn_none hd rfl rfl rfl h ⟨.held, rfl⟩
    · exact turn_num hd rfl rfl rfl h fun x => ⟨.breaking x, rfl⟩
    · exact turn_none hd rfl rfl rfl h ⟨.stand, rfl⟩
    · exact turn_none hd rfl rfl rfl h ⟨.conds, rfl⟩
    · exact turn_none hd rfl rfl rfl h ⟨.cut, rfl⟩
    · exact turn_none hd rfl rfl rfl h ⟨.slack, rfl⟩
    · exact turn_list hd rfl rfl h fun x => ⟨.shrink x, rfl⟩
    · exact turn_list hd rfl rfl h fun x => ⟨.against x, rfl⟩
/-- one call off the list -/
theorem calls_cons {l : List Int} {i f : Nat} {raw : List (List (List Int))} (hi : i < l.length) (h : PyFlat.calls PyVametb.shape f (l.drop i) = some raw) :
    ∃ c raw' f' t, raw = c :: raw' ∧ TurnOf l i c t ∧ PyFlat.calls PyVametb.shape f' t = some raw' := by
  have hd := List.drop_eq_getElem_cons hi
  rw [hd] at h
  cases f with
  | zero => cases h
  | succ f =>
    unfold PyFlat.calls at h
    cases hc : PyFlat.call PyVametb.shape (l[i] :: l.drop (i + 1)) with
    | none => rw [hc] at h; cases h
    | some u =>
      obtain ⟨c, t⟩ := u
      rw [hc] at h
      dsimp only at h
      cases hr : PyFlat.calls PyVametb.shape f t with
      | none => rw [hr] at h; cases h
      | some cs =>
        rw [hr] at h
        cases h
        exact ⟨c, cs, f, t, rfl, turn_of hd hc, hr⟩
theorem calls_end {l : List Int} {i f : Nat} {raw : List (List (List Int))} (hi : l.length ≤ i) (h : PyFlat.calls PyVametb.shape f (l.drop i) = some raw) : raw = [] := by
  rw [List.drop_eq_nil_of_le hi] at h
  cases f with
  | zero => cases h; rfl
  | succ f => cases h; rfl
/-- the answers of the rest -/
def restOf (s : Vametb.State) (raw : List (List (List Int))) : List Int := PyFlat.told (PyFlat.played VametbNeutral.step s (raw.map PyVametb.whole))
theorem rest_nil (s : Vametb.State) : restOf s [] = [] := rfl
theorem rest_cons {s : Vametb.State} {c : List (List Int)} {raw : List (List (List Int))} {k : Vametb.Call} (h : VametbNeutral.callOf (PyVametb.whole c) = some k) :
    restOf s (c :: raw) = VametBase.listedInts (Vametb.step s k).2 ++ restOf (Vametb.step s k).1 raw := by
  have e : VametbNeutral.step s (PyVametb.whole c) = Vametb.step s k := by
    unfold VametbNeutral.step
    rw [h]
  unfold restOf
  rw [List.map_cons]
  show PyFlat.told ((VametbNeutral.step s (PyVametb.whole c)).2 :: PyFlat.played VametbNeutral.step (VametbNeutral.step s (PyVametb.whole c)).1 (raw.map PyVametb.whole)) = _
  rw [e]
  rfl
theorem answers_rest {l : List Int} {raw : List (List (List Int))} (h : PyFlat.calls PyVametb.shape l.length l = some raw) : PyVametb.answers l = restOf Vametb.start raw := by
  unfold PyVametb.answers PyVametb.calls
  rw [h]
  rfl
end Rh

end

-- part RhMain
section
set_option Elab.async false
set_option linter.all false
set_option maxRecDepth 100000
set_option maxHeartbeats 2000000
namespace Rh
open PySem PySem.Spec PyProof.Rows L2
theorem cut_both {xs : List V} {i j : Nat} (h : i ≤ j) (hj : j ≤ xs.length) : cutV xs (some (i : Int)) (some (j : Int)) = (xs.drop i).take (j - i) := by
  unfold cutV
  rw [HT.sIx_nat, HT.sIx_nat, Nat.min_eq_left (Nat.le_trans h hj), Nat.min_eq_left hj]
section
variable {P : Program} {w : World} {K : PySem.W.Frag} {mg : Str → Option Value} {base : Heap} {C CN CO CT CB CR CS : Addr} {n : Nat}
def spAnswers (K : PySem.W.Frag) : Sp := fun vs H Q _ => ∃ c l raw, vs = [.ref c] ∧ SqL K H c (l.map V.int) ∧ PyFlat.calls PyVametb.shape l.length l = some raw ∧ (PyVametb.answers l).length ≤ 10000000 ∧
  ∀ H' d, Same H H' → H' d = some (.lst ((PyVametb.answers l).map V.int)) → Q (.ref d) H'
theorem fn_answers {fa : Addr} {fd : FuncData} (F : Fun K "answers" "answers" s_answers fa fd) (hln : mg "len" = none) (hn : 3 ≤ n) (cs : ICal P w K mg base CX0 3 CS "Subject" ["self"] (spSInit CS CR CB)) (ca : Cal P w K mg base CX0 n "answer" ["subject", "call", "told"] (spAnswer CS CR CB Called))
    (cc : Cal P w K mg base CX0 1 "counted" ["row"] spCounted) (csp : Cal P w K mg base CX0 1 "span_told" ["calls", "place"] (spSpan K withList withNum)) : FnOk P w K mg base CX0 (n + 2) fa fd ["calls"] (spAnswers K) := by
  refine fn_plain (k := n + 1) F sc_answers (fun vs H Q E h => by obtain ⟨c, l, raw, rfl, _⟩ := h; rfl) fun f cdv A outer s0 H vs Q E hr h => ?_
  obtain ⟨c, l, raw, rfl, hc, hraw, hsz, q⟩ := h
  refine ⟨_, pss_cons (ps_set (i := 1) sc_answers.nd rfl (Or.inl rfl) (pe_makeC0 cs (hr.mono (by omega)) rfl pass0))
    (pss_cons (ps_set (i := 2) sc_answers.nd rfl (Or.inl rfl) (pe_lst pa_nil))
    (pss_cons (ps_set (i := 3) sc_answers.nd rfl (Or.inl rfl) pe_int)
    (pss_cons (ps_while PassesOwn.never (pt_cmpR op_lt (pv 3) (pe_callB call_len_seq (by rfl) hln PySem.boot_len (pa_cons (pv 0) pa_nil)) (nomark _))
      (pss_cons (ps_set (i := 4) sc_answers.nd rfl (Or.inl rfl) (pe_callC csp (hr.mono (by omega)) rfl pass0 (pa_cons (pv 0) (pa_cons (pv 3) pa_nil))))
      (pss_cons (ps_expr (pe_bm PySem.F.plainAttrs_list PySem.F.slot_list_extend PySem.F.type_list_extend mt_extend (pv 2) (pa_cons (pe_callC cc (hr.mono (by omega)) rfl pass0 (pa_cons
        (pe_hide (pe_callC ca (hr.mono (by omega)) rfl pass0 (pa_cons (pv 1) (pa_cons (pe_ix ix_list (pv 0) (pv 3) (fun _ _ => rfl)) (pa_cons (pe_slice sl_list (pv 0) (po_some (pe_ix ix_tup (pv 4) pe_int (fun _ _ => rfl))) (po_some (pe_ix ix_tup (pv 4) pe_int (fun _ _ => rfl)))) pa_nil)))))
        pa_nil)) pa_nil)))
      (pss_one (ps_set (i := 3) sc_answers.nd rfl (Or.inl rfl) (pe_ix ix_tup (pv 4) pe_int (fun _ _ => rfl)))))))
    (pss_one (ps_ret (pv 2)))))), ?_⟩
  intro a dx hna hnd hda
  refine ⟨a, dx, rfl, upd_same, fun H1 sx1 hS1 => ⟨rfl, ?_⟩⟩
  have s1 : Same H H1 := same_made hna hnd sx1
  refine ⟨Nat.zero_le _, fun d hd => ?_⟩
  have hHd : H d = none := none_back s1 hd
  have hcd : ∀ H', Same H H' → SqL K (del H' d) c (l.map V.int) := fun H' sm => hc.elim (fun r => .inl (r.elim (fun e => .inl (by rw [del_ne (ne_of_none e hHd)]; exact sm _ _ e)) fun ⟨o, e⟩ => .inr ⟨o, by rw [del_ne (ne_of_none e hHd)]; exact sm _ _ e⟩)) .inr
  have hHa : H a = none := hna
  refine while_by (fun σ H' => ∃ (i f : Nat) (s : Vametb.State) (raw' : List (List (List Int))) (acc : List Int) (v4 : Option V), Same H H' ∧ σ = [some (.ref c), some (.ref a), some (.ref d), some (.int (i : Int)), v4] ∧ i ≤ l.length ∧ SubAt CS CR CB (del H' d) a s ∧ H' d = some (.lst (acc.map V.int)) ∧
      PyFlat.calls PyVametb.shape f (l.drop i) = some raw' ∧ PyVametb.answers l = acc ++ restOf s raw')
    (fun (σ : L2.St) _ => match σ[3]? with | some (some (V.int i)) => l.length - i.toNat | _ => 0)
    ⟨0, l.length, Vametb.start, raw, [], none, s1.trans (same_new hd), rfl, Nat.zero_le _, by rw [del_upd hd]; exact hS1, upd_same, by rw [List.drop_zero]; exact hraw, by rw [answers_rest hraw]; rfl⟩ ?_ ?_
  · rintro σ H' ⟨i, f, s, raw', acc, v4, sm, rfl, hi, hS, hacc, hcl, hans⟩
    refine ⟨_, rfl, _, rfl, c, _, rfl, .inl (SqL_same sm hc), _, _, rfl, rfl, _, rfl, ?_⟩
    rw [List.length_map]
    refine ite2 (fun hlt => ?_) fun hlt => ?_
    rotate_left
    · have hlt : ¬ (i : Int) < (l.length : Int) := fun y => hlt (decide_eq_true y)
      have := calls_end (by omega) hcl
      subst this
      rw [rest_nil, List.append_nil] at hans
      exact ⟨_, rfl, q _ _ sm (by rw [hans]; exact hacc)⟩
    · have hlt : (i : Int) < (l.length : Int) := of_decide_eq_true hlt
      obtain ⟨cl, raw2, f', t, rfl, ⟨p, e1, e2, k, hp, h1, h2, h3, hspan, rfl, hcalled, hcall⟩, hcl'⟩ := calls_cons (by omega) hcl
      rw [rest_cons hcall] at hans
      refine ⟨_, rfl, _, rfl, c, l, i, e1, e2, rfl, SqL_same sm hc, hspan, fun H2 ts s2 hts => ?_⟩
      have sm2 := sm.trans s2
      have hacc2 := s2 _ _ hacc
      refine ⟨_, rfl, .inl ⟨rfl, _, SqL.of hacc2⟩, ?_⟩
      refine ⟨d, _, hacc2, ?_⟩
      have ndt : ts ≠ d := ne_of hts hacc2 (by intro z; cases z)
      have hc2 := hcd _ sm2
      have ht2 : del H2 d ts = some (.tup [.int (e1 : Int), .int (e2 : Int)]) := by rw [del_ne ndt]; exact hts
      have hS2 : SubAt CS CR CB (del H2 d) a s := hS.same fun b o e => by
        obtain ⟨nb, e⟩ := del_some e
        rw [del_ne nb]
        exact s2 _ _ e
      have hat : atI (l.map V.int) (i : Int) = some (.int p) := atI_nat (by rw [List.getElem?_map, hp]; rfl)
      refine ⟨_, rfl, _, rfl, _, rfl, c, _, _, _, rfl, rfl, hc2, hat, ?_⟩
      refine ⟨_, rfl, _, rfl, ts, _, _, _, rfl, rfl, SqT.of ht2, atI_nat (j := 0) rfl, _, rfl, _, rfl, ts, _, _, _, rfl, rfl, SqT.of ht2, atI_nat (j := 1) rfl, _, rfl, c, _, rfl, hc2, fun p3 hp3 => ?_⟩
      rw [cut_both h2 (by rw [List.length_map]; exact h3), ← List.map_drop, ← List.map_take]
      have s3 := same_new (o := .lst (((l.drop e1).take (e2 - e1)).map V.int)) hp3
      have e3 : (upd (del H2 d) p3 (.lst (((l.drop e1).take (e2 - e1)).map V.int))) p3 = some (.lst (((l.drop e1).take (e2 - e1)).map V.int)) := upd_same
      generalize upd (del H2 d) p3 (.lst (((l.drop e1).take (e2 - e1)).map V.int)) = H3 at s3 e3
      refine ⟨a, p, p3, s, _, k, rfl, hS2.same s3, e3, hcalled, fun H4 p4 sx4 hS4 hn4 e4 hd4 => ?_⟩
      generalize Vametb.step s k = st at hS4 e4 hans
      obtain ⟨s', an⟩ := st
      dsimp only at hS4 e4 hans
      have hlen : (VametBase.listedInts an).length ≤ 10000000 ∧ acc.length + (VametBase.listedInts an).length ≤ 10000000 := by
        rw [hans, List.length_append, List.length_append] at hsz
        omega
      have hlen1 : an.length ≤ 10000000 := by
        have := hlen.1
        unfold VametBase.listedInts at this
        rw [List.length_cons] at this
        omega
      -- back with what was laid aside
      have n4d : p4 ≠ d := ne_of_none e4 hd4
      have e5 : (upd H4 d (.lst (acc.map V.int))) p4 = some (.lst (an.map V.int)) := by rw [upd_ne n4d]; exact e4
      have d5 : (upd H4 d (.lst (acc.map V.int))) d = some (.lst (acc.map V.int)) := upd_same
      have s5 : Same H4 (upd H4 d (.lst (acc.map V.int))) := same_new hd4
      have sm5 : Same H (upd H4 d (.lst (acc.map V.int))) := fun b o e => by
        have nb : b ≠ d := ne_of_none e hHd
        rw [upd_ne nb]
        exact sx4 b o (ne_of_none e hHa) (s3 _ _ (by rw [del_ne nb]; exact sm2 _ _ e))
      have hts5 : (upd H4 d (.lst (acc.map V.int))) ts = some (.tup [.int (e1 : Int), .int (e2 : Int)]) := by
        rw [upd_ne ndt]
        refine sx4 _ _ ?_ (s3 _ _ ht2)
        obtain ⟨da, _, _, _, ha, _⟩ := hS2
        exact ne_of ht2 ha (by intro z; cases z)
      generalize hH5 : upd H4 d (.lst (acc.map V.int)) = H5 at e5 d5 s5 sm5 hts5
      refine ⟨p4, an, rfl, e5, hlen1, fun H6 p6 ⟨s6, n6, e6⟩ => ?_⟩
      have d6 := s6 _ _ d5
      refine ⟨d, p6, _, _, rfl, rfl, d6, e6, ?_, ?_⟩
      · rw [List.length_map, List.length_map]
        show _ ≤ 2 ^ 24
        have := hlen.2
        omega
      · refine ⟨_, rfl, ts, _, _, _, rfl, rfl, SqT.of (by rw [upd_ne ndt]; exact s6 _ _ hts5), atI_nat (j := 1) rfl, ?_⟩
        refine ⟨⟨e2, f', s', raw2, acc ++ VametBase.listedInts an, some (.ref ts), ?_, rfl, h3, ?_, ?_, hcl', ?_⟩, ?_⟩
        · exact same_put (sm5.trans s6) hHd
        · refine hS4.same fun b o e => ?_
          have nb : b ≠ d := ne_of_none e hd4
          rw [del_ne nb, upd_ne nb]
          exact s6 _ _ (s5 _ _ e)
        · rw [upd_same, List.map_append]
        · rw [hans, List.append_assoc]
        · show l.length - (e2 : Int).toNat < l.length - (i : Int).toNat
          omega
  · rintro σ H Q Q' hq ⟨v, e1, w, e2, p, ys, e3, hs, i, j, e4, e5, k, e6, q⟩
    exact ⟨v, e1, w, e2, p, ys, e3, hs, i, j, e4, e5, k, e6, hq _ _ q⟩
end
end Rh

end

-- part RhFacts
section
set_option Elab.async false
set_option linter.all false
set_option maxRecDepth 100000
set_option maxHeartbeats 2000000
namespace Rh
open PySem PySem.Spec PyProof.Rows L2
section
variable {K : PySem.W.Frag} {h : Heap} {mg : Str → Option Value}
theorem df_mk {x : Str} {st : Stmt} {f : Addr} {oc : Value} {od an : Option Addr} {osl : Array (Option Value)} {kV doc pm cdv ct : Value} (X : K.In h) (G : h.Ns mainGlobals mg) (a : PySem.W.nsIn K mainGlobals x = some (some (.ref f)))
    (l : K.lookup f = some ⟨oc, od, .func (PySem.W.fnOf x x (defArgs st) (defBody st) (defScope st) .none kV doc pm an cdv ct), osl⟩) (c : PySem.W.codeIn K cdv x = true) (k : PySem.W.keepIn K (.ref f) = true) : Df K mg x st :=
  ⟨f, _, fun_mk (st := st) l c k, PySem.W.mg_of X G a⟩
theorem dm_mk {x qual : Str} {st : Stmt} {C f : Addr} {oc : Value} {od an : Option Addr} {osl : Array (Option Value)} {kV doc pm cdv ct : Value} (a : PySem.W.findIn K (.ref C) x = some (some (.ref f))) (i : PySem.W.isFn K (.ref f) = true)
    (l : K.lookup f = some ⟨oc, od, .func (PySem.W.fnOf x qual (defArgs st) (defBody st) (defScope st) .none kV doc pm an cdv ct), osl⟩) (c : PySem.W.codeIn K cdv qual = true) (k : PySem.W.keepIn K (.ref f) = true) : Dm K C x qual st :=
  ⟨f, _, fun_mk (st := st) l c k, ⟨a, i, k⟩⟩
theorem di_mk {x qual : Str} {st : Stmt} {C f : Addr} {oc : Value} {od an : Option Addr} {osl : Array (Option Value)} {kV doc pm cdv ct : Value} (hm : mg x = some (.ref C)) (mk : PySem.W.makesIn K C = true) (kc : PySem.W.keepIn K (.ref C) = true)
    (a : PySem.W.findIn K (.ref C) "__init__" = some (some (.ref f))) (i : PySem.W.isFn K (.ref f) = true)
    (l : K.lookup f = some ⟨oc, od, .func (PySem.W.fnOf "__init__" qual (defArgs st) (defBody st) (defScope st) .none kV doc pm an cdv ct), osl⟩) (c : PySem.W.codeIn K cdv qual = true) (k : PySem.W.keepIn K (.ref f) = true) : Di K mg C x qual st :=
  ⟨f, _, fun_mk (st := st) l c k, ⟨mk, a, i, kc⟩, hm⟩
/-! tables of the top, told by a sum -/
def rowF (K : PySem.W.Frag) (e : DictEntry) (i : Int) (n : Str) : Bool := (match e.key, e.val, PySem.W.nsIn K mainGlobals n with | .int k _, .ref f, some (some (.ref g)) => k == i && f == g | _, _, _ => false) && e.hash == hashInt i
def rowsF (K : PySem.W.Frag) : List DictEntry → List (Int × Str) → Bool
  | [], [] => true
  | e :: es, (i, n) :: ns => rowF K e i n && rowsF K es ns
  | _, _ => false
def dictAt (K : PySem.W.Frag) (a : Addr) (p : List DictEntry → Bool) : Bool := !(a == sysModules) && match K.lookup a with
  | some ⟨.type t, none, .dict es _, sl⟩ => t == "dict" && sl.size == 0 && p es.toList
  | _ => false
def rowN (K : PySem.W.Frag) (e : DictEntry) (i x y : Int) : Bool := (match e.key, e.val with
  | .int k _, .ref b => k == i && (match K.lookup b with
    | some ⟨.type t, _, .seq its _, _⟩ => t == "tuple" && (match its.toList with
      | [.int u _, .int v _] => u == x && v == y
      | _ => false)
    | _ => false)
  | _, _ => false) && e.hash == hashInt i
def rowsN (K : PySem.W.Frag) : List DictEntry → List (Int × Int × Int) → Bool
  | [], [] => true
  | e :: es, (i, x, y) :: ns => rowN K e i x y && rowsN K es ns
  | _, _ => false
def tupAt (K : PySem.W.Frag) (a : Addr) (p : List Value → Bool) : Bool := match K.lookup a with
  | some ⟨.type t, _, .seq its _, _⟩ => t == "tuple" && decide (its.size ≤ 1000) && p its.toList
  | _ => false
def itF (K : PySem.W.Frag) (v : Value) (n : Str) : Bool := match v, PySem.W.nsIn K mainGlobals n with | .ref f, some (some (.ref g)) => f == g | _, _ => false
def itI (v : Value) (n : Int) : Bool := match v with | .int i _ => i == n | _ => false
def itsF (K : PySem.W.Frag) : List Value → List Str → Bool
  | [], [] => true
  | v :: vs, n :: ns => itF K v n && itsF K vs ns
  | _, _ => false
def itsI : List Value → List Int → Bool
  | [], [] => true
  | v :: vs, n :: ns => itI v n && itsI vs ns
  | _, _ => false
theorem dictAt_ok {a : Addr} {p : List DictEntry → Bool} (q : dictAt K a p = true) : (a == sysModules) = false ∧ ∃ (o : Obj) (es : Array DictEntry) (ep : Nat), K.lookup a = some o ∧ o.ExactDict ∧ o.data = .dict es ep ∧ p es.toList = true := by
  unfold dictAt at q
  rw [Bool.and_eq_true, Bool.not_eq_true'] at q
  obtain ⟨q1, q⟩ := q
  refine ⟨q1, ?_⟩
  split at q
  · rename_i t es ep sl hl
    rw [Bool.and_eq_true, Bool.and_eq_true, beq_iff_eq, beq_iff_eq] at q
    obtain ⟨⟨rfl, hs⟩, q⟩ := q
    exact ⟨_, es, ep, hl, ⟨rfl, rfl, Array.eq_empty_of_size_eq_zero hs⟩, rfl, q⟩
  · cases q
theorem rowF_ok {e : DictEntry} {i : Int} {n : Str} (X : K.In h) (G : h.Ns mainGlobals mg) (q : rowF K e i n = true) : ∃ f, mg n = some (.ref f) ∧ e.val = .ref f ∧ e.hash = hashInt i ∧ ∃ t, e.key = .int i t := by
  unfold rowF at q
  rw [Bool.and_eq_true, beq_iff_eq] at q
  obtain ⟨q, q2⟩ := q
  split at q
  · rename_i k t f g h1 h2 h3
    rw [Bool.and_eq_true, beq_iff_eq, beq_iff_eq] at q
    obtain ⟨rfl, rfl⟩ := q
    exact ⟨f, PySem.W.mg_of X G h3, h2, q2, t, h1⟩
  · cases q
theorem ftab_rows (X : K.In h) (G : h.Ns mainGlobals mg) : ∀ {es : List DictEntry} {ns : List (Int × Str)}, rowsF K es ns = true → ∃ l : List (Int × V), Paired (fun (p : Int × V) (e : DictEntry) => e.hash = hashInt p.1 ∧ (∃ t, e.key = .int p.1 t) ∧ RelV p.2 e.val) l es ∧
    Paired (fun (p : Int × V) (q : Int × Str) => p.1 = q.1 ∧ ∃ f, mg q.2 = some (.ref f) ∧ p.2 = .ref f) l ns
  | [], [], _ => ⟨[], .nil, .nil⟩
  | e :: es, (i, n) :: ns, q => by
    have q : (rowF K e i n && rowsF K es ns) = true := q
    rw [Bool.and_eq_true] at q
    obtain ⟨f, hm, hv, hh, hk⟩ := rowF_ok X G q.1
    obtain ⟨l, p1, p2⟩ := ftab_rows X G q.2
    exact ⟨(i, .ref f) :: l, .cons ⟨hh, hk, by rw [hv]; rfl⟩ p1, .cons ⟨rfl, f, hm, rfl⟩ p2⟩
  | [], _ :: _, q => by cases q
  | _ :: _, [], q => by cases q
theorem ftab_mk {x : Str} {a : Addr} {ns : List (Int × Str)} (X : K.In h) (G : h.Ns mainGlobals mg) (ha : PySem.W.nsIn K mainGlobals x = some (some (.ref a))) (q : dictAt K a (fun es => rowsF K es ns) = true) : FTab K mg x ns := by
  obtain ⟨q1, o, es, ep, hl, ho, hd, q⟩ := dictAt_ok q
  obtain ⟨l, p1, p2⟩ := ftab_rows X G q
  exact ⟨a, l, PySem.W.mg_of X G ha, ⟨q1, o, es, ep, hl, ho, hd, p1⟩, p2⟩
theorem rowN_ok {e : DictEntry} {i x y : Int} (q : rowN K e i x y = true) : ∃ b, e.val = .ref b ∧ e.hash = hashInt i ∧ (∃ t, e.key = .int i t) ∧ ∀ H, SqT K H b [.int x, .int y] := by
  unfold rowN at q
  rw [Bool.and_eq_true, beq_iff_eq] at q
  obtain ⟨q, q2⟩ := q
  split at q
  · rename_i k t b h1 h2
    rw [Bool.and_eq_true, beq_iff_eq] at q
    obtain ⟨rfl, q⟩ := q
    refine ⟨b, h2, q2, ⟨t, h1⟩, fun H => ?_⟩
    split at q
    · rename_i t' d its n sl hl
      rw [Bool.and_eq_true, beq_iff_eq] at q
      obtain ⟨rfl, q⟩ := q
      split at q
      · rename_i u tu v tv hi
        rw [Bool.and_eq_true, beq_iff_eq, beq_iff_eq] at q
        obtain ⟨rfl, rfl⟩ := q
        refine .inr ⟨_, its, n, hl, rfl, rfl, ?_, ?_⟩
        · have : its.size = 2 := by rw [← Array.length_toList, hi]; rfl
          rw [this]
          decide
        · rw [hi]
          exact .cons ⟨tu, rfl⟩ (.cons ⟨tv, rfl⟩ .nil)
      · cases q
    · cases q
  · cases q
theorem ntab_rows : ∀ {es : List DictEntry} {ns : List (Int × Int × Int)}, rowsN K es ns = true → ∃ l : List (Int × V), Paired (fun (p : Int × V) (e : DictEntry) => e.hash = hashInt p.1 ∧ (∃ t, e.key = .int p.1 t) ∧ RelV p.2 e.val) l es ∧
    Paired (fun (p : Int × V) (q : Int × Int × Int) => p.1 = q.1 ∧ ∃ b, p.2 = .ref b ∧ ∀ H, SqT K H b [.int q.2.1, .int q.2.2]) l ns
  | [], [], _ => ⟨[], .nil, .nil⟩
  | e :: es, (i, x, y) :: ns, q => by
    have q : (rowN K e i x y && rowsN K es ns) = true := q
    rw [Bool.and_eq_true] at q
    obtain ⟨b, hv, hh, hk, hs⟩ := rowN_ok q.1
    obtain ⟨l, p1, p2⟩ := ntab_rows q.2
    exact ⟨(i, .ref b) :: l, .cons ⟨hh, hk, by rw [hv]; rfl⟩ p1, .cons ⟨rfl, b, rfl, hs⟩ p2⟩
  | [], _ :: _, q => by cases q
  | _ :: _, [], q => by cases q
theorem ntab_mk {x : Str} {a : Addr} {ns : List (Int × Int × Int)} (X : K.In h) (G : h.Ns mainGlobals mg) (ha : PySem.W.nsIn K mainGlobals x = some (some (.ref a))) (q : dictAt K a (fun es => rowsN K es ns) = true) : NTab K mg x ns := by
  obtain ⟨q1, o, es, ep, hl, ho, hd, q⟩ := dictAt_ok q
  obtain ⟨l, p1, p2⟩ := ntab_rows q
  exact ⟨a, l, PySem.W.mg_of X G ha, ⟨q1, o, es, ep, hl, ho, hd, p1⟩, p2⟩
theorem tupAt_ok {a : Addr} {p : List Value → Bool} (q : tupAt K a p = true) : ∃ (o : Obj) (its : Array Value) (n : Nat), K.lookup a = some o ∧ o.cls = .type "tuple" ∧ o.data = .seq its n ∧ its.size ≤ sizeLine ∧ p its.toList = true := by
  unfold tupAt at q
  split at q
  · rename_i t d its n sl hl
    rw [Bool.and_eq_true, Bool.and_eq_true, beq_iff_eq, decide_eq_true_eq] at q
    obtain ⟨⟨rfl, hs⟩, q⟩ := q
    exact ⟨_, its, n, hl, rfl, rfl, Nat.le_trans hs (by decide), q⟩
  · cases q
theorem itF_ok {u : Value} {n : Str} (q : itF K u n = true) : ∃ f, u = .ref f ∧ PySem.W.nsIn K mainGlobals n = some (some (.ref f)) := by
  unfold itF at q
  split at q
  · rename_i f g h1
    rw [beq_iff_eq] at q
    subst q
    exact ⟨_, rfl, h1⟩
  · cases q
theorem itI_ok {u : Value} {n : Int} (q : itI u n = true) : ∃ t, u = .int n t := by
  unfold itI at q
  split at q
  · rename_i i t
    rw [beq_iff_eq] at q
    subst q
    exact ⟨t, rfl⟩
  · cases q
theorem itsF_ok (X : K.In h) (G : h.Ns mainGlobals mg) : ∀ {us : List Value} {ns : List Str}, itsF K us ns = true → ∃ vs : List V, Vals vs us ∧ Paired (fun (v : V) (y : Str) => ∃ f, mg y = some (.ref f) ∧ v = .ref f) vs ns
  | [], [], _ => ⟨[], .nil, .nil⟩
  | u :: us, n :: ns, q => by
    have q : (itF K u n && itsF K us ns) = true := q
    rw [Bool.and_eq_true] at q
    obtain ⟨q, q2⟩ := q
    obtain ⟨vs, p1, p2⟩ := itsF_ok X G q2
    obtain ⟨f, rfl, h1⟩ := itF_ok q
    exact ⟨.ref f :: vs, .cons rfl p1, .cons ⟨f, PySem.W.mg_of X G h1, rfl⟩ p2⟩
  | [], _ :: _, q => by cases q
  | _ :: _, [], q => by cases q
theorem itsI_ok : ∀ {us : List Value} {ns : List Int}, itsI us ns = true → Vals (ns.map V.int) us
  | [], [], _ => .nil
  | u :: us, n :: ns, q => by
    have q : (itI u n && itsI us ns) = true := q
    rw [Bool.and_eq_true] at q
    obtain ⟨q, q2⟩ := q
    obtain ⟨t, rfl⟩ := itI_ok q
    exact .cons ⟨t, rfl⟩ (itsI_ok q2)
  | [], _ :: _, q => by cases q
  | _ :: _, [], q => by cases q
theorem ttab_mk {x : Str} {a : Addr} {ns : List Str} (X : K.In h) (G : h.Ns mainGlobals mg) (ha : PySem.W.nsIn K mainGlobals x = some (some (.ref a))) (q : tupAt K a (fun us => itsF K us ns) = true) : TTab K mg x ns := by
  obtain ⟨o, its, n, hl, hc, hd, hs, q⟩ := tupAt_ok q
  obtain ⟨vs, p1, p2⟩ := itsF_ok X G q
  exact ⟨a, vs, PySem.W.mg_of X G ha, fun H => .inr ⟨o, its, n, hl, hc, hd, hs, p1⟩, p2⟩
theorem itab_mk {x : Str} {a : Addr} {ns : List Int} (X : K.In h) (G : h.Ns mainGlobals mg) (ha : PySem.W.nsIn K mainGlobals x = some (some (.ref a))) (q : tupAt K a (fun us => itsI us ns) = true) : ITab K mg x ns := by
  obtain ⟨o, its, n, hl, hc, hd, hs, q⟩ := tupAt_ok q
  exact ⟨a, PySem.W.mg_of X G ha, fun H => .inr ⟨o, its, n, hl, hc, hd, hs, itsI_ok q⟩⟩
def rowG (K : PySem.W.Frag) (e : DictEntry) (i : Int) (xs : List Int) : Bool := (match e.key, e.val with | .int k _, .ref b => k == i && tupAt K b (fun us => itsI us xs) | _, _ => false) && e.hash == hashInt i
def rowsG (K : PySem.W.Frag) : List DictEntry → List (Int × List Int) → Bool
  | [], [] => true
  | e :: es, (i, x) :: ns => rowG K e i x && rowsG K es ns
  | _, _ => false
theorem tup_ints {b : Addr} {xs : List Int} (q : tupAt K b (fun us => itsI us xs) = true) : ∀ H, SqT K H b (xs.map V.int) := fun H => by
  obtain ⟨o, its, n, hl, hc, hd, hs, q⟩ := tupAt_ok q
  exact .inr ⟨o, its, n, hl, hc, hd, hs, itsI_ok q⟩
theorem rowG_ok {e : DictEntry} {i : Int} {xs : List Int} (q : rowG K e i xs = true) : ∃ b, e.val = .ref b ∧ e.hash = hashInt i ∧ (∃ t, e.key = .int i t) ∧ ∀ H, SqT K H b (xs.map V.int) := by
  unfold rowG at q
  rw [Bool.and_eq_true, beq_iff_eq] at q
  obtain ⟨q, q2⟩ := q
  split at q
  · rename_i k t b h1 h2
    rw [Bool.and_eq_true, beq_iff_eq] at q
    obtain ⟨rfl, q⟩ := q
    exact ⟨b, h2, q2, ⟨t, h1⟩, tup_ints q⟩
  · cases q
theorem gtab_rows : ∀ {es : List DictEntry} {ns : List (Int × List Int)}, rowsG K es ns = true → ∃ l : List (Int × V), Paired (fun (p : Int × V) (e : DictEntry) => e.hash = hashInt p.1 ∧ (∃ t, e.key = .int p.1 t) ∧ RelV p.2 e.val) l es ∧
    Paired (fun (p : Int × V) (q : Int × List Int) => p.1 = q.1 ∧ ∃ b, p.2 = .ref b ∧ ∀ H, SqT K H b (q.2.map V.int)) l ns
  | [], [], _ => ⟨[], .nil, .nil⟩
  | e :: es, (i, x) :: ns, q => by
    have q : (rowG K e i x && rowsG K es ns) = true := q
    rw [Bool.and_eq_true] at q
    obtain ⟨b, hv, hh, hk, hs⟩ := rowG_ok q.1
    obtain ⟨l, p1, p2⟩ := gtab_rows q.2
    exact ⟨(i, .ref b) :: l, .cons ⟨hh, hk, by rw [hv]; rfl⟩ p1, .cons ⟨rfl, b, rfl, hs⟩ p2⟩
  | [], _ :: _, q => by cases q
  | _ :: _, [], q => by cases q
theorem gtab_mk {x : Str} {a : Addr} {ns : List (Int × List Int)} (X : K.In h) (G : h.Ns mainGlobals mg) (ha : PySem.W.nsIn K mainGlobals x = some (some (.ref a))) (q : dictAt K a (fun es => rowsG K es ns) = true) : GTab K mg x ns := by
  obtain ⟨q1, o, es, ep, hl, ho, hd, q⟩ := dictAt_ok q
  obtain ⟨l, p1, p2⟩ := gtab_rows q
  exact ⟨a, l, PySem.W.mg_of X G ha, ⟨q1, o, es, ep, hl, ho, hd, p1⟩, p2⟩
def itC (K : PySem.W.Frag) (v : Value) (c : VametBase.Cond) : Bool := match v with | .ref b => tupAt K b (fun us => itsI us [(condKind c : Int), (condArg c : Int)]) | _ => false
def itsC (K : PySem.W.Frag) : List Value → List VametBase.Cond → Bool
  | [], [] => true
  | v :: vs, c :: cs => itC K v c && itsC K vs cs
  | _, _ => false
theorem itC_ok {u : Value} {c : VametBase.Cond} (q : itC K u c = true) : ∃ b, u = .ref b ∧ ∀ H, SqT K H b [.int (condKind c : Nat), .int (condArg c : Nat)] := by
  unfold itC at q
  split at q
  · rename_i b
    exact ⟨b, rfl, tup_ints q⟩
  · cases q
theorem itsC_ok : ∀ {us : List Value} {cs : List VametBase.Cond}, itsC K us cs = true → ∃ vs : List V, Vals vs us ∧ Paired (fun (v : V) c => ∀ H, CondK K H v c) vs cs
  | [], [], _ => ⟨[], .nil, .nil⟩
  | u :: us, c :: cs, q => by
    have q : (itC K u c && itsC K us cs) = true := q
    rw [Bool.and_eq_true] at q
    obtain ⟨q, q2⟩ := q
    obtain ⟨vs, p1, p2⟩ := itsC_ok q2
    obtain ⟨b, rfl, hb⟩ := itC_ok q
    exact ⟨.ref b :: vs, .cons rfl p1, .cons (fun H => ⟨b, rfl, hb H⟩) p2⟩
  | [], _ :: _, q => by cases q
  | _ :: _, [], q => by cases q
theorem ltab_mk {x : Str} {a : Addr} {cs : List VametBase.Cond} (X : K.In h) (G : h.Ns mainGlobals mg) (ha : PySem.W.nsIn K mainGlobals x = some (some (.ref a))) (q : tupAt K a (fun us => itsC K us cs) = true) : LTab K mg x cs := by
  obtain ⟨o, its, n, hl, hc, hd, hs, q⟩ := tupAt_ok q
  obtain ⟨vs, p1, p2⟩ := itsC_ok q
  exact ⟨a, vs, PySem.W.mg_of X G ha, fun H => .inr ⟨o, its, n, hl, hc, hd, hs, p1⟩, p2⟩
def partsIn (K : PySem.W.Frag) (Cs : List Addr) : Bool := Cs.all fun C => Cs.all fun C0 => match PySem.W.exmOne K (.ref C) (.ref C0) with | some b => b == decide (C = C0) | none => false
theorem parts_mk {Cs : List Addr} (q : partsIn K Cs = true) : Parts K Cs := by
  intro C hC C0 hC0
  unfold partsIn at q
  have q := List.all_eq_true.mp (List.all_eq_true.mp q C hC) C0 hC0
  split at q
  · rename_i b hb
    rw [beq_iff_eq] at q
    rw [hb, q]
  · cases q
theorem int_mk {x : Str} {i : Int} {t : Nat} (X : K.In h) (G : h.Ns mainGlobals mg) (ha : PySem.W.nsIn K mainGlobals x = some (some (.int i t))) : ∃ t, mg x = some (.int i t) := ⟨t, PySem.W.mg_of X G ha⟩
end
end Rh

end

-- part RhWhole
section
set_option Elab.async false
set_option linter.all false
set_option maxRecDepth 100000
set_option maxHeartbeats 2000000
namespace Rh
open PySem PySem.Spec PyProof.Rows L2
abbrev tabCalls : List (Int × Str) := [(0, "tell_program"), (1, "tell_relation"), (2, "tell_bound"), (3, "ask_numbered"), (4, "ask_look"), (5, "ask_held"), (6, "ask_breaking"), (7, "ask_stand"), (8, "ask_conds"), (9, "ask_cut"), (10, "ask_slack"), (11, "ask_shrink"), (12, "ask_against")]
structure Facts (K : PySem.W.Frag) (mg : Str → Option Value) (CB CR CD CS CN CO CK CT : Addr) : Prop where
  b_len : mg "len" = none
  b_range : mg "range" = none
  b_list : mg "list" = none
  b_reversed : mg "reversed" = none
  b_sorted : mg "sorted" = none
  b_sum : mg "sum" = none
  b_max : mg "max" = none
  b_min : mg "min" = none
  b_abs : mg "abs" = none
  b_all : mg "all" = none
  b_set : mg "set" = none
  b_zip : mg "zip" = none
  b_bool : mg "bool" = none
  b_enumerate : mg "enumerate" = none
  i_MOST_NUMBERS : ∃ t, mg "MOST_NUMBERS" = some (.int 40 t)
  i_FARTHEST : ∃ t, mg "FARTHEST" = some (.int 1000000 t)
  i_SO_MANY : ∃ t, mg "SO_MANY" = some (.int 5 t)
  i_KEPT : ∃ t, mg "KEPT" = some (.int 0 t)
  i_BROKEN : ∃ t, mg "BROKEN" = some (.int 1 t)
  i_OFF : ∃ t, mg "OFF" = some (.int 2 t)
  i_LAST_STEP : ∃ t, mg "LAST_STEP" = some (.int 17 t)
  i_MOST_STEPS : ∃ t, mg "MOST_STEPS" = some (.int 8 t)
  i_MOST_COUNTED : ∃ t, mg "MOST_COUNTED" = some (.int 9 t)
  i_LAST_WAY : ∃ t, mg "LAST_WAY" = some (.int 6 t)
  i_LONGEST : ∃ t, mg "LONGEST" = some (.int 8 t)
  i_FARTHEST_TOLD : ∃ t, mg "FARTHEST_TOLD" = some (.int 99 t)
  i_MOST_INPUTS : ∃ t, mg "MOST_INPUTS" = some (.int 1500 t)
  i_MOST_GONE_THROUGH : ∃ t, mg "MOST_GONE_THROUGH" = some (.int 300 t)
  i_MOST_TIMES : ∃ t, mg "MOST_TIMES" = some (.int 60 t)
  t_Bound : ClsB K CB
  n_Bound : Di K mg CB "Bound" "Bound.__init__" s_Bound_init
  t_Relation : ClsR K CR
  n_Relation : Di K mg CR "Relation" "Relation.__init__" s_Relation_init
  t_Reader : ClsD K CD
  n_Reader : Di K mg CD "Reader" "Reader.__init__" s_Reader_init
  t_Subject : ClsS K CS
  n_Subject : Di K mg CS "Subject" "Subject.__init__" s_Subject_init
  m_take : Dm K CD "take" "Reader.take" s_Reader_take
  m_finish : Dm K CD "finish" "Reader.finish" s_Reader_finish
  x_NotWhole : Exc K mg "NotWhole" CN
  x_NoSuch : Exc K mg "NoSuch" CO
  x_NotBroken : Exc K mg "NotBroken" CK
  x_TooMany : Exc K mg "TooMany" CT
  parts : Parts K [CN, CO, CK, CT]
  apart : CO ≠ CN ∧ CK ≠ CN ∧ CT ≠ CN ∧ CK ≠ CO ∧ CT ≠ CO ∧ CT ≠ CK
  g_STEPS_WITH_NUMBER : FTab K mg "STEPS_WITH_NUMBER" tabW
  g_STEPS_ALONE : FTab K mg "STEPS_ALONE" tabA
  g_PLAIN_CONDITIONS : TTab K mg "PLAIN_CONDITIONS" tabC
  g_WAYS : TTab K mg "WAYS" tabR
  g_STEP_NUMBERS : NTab K mg "STEP_NUMBERS" endsT
  g_CALLS : FTab K mg "CALLS" tabCalls
  g_CALLS_WITH_LIST : ITab K mg "CALLS_WITH_LIST" withList
  g_CALLS_WITH_NUMBER : ITab K mg "CALLS_WITH_NUMBER" withNum
  g_FOLLOWING : GTab K mg "FOLLOWING" tabFol
  g_LOOKED_AT : LTab K mg "LOOKED_AT" Vametb.conds
  d_add : Df K mg "add" s_add
  d_times : Df K mg "times" s_times
  d_rest : Df K mg "rest" s_rest
  d_without_signs : Df K mg "without_signs" s_without_signs
  d_rising : Df K mg "rising" s_rising
  d_turned_round : Df K mg "turned_round" s_turned_round
  d_rotated : Df K mg "rotated" s_rotated
  d_taken : Df K mg "taken" s_taken
  d_dropped : Df K mg "dropped" s_dropped
  d_above : Df K mg "above" s_above
  d_once : Df K mg "once" s_once
  d_sum_alone : Df K mg "sum_alone" s_sum_alone
  d_greatest : Df K mg "greatest" s_greatest
  d_least : Df K mg "least" s_least
  d_count_alone : Df K mg "count_alone" s_count_alone
  d_differences : Df K mg "differences" s_differences
  d_running_sums : Df K mg "running_sums" s_running_sums
  d_twice : Df K mg "twice" s_twice
  d_is_beyond : Df K mg "is_beyond" s_is_beyond
  d_after_step : Df K mg "after_step" s_after_step
  d_run : Df K mg "run" s_run
  d_always : Df K mg "always" s_always
  d_has_numbers : Df K mg "has_numbers" s_has_numbers
  d_is_rising : Df K mg "is_rising" s_is_rising
  d_none_below_zero : Df K mg "none_below_zero" s_none_below_zero
  d_none_twice : Df K mg "none_twice" s_none_twice
  d_is_so : Df K mg "is_so" s_is_so
  d_equal : Df K mg "equal" s_equal
  d_same_bag : Df K mg "same_bag" s_same_bag
  d_same_numbers : Df K mg "same_numbers" s_same_numbers
  d_as_long : Df K mg "as_long" s_as_long
  d_at_most : Df K mg "at_most" s_at_most
  d_at_least : Df K mg "at_least" s_at_least
  d_begins : Df K mg "begins" s_begins
  d_stands : Df K mg "stands" s_stands
  d_run_both : Df K mg "run_both" s_run_both
  d_sides : Df K mg "sides" s_sides
  d_judged : Df K mg "judged" s_judged
  d_all_verdicts : Df K mg "all_verdicts" s_all_verdicts
  d_all_pairs : Df K mg "all_pairs" s_all_pairs
  d_holds : Df K mg "holds" s_holds
  d_ways_that_hold : Df K mg "ways_that_hold" s_ways_that_hold
  d_strongest : Df K mg "strongest" s_strongest
  d_kept_and_broken : Df K mg "kept_and_broken" s_kept_and_broken
  d_under_conditions : Df K mg "under_conditions" s_under_conditions
  d_first_cut : Df K mg "first_cut" s_first_cut
  d_slack : Df K mg "slack" s_slack
  d_counts_against : Df K mg "counts_against" s_counts_against
  d_choices : Df K mg "choices" s_choices
  d_how_many : Df K mg "how_many" s_how_many
  d_numbered : Df K mg "numbered" s_numbered
  d_all_inputs : Df K mg "all_inputs" s_all_inputs
  d_take_step : Df K mg "take_step" s_take_step
  d_take_program : Df K mg "take_program" s_take_program
  d_take_condition : Df K mg "take_condition" s_take_condition
  d_read_program : Df K mg "read_program" s_read_program
  d_read_relation : Df K mg "read_relation" s_read_relation
  d_read_bound : Df K mg "read_bound" s_read_bound
  d_read_row : Df K mg "read_row" s_read_row
  d_nearer : Df K mg "nearer" s_nearer
  d_smaller_rows : Df K mg "smaller_rows" s_smaller_rows
  d_is_broken : Df K mg "is_broken" s_is_broken
  d_first_broken : Df K mg "first_broken" s_first_broken
  d_made_smaller : Df K mg "made_smaller" s_made_smaller
  d_counted : Df K mg "counted" s_counted
  d_condition_told : Df K mg "condition_told" s_condition_told
  d_what_look_tells : Df K mg "what_look_tells" s_what_look_tells
  d_gone_through : Df K mg "gone_through" s_gone_through
  d_verdicts_of : Df K mg "verdicts_of" s_verdicts_of
  d_pairs_of : Df K mg "pairs_of" s_pairs_of
  d_all_broken : Df K mg "all_broken" s_all_broken
  d_tell_program : Df K mg "tell_program" s_tell_program
  d_tell_relation : Df K mg "tell_relation" s_tell_relation
  d_tell_bound : Df K mg "tell_bound" s_tell_bound
  d_ask_numbered : Df K mg "ask_numbered" s_ask_numbered
  d_ask_look : Df K mg "ask_look" s_ask_look
  d_ask_held : Df K mg "ask_held" s_ask_held
  d_ask_breaking : Df K mg "ask_breaking" s_ask_breaking
  d_ask_stand : Df K mg "ask_stand" s_ask_stand
  d_ask_conds : Df K mg "ask_conds" s_ask_conds
  d_ask_cut : Df K mg "ask_cut" s_ask_cut
  d_ask_slack : Df K mg "ask_slack" s_ask_slack
  d_ask_shrink : Df K mg "ask_shrink" s_ask_shrink
  d_ask_against : Df K mg "ask_against" s_ask_against
  d_span_told : Df K mg "span_told" s_span_told
  d_answer : Df K mg "answer" s_answer
  d_answers : Df K mg "answers" s_answers
section
variable {P : Program} {w : World} {K : PySem.W.Frag} {mg : Str → Option Value} {base : Heap} {CB CR CD CS CN CO CK CT : Addr}
/-- what the calls' defs stand on -/
structure Core (P : Program) (w : World) (K : PySem.W.Frag) (mg : Str → Option Value) (base : Heap) (CB CR CD CS CN CO CK CT : Addr) : Prop where
  many : Cal P w K mg base CX0 2 "how_many" ["bound"] (spMany CB)
  numbered : Cal P w K mg base CX0 2 "numbered" ["bound", "number"] (spNumbered CB)
  inputs : Cal P w K mg base CX0 3 "all_inputs" ["bound"] (spInputs CB)
  judged : Cal P w K mg base CX0 6 "judged" ["program", "relation", "row"] (spJudged K CR)
  so : Cal P w K mg base CX0 2 "is_so" ["condition", "row"] (spSo K)
  stands : Cal P w K mg base CX0 4 "stands" ["way", "left", "right"] spStands
  sides : Cal P w K mg base CX0 5 "sides" ["program", "relation", "row"] (spSides K CR)
  program : Cal P w K mg base (CXo P w) 4 "read_program" ["told"] (spWhole CN VametBase.readProgram ProgAt)
  relation : Cal P w K mg base (CXo P w) 4 "read_relation" ["told"] (spWhole CN VametBase.readRelation (RelAt CR))
  bound : Cal P w K mg base (CXo P w) 3 "read_bound" ["told"] (spWhole CN VametBase.readBound (BndOk CB))
  row : Cal P w K mg base (CXo P w) 3 "read_row" ["told"] (spWhole CN VametBase.readRow RowOk)
  long : Cal P w K mg base CX0 1 "as_long" ["left", "right"] (spB2 fun a b => a.length == b.length)
  mkR : ICal P w K mg base CX0 1 CR "Relation" ["self", "condition", "before", "way", "after"] (spRInit CR)
  mkB : ICal P w K mg base CX0 1 CB "Bound" ["self", "length", "lowest", "highest"] (spBInit CB)
  mkS : ICal P w K mg base CX0 3 CS "Subject" ["self"] (spSInit CS CR CB)
  counted : Cal P w K mg base CX0 1 "counted" ["row"] spCounted
  look : Cal P w K mg base CX0 7 "what_look_tells" ["subject", "row"] (spLook CS CR CB)
theorem core (F : Facts K mg CB CR CD CS CN CO CK CT) : Core P w K mg base CB CR CD CS CN CO CK CT := by
  have choices := ok_choices (P := P) (w := w) (base := base) F.d_choices F.t_Bound
  have many := ok_how_many F.d_how_many F.t_Bound F.b_range choices
  have numbered := ok_numbered F.d_numbered F.t_Bound F.b_range F.b_list F.b_reversed choices
  have inputs := ok_all_inputs F.d_all_inputs F.b_range many numbered
  have steps : Steps P w K mg base := ⟨ok_add F.d_add, ok_times F.d_times, ok_rest F.d_rest, ok_without_signs F.d_without_signs F.b_abs, ok_rising F.d_rising F.b_sorted, ok_turned_round F.d_turned_round F.b_list F.b_reversed, ok_rotated F.d_rotated F.b_len, ok_taken F.d_taken, ok_dropped F.d_dropped, ok_above F.d_above, ok_once F.d_once, ok_sum_alone F.d_sum_alone F.b_sum, ok_greatest F.d_greatest F.b_max, ok_least F.d_least F.b_min, ok_count_alone F.d_count_alone F.b_len, ok_differences F.d_differences F.b_zip, ok_running_sums F.d_running_sums, ok_twice F.d_twice⟩
  have beyond := ok_is_beyond (P := P) (w := w) (base := base) F.d_is_beyond F.b_len F.b_bool F.b_max F.b_min F.i_MOST_NUMBERS F.i_FARTHEST
  have after := ok_after_step F.d_after_step steps F.g_STEPS_WITH_NUMBER F.g_STEPS_ALONE
  have run := ok_run F.d_run after beyond
  have conds : Conds P w K mg base := ⟨ok_always F.d_always, ok_has_numbers F.d_has_numbers F.b_len, ok_is_rising F.d_is_rising F.b_sorted, ok_none_below_zero F.d_none_below_zero F.b_all, ok_none_twice F.d_none_twice F.b_len F.b_set⟩
  have long := ok_as_long (P := P) (w := w) (base := base) F.d_as_long F.b_len
  have most := ok_at_most F.d_at_most F.b_zip F.b_all long
  have rels : Rels P w K mg base := ⟨ok_equal F.d_equal, ok_same_bag F.d_same_bag F.b_sorted, ok_same_numbers F.d_same_numbers F.b_set, most, ok_at_least F.d_at_least most, ok_begins F.d_begins F.b_len, long⟩
  have so := ok_is_so F.d_is_so F.b_len F.i_SO_MANY conds F.g_PLAIN_CONDITIONS
  have stands := ok_stands F.d_stands rels F.g_WAYS
  have both := ok_run_both F.d_run_both run
  have sides := ok_sides F.d_sides F.t_Relation both
  have judged := ok_judged F.d_judged F.t_Relation F.i_KEPT F.i_BROKEN F.i_OFF sides so stands
  have R : Rdr P w K mg base CD CN := ⟨F.t_Reader, F.x_NotWhole, ok_reader_init F.n_Reader F.t_Reader, ok_take F.m_take F.t_Reader F.x_NotWhole F.b_len, ok_finish F.m_finish F.t_Reader F.x_NotWhole F.b_len⟩
  have tstep := ok_take_step F.d_take_step F.t_Reader R.tk F.i_LAST_STEP F.g_STEP_NUMBERS
  have tprog := ok_take_program F.d_take_program F.t_Reader F.b_range R.tk F.i_MOST_STEPS tstep
  have tcond := ok_take_condition F.d_take_condition F.t_Reader R.tk F.i_SO_MANY F.i_MOST_COUNTED
  have mkR := ok_relation_init (P := P) (w := w) (base := base) F.n_Relation F.t_Relation
  have mkB := ok_bound_init (P := P) (w := w) (base := base) F.n_Bound F.t_Bound
  have counted := ok_counted (P := P) (w := w) (base := base) F.d_counted F.b_len
  exact ⟨many, numbered, inputs, judged, so, stands, sides, ok_read_program F.d_read_program R tprog, ok_read_relation F.d_read_relation R F.t_Relation F.i_LAST_WAY tcond tprog mkR,
    ok_read_bound F.d_read_bound R F.t_Bound F.i_LONGEST F.i_FARTHEST_TOLD F.i_MOST_INPUTS mkB many, ok_read_row F.d_read_row R F.b_range F.i_LONGEST F.i_FARTHEST_TOLD, long, mkR, mkB, ok_subject_init F.n_Subject F.t_Subject mkR mkB, counted,
    ok_look F.d_what_look_tells F.t_Subject F.i_OFF counted judged⟩
end
end Rh

end

-- part RhEnd
section
set_option Elab.async false
set_option linter.all false
set_option maxRecDepth 100000
set_option maxHeartbeats 2000000
namespace Rh
open PySem PySem.Spec PyProof.Rows L2
/-- what is asked of the list of calls -/
theorem asked_some {l : List Int} (h : PyVametb.answers_asked l = true) : (∃ raw, PyFlat.calls PyVametb.shape l.length l = some raw) ∧ (PyVametb.answers l).length ≤ 10000000 := by
  unfold PyVametb.answers_asked at h
  split at h
  · cases h
  · rename_i raw hr
    refine ⟨⟨raw, hr⟩, ?_⟩
    rw [Bool.and_eq_true] at h
    exact of_decide_eq_true h.2
theorem sp_ok (K : PySem.W.Frag) (H : Hp) (xs : List V) (a : PySem.W.Codec.denoteAll PySem.Challenge.rw_relationsheld_s01_answers.args) (_ : OnlyF H) (_ : PySem.W.Codec.withinAll PySem.Challenge.rw_relationsheld_s01_answers.args a = true)
    (hask : PySem.W.Codec.app PySem.Challenge.rw_relationsheld_s01_answers.args PySem.Challenge.rw_relationsheld_s01_answers.asked a = true) (hx : DwAll K H xs (PySem.W.Codec.encAll PySem.Challenge.rw_relationsheld_s01_answers.args a)) :
    spAnswers K xs H (fun v H' => Dw K H' v (PySem.Challenge.rw_relationsheld_s01_answers.ret.enc (PySem.W.Codec.app PySem.Challenge.rw_relationsheld_s01_answers.args PySem.Challenge.rw_relationsheld_s01_answers.f a))) fun _ _ _ => False := by
  cases hx with
  | cons h1 h2 =>
    cases h2
    cases h1 with
    | lst hs ha =>
      have e := L2.ints_dw a.1 _ ha
      subst e
      obtain ⟨⟨raw, hr⟩, hl⟩ := asked_some (l := a.1) hask
      exact ⟨_, a.1, raw, rfl, hs, hr, hl, fun H' d _ hd => .lst (L2.SqL.of hd) (L2.dw_ints _)⟩
end Rh

end

-- part RhFinal
section
set_option Elab.async false
set_option linter.all false
set_option maxRecDepth 100000
set_option maxHeartbeats 2000000
namespace Rh
open PySem PySem.Spec PyProof.Rows L2
section
variable {P : Program} {w : World} {K : PySem.W.Frag} {mg : Str → Option Value}
theorem asks {base : Heap} {CB CR CD CS CN CO CK CT : Addr} (F : Facts K mg CB CR CD CS CN CO CK CT) (c : Core P w K mg base CB CR CD CS CN CO CK CT) : Asks P w K mg base CS CR CB [(CN, -1), (CO, -2), (CK, -4), (CT, -7)] tabCalls 10 Called := by
  have gone : Cal P w K mg base (CXo P w) 4 "gone_through" ["subject"] (spGone CS CR CB CT) := ok_gone_through F.d_gone_through F.t_Subject F.x_TooMany F.i_MOST_GONE_THROUGH c.many c.inputs
  have verd := ok_all_verdicts F.d_all_verdicts c.judged
  have ver := ok_verdicts_of F.d_verdicts_of F.t_Subject gone verd
  have pairs := ok_pairs_of F.d_pairs_of F.t_Subject gone (ok_all_pairs F.d_all_pairs c.judged)
  have bro := ok_all_broken (P := P) (w := w) (base := base) F.d_all_broken F.b_enumerate F.i_BROKEN
  have ways := ok_ways F.d_ways_that_hold F.b_len F.b_range F.g_WAYS (ok_holds F.d_holds F.b_all c.stands)
  have strong := ok_strongest (P := P) (w := w) (base := base) F.d_strongest F.g_FOLLOWING
  have under := ok_under F.d_under_conditions F.t_Relation F.g_LOOKED_AT c.mkR verd (ok_kept_and_broken F.d_kept_and_broken F.b_zip F.i_KEPT F.i_BROKEN c.so)
  have cut := ok_first_cut F.d_first_cut F.b_zip F.g_LOOKED_AT under
  have ctold := ok_condition_told (P := P) (w := w) (base := base) F.d_condition_told F.b_list F.i_SO_MANY
  have slack := ok_slack F.d_slack F.b_zip F.b_min F.b_max c.long
  have against := ok_counts_against F.d_counts_against F.b_list F.b_zip F.i_KEPT F.i_BROKEN verd
  have isb := ok_is_broken F.d_is_broken F.i_BROKEN c.judged
  have near := ok_nearer (P := P) (w := w) (base := base) F.d_nearer F.b_abs
  have small := ok_smaller_rows F.d_smaller_rows F.b_len F.b_range F.b_enumerate near
  have made := ok_made_smaller F.d_made_smaller F.b_range F.i_MOST_TIMES (ok_first_broken F.d_first_broken isb) small
  have m1 : (CN, (-1 : Int)) ∈ [(CN, (-1 : Int)), (CO, -2), (CK, -4), (CT, -7)] := by simp
  have m2 : (CO, (-2 : Int)) ∈ [(CN, (-1 : Int)), (CO, -2), (CK, -4), (CT, -7)] := by simp
  have m4 : (CK, (-4 : Int)) ∈ [(CN, (-1 : Int)), (CO, -2), (CK, -4), (CT, -7)] := by simp
  have m7 : (CT, (-7 : Int)) ∈ [(CN, (-1 : Int)), (CO, -2), (CK, -4), (CT, -7)] := by simp
  intro n l k h
  cases h with
  | program => exact ⟨_, _, 5, _, _, by decide, rfl, ok_tell_program F.d_tell_program F.t_Subject F.b_len m1 c.program, trivial, rfl⟩
  | relation => exact ⟨_, _, 5, _, _, by decide, rfl, ok_tell_relation F.d_tell_relation F.t_Subject F.t_Relation F.b_len m1 c.relation, trivial, rfl⟩
  | bound => exact ⟨_, _, 5, _, _, by decide, rfl, ok_tell_bound F.d_tell_bound F.t_Subject m1 c.bound c.many, trivial, rfl⟩
  | input k => exact ⟨_, _, 3, _, _, by decide, rfl, ok_ask_numbered F.d_ask_numbered F.t_Subject F.x_NoSuch m2 c.many c.numbered c.counted, ⟨k, rfl⟩, rfl⟩
  | look => exact ⟨_, _, 8, _, _, by decide, rfl, ok_ask_look F.d_ask_look m1 c.row c.look, trivial, rfl⟩
  | held => exact ⟨_, _, 9, _, _, by decide, rfl, ok_ask_held F.d_ask_held F.b_len F.i_KEPT F.i_OFF m7 ver bro, trivial, rfl⟩
  | breaking k => exact ⟨_, _, 9, _, _, by decide, rfl, ok_ask_breaking F.d_ask_breaking F.b_len F.t_Subject F.x_NoSuch m7 m2 ver bro c.numbered c.counted c.look, ⟨k, rfl⟩, rfl⟩
  | stand => exact ⟨_, _, 9, _, _, by decide, rfl, ok_ask_stand F.d_ask_stand m7 pairs ways strong c.counted, trivial, rfl⟩
  | conds => exact ⟨_, _, 9, _, _, by decide, rfl, ok_ask_conds F.d_ask_conds F.t_Subject m7 gone under, trivial, rfl⟩
  | cut => exact ⟨_, _, 10, _, _, by decide, rfl, ok_ask_cut F.d_ask_cut F.t_Subject m7 gone cut ctold, trivial, rfl⟩
  | slack => exact ⟨_, _, 9, _, _, by decide, rfl, ok_ask_slack F.d_ask_slack m7 pairs slack, trivial, rfl⟩
  | shrink => exact ⟨_, _, 10, _, _, by decide, rfl, ok_ask_shrink F.d_ask_shrink F.t_Subject F.x_NotBroken m1 m4 c.row isb made c.counted, trivial, rfl⟩
  | against => exact ⟨_, _, 9, _, _, by decide, rfl, ok_ask_against F.d_ask_against F.t_Subject m7 m1 c.relation gone against, trivial, rfl⟩
theorem final {h : Heap} {fa : Addr} (X : K.In h) (G : h.Ns mainGlobals mg) (hfa : mg "answers" = some (.ref fa)) (FF : ∃ CB CR CD CS CN CO CK CT, Facts K mg CB CR CD CS CN CO CK CT) :
    ∃ fd : FuncData, (∀ (s : Shared) (us : List Value), us.length = (["calls"] : List Str).length → BindsTo s fd ⟨us, []⟩ ((["calls"] : List Str).zip us)) ∧ ∀ base : Heap, K.In base → base.Ns mainGlobals mg → FnOk P w K mg base CX0 13 fa fd ["calls"] (spAnswers K) := by
  obtain ⟨CB, CR, CD, CS, CN, CO, CK, CT, F⟩ := FF
  obtain ⟨f, fd, Fn, hm⟩ := F.d_answers
  have e : fa = f := by rw [hfa] at hm; cases hm; rfl
  subst e
  refine ⟨fd, ?_, fun base _ _ => ?_⟩
  · obtain ⟨oc, od, kV, doc, pm, an, cdv, ct, osl, rfl, lk, hcd⟩ := Fn.ex
    exact fun s us hu => match us, hu with | [_], _ => .of_eq rfl
  · have c := core (P := P) (w := w) (base := base) F
    have a := ok_answer F.d_answer F.x_NotWhole F.x_NoSuch F.x_NotBroken F.x_TooMany F.parts F.apart.1 F.apart.2.1 F.apart.2.2.1 F.apart.2.2.2.1 F.apart.2.2.2.2.1 F.apart.2.2.2.2.2 F.g_CALLS (asks F c)
    exact fn_answers Fn F.b_len (by decide) c.mkS a c.counted (ok_span F.d_span_told F.g_CALLS_WITH_LIST F.g_CALLS_WITH_NUMBER)
end
end Rh

end
open PySem PySem.W PyProof.Rows
set_option maxRecDepth 100000 in
set_option maxHeartbeats 0 in
theorem PySem.Challenge.cw_relationsheld_s01_answers_holds : PySem.Challenge.rw_relationsheld_s01_answers.Holds := by
  w_on; k_headS; (case hw => exact ⟨[.list [.int 5]], by decide +kernel, by decide +kernel⟩)
  k_fillS
  refine L2.walk_specK (r := PySem.Challenge.rw_relationsheld_s01_answers) (k := 13) (CX := L2.CX0) (ps := ["calls"]) (sp := Rh.spAnswers) (by decide +kernel) rfl rfl ⟨rfl, by decide, by decide⟩ (fun w h Y => PySem.W.kIn_of Y) ?F Rh.sp_ok (fun _ _ _ _ z => z)
  intro w mg fa h Y KX G hmg
  refine' Rh.final KX G hmg ?FF
  refine' ⟨?CB, ?CR, ?CD, ?CS, ?CN, ?CO, ?CK, ?CT, ⟨?b_len, ?b_range, ?b_list, ?b_reversed, ?b_sorted, ?b_sum, ?b_max, ?b_min, ?b_abs, ?b_all, ?b_set, ?b_zip, ?b_bool, ?b_enumerate, ?i_MOST_NUMBERS, ?i_FARTHEST, ?i_SO_MANY, ?i_KEPT, ?i_BROKEN, ?i_OFF, ?i_LAST_STEP, ?i_MOST_STEPS, ?i_MOST_COUNTED, ?i_LAST_WAY, ?i_LONGEST, ?i_FARTHEST_TOLD, ?i_MOST_INPUTS, ?i_MOST_GONE_THROUGH, ?i_MOST_TIMES, ?t_Bound, ?n_Bound, ?t_Relation, ?n_Relation, ?t_Reader, ?n_Reader, ?t_Subject, ?n_Subject, ?m_take, ?m_finish, ?x_NotWhole, ?x_NoSuch, ?x_NotBroken, ?x_TooMany, ?parts, ?apart, ?g_STEPS_WITH_NUMBER, ?g_STEPS_ALONE, ?g_PLAIN_CONDITIONS, ?g_WAYS, ?g_STEP_NUMBERS, ?g_CALLS, ?g_CALLS_WITH_LIST, ?g_CALLS_WITH_NUMBER, ?g_FOLLOWING, ?g_LOOKED_AT, ?d_add, ?d_times, ?d_rest, ?d_without_signs, ?d_rising, ?d_turned_round, ?d_rotated, ?d_taken, ?d_dropped, ?d_above, ?d_once, ?d_sum_alone, ?d_greatest, ?d_least, ?d_count_alone, ?d_differences, ?d_running_sums, ?d_twice, ?d_is_beyond, ?d_after_step, ?d_run, ?d_always, ?d_has_numbers, ?d_is_rising, ?d_none_below_zero, ?d_none_twice, ?d_is_so, ?d_equal, ?d_same_bag, ?d_same_numbers, ?d_as_long, ?d_at_most, ?d_at_least, ?d_begins, ?d_stands, ?d_run_both, ?d_sides, ?d_judged, ?d_all_verdicts, ?d_all_pairs, ?d_holds, ?d_ways_that_hold, ?d_strongest, ?d_kept_and_broken, ?d_under_conditions, ?d_first_cut, ?d_slack, ?d_counts_against, ?d_choices, ?d_how_many, ?d_numbered, ?d_all_inputs, ?d_take_step, ?d_take_program, ?d_take_condition, ?d_read_program, ?d_read_relation, ?d_read_bound, ?d_read_row, ?d_nearer, ?d_smaller_rows, ?d_is_broken, ?d_first_broken, ?d_made_smaller, ?d_counted, ?d_condition_told, ?d_what_look_tells, ?d_gone_through, ?d_verdicts_of, ?d_pairs_of, ?d_all_broken, ?d_tell_program, ?d_tell_relation, ?d_tell_bound, ?d_ask_numbered, ?d_ask_look, ?d_ask_held, ?d_ask_breaking, ?d_ask_stand, ?d_ask_conds, ?d_ask_cut, ?d_ask_slack, ?d_ask_shrink, ?d_ask_against, ?d_span_told, ?d_answer, ?d_answers⟩⟩
  (case n_Bound => refine' Rh.di_mk (PySem.W.mg_of KX G ?z0) ?z1 ?z2 ?z3 ?z4 ?z5 ?z6 ?z7; (case z0 => k_is); (case z1 => k_is); (case z2 => k_is); (case z3 => k_is); (case z4 => k_is); (case z5 => k_is); (case z6 => k_is); (case z7 => k_is))
  (case t_Bound => refine' ⟨⟨?z0, ?z1, ?z2, ?z3⟩, ?y0, ?y1, ?y2⟩; (case z0 => k_is); (case z1 => k_is); (case z2 => k_is); (case z3 => k_is); (case y0 => unfold L2.NoAttr; k_is); (case y1 => unfold L2.NoAttr; k_is); (case y2 => unfold L2.NoAttr; k_is))
  (case n_Relation => refine' Rh.di_mk (PySem.W.mg_of KX G ?z0) ?z1 ?z2 ?z3 ?z4 ?z5 ?z6 ?z7; (case z0 => k_is); (case z1 => k_is); (case z2 => k_is); (case z3 => k_is); (case z4 => k_is); (case z5 => k_is); (case z6 => k_is); (case z7 => k_is))
  (case t_Relation => refine' ⟨⟨?z0, ?z1, ?z2, ?z3⟩, ?y0, ?y1, ?y2, ?y3⟩; (case z0 => k_is); (case z1 => k_is); (case z2 => k_is); (case z3 => k_is); (case y0 => unfold L2.NoAttr; k_is); (case y1 => unfold L2.NoAttr; k_is); (case y2 => unfold L2.NoAttr; k_is); (case y3 => unfold L2.NoAttr; k_is))
  (case n_Reader => refine' Rh.di_mk (PySem.W.mg_of KX G ?z0) ?z1 ?z2 ?z3 ?z4 ?z5 ?z6 ?z7; (case z0 => k_is); (case z1 => k_is); (case z2 => k_is); (case z3 => k_is); (case z4 => k_is); (case z5 => k_is); (case z6 => k_is); (case z7 => k_is))
  (case t_Reader => refine' ⟨⟨?z0, ?z1, ?z2, ?z3⟩, ?y0, ?y1⟩; (case z0 => k_is); (case z1 => k_is); (case z2 => k_is); (case z3 => k_is); (case y0 => unfold L2.NoAttr; k_is); (case y1 => unfold L2.NoAttr; k_is))
  (case n_Subject => refine' Rh.di_mk (PySem.W.mg_of KX G ?z0) ?z1 ?z2 ?z3 ?z4 ?z5 ?z6 ?z7; (case z0 => k_is); (case z1 => k_is); (case z2 => k_is); (case z3 => k_is); (case z4 => k_is); (case z5 => k_is); (case z6 => k_is); (case z7 => k_is))
  (case t_Subject => refine' ⟨⟨?z0, ?z1, ?z2, ?z3⟩, ?y0, ?y1, ?y2⟩; (case z0 => k_is); (case z1 => k_is); (case z2 => k_is); (case z3 => k_is); (case y0 => unfold L2.NoAttr; k_is); (case y1 => unfold L2.NoAttr; k_is); (case y2 => unfold L2.NoAttr; k_is))
  (case x_NotWhole => refine' ⟨PySem.W.mg_of KX G ?z0, ?z1⟩; (case z0 => k_is); (case z1 => k_exc))
  (case x_NoSuch => refine' ⟨PySem.W.mg_of KX G ?z0, ?z1⟩; (case z0 => k_is); (case z1 => k_exc))
  (case x_NotBroken => refine' ⟨PySem.W.mg_of KX G ?z0, ?z1⟩; (case z0 => k_is); (case z1 => k_exc))
  (case x_TooMany => refine' ⟨PySem.W.mg_of KX G ?z0, ?z1⟩; (case z0 => k_is); (case z1 => k_exc))
  (case b_len => refine' PySem.W.mg_none_of KX G ?z0; (case z0 => k_is))
  (case b_range => refine' PySem.W.mg_none_of KX G ?z0; (case z0 => k_is))
  (case b_list => refine' PySem.W.mg_none_of KX G ?z0; (case z0 => k_is))
  (case b_reversed => refine' PySem.W.mg_none_of KX G ?z0; (case z0 => k_is))
  (case b_sorted => refine' PySem.W.mg_none_of KX G ?z0; (case z0 => k_is))
  (case b_sum => refine' PySem.W.mg_none_of KX G ?z0; (case z0 => k_is))
  (case b_max => refine' PySem.W.mg_none_of KX G ?z0; (case z0 => k_is))
  (case b_min => refine' PySem.W.mg_none_of KX G ?z0; (case z0 => k_is))
  (case b_abs => refine' PySem.W.mg_none_of KX G ?z0; (case z0 => k_is))
  (case b_all => refine' PySem.W.mg_none_of KX G ?z0; (case z0 => k_is))
  (case b_set => refine' PySem.W.mg_none_of KX G ?z0; (case z0 => k_is))
  (case b_zip => refine' PySem.W.mg_none_of KX G ?z0; (case z0 => k_is))
  (case b_bool => refine' PySem.W.mg_none_of KX G ?z0; (case z0 => k_is))
  (case b_enumerate => refine' PySem.W.mg_none_of KX G ?z0; (case z0 => k_is))
  (case i_MOST_NUMBERS => refine' Rh.int_mk KX G ?z0; (case z0 => k_is))
  (case i_FARTHEST => refine' Rh.int_mk KX G ?z0; (case z0 => k_is))
  (case i_SO_MANY => refine' Rh.int_mk KX G ?z0; (case z0 => k_is))
  (case i_KEPT => refine' Rh.int_mk KX G ?z0; (case z0 => k_is))
  (case i_BROKEN => refine' Rh.int_mk KX G ?z0; (case z0 => k_is))
  (case i_OFF => refine' Rh.int_mk KX G ?z0; (case z0 => k_is))
  (case i_LAST_STEP => refine' Rh.int_mk KX G ?z0; (case z0 => k_is))
  (case i_MOST_STEPS => refine' Rh.int_mk KX G ?z0; (case z0 => k_is))
  (case i_MOST_COUNTED => refine' Rh.int_mk KX G ?z0; (case z0 => k_is))
  (case i_LAST_WAY => refine' Rh.int_mk KX G ?z0; (case z0 => k_is))
  (case i_LONGEST => refine' Rh.int_mk KX G ?z0; (case z0 => k_is))
  (case i_FARTHEST_TOLD => refine' Rh.int_mk KX G ?z0; (case z0 => k_is))
  (case i_MOST_INPUTS => refine' Rh.int_mk KX G ?z0; (case z0 => k_is))
  (case i_MOST_GONE_THROUGH => refine' Rh.int_mk KX G ?z0; (case z0 => k_is))
  (case i_MOST_TIMES => refine' Rh.int_mk KX G ?z0; (case z0 => k_is))
  (case m_take => refine' Rh.dm_mk ?z0 ?z1 ?z2 ?z3 ?z4; (case z0 => k_is); (case z1 => k_is); (case z2 => k_is); (case z3 => k_is); (case z4 => k_is))
  (case m_finish => refine' Rh.dm_mk ?z0 ?z1 ?z2 ?z3 ?z4; (case z0 => k_is); (case z1 => k_is); (case z2 => k_is); (case z3 => k_is); (case z4 => k_is))
  (case parts => refine' Rh.parts_mk ?z0; (case z0 => kernel_rfl))
  (case apart => exact ⟨by decide, by decide, by decide, by decide, by decide, by decide⟩)
  (case g_STEPS_WITH_NUMBER => refine' Rh.ftab_mk KX G ?z0 ?z1; (case z0 => k_is); (case z1 => kernel_rfl))
  (case g_STEPS_ALONE => refine' Rh.ftab_mk KX G ?z0 ?z1; (case z0 => k_is); (case z1 => kernel_rfl))
  (case g_PLAIN_CONDITIONS => refine' Rh.ttab_mk KX G ?z0 ?z1; (case z0 => k_is); (case z1 => kernel_rfl))
  (case g_WAYS => refine' Rh.ttab_mk KX G ?z0 ?z1; (case z0 => k_is); (case z1 => kernel_rfl))
  (case g_STEP_NUMBERS => refine' Rh.ntab_mk KX G ?z0 ?z1; (case z0 => k_is); (case z1 => kernel_rfl))
  (case g_CALLS => refine' Rh.ftab_mk KX G ?z0 ?z1; (case z0 => k_is); (case z1 => kernel_rfl))
  (case g_CALLS_WITH_LIST => refine' Rh.itab_mk KX G ?z0 ?z1; (case z0 => k_is); (case z1 => kernel_rfl))
  (case g_CALLS_WITH_NUMBER => refine' Rh.itab_mk KX G ?z0 ?z1; (case z0 => k_is); (case z1 => kernel_rfl))
  (case g_FOLLOWING => refine' Rh.gtab_mk KX G ?z0 ?z1; (case z0 => k_is); (case z1 => kernel_rfl))
  (case g_LOOKED_AT => refine' Rh.ltab_mk KX G ?z0 ?z1; (case z0 => k_is); (case z1 => kernel_rfl))
  (case d_add => refine' Rh.df_mk KX G ?z0 ?z1 ?z2 ?z3; (case z0 => k_is); (case z1 => k_is); (case z2 => k_is); (case z3 => k_is))
  (case d_times => refine' Rh.df_mk KX G ?z0 ?z1 ?z2 ?z3; (case z0 => k_is); (case z1 => k_is); (case z2 => k_is); (case z3 => k_is))
  (case d_rest => refine' Rh.df_mk KX G ?z0 ?z1 ?z2 ?z3; (case z0 => k_is); (case z1 => k_is); (case z2 => k_is); (case z3 => k_is))
  (case d_without_signs => refine' Rh.df_mk KX G ?z0 ?z1 ?z2 ?z3; (case z0 => k_is); (case z1 => k_is); (case z2 => k_is); (case z3 => k_is))
  (case d_rising => refine' Rh.df_mk KX G ?z0 ?z1 ?z2 ?z3; (case z0 => k_is); (case z1 => k_is); (case z2 => k_is); (case z3 => k_is))
  (case d_turned_round => refine' Rh.df_mk KX G ?z0 ?z1 ?z2 ?z3; (case z0 => k_is); (case z1 => k_is); (case z2 => k_is); (case z3 => k_is))
  (case d_rotated => refine' Rh.df_mk KX G ?z0 ?z1 ?z2 ?z3; (case z0 => k_is); (case z1 => k_is); (case z2 => k_is); (case z3 => k_is))
  (case d_taken => refine' Rh.df_mk KX G ?z0 ?z1 ?z2 ?z3; (case z0 => k_is); (case z1 => k_is); (case z2 => k_is); (case z3 => k_is))
  (case d_dropped => refine' Rh.df_mk KX G ?z0 ?z1 ?z2 ?z3; (case z0 => k_is); (case z1 => k_is); (case z2 => k_is); (case z3 => k_is))
  (case d_above => refine' Rh.df_mk KX G ?z0 ?z1 ?z2 ?z3; (case z0 => k_is); (case z1 => k_is); (case z2 => k_is); (case z3 => k_is))
  (case d_once => refine' Rh.df_mk KX G ?z0 ?z1 ?z2 ?z3; (case z0 => k_is); (case z1 => k_is); (case z2 => k_is); (case z3 => k_is))
  (case d_sum_alone => refine' Rh.df_mk KX G ?z0 ?z1 ?z2 ?z3; (case z0 => k_is); (case z1 => k_is); (case z2 => k_is); (case z3 => k_is))
  (case d_greatest => refine' Rh.df_mk KX G ?z0 ?z1 ?z2 ?z3; (case z0 => k_is); (case z1 => k_is); (case z2 => k_is); (case z3 => k_is))
  (case d_least => refine' Rh.df_mk KX G ?z0 ?z1 ?z2 ?z3; (case z0 => k_is); (case z1 => k_is); (case z2 => k_is); (case z3 => k_is))
  (case d_count_alone => refine' Rh.df_mk KX G ?z0 ?z1 ?z2 ?z3; (case z0 => k_is); (case z1 => k_is); (case z2 => k_is); (case z3 => k_is))
  (case d_differences => refine' Rh.df_mk KX G ?z0 ?z1 ?z2 ?z3; (case z0 => k_is); (case z1 => k_is); (case z2 => k_is); (case z3 => k_is))
  (case d_running_sums => refine' Rh.df_mk KX G ?z0 ?z1 ?z2 ?z3; (case z0 => k_is); (case z1 => k_is); (case z2 => k_is); (case z3 => k_is))
  (case d_twice => refine' Rh.df_mk KX G ?z0 ?z1 ?z2 ?z3; (case z0 => k_is); (case z1 => k_is); (case z2 => k_is); (case z3 => k_is))
  (case d_is_beyond => refine' Rh.df_mk KX G ?z0 ?z1 ?z2 ?z3; (case z0 => k_is); (case z1 => k_is); (case z2 => k_is); (case z3 => k_is))
  (case d_after_step => refine' Rh.df_mk KX G ?z0 ?z1 ?z2 ?z3; (case z0 => k_is); (case z1 => k_is); (case z2 => k_is); (case z3 => k_is))
  (case d_run => refine' Rh.df_mk KX G ?z0 ?z1 ?z2 ?z3; (case z0 => k_is); (case z1 => k_is); (case z2 => k_is); (case z3 => k_is))
  (case d_always => refine' Rh.df_mk KX G ?z0 ?z1 ?z2 ?z3; (case z0 => k_is); (case z1 => k_is); (case z2 => k_is); (case z3 => k_is))
  (case d_has_numbers => refine' Rh.df_mk KX G ?z0 ?z1 ?z2 ?z3; (case z0 => k_is); (case z1 => k_is); (case z2 => k_is); (case z3 => k_is))
  (case d_is_rising => refine' Rh.df_mk KX G ?z0 ?z1 ?z2 ?z3; (case z0 => k_is); (case z1 => k_is); (case z2 => k_is); (case z3 => k_is))
  (case d_none_below_zero => refine' Rh.df_mk KX G ?z0 ?z1 ?z2 ?z3; (case z0 => k_is); (case z1 => k_is); (case z2 => k_is); (case z3 => k_is))
  (case d_none_twice => refine' Rh.df_mk KX G ?z0 ?z1 ?z2 ?z3; (case z0 => k_is); (case z1 => k_is); (case z2 => k_is); (case z3 => k_is))
  (case d_is_so => refine' Rh.df_mk KX G ?z0 ?z1 ?z2 ?z3; (case z0 => k_is); (case z1 => k_is); (case z2 => k_is); (case z3 => k_is))
  (case d_equal => refine' Rh.df_mk KX G ?z0 ?z1 ?z2 ?z3; (case z0 => k_is); (case z1 => k_is); (case z2 => k_is); (case z3 => k_is))
  (case d_same_bag => refine' Rh.df_mk KX G ?z0 ?z1 ?z2 ?z3; (case z0 => k_is); (case z1 => k_is); (case z2 => k_is); (case z3 => k_is))
  (case d_same_numbers => refine' Rh.df_mk KX G ?z0 ?z1 ?z2 ?z3; (case z0 => k_is); (case z1 => k_is); (case z2 => k_is); (case z3 => k_is))
  (case d_as_long => refine' Rh.df_mk KX G ?z0 ?z1 ?z2 ?z3; (case z0 => k_is); (case z1 => k_is); (case z2 => k_is); (case z3 => k_is))
  (case d_at_most => refine' Rh.df_mk KX G ?z0 ?z1 ?z2 ?z3; (case z0 => k_is); (case z1 => k_is); (case z2 => k_is); (case z3 => k_is))
  (case d_at_least => refine' Rh.df_mk KX G ?z0 ?z1 ?z2 ?z3; (case z0 => k_is); (case z1 => k_is); (case z2 => k_is); (case z3 => k_is))
  (case d_begins => refine' Rh.df_mk KX G ?z0 ?z1 ?z2 ?z3; (case z0 => k_is); (case z1 => k_is); (case z2 => k_is); (case z3 => k_is))
  (case d_stands => refine' Rh.df_mk KX G ?z0 ?z1 ?z2 ?z3; (case z0 => k_is); (case z1 => k_is); (case z2 => k_is); (case z3 => k_is))
  (case d_run_both => refine' Rh.df_mk KX G ?z0 ?z1 ?z2 ?z3; (case z0 => k_is); (case z1 => k_is); (case z2 => k_is); (case z3 => k_is))
  (case d_sides => refine' Rh.df_mk KX G ?z0 ?z1 ?z2 ?z3; (case z0 => k_is); (case z1 => k_is); (case z2 => k_is); (case z3 => k_is))
  (case d_judged => refine' Rh.df_mk KX G ?z0 ?z1 ?z2 ?z3; (case z0 => k_is); (case z1 => k_is); (case z2 => k_is); (case z3 => k_is))
  (case d_all_verdicts => refine' Rh.df_mk KX G ?z0 ?z1 ?z2 ?z3; (case z0 => k_is); (case z1 => k_is); (case z2 => k_is); (case z3 => k_is))
  (case d_all_pairs => refine' Rh.df_mk KX G ?z0 ?z1 ?z2 ?z3; (case z0 => k_is); (case z1 => k_is); (case z2 => k_is); (case z3 => k_is))
  (case d_holds => refine' Rh.df_mk KX G ?z0 ?z1 ?z2 ?z3; (case z0 => k_is); (case z1 => k_is); (case z2 => k_is); (case z3 => k_is))
  (case d_ways_that_hold => refine' Rh.df_mk KX G ?z0 ?z1 ?z2 ?z3; (case z0 => k_is); (case z1 => k_is); (case z2 => k_is); (case z3 => k_is))
  (case d_strongest => refine' Rh.df_mk KX G ?z0 ?z1 ?z2 ?z3; (case z0 => k_is); (case z1 => k_is); (case z2 => k_is); (case z3 => k_is))
  (case d_kept_and_broken => refine' Rh.df_mk KX G ?z0 ?z1 ?z2 ?z3; (case z0 => k_is); (case z1 => k_is); (case z2 => k_is); (case z3 => k_is))
  (case d_under_conditions => refine' Rh.df_mk KX G ?z0 ?z1 ?z2 ?z3; (case z0 => k_is); (case z1 => k_is); (case z2 => k_is); (case z3 => k_is))
  (case d_first_cut => refine' Rh.df_mk KX G ?z0 ?z1 ?z2 ?z3; (case z0 => k_is); (case z1 => k_is); (case z2 => k_is); (case z3 => k_is))
  (case d_slack => refine' Rh.df_mk KX G ?z0 ?z1 ?z2 ?z3; (case z0 => k_is); (case z1 => k_is); (case z2 => k_is); (case z3 => k_is))
  (case d_counts_against => refine' Rh.df_mk KX G ?z0 ?z1 ?z2 ?z3; (case z0 => k_is); (case z1 => k_is); (case z2 => k_is); (case z3 => k_is))
  (case d_choices => refine' Rh.df_mk KX G ?z0 ?z1 ?z2 ?z3; (case z0 => k_is); (case z1 => k_is); (case z2 => k_is); (case z3 => k_is))
  (case d_how_many => refine' Rh.df_mk KX G ?z0 ?z1 ?z2 ?z3; (case z0 => k_is); (case z1 => k_is); (case z2 => k_is); (case z3 => k_is))
  (case d_numbered => refine' Rh.df_mk KX G ?z0 ?z1 ?z2 ?z3; (case z0 => k_is); (case z1 => k_is); (case z2 => k_is); (case z3 => k_is))
  (case d_all_inputs => refine' Rh.df_mk KX G ?z0 ?z1 ?z2 ?z3; (case z0 => k_is); (case z1 => k_is); (case z2 => k_is); (case z3 => k_is))
  (case d_take_step => refine' Rh.df_mk KX G ?z0 ?z1 ?z2 ?z3; (case z0 => k_is); (case z1 => k_is); (case z2 => k_is); (case z3 => k_is))
  (case d_take_program => refine' Rh.df_mk KX G ?z0 ?z1 ?z2 ?z3; (case z0 => k_is); (case z1 => k_is); (case z2 => k_is); (case z3 => k_is))
  (case d_take_condition => refine' Rh.df_mk KX G ?z0 ?z1 ?z2 ?z3; (case z0 => k_is); (case z1 => k_is); (case z2 => k_is); (case z3 => k_is))
  (case d_read_program => refine' Rh.df_mk KX G ?z0 ?z1 ?z2 ?z3; (case z0 => k_is); (case z1 => k_is); (case z2 => k_is); (case z3 => k_is))
  (case d_read_relation => refine' Rh.df_mk KX G ?z0 ?z1 ?z2 ?z3; (case z0 => k_is); (case z1 => k_is); (case z2 => k_is); (case z3 => k_is))
  (case d_read_bound => refine' Rh.df_mk KX G ?z0 ?z1 ?z2 ?z3; (case z0 => k_is); (case z1 => k_is); (case z2 => k_is); (case z3 => k_is))
  (case d_read_row => refine' Rh.df_mk KX G ?z0 ?z1 ?z2 ?z3; (case z0 => k_is); (case z1 => k_is); (case z2 => k_is); (case z3 => k_is))
  (case d_nearer => refine' Rh.df_mk KX G ?z0 ?z1 ?z2 ?z3; (case z0 => k_is); (case z1 => k_is); (case z2 => k_is); (case z3 => k_is))
  (case d_smaller_rows => refine' Rh.df_mk KX G ?z0 ?z1 ?z2 ?z3; (case z0 => k_is); (case z1 => k_is); (case z2 => k_is); (case z3 => k_is))
  (case d_is_broken => refine' Rh.df_mk KX G ?z0 ?z1 ?z2 ?z3; (case z0 => k_is); (case z1 => k_is); (case z2 => k_is); (case z3 => k_is))
  (case d_first_broken => refine' Rh.df_mk KX G ?z0 ?z1 ?z2 ?z3; (case z0 => k_is); (case z1 => k_is); (case z2 => k_is); (case z3 => k_is))
  (case d_made_smaller => refine' Rh.df_mk KX G ?z0 ?z1 ?z2 ?z3; (case z0 => k_is); (case z1 => k_is); (case z2 => k_is); (case z3 => k_is))
  (case d_counted => refine' Rh.df_mk KX G ?z0 ?z1 ?z2 ?z3; (case z0 => k_is); (case z1 => k_is); (case z2 => k_is); (case z3 => k_is))
  (case d_condition_told => refine' Rh.df_mk KX G ?z0 ?z1 ?z2 ?z3; (case z0 => k_is); (case z1 => k_is); (case z2 => k_is); (case z3 => k_is))
  (case d_what_look_tells => refine' Rh.df_mk KX G ?z0 ?z1 ?z2 ?z3; (case z0 => k_is); (case z1 => k_is); (case z2 => k_is); (case z3 => k_is))
  (case d_gone_through => refine' Rh.df_mk KX G ?z0 ?z1 ?z2 ?z3; (case z0 => k_is); (case z1 => k_is); (case z2 => k_is); (case z3 => k_is))
  (case d_verdicts_of => refine' Rh.df_mk KX G ?z0 ?z1 ?z2 ?z3; (case z0 => k_is); (case z1 => k_is); (case z2 => k_is); (case z3 => k_is))
  (case d_pairs_of => refine' Rh.df_mk KX G ?z0 ?z1 ?z2 ?z3; (case z0 => k_is); (case z1 => k_is); (case z2 => k_is); (case z3 => k_is))
  (case d_all_broken => refine' Rh.df_mk KX G ?z0 ?z1 ?z2 ?z3; (case z0 => k_is); (case z1 => k_is); (case z2 => k_is); (case z3 => k_is))
  (case d_tell_program => refine' Rh.df_mk KX G ?z0 ?z1 ?z2 ?z3; (case z0 => k_is); (case z1 => k_is); (case z2 => k_is); (case z3 => k_is))
  (case d_tell_relation => refine' Rh.df_mk KX G ?z0 ?z1 ?z2 ?z3; (case z0 => k_is); (case z1 => k_is); (case z2 => k_is); (case z3 => k_is))
  (case d_tell_bound => refine' Rh.df_mk KX G ?z0 ?z1 ?z2 ?z3; (case z0 => k_is); (case z1 => k_is); (case z2 => k_is); (case z3 => k_is))
  (case d_ask_numbered => refine' Rh.df_mk KX G ?z0 ?z1 ?z2 ?z3; (case z0 => k_is); (case z1 => k_is); (case z2 => k_is); (case z3 => k_is))
  (case d_ask_look => refine' Rh.df_mk KX G ?z0 ?z1 ?z2 ?z3; (case z0 => k_is); (case z1 => k_is); (case z2 => k_is); (case z3 => k_is))
  (case d_ask_held => refine' Rh.df_mk KX G ?z0 ?z1 ?z2 ?z3; (case z0 => k_is); (case z1 => k_is); (case z2 => k_is); (case z3 => k_is))
  (case d_ask_breaking => refine' Rh.df_mk KX G ?z0 ?z1 ?z2 ?z3; (case z0 => k_is); (case z1 => k_is); (case z2 => k_is); (case z3 => k_is))
  (case d_ask_stand => refine' Rh.df_mk KX G ?z0 ?z1 ?z2 ?z3; (case z0 => k_is); (case z1 => k_is); (case z2 => k_is); (case z3 => k_is))
  (case d_ask_conds => refine' Rh.df_mk KX G ?z0 ?z1 ?z2 ?z3; (case z0 => k_is); (case z1 => k_is); (case z2 => k_is); (case z3 => k_is))
  (case d_ask_cut => refine' Rh.df_mk KX G ?z0 ?z1 ?z2 ?z3; (case z0 => k_is); (case z1 => k_is); (case z2 => k_is); (case z3 => k_is))
  (case d_ask_slack => refine' Rh.df_mk KX G ?z0 ?z1 ?z2 ?z3; (case z0 => k_is); (case z1 => k_is); (case z2 => k_is); (case z3 => k_is))
  (case d_ask_shrink => refine' Rh.df_mk KX G ?z0 ?z1 ?z2 ?z3; (case z0 => k_is); (case z1 => k_is); (case z2 => k_is); (case z3 => k_is))
  (case d_ask_against => refine' Rh.df_mk KX G ?z0 ?z1 ?z2 ?z3; (case z0 => k_is); (case z1 => k_is); (case z2 => k_is); (case z3 => k_is))
  (case d_span_told => refine' Rh.df_mk KX G ?z0 ?z1 ?z2 ?z3; (case z0 => k_is); (case z1 => k_is); (case z2 => k_is); (case z3 => k_is))
  (case d_answer => refine' Rh.df_mk KX G ?z0 ?z1 ?z2 ?z3; (case z0 => k_is); (case z1 => k_is); (case z2 => k_is); (case z3 => k_is))
  (case d_answers => refine' Rh.df_mk KX G ?z0 ?z1 ?z2 ?z3; (case z0 => k_is); (case z1 => k_is); (case z2 => k_is); (case z3 => k_is))
