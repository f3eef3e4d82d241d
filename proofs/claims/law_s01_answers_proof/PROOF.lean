import PyProof.Rows.All
import Wide.All
import OpenK.AllK
import Wide.FinOn
import PyProof.EqAt
import PyProof.EqKinds
import PyProof.TupleCall
import KE.BitLaws
import Open.SpecLaws
import KE.OsHead
import KE.OsGo
import PyFlatLaws
import PyKp239
import PySem.Challenge.RW_wiredies_s01_answers
section
set_option Elab.async false
set_option linter.all false
set_option maxRecDepth 100000
namespace L2
open PySem PySem.Spec PyProof.Rows
abbrev Key := Sum Int Str
def keyIs : Key → Value → Bool
  | .inl k, v => Value.isInt k v
  | .inr x, v => Value.isStrOf x v
def keyH (w : World) : Key → Int
  | .inl k => hashInt k
  | .inr x => hashStr w x
theorem keyIs_shape : ∀ {k : Key} {v : Value}, keyIs k v = true → (∃ i t, k = Sum.inl i ∧ v = Value.int i t) ∨ (∃ x t, k = Sum.inr x ∧ v = Value.str x t)
  | .inl i, v, h => by
    obtain ⟨t, e⟩ := Value.isInt_shape (k := i) (v := v) h
    exact .inl ⟨i, t, rfl, e⟩
  | .inr x, v, h => by
    obtain ⟨t, e⟩ := Value.isStrOf_shape (x := x) (v := v) h
    exact .inr ⟨x, t, rfl, e⟩
theorem key_ll (a b : Int) : decide ((Sum.inl a : Key) = Sum.inl b) = (a == b) := by
  by_cases e : a = b
  · subst e; simp
  · have h : ¬ (Sum.inl a : Key) = Sum.inl b := fun q => e (Sum.inl.inj q)
    rw [decide_eq_false h]
    exact (beq_eq_false_iff_ne.mpr e).symm
theorem key_rr (a b : Str) : decide ((Sum.inr a : Key) = Sum.inr b) = decide (a = b) := by
  by_cases e : a = b
  · subst e; simp
  · have h : ¬ (Sum.inr a : Key) = Sum.inr b := fun q => e (Sum.inr.inj q)
    rw [decide_eq_false h, decide_eq_false e]
theorem key_lr (a : Int) (b : Str) : decide ((Sum.inl a : Key) = Sum.inr b) = false := decide_eq_false (fun q => nomatch q)
theorem key_rl (a : Str) (b : Int) : decide ((Sum.inr a : Key) = Sum.inl b) = false := decide_eq_false (fun q => nomatch q)
def mixKind (prog : Program) (w : World) : PySem.KeyKind prog w Key where
  is := keyIs
  hash := keyH w
  inj := fun v a b ha hb => by
    rcases keyIs_shape ha with ⟨i, t, rfl, rfl⟩ | ⟨x, t, rfl, rfl⟩
    · rcases keyIs_shape hb with ⟨j, u, rfl, e⟩ | ⟨y, u, rfl, e⟩
      · injection e with e1 _; rw [e1]
      · exact nomatch e
    · rcases keyIs_shape hb with ⟨j, u, rfl, e⟩ | ⟨y, u, rfl, e⟩
      · exact nomatch e
      · injection e with e1 _; rw [e1]
  byValue := fun k v h => by
    rcases keyIs_shape h with ⟨i, t, rfl, rfl⟩ | ⟨x, t, rfl, rfl⟩ <;> rfl
  pyHash := fun hv h => by
    rcases keyIs_shape hv with ⟨i, t, rfl, rfl⟩ | ⟨x, t, rfl, rfl⟩
    · exact wpAny_pyHash_int h
    · exact wpAny_pyHash_str h
  eqBool := fun hu hv h => by
    rcases keyIs_shape hu with ⟨i, t, rfl, rfl⟩ | ⟨x, t, rfl, rfl⟩
    · rcases keyIs_shape hv with ⟨j, u, rfl, rfl⟩ | ⟨y, u, rfl, rfl⟩
      · rw [key_ll] at h; exact wpAny_eqBool_int h
      · rw [key_lr] at h; exact SeqAt.EqAt.int_str i t y u _ _ _ _ h
    · rcases keyIs_shape hv with ⟨j, u, rfl, rfl⟩ | ⟨y, u, rfl, rfl⟩
      · rw [key_rl] at h; exact SeqAt.EqAt.str_int x t j u _ _ _ _ h
      · rw [key_rr] at h; exact wpAny_eqBool_str h
  «strs» := fun k x t v h => by
    rcases keyIs_shape h with ⟨i, u, rfl, e⟩ | ⟨y, u, rfl, e⟩
    · exact nomatch e
    · injection e with e1 _
      subst e1
      cases v <;> rfl
end L2
namespace L2
open PySem PySem.Spec PyProof.Rows
inductive V where
  | non | bl (b : Bool) | int (i : Int) | str (x : Str) | byt (b : Array UInt8) | flt (b : UInt64) | ref (a : Addr) | ty (n : String)
  deriving DecidableEq
def RelV : V → Value → Prop
  | .non, u => u = Value.none
  | .bl b, u => u = Value.bool b
  | .int i, u => ∃ t, u = Value.int i t
  | .str x, u => ∃ t, u = Value.str x t
  | .byt b, u => ∃ t, u = Value.bytes b t
  | .flt b, u => ∃ t, u = Value.float b t
  | .ref a, u => u = Value.ref a
  | .ty n, u => u = Value.type n
abbrev Vals : List V → List Value → Prop := Paired RelV
theorem Vals.length {xs : List V} {us : List Value} (r : Vals xs us) : xs.length = us.length := Paired.length r
theorem Vals.get : ∀ {xs : List V} {us : List Value} {i : Nat} {x : V}, Vals xs us → xs[i]? = some x → ∃ u, us[i]? = some u ∧ RelV x u
  | _, _, _, _, .nil, e => by simp at e
  | _, _, 0, _, .cons r _, e => by simp at e; subst e; exact ⟨_, rfl, r⟩
  | _, _, i + 1, x, .cons _ t, e => by
    obtain ⟨u, h1, h2⟩ := Vals.get (i := i) (x := x) t (by simpa using e)
    exact ⟨u, by simpa using h1, h2⟩
theorem Vals.set {x : V} {u : Value} (r : RelV x u) : ∀ {xs : List V} {us : List Value} (i : Nat), Vals xs us → Vals (xs.set i x) (us.set i u)
  | _, _, _, .nil => .nil
  | _, _, 0, .cons _ t => .cons r t
  | _, _, i + 1, .cons q t => .cons q (Vals.set r i t)
theorem Vals.append : ∀ {xs ys : List V} {us ws : List Value}, Vals xs us → Vals ys ws → Vals (xs ++ ys) (us ++ ws)
  | _, _, _, _, .nil, s => s
  | _, _, _, _, .cons r t, s => .cons r (Vals.append t s)
theorem Vals.take : ∀ {xs : List V} {us : List Value} (n : Nat), Vals xs us → Vals (xs.take n) (us.take n)
  | _, _, 0, _ => .nil
  | _, _, _ + 1, .nil => .nil
  | _, _, n + 1, .cons r t => .cons r (Vals.take n t)
theorem Vals.drop : ∀ {xs : List V} {us : List Value} (n : Nat), Vals xs us → Vals (xs.drop n) (us.drop n)
  | _, _, 0, r => r
  | _, _, _ + 1, .nil => .nil
  | _, _, n + 1, .cons _ t => Vals.drop n t
theorem Vals.none_of : ∀ {xs : List V} {us : List Value} {i : Nat}, Vals xs us → xs[i]? = none → us[i]? = none := fun {xs us i} r e => by
  have h1 := r.length
  have h2 : xs.length ≤ i := List.getElem?_eq_none_iff.mp e
  exact List.getElem?_eq_none_iff.mpr (by omega)
def RelO : Option V → Option Value → Prop
  | some v, some u => RelV v u
  | none, none => True
  | _, _ => False
def KV {κ : Type} : List (κ × V) → List (κ × Value) → Prop := Paired fun (p : κ × V) (q : κ × Value) => p.1 = q.1 ∧ RelV p.2 q.2
def kV : Key → V
  | .inl i => .int i
  | .inr x => .str x
inductive HO where
  /-- a list -/
  | lst (xs : List V)
  /-- a tuple (never changes) -/
  | tup (xs : List V)
  /-- a dict whose keys are ints and texts; one whose keys are tuples of ints and texts (the empty one is both) -/
  | dK (kvs : List (Key × V)) | dT (kvs : List (List Key × V))
  /-- a set of ints: its members, its size -/
  | set (S : Int → Bool) (n : Nat)
  /-- an instance of the class at C, its dict at dx, its attributes -/
  | ins (C dx : Addr) (fs : List (Str × V))
  /-- the dict of the instance at x -/
  | own (x : Addr)
  /-- the dict of an exception -/
  | xd (fs : List (Str × V))
  /-- a bound method, f of x -/
  | met (f x : Addr)
  /-- a range object lo, lo + 1, .. below hi -/
  | rng (lo hi : Int)
  /-- a thing that is known to the object (the script; a dict while a loop walks it): read, never written while it is so -/
  | frz (o : Obj) (u : HO)
  /-- a code object's table -/
  | tbl (ps : Array Value)
  /-- any other thing, by what is true of its one object (a def of one's own: SetO a S n := HO.ext fun h => ..) -/
  | ext (φ : Heap → Prop)
abbrev Hp := Addr → Option HO
def upd (H : Hp) (a : Addr) (o : HO) : Hp := fun b => if b = a then some o else H b
theorem upd_same {H : Hp} {a : Addr} {o : HO} : upd H a o a = some o := by unfold upd; rw [if_pos rfl]
theorem upd_ne {H : Hp} {a b : Addr} {o : HO} (h : b ≠ a) : upd H a o b = H b := by unfold upd; rw [if_neg h]
theorem upd_upd {H : Hp} {a : Addr} {o u : HO} : upd (upd H a o) a u = upd H a u := by
  funext b; unfold upd; split <;> rfl
theorem ne_of {H : Hp} {a b : Addr} {o u : HO} (h : H a = some o) (h' : H b = some u) (d : o ≠ u) : a ≠ b := by
  intro e; subst e; rw [h] at h'; exact d (Option.some.inj h')
theorem ne_of_none {H : Hp} {a b : Addr} {o : HO} (h : H a = some o) (h' : H b = none) : a ≠ b := by
  intro e; subst e; rw [h] at h'; cases h'
section
variable (P : Program) (w : World)
def ObjOk (H : Hp) (h : Heap) (a : Addr) : HO → Prop
  | .lst xs => xs.length ≤ sizeLine ∧ ∃ (its : List Value) (n : Nat), Vals xs its ∧ h.get? a = some { cls := .type "list", data := .seq its.toArray n }
  | .tup xs => xs.length ≤ sizeLine ∧ ∃ its : List Value, Vals xs its ∧ IsTup h a its.toArray
  | .dK kvs => kvs.length ≤ sizeLine ∧ (a == sysModules) = false ∧ ∃ vs, KV kvs vs ∧ h.DictOf (mixKind P w) a vs
  | .dT kvs => kvs.length ≤ sizeLine ∧ (a == sysModules) = false ∧ ∃ xs : List (List Key × Addr × Value),
      Paired (fun (p : List Key × V) (q : List Key × Addr × Value) => p.1 = q.1 ∧ H q.2.1 = some (.tup (p.1.map kV)) ∧ RelV p.2 q.2.2) kvs xs ∧
      ∃ o es ep, h.get? a = some o ∧ o.ExactDict ∧ o.data = .dict es ep ∧ es.toList = xs.map (entryOfKey (tupleKind (mixKind P w))) ∧ (xs.map (·.1)).Nodup
  | .set S n => h.SetOf (intKind P w) a S n
  | .ins C dx fs => H dx = some (.own a) ∧ fs.length ≤ 1000 ∧ dx ≠ a ∧ h.get? a = some (PySem.W.instObj C dx) ∧
      ∃ mA, h.Ns1 dx mA ∧ (∀ f, RelO (fs.lookup f) (mA f)) ∧ PySem.Within mA (fs.map (·.1))
  | .own _ => ∃ o, h.get? a = some o
  | .xd fs => ∃ mA, h.Ns1 a mA ∧ ∀ f, RelO (fs.lookup f) (mA f)
  | .rng lo hi => ∃ t u v, h.get? a = some { cls := .type "range", data := .fields #[.int lo t, .int hi u, .int 1 v] }
  | .frz o u => h.get? a = some o ∧ ObjOk H h a u
  | .tbl ps => h.get? a = some { cls := .none, data := .fields ps }
  | .met f x => h.get? a = some (PySem.W.methodObj (.ref f) (.ref x))
  | .ext φ => φ h ∧ (∃ o, h.get? a = some o) ∧ ∀ h1 h2 : Heap, φ h1 → (∀ o, h1.get? a = some o → h2.get? a = some o) → φ h2
def HOk (H : Hp) (h : Heap) : Prop := ∀ a o, H a = some o → ObjOk P w H h a o
end
section
variable {P : Program} {w : World} {H H' : Hp} {h h' : Heap} {a : Addr} {o : HO}
theorem ObjOk.lt (x : ObjOk P w H h a o) : a < h.objs.size := by
  cases o with
  | lst xs => obtain ⟨_, _, _, _, e⟩ := x; exact Heap.lt_size e
  | tup xs => obtain ⟨_, _, _, p⟩ := x; exact p.lt
  | dK kvs => obtain ⟨_, _, _, _, o, _, _, e, _⟩ := x; exact Heap.lt_size e
  | dT kvs => obtain ⟨_, _, _, _, o, _, _, e, _⟩ := x; exact Heap.lt_size e
  | set S n => obtain ⟨o, _, _, _, e, _⟩ := x; exact Heap.lt_size e
  | ins C dx fs => obtain ⟨_, _, _, e, _⟩ := x; exact Heap.lt_size e
  | own y => obtain ⟨_, e⟩ := x; exact Heap.lt_size e
  | xd fs => obtain ⟨_, ⟨_, _, _, e, _⟩, _⟩ := x; exact Heap.lt_size e
  | rng lo hi => obtain ⟨_, _, _, e⟩ := x; exact Heap.lt_size e
  | frz ob u => obtain ⟨e, _⟩ := x; exact Heap.lt_size e
  | tbl ps => exact Heap.lt_size (show h.get? a = some _ from x)
  | met f y => exact Heap.lt_size (show h.get? a = some _ from x)
  | ext φ => obtain ⟨_, ⟨_, e⟩, _⟩ := x; exact Heap.lt_size e
theorem Paired.mapP {α β : Type} {F G : α → β → Prop} : ∀ {l₁ : List α} {l₂ : List β}, Paired F l₁ l₂ → (∀ a b, F a b → G a b) → Paired G l₁ l₂
  | _, _, .nil, _ => .nil
  | _, _, .cons r t, f => .cons (f _ _ r) (Paired.mapP t f)
theorem ObjOk.stay (x : ObjOk P w H h a o) (k : ∀ b u, (b = a ∨ H b = some (.own a)) → h.get? b = some u → h'.get? b = some u)
    (ho : ∀ b, H b = some (.own a) → H' b = some (.own a)) (ht : ∀ b xs, H b = some (.tup xs) → H' b = some (.tup xs)) : ObjOk P w H' h' a o := by
  induction o with
  | lst xs => obtain ⟨z, its, n, r, e⟩ := x; exact ⟨z, its, n, r, k _ _ (.inl rfl) e⟩
  | tup xs => obtain ⟨z, its, r, ob, e, c⟩ := x; exact ⟨z, its, r, ob, k _ _ (.inl rfl) e, c⟩
  | dK kvs => obtain ⟨z, y, vs, r, ob, es, ep, e, c⟩ := x; exact ⟨z, y, vs, r, ob, es, ep, k _ _ (.inl rfl) e, c⟩
  | dT kvs =>
    obtain ⟨z, y, xs, r, ob, es, ep, e, c⟩ := x
    exact ⟨z, y, xs, Paired.mapP r fun p q z => ⟨z.1, ht _ _ z.2.1, z.2.2⟩, ob, es, ep, k _ _ (.inl rfl) e, c⟩
  | set S n => obtain ⟨ob, es, ep, t, e, c⟩ := x; exact ⟨ob, es, ep, t, k _ _ (.inl rfl) e, c⟩
  | ins C dx fs =>
    obtain ⟨d, z, ne, e, mA, ⟨od, es, ep, e2, c⟩, r⟩ := x
    exact ⟨ho _ d, z, ne, k _ _ (.inl rfl) e, mA, ⟨od, es, ep, k _ _ (.inr d) e2, c⟩, r⟩
  | own y => obtain ⟨ob, e⟩ := x; exact ⟨ob, k _ _ (.inl rfl) e⟩
  | xd fs => obtain ⟨mA, ⟨od, es, ep, e, c⟩, r⟩ := x; exact ⟨mA, ⟨od, es, ep, k _ _ (.inl rfl) e, c⟩, r⟩
  | rng lo hi => obtain ⟨t, u, v, e⟩ := x; exact ⟨t, u, v, k _ _ (.inl rfl) e⟩
  | frz ob u ih => obtain ⟨e, q⟩ := x; exact ⟨k _ _ (.inl rfl) e, ih q⟩
  | tbl ps =>
    have e : h.get? a = some { cls := .none, data := .fields ps } := x
    show h'.get? a = some { cls := .none, data := .fields ps }
    exact k a _ (.inl rfl) e
  | met f y =>
    have e : h.get? a = some (PySem.W.methodObj (.ref f) (.ref y)) := x
    show h'.get? a = some (PySem.W.methodObj (.ref f) (.ref y))
    exact k a _ (.inl rfl) e
  | ext φ => obtain ⟨p, ⟨o, e⟩, st⟩ := x; exact ⟨st _ _ p fun o q => k _ _ (.inl rfl) q, ⟨o, k _ _ (.inl rfl) e⟩, st⟩
theorem HOk.lt (x : HOk P w H h) (e : H a = some o) : a < h.objs.size := (x a o e).lt
theorem HOk.fresh (x : HOk P w H h) (e : h.objs.size ≤ a) : H a = none := by
  cases q : H a with
  | none => rfl
  | some u => exact absurd (Nat.lt_of_lt_of_le (x.lt q) e) (Nat.lt_irrefl _)
theorem HOk.kept (x : HOk P w H h) (k : ∀ b u, h.get? b = some u → h'.get? b = some u) : HOk P w H h' := fun a o e =>
  (x a o e).stay (fun b u _ q => k b u q) (fun _ q => q) fun _ _ q => q
theorem HOk.laid (x : HOk P w H h) (k : ∀ b u, h.get? b = some u → h'.get? b = some u) (hp : h.objs.size ≤ a) (new : ObjOk P w (upd H a o) h' a o) : HOk P w (upd H a o) h' := fun b u e => by
  have hn := x.fresh hp
  by_cases hb : b = a
  · subst hb; rw [upd_same] at e; cases e; exact new
  · rw [upd_ne hb] at e
    exact (x b u e).stay (fun c v _ q => k c v q) (fun c q => by rw [upd_ne (ne_of_none q hn)]; exact q) fun c xs q => by rw [upd_ne (ne_of_none q hn)]; exact q
end
def Rd (H : Hp) (a : Addr) (u : HO) : Prop := H a = some u ∨ ∃ o, H a = some (.frz o u)
theorem Rd.of {H : Hp} {a : Addr} {u : HO} (h : H a = some u) : Rd H a u := .inl h
theorem Rd.ok {P : Program} {w : World} {H : Hp} {h : Heap} {a : Addr} {u : HO} (r : Rd H a u) (x : HOk P w H h) : ObjOk P w H h a u := by
  rcases r with r | ⟨o, r⟩
  · exact x a u r
  · obtain ⟨_, q⟩ := x a _ r
    exact q
def Mut : Option HO → Prop
  | some (.lst _) => True
  | some (.dK _) => True
  | some (.dT _) => True
  | some (.set _ _) => True
  | some (.ins _ _ _) => True
  | some (.ext _) => True
  | _ => False
section
variable {P : Program} {w : World} {H : Hp} {h h' : Heap} {x e : Addr} {o' : HO}
theorem HOk.write (ok : HOk P w H h) (mu : Mut (H x)) (he : e = x ∨ H e = some (.own x)) (k : ∀ b u, b ≠ e → h.get? b = some u → h'.get? b = some u) (heo : ∃ u, h'.get? e = some u)
    (new : ObjOk P w (upd H x o') h' x o') : HOk P w (upd H x o') h' := fun b u q => by
  have nown : ∀ c y, H c = some (.own y) → c ≠ x := fun c y r z => by subst z; rw [r] at mu; exact mu
  have ntup : ∀ c xs, H c = some (.tup xs) → c ≠ x := fun c xs r z => by subst z; rw [r] at mu; exact mu
  by_cases hb : b = x
  · subst hb; rw [upd_same] at q; cases q; exact new
  · rw [upd_ne hb] at q
    by_cases hbe : b = e
    · have q' : H b = some (.own x) := by
        rcases he with z | z
        · exact absurd (hbe.trans z) hb
        · rw [hbe]; exact z
      rw [q] at q'; cases q'
      obtain ⟨v, hv⟩ := heo
      exact ⟨v, by rw [hbe]; exact hv⟩
    · refine (ok b u q).stay (fun c v hc r => k c v ?_ r) (fun c r => by rw [upd_ne (nown c b r)]; exact r) fun c xs r => by rw [upd_ne (ntup c xs r)]; exact r
      rcases hc with rfl | hc
      · exact hbe
      · rintro rfl
        rcases he with z | z
        · exact nown c b hc z
        · rw [hc] at z; cases z; exact hb rfl
end
structure Un (fs ex : List Addr) (H H' : Hp) (h h' : Heap) : Prop where
  keep : ∀ b o, h.get? b = some o → H b = none → b ∉ fs → b ∉ ex → h'.get? b = some o
  slot : ∀ b o, h.get? b = some o → H b = none → b ∈ fs → b ∉ ex → ∃ sl, h'.get? b = some { o with slots := sl }
  free : ∀ b o, h.get? b = some o → H b = none → b ∉ ex → H' b = none
  there : ∀ b o, h.get? b = some o → b ∉ ex → ∃ o', h'.get? b = some o'
  tups : ∀ b xs, H b = some (.tup xs) → H' b = some (.tup xs)
  frzs : ∀ b o u, H b = some (.frz o u) → H' b = some (.frz o u)
  tbls : ∀ b ps, H b = some (.tbl ps) → ∃ more, H' b = some (.tbl (ps ++ more))
section
variable {fs fs' ex ex' : List Addr} {H H1 H2 : Hp} {h h1 h2 h' : Heap} {a x e : Addr} {o : HO}
theorem Un.any (u : Un fs ex H H1 h h1) {b : Addr} {ob : Obj} (q : h.get? b = some ob) (n : H b = none) (hx : b ∉ ex) : ∃ sl, h1.get? b = some { ob with slots := sl } := by
  by_cases hb : b ∈ fs
  · exact u.slot b ob q n hb hx
  · exact ⟨ob.slots, u.keep b ob q n hb hx⟩
theorem Un.trans (a : Un fs ex H H1 h h1) (b : Un fs ex H1 H2 h1 h2) : Un fs ex H H2 h h2 where
  keep := fun c ob q n hc hx => b.keep c ob (a.keep c ob q n hc hx) (a.free c ob q n hx) hc hx
  slot := fun c ob q n hc hx => by
    obtain ⟨sl, e1⟩ := a.slot c ob q n hc hx
    obtain ⟨sl', e2⟩ := b.slot c _ e1 (a.free c ob q n hx) hc hx
    exact ⟨sl', e2⟩
  free := fun c ob q n hx => by
    obtain ⟨o', e1⟩ := a.there c ob q hx
    exact b.free c o' e1 (a.free c ob q n hx) hx
  there := fun c ob q hx => by
    obtain ⟨o', e1⟩ := a.there c ob q hx
    exact b.there c o' e1 hx
  tups := fun c xs q => b.tups c xs (a.tups c xs q)
  frzs := fun c ob xs q => b.frzs c ob xs (a.frzs c ob xs q)
  tbls := fun c ps q => by
    obtain ⟨m1, e1⟩ := a.tbls c ps q
    obtain ⟨m2, e2⟩ := b.tbls c _ e1
    exact ⟨m1 ++ m2, by rw [e2, Array.append_assoc]⟩
theorem Un.kept (k : ∀ b u, h.get? b = some u → h'.get? b = some u) : Un fs ex H H h h' :=
  ⟨fun b ob q _ _ _ => k b ob q, fun b ob q _ _ _ => ⟨ob.slots, k b ob q⟩, fun _ _ _ n _ => n, fun b ob q _ => ⟨ob, k b ob q⟩, fun _ _ q => q, fun _ _ _ q => q, fun _ ps q => ⟨#[], by rw [q]; simp⟩⟩
theorem Un.refl : Un fs ex H H h h := Un.kept fun _ _ q => q
theorem Un.laid (k : ∀ b u, h.get? b = some u → h'.get? b = some u) (hp : h.objs.size ≤ a) (hn : H a = none) : Un fs ex H (upd H a o) h h' where
  keep := fun b u q _ _ _ => k b u q
  slot := fun b u q _ _ _ => ⟨u.slots, k b u q⟩
  free := fun b u q n _ => by rw [upd_ne (Nat.ne_of_lt (Nat.lt_of_lt_of_le (Heap.lt_size q) hp))]; exact n
  there := fun b u q _ => ⟨u, k b u q⟩
  tups := fun b xs q => by rw [upd_ne (ne_of_none q hn)]; exact q
  frzs := fun b u xs q => by rw [upd_ne (ne_of_none q hn)]; exact q
  tbls := fun b ps q => ⟨#[], by rw [upd_ne (ne_of_none q hn), q]; simp⟩
theorem Un.write (mu : Mut (H x)) (he : e = x ∨ H e = some (.own x)) (k : ∀ b u, b ≠ e → h.get? b = some u → h'.get? b = some u) (heo : ∃ u, h'.get? e = some u) : Un fs ex H (upd H x o) h h' := by
  have hx : ∀ b, H b = none → b ≠ x := fun b n z => by subst z; rw [n] at mu; exact mu
  have hb : ∀ b, H b = none → b ≠ e := fun b n z => by
    subst z
    rcases he with r | r
    · exact hx b n r
    · rw [n] at r; cases r
  have hm : ∀ b u, H b = some u → ¬ Mut (some u) → b ≠ x := fun b u q nm z => by subst z; rw [q] at mu; exact nm mu
  refine ⟨fun b u q n _ _ => k b u (hb b n) q, fun b u q n _ _ => ⟨u.slots, k b u (hb b n) q⟩, fun b u q n _ => by rw [upd_ne (hx b n)]; exact n, fun b u q _ => ?_,
    fun b xs q => by rw [upd_ne (hm b _ q fun z => z)]; exact q, fun b u xs q => by rw [upd_ne (hm b _ q fun z => z)]; exact q, fun b ps q => ⟨#[], by rw [upd_ne (hm b _ q fun z => z), q]; simp⟩⟩
  by_cases hbe : b = e
  · subst hbe; exact heo
  · exact ⟨u, k b u hbe q⟩
theorem Un.mono (u : Un fs ex H H1 h h1) (hs : ∀ b ∈ fs, b ∈ fs') (hx : ∀ b ∈ ex, b ∈ ex') : Un fs' ex' H H1 h h1 :=
  ⟨fun b ob q n hb he => u.keep b ob q n (fun z => hb (hs b z)) fun z => he (hx b z), fun _ _ q n _ he => u.any q n fun z => he (hx _ z), fun b ob q n he => u.free b ob q n fun z => he (hx b z), fun b ob q he => u.there b ob q fun z => he (hx b z), u.tups, u.frzs, u.tbls⟩
end
def trk (h : Heap) (H : Hp) : List Addr := (List.range h.objs.size).filter fun a => (H a).isSome
def hidT (h : Heap) (H : Hp) : Heap := PySem.W.hideAll h (trk h H)
theorem hidT_size (h : Heap) (H : Hp) : (hidT h H).objs.size = h.objs.size := PySem.W.hideAll_size _ _
theorem hidT_get {h : Heap} {H : Hp} {b : Addr} {o : Obj} (e : h.get? b = some o) (n : H b = none) : (hidT h H).get? b = some o :=
  PySem.W.hideAll_get _ e fun hm => by
    have q : (H b).isSome = true := (List.mem_filter.mp hm).2
    rw [n] at q; simp at q
theorem of_hidT {h : Heap} {H : Hp} {b : Addr} {o : Obj} (e : (hidT h H).get? b = some o) : h.get? b = some o ∧ H b = none := by
  have e' : h.get? b = some o := PySem.W.of_hideAll (trk h H) e
  refine ⟨e', ?_⟩
  cases q : H b with
  | none => rfl
  | some x =>
    have hm : b ∈ trk h H := List.mem_filter.mpr ⟨List.mem_range.mpr (Heap.lt_size e'), by simp [q]⟩
    have z : (hidT h H).get? b = none := PySem.W.hideAll_none (trk h H) hm
    rw [z] at e; cases e
def allNews (g h : Heap) (L : Addr) : List (Addr × Obj) := (List.range h.objs.size).filterMap fun a => if a = L ∨ (g.get? a).isSome = true then none else (h.get? a).map fun o => (a, o)
def rest (g h : Heap) (L d : Addr) : List (Addr × Obj) := (allNews g h L).filter fun p => decide (p.1 ≠ d)
end L2
namespace L2
open PySem PySem.Spec PyProof.Rows
structure Mod (K : PySem.W.Frag) (mg : Str → Option Value) (base : Heap) : Prop where
  kin : K.In base
  glob : base.Ns mainGlobals mg
  blt : ∃ mb, base.Ns builtinsNs mb ∧ ∀ x : Str, x ≠ "__name__" → mb x = bootBuiltins x
  nolimit : base.NoLimit
structure Cx where
  prog : Program
  w : World
  K : PySem.W.Frag
  mg : Str → Option Value
  base : Heap
  A : Around
  N : List Str
  s_0 : Shared
  H_0 : Hp
  env : Env
  outer : List Env
  stack : List Env
  ex : List Addr
  fn : Str → Bool
  calm : Bool
  pn : List (Addr × Obj)
  xe : Value → Shared → Prop
def frs (l : List Env) : List Addr := l.filterMap (·.frame)
abbrev Cx.fs (X : Cx) : List Addr := frs X.outer
def Vis (sc : Scope) (x : Str) : Prop := sc.names.lookup x = some .local ∨ sc.names.lookup x = some .cell ∨ sc.names.lookup x = some .free
def Loc (sc : Scope) (x : Str) : Prop := sc.names.lookup x = some .local ∨ sc.names.lookup x = some .cell
def Look (env : Env) (h : Heap) (m : Str → Option Value) (x : Str) (u : Value) : Prop :=
  (env.kindOf x = some .local ∧ m x = some u) ∨ ((env.kindOf x = some .cell ∨ env.kindOf x = some .free) ∧ ∃ c, env.cells.lookup x = some c ∧ h.IsCell c (some u))
structure Cx.Ok (X : Cx) : Prop where
  mod : Mod X.K X.mg X.base
  kind : X.env.scope.kind = .function
  glob : X.env.globals = mainGlobals
  blt : X.env.builtins = builtinsNs
  above : X.s_0.heap.objs.size ≤ X.env.locals
  inj : ∀ x y c, X.env.cells.lookup x = some c → X.env.cells.lookup y = some c → x = y
  has : ∀ x, (X.env.kindOf x = some .cell ∨ X.env.kindOf x = some .free) → ∃ c, X.env.cells.lookup x = some c
  cab : ∀ x c, X.fn x = true → X.env.cells.lookup x = some c → X.s_0.heap.objs.size ≤ c
  hd : X.calm = true → X.A.handled = none
  frames : X.A.frames = some X.stack
  stk : X.stack = X.outer ∨ (X.stack = X.env :: X.outer ∧ X.env.frame = some X.env.locals)
  exf : ∀ b ∈ X.ex, b ≠ X.env.locals ∧ ∀ x c, X.env.cells.lookup x = some c → c ≠ b
  bs : ∀ b o, X.base.get? b = some o → X.s_0.heap.get? b = some o ∧ X.H_0 b = none
  bsz : X.base.objs.size ≤ X.s_0.heap.objs.size
  noex : ∀ b o, X.base.get? b = some o → b ∉ X.ex
  exfs : ∀ b ∈ X.ex, b ∉ X.fs
  funs : X.s_0.heap.FunFrames X.base X.outer
  frf : ∀ b ∈ X.fs, X.H_0 b = none
structure Inv (X : Cx) (pins : List (Addr × Obj)) (σ : List (Option V)) (H : Hp) (s : Shared) : Prop where
  ok : X.Ok
  os : s.os = X.s_0.os
  bare : AllBare s.gens
  base : Un X.fs X.ex X.H_0 H X.s_0.heap s.heap
  loc : ∃ m, s.heap.Ns X.env.locals m ∧ ∀ (i : Nat) (x : Str) (v : V), X.N[i]? = some x → σ[i]? = some (some v) → Vis X.env.scope x → ∃ u, RelV v u ∧ Look X.env s.heap m x u
  cell : ∀ x c, X.env.cells.lookup x = some c → ∃ v, s.heap.IsCell c v
  free : H X.env.locals = none
  freeC : ∀ x c, X.env.cells.lookup x = some c → H c = none
  pin : ∀ p ∈ X.pn ++ pins, s.heap.get? p.1 = some p.2 ∧ H p.1 = none ∧ p.1 ≠ X.env.locals ∧ p.1 ∉ X.fs ∧ ∀ v, p.2.data ≠ .cell v
  hok : HOk X.prog X.w H s.heap
  len : σ.length = X.N.length
section
variable {X : Cx} {pins : List (Addr × Obj)} {σ : List (Option V)} {H H' : Hp} {s : Shared} {h' : Heap}
theorem Cx.Ok.nofr (ok : X.Ok) {b : Addr} {o : Obj} (e : X.base.get? b = some o) : b ∉ X.fs := fun hb => by
  have := (ok.funs.mem hb).1
  rw [e] at this; cases this
theorem Inv.bs (I : Inv X pins σ H s) : ∀ b o, X.base.get? b = some o → s.heap.get? b = some o ∧ H b = none := fun b o e =>
  ⟨I.base.keep b o (I.ok.bs b o e).1 (I.ok.bs b o e).2 (I.ok.nofr e) (I.ok.noex b o e), I.base.free b o (I.ok.bs b o e).1 (I.ok.bs b o e).2 (I.ok.noex b o e)⟩
theorem Inv.bk (I : Inv X pins σ H s) : ∀ b o, X.base.get? b = some o → s.heap.get? b = some o := fun b o e => (I.bs b o e).1
theorem Inv.mod (I : Inv X pins σ H s) : Mod X.K X.mg X.base := I.ok.mod
theorem Inv.kIn (I : Inv X pins σ H s) : X.K.In s.heap := I.ok.mod.kin.keeps I.bk
theorem Inv.nolimit (I : Inv X pins σ H s) : s.heap.NoLimit := I.ok.mod.nolimit.keeps I.bk
theorem Inv.fr (I : Inv X pins σ H s) : ∃ m, Fr X.base X.env.locals s.heap m :=
  let ⟨m, hn, _⟩ := I.loc
  ⟨m, hn, I.bk, Nat.le_trans I.ok.bsz I.ok.above⟩
theorem Inv.lt (I : Inv X pins σ H s) : X.env.locals < s.heap.objs.size := let ⟨_, hn, _⟩ := I.loc; hn.lt
theorem Inv.sz (I : Inv X pins σ H s) : X.s_0.heap.objs.size ≤ s.heap.objs.size := Nat.le_trans I.ok.above (Nat.le_of_lt I.lt)
theorem Inv.nofs (I : Inv X pins σ H s) {a : Addr} (h : s.heap.objs.size ≤ a) : a ∉ X.fs := fun hb => by
  obtain ⟨_, o, ho, _⟩ := I.ok.funs.mem hb
  exact absurd (Nat.lt_of_lt_of_le (Heap.lt_size ho) (Nat.le_trans I.sz h)) (Nat.lt_irrefl _)
theorem Inv.cne (I : Inv X pins σ H s) : ∀ x c, X.env.cells.lookup x = some c → c ≠ X.env.locals := fun x c e z => by
  obtain ⟨v, o, ho, hd⟩ := I.cell x c e
  obtain ⟨m, ⟨o', es, ep, ho', hd', _⟩, _⟩ := I.loc
  rw [z, ho'] at ho; cases ho; rw [hd'] at hd; cases hd
theorem Inv.funs (I : Inv X pins σ H s) : s.heap.FunFrames X.base X.outer := by
  have all : ∀ (l : List Env), (∀ b ∈ frs l, b ∈ X.fs) → X.s_0.heap.FunFrames X.base l → s.heap.FunFrames X.base l := by
    intro l
    induction l with
    | nil => intro _ _; trivial
    | cons env r ih =>
      intro hs hl
      obtain ⟨hk, ⟨L, o, hf, hn, ho, hd⟩, hr⟩ := hl
      have hL : L ∈ X.fs := hs L (by unfold frs; rw [List.filterMap_cons, hf]; exact List.mem_cons_self)
      obtain ⟨sl, e⟩ := I.base.slot L o ho (I.ok.frf L hL) hL fun z => I.ok.exfs L z hL
      exact ⟨hk, ⟨L, _, hf, hn, e, hd⟩, ih (fun b hb => hs b (by unfold frs; rw [List.filterMap_cons, hf]; exact List.mem_cons_of_mem _ hb)) hr⟩
  exact all X.outer (fun _ hb => hb) I.ok.funs
theorem Inv.stack (I : Inv X pins σ H s) : s.heap.FunFrames X.base X.stack := by
  rcases I.ok.stk with e | ⟨e, hf⟩
  · rw [e]; exact I.funs
  · rw [e]
    obtain ⟨m, hn, _⟩ := I.loc
    refine .cons (by rw [I.ok.kind]; decide) hf hn ?_ I.funs
    exact Heap.get?_none_of_le (Nat.le_trans I.ok.bsz I.ok.above)
theorem Inv.stkSub (I : Inv X pins σ H s) : ∀ b ∈ frs X.stack, b ∈ X.env.locals :: X.fs := fun b hb => by
  rcases I.ok.stk with e | ⟨e, hf⟩
  · rw [e] at hb; exact List.mem_cons_of_mem _ hb
  · rw [e] at hb
    unfold frs at hb
    rw [List.filterMap_cons, hf] at hb
    exact hb
theorem Inv.stkFree (I : Inv X pins σ H s) : ∀ b ∈ frs X.stack, H b = none := fun b hb => by
  rcases List.mem_cons.mp (I.stkSub b hb) with e | hb
  · rw [e]; exact I.free
  · obtain ⟨_, o, ho, _⟩ := I.ok.funs.mem hb
    exact I.base.free b o ho (I.ok.frf b hb) fun z => I.ok.exfs b z hb
theorem Inv.step {g' : Array GenState} {t' : Nat} {d' : Drawn} {ch : List Addr} (I : Inv X pins σ H s)
    (hch : ∀ b ∈ ch, (b ∈ X.ex ∨ X.s_0.heap.objs.size ≤ b) ∧ b ≠ X.env.locals ∧ (∀ x c, X.env.cells.lookup x = some c → c ≠ b) ∧ ∀ p ∈ X.pn ++ pins, p.1 ≠ b)
    (keep : ∀ b o, b ≠ X.env.locals → b ∉ X.fs → b ∉ ch → s.heap.get? b = some o → H b = none → h'.get? b = some o)
    (slot : ∀ b o, b ≠ X.env.locals → b ∈ X.fs → b ∉ ch → s.heap.get? b = some o → H b = none → ∃ sl, h'.get? b = some { o with slots := sl }) (free : ∀ b o, b ∉ ch → s.heap.get? b = some o → H b = none → H' b = none)
    (there : ∀ b o, b ∉ ch → s.heap.get? b = some o → ∃ o', h'.get? b = some o')
    (tups : ∀ b xs, H b = some (.tup xs) → H' b = some (.tup xs)) (frzs : ∀ b o u, H b = some (.frz o u) → H' b = some (.frz o u)) (tbls : ∀ b ps, H b = some (.tbl ps) → ∃ more, H' b = some (.tbl (ps ++ more)))
    (ns : ∀ m, s.heap.Ns X.env.locals m → h'.Ns X.env.locals m) (hok : HOk X.prog X.w H' h') (hg : AllBare g') :
    Inv X pins σ H' { s with heap := h', gens := g', drawn := d', toks := t' } := by
  have neL : ∀ b o, X.s_0.heap.get? b = some o → b ≠ X.env.locals := fun b o e => Nat.ne_of_lt (Nat.lt_of_lt_of_le (Heap.lt_size e) I.ok.above)
  have neC : ∀ b o, X.s_0.heap.get? b = some o → b ∉ X.ex → b ∉ ch := fun b o e hx hb => by
    rcases (hch b hb).1 with z | z
    · exact hx z
    · exact absurd (Nat.lt_of_lt_of_le (Heap.lt_size e) z) (Nat.lt_irrefl _)
  have cellK : ∀ x c, X.env.cells.lookup x = some c → ∀ v, s.heap.IsCell c v → h'.IsCell c v := fun x c e v ⟨o, ho, hd⟩ => by
    have nch : c ∉ ch := fun z => (hch c z).2.2.1 x c e rfl
    by_cases hc : c ∈ X.fs
    · obtain ⟨sl, q⟩ := slot c o (I.cne x c e) hc nch ho (I.freeC x c e)
      exact ⟨_, q, hd⟩
    · exact ⟨o, keep c o (I.cne x c e) hc nch ho (I.freeC x c e), hd⟩
  refine ⟨I.ok, I.os, hg, ⟨fun b o e n hb hx => ?_, fun b o e n hb hx => ?_, fun b o e n hx => ?_, fun b o e hx => ?_, fun b xs e => tups b xs (I.base.tups b xs e), fun b o xs e => frzs b o xs (I.base.frzs b o xs e), fun b ps e => ?_⟩, ?_, fun x c e => ?_, ?_, fun x c e => ?_, fun p hp => ?_, hok, I.len⟩
  · exact keep b o (neL b o e) hb (neC b o e hx) (I.base.keep b o e n hb hx) (I.base.free b o e n hx)
  · obtain ⟨sl, e1⟩ := I.base.slot b o e n hb hx
    obtain ⟨sl', e2⟩ := slot b _ (neL b o e) hb (neC b o e hx) e1 (I.base.free b o e n hx)
    exact ⟨sl', e2⟩
  · obtain ⟨o', e1⟩ := I.base.there b o e hx
    exact free b o' (neC b o e hx) e1 (I.base.free b o e n hx)
  · obtain ⟨o', e1⟩ := I.base.there b o e hx
    exact there b o' (neC b o e hx) e1
  · obtain ⟨m1, e1⟩ := I.base.tbls b ps e
    obtain ⟨m2, e2⟩ := tbls b _ e1
    exact ⟨m1 ++ m2, by rw [e2, Array.append_assoc]⟩
  · obtain ⟨m, hn, hl⟩ := I.loc
    refine ⟨m, ns m hn, fun i x v e1 e2 e3 => ?_⟩
    obtain ⟨u, r, l⟩ := hl i x v e1 e2 e3
    refine ⟨u, r, ?_⟩
    rcases l with l | ⟨k, c, e, z⟩
    · exact .inl l
    · exact .inr ⟨k, c, e, cellK x c e _ z⟩
  · obtain ⟨v, z⟩ := I.cell x c e
    exact ⟨v, cellK x c e v z⟩
  · obtain ⟨m, ⟨o, _, _, ho, _⟩, _⟩ := I.loc
    exact free _ o (fun z => (hch _ z).2.1 rfl) ho I.free
  · obtain ⟨v, o, ho, hd⟩ := I.cell x c e
    exact free c o (fun z => (hch c z).2.2.1 x c e rfl) ho (I.freeC x c e)
  · obtain ⟨e, n, ne, nf, d⟩ := I.pin p hp
    have nch : p.1 ∉ ch := fun z => (hch p.1 z).2.2.2 p hp rfl
    exact ⟨keep p.1 p.2 ne nf nch e n, free p.1 p.2 nch e n, ne, nf, d⟩
theorem Inv.un {t' : Nat} (I : Inv X pins σ H s) (u : Un X.fs [] H H' s.heap h') (hok : HOk X.prog X.w H' h') : Inv X pins σ H' { s with heap := h', toks := t' } := by
  obtain ⟨m, ⟨o, es, ep, ho, r⟩, _⟩ := id I.loc
  obtain ⟨sl, hL⟩ := u.any ho I.free (by simp)
  exact I.step (g' := s.gens) (d' := s.drawn) (ch := []) (fun _ z => nomatch z) (fun b o _ hb _ e n => u.keep b o e n hb (by simp)) (fun b o _ hb _ e n => u.slot b o e n hb (by simp)) (fun b o _ e n => u.free b o e n (by simp)) (fun b o _ e => u.there b o e (by simp)) u.tups u.frzs u.tbls (fun m' hm => by
    obtain ⟨o', es', ep', ho', r'⟩ := hm
    rw [ho] at ho'; cases ho'
    exact ⟨_, es', ep', hL, r'⟩) hok I.bare
theorem Inv.call {g' : Array GenState} {t' : Nat} {d' : Drawn} {ch : List Addr} (I : Inv X pins σ H s) (u : Un (frs X.stack) ch H H' s.heap h') (hok : HOk X.prog X.w H' h') (hg : AllBare g')
    (hch : ∀ b ∈ ch, (b ∈ X.ex ∨ X.s_0.heap.objs.size ≤ b) ∧ b ≠ X.env.locals ∧ (∀ x c, X.env.cells.lookup x = some c → c ≠ b) ∧ ∀ p ∈ X.pn ++ pins, p.1 ≠ b) :
    Inv X pins σ H' { s with heap := h', gens := g', drawn := d', toks := t' } := by
  obtain ⟨m, ⟨o, es, ep, ho, r⟩, _⟩ := id I.loc
  obtain ⟨sl, hL⟩ := u.any ho I.free fun z => (hch _ z).2.1 rfl
  exact I.step (ch := ch) hch (fun b o hL hb hc e n => u.keep b o e n (fun z => (List.mem_cons.mp (I.stkSub b z)).elim hL hb) hc) (fun b o _ _ hc e n => u.any e n hc) (fun b o hc e n => u.free b o e n hc) (fun b o hc e => u.there b o e hc) u.tups u.frzs u.tbls (fun m' hm => by
    obtain ⟨o', es', ep', ho', r'⟩ := hm
    rw [ho] at ho'; cases ho'
    exact ⟨_, es', ep', hL, r'⟩) hok hg
theorem Inv.turned {t' : Nat} {it : Addr} (I : Inv X pins σ H s) (k : ∀ b o, b ≠ it → s.heap.get? b = some o → h'.get? b = some o) (hn : H it = none) (hL : it ≠ X.env.locals)
    (h1 : it ∈ X.ex ∨ X.s_0.heap.objs.size ≤ it) (h2 : ∀ x c, X.env.cells.lookup x = some c → c ≠ it) (h3 : ∀ p ∈ X.pn ++ pins, p.1 ≠ it) : Inv X pins σ H { s with heap := h', toks := t' } := by
  have nit : ∀ b u, H b = some u → b ≠ it := fun b u e z => by rw [z, hn] at e; cases e
  refine I.step (g' := s.gens) (d' := s.drawn) (ch := [it]) (fun b hb => ?_) (fun b o _ _ hc e _ => k b o (fun z => hc (by simp [z])) e) (fun b o _ _ hc e _ => ⟨o.slots, k b o (fun z => hc (by simp [z])) e⟩) (fun _ _ _ _ n => n)
    (fun b o hc e => ⟨o, k b o (fun z => hc (by simp [z])) e⟩) (fun _ _ e => e) (fun _ _ _ e => e) (fun b ps e => ⟨#[], by rw [e]; simp⟩) (fun m hm => ?_) (fun b u e => ?_) I.bare
  · have e : b = it := by simpa using hb
    subst e
    exact ⟨h1, hL, h2, h3⟩
  · obtain ⟨o, es, ep, ho, r⟩ := hm
    exact ⟨o, es, ep, k _ o (Ne.symm hL) ho, r⟩
  · refine (I.hok b u e).stay (fun c v hc q => k c v ?_ q) (fun _ q => q) fun _ _ q => q
    rcases hc with z | z
    · rw [z]; exact nit b u e
    · exact nit c _ z
theorem Inv.tok (I : Inv X pins σ H s) (t : Nat) : Inv X pins σ H { s with toks := t } := I.un (h' := s.heap) (t' := t) Un.refl I.hok
theorem Inv.kept {t' : Nat} (I : Inv X pins σ H s) (k : ∀ b u, s.heap.get? b = some u → h'.get? b = some u) : Inv X pins σ H { s with heap := h', toks := t' } := I.un (Un.kept k) (I.hok.kept k)
theorem Inv.laid {a : Addr} {o : HO} {t' : Nat} (I : Inv X pins σ H s) (k : ∀ b u, s.heap.get? b = some u → h'.get? b = some u) (hp : s.heap.objs.size ≤ a) (new : ObjOk X.prog X.w (upd H a o) h' a o) :
    Inv X pins σ (upd H a o) { s with heap := h', toks := t' } := I.un (Un.laid k hp (I.hok.fresh hp)) (I.hok.laid k hp new)
theorem Inv.write {x e : Addr} {o : HO} {t' : Nat} (I : Inv X pins σ H s) (mu : Mut (H x)) (he : e = x ∨ H e = some (.own x)) (k : ∀ b u, b ≠ e → s.heap.get? b = some u → h'.get? b = some u) (heo : ∃ u, h'.get? e = some u)
    (new : ObjOk X.prog X.w (upd H x o) h' x o) : Inv X pins σ (upd H x o) { s with heap := h', toks := t' } := I.un (Un.write mu he k heo) (I.hok.write mu he k heo new)
theorem Inv.weak {σ' : List (Option V)} (I : Inv X pins σ H s) (hl : σ'.length = σ.length) (w : ∀ (i : Nat) v, σ'[i]? = some (some v) → σ[i]? = some (some v)) : Inv X pins σ' H s :=
  ⟨I.ok, I.os, I.bare, I.base, let ⟨m, hn, hl'⟩ := I.loc; ⟨m, hn, fun i x v e1 e2 e3 => hl' i x v e1 (w i v e2) e3⟩, I.cell, I.free, I.freeC, I.pin, I.hok, hl.trans I.len⟩
theorem Inv.pins_of {pins' : List (Addr × Obj)} (I : Inv X pins σ H s) (h : ∀ p ∈ pins', s.heap.get? p.1 = some p.2 ∧ H p.1 = none ∧ p.1 ≠ X.env.locals ∧ p.1 ∉ X.fs ∧ ∀ v, p.2.data ≠ .cell v) : Inv X pins' σ H s :=
  ⟨I.ok, I.os, I.bare, I.base, I.loc, I.cell, I.free, I.freeC, fun p hp => (List.mem_append.mp hp).elim (fun z => I.pin p (List.mem_append_left _ z)) (h p), I.hok, I.len⟩
theorem nodup_ix {N : List Str} (hN : N.Nodup) {i j : Nat} {x : Str} (a : N[i]? = some x) (b : N[j]? = some x) : i = j := by
  obtain ⟨h1, e1⟩ := List.getElem?_eq_some_iff.mp a
  obtain ⟨h2, e2⟩ := List.getElem?_eq_some_iff.mp b
  exact (List.getElem_inj hN).mp (e1.trans e2.symm)
theorem store_ok2 {M : Model} {A : Around} {E : Value → Shared → Prop} {i : Nat} {x : Str} {v : V} {u : Value} {Q : Unit → Shared → Prop} (I : Inv X pins σ H s) (hN : X.N.Nodup) (hi : X.N[i]? = some x) (hx : Loc X.env.scope x) (r : RelV v u)
    (h : ∀ s', Inv X pins (σ.set i (some v)) H s' → (∃ a, Heap.SameBut a s.heap s'.heap ∧ (a = X.env.locals ∨ X.env.cells.lookup x = some a)) → Q () s') (hf : X.fn x = true ∨ X.env.scope.names.lookup x = some .local := by first | exact .inl rfl | exact .inr rfl | assumption) : wpAny M A (storeName X.env x u) Q E s := by
  obtain ⟨m, hn, hl⟩ := id I.loc
  have hcls : (X.env.scope.kind == .class || (X.env.scope.kind == .module && X.env.locals != X.env.globals)) = false := by rw [I.ok.kind]; rfl
  have hiσ : i < σ.length := by rw [I.len]; exact (List.getElem?_eq_some_iff.mp hi).1
  have cne := I.cne
  have tracked : ∀ {a : Addr} {h' : Heap}, (∃ o, s.heap.get? a = some o ∧ H a = none) → Heap.SameBut a s.heap h' → HOk X.prog X.w H h' := fun {a h'} ha hs b ob e => by
    obtain ⟨_, _, hfree⟩ := ha
    refine (I.hok b ob e).stay (fun c w' hc q => (hs.2 c ?_).trans q) (fun _ q => q) fun _ _ q => q
    rintro rfl
    rcases hc with rfl | hc
    · rw [hfree] at e; cases e
    · rw [hfree] at hc; cases hc
  rcases hx with hk | hk
  · refine wpAny_storeName_local hk hn (fun h' hn' hs => ?_) hcls
    obtain ⟨oL, _, _, hoL, _⟩ := id hn
    refine h _ ⟨I.ok, I.os, I.bare, ⟨fun b o e n hb hx => ?_, fun b o e n hb hx => ?_, I.base.free, fun b o e hx => ?_, I.base.tups, I.base.frzs, I.base.tbls⟩, ⟨_, hn', fun j y v' e1 e2 e3 => ?_⟩, fun y c e => ?_, I.free, I.freeC, fun p hp => ?_, tracked ⟨oL, hoL, I.free⟩ hs, by simpa using I.len⟩ ⟨_, hs, .inl rfl⟩
    · exact (hs.2 b (Nat.ne_of_lt (Nat.lt_of_lt_of_le (Heap.lt_size e) I.ok.above))).trans (I.base.keep b o e n hb hx)
    · obtain ⟨sl, e1⟩ := I.base.slot b o e n hb hx
      exact ⟨sl, (hs.2 b (Nat.ne_of_lt (Nat.lt_of_lt_of_le (Heap.lt_size e) I.ok.above))).trans e1⟩
    · obtain ⟨o', e1⟩ := I.base.there b o e hx
      exact ⟨o', (hs.2 b (Nat.ne_of_lt (Nat.lt_of_lt_of_le (Heap.lt_size e) I.ok.above))).trans e1⟩
    · by_cases hj : j = i
      · subst hj
        rw [hi] at e1; cases e1
        rw [List.getElem?_set_self hiσ] at e2
        cases e2
        exact ⟨u, r, .inl ⟨hk, by simp⟩⟩
      · rw [List.getElem?_set_ne (Ne.symm hj)] at e2
        obtain ⟨u', r', q⟩ := hl j y v' e1 e2 e3
        refine ⟨u', r', ?_⟩
        rcases q with ⟨k, e⟩ | ⟨k, c, e, z⟩
        · refine .inl ⟨k, ?_⟩
          have : y ≠ x := fun e => hj (nodup_ix hN e1 (e ▸ hi))
          simp [this, e]
        · exact .inr ⟨k, c, e, z.sameBut hs (cne y c e)⟩
    · obtain ⟨w', z⟩ := I.cell y c e
      exact ⟨w', z.sameBut hs (cne y c e)⟩
    · obtain ⟨e, n, ne, nf, d⟩ := I.pin p hp
      exact ⟨(hs.2 p.1 ne).trans e, n, ne, nf, d⟩
  · have hfn : X.fn x = true := by
      rcases hf with z | z
      · exact z
      · rw [z] at hk; cases hk
    obtain ⟨c, hc⟩ := I.ok.has x (.inl hk)
    obtain ⟨w', z⟩ := I.cell x c hc
    refine wpAny_storeName_cell I.ok.kind hk hc z (fun h' hc' hs => ?_)
    obtain ⟨oc, hoc, hocd⟩ := id z
    refine h { s with heap := h' } ⟨I.ok, I.os, I.bare, ⟨fun b o e n hb hx => ?_, fun b o e n hb hx => ?_, I.base.free, fun b o e hx => ?_, I.base.tups, I.base.frzs, I.base.tbls⟩, ⟨m, hn.sameBut hs (Ne.symm (cne x c hc)), fun j y v' e1 e2 e3 => ?_⟩, fun y c' e => ?_, I.free, I.freeC, fun p hp => ?_, tracked ⟨oc, hoc, I.freeC x c hc⟩ hs, by simpa using I.len⟩ ⟨c, hs, .inr hc⟩
    · exact (hs.2 b (Nat.ne_of_lt (Nat.lt_of_lt_of_le (Heap.lt_size e) (I.ok.cab x c hfn hc)))).trans (I.base.keep b o e n hb hx)
    · obtain ⟨sl, e1⟩ := I.base.slot b o e n hb hx
      exact ⟨sl, (hs.2 b (Nat.ne_of_lt (Nat.lt_of_lt_of_le (Heap.lt_size e) (I.ok.cab x c hfn hc)))).trans e1⟩
    · obtain ⟨o', e1⟩ := I.base.there b o e hx
      exact ⟨o', (hs.2 b (Nat.ne_of_lt (Nat.lt_of_lt_of_le (Heap.lt_size e) (I.ok.cab x c hfn hc)))).trans e1⟩
    · by_cases hj : j = i
      · subst hj
        rw [hi] at e1; cases e1
        rw [List.getElem?_set_self hiσ] at e2
        cases e2
        exact ⟨u, r, .inr ⟨.inl hk, c, hc, hc'⟩⟩
      · rw [List.getElem?_set_ne (Ne.symm hj)] at e2
        obtain ⟨u', r', q⟩ := hl j y v' e1 e2 e3
        refine ⟨u', r', ?_⟩
        rcases q with q | ⟨k, c', e, z'⟩
        · exact .inl q
        · refine .inr ⟨k, c', e, z'.sameBut hs ?_⟩
          rintro rfl
          exact hj (nodup_ix hN e1 (I.ok.inj _ _ _ e hc ▸ hi))
    · by_cases hcc : c' = c
      · subst hcc; exact ⟨_, hc'⟩
      · obtain ⟨w2, z2⟩ := I.cell y c' e
        exact ⟨w2, z2.sameBut hs hcc⟩
    · obtain ⟨e, n, ne, nf, d⟩ := I.pin p hp
      refine ⟨(hs.2 p.1 ?_).trans e, n, ne, nf, d⟩
      intro q
      rw [q, hoc] at e
      have q' : oc = p.2 := Option.some.inj e
      exact d w' (by rw [← q']; exact hocd)
theorem store_ok {M : Model} {A : Around} {E : Value → Shared → Prop} {i : Nat} {x : Str} {v : V} {u : Value} {Q : Unit → Shared → Prop} (I : Inv X pins σ H s) (hN : X.N.Nodup) (hi : X.N[i]? = some x) (hx : Loc X.env.scope x) (r : RelV v u)
    (h : ∀ s', Inv X pins (σ.set i (some v)) H s' → Q () s') (hf : X.fn x = true ∨ X.env.scope.names.lookup x = some .local := by first | exact .inl rfl | exact .inr rfl | assumption) : wpAny M A (storeName X.env x u) Q E s :=
  store_ok2 I hN hi hx r (fun s' I' _ => h s' I') hf
theorem Inv.call' {s' : Shared} {ch : List Addr} (I : Inv X pins σ H s) (ho : s'.os = s.os) (u : Un (frs X.stack) ch H H' s.heap s'.heap) (hok : HOk X.prog X.w H' s'.heap) (hg : AllBare s'.gens)
    (hch : ∀ b ∈ ch, (b ∈ X.ex ∨ X.s_0.heap.objs.size ≤ b) ∧ b ≠ X.env.locals ∧ (∀ x c, X.env.cells.lookup x = some c → c ≠ b) ∧ ∀ p ∈ X.pn ++ pins, p.1 ≠ b) : Inv X pins σ H' s' := by
  obtain ⟨h', g', d', t', o'⟩ := s'
  have e : o' = s.os := ho
  subst e
  exact I.call (g' := g') (t' := t') (d' := d') u hok hg hch
end
abbrev XK := Value → Option Addr → Hp → Prop
abbrev St := List (Option V)
abbrev VK := V → Hp → Prop
abbrev TE := St → Hp → VK → Prop
abbrev TT := St → Hp → (Bool → Hp → Prop) → Prop
abbrev TA := St → Hp → (List V → Hp → Prop) → Prop
structure Ends where
  nx : St → Hp → Prop
  rt : VK
  bk : St → Hp → Prop := fun _ _ => False
  ct : St → Hp → Prop := fun _ _ => False
abbrev TS := Ends → St → Hp → Prop
def EP (X : Cx) (pins : List (Addr × Obj)) (σ : St) (Q : VK) (u : Value) (s' : Shared) : Prop := ∃ v H', Inv X pins σ H' s' ∧ RelV v u ∧ Q v H'
def TP (X : Cx) (pins : List (Addr × Obj)) (σ : St) (Q : Bool → Hp → Prop) (b : Bool) (s' : Shared) : Prop := ∃ H', Inv X pins σ H' s' ∧ Q b H'
def AP (X : Cx) (pins : List (Addr × Obj)) (σ : St) (Q : List V → Hp → Prop) (us : List Value) (s' : Shared) : Prop := ∃ vs H', Inv X pins σ H' s' ∧ Vals vs us ∧ Q vs H'
def SP (X : Cx) (pins : List (Addr × Obj)) (D : Ends) (f : Flow) (s' : Shared) : Prop :=
  match f with
  | .next => ∃ σ' H', Inv X pins σ' H' s' ∧ D.nx σ' H'
  | .brk => ∃ σ' H', Inv X pins σ' H' s' ∧ D.bk σ' H'
  | .cont => ∃ σ' H', Inv X pins σ' H' s' ∧ D.ct σ' H'
  | .ret u => ∃ v σ' H', Inv X pins σ' H' s' ∧ RelV v u ∧ D.rt v H'
def PE (X : Cx) (e : Expr) (t : TE) : Prop :=
  ∀ (pins : List (Addr × Obj)) (s : Shared) (σ : St) (H : Hp) (Q : VK), Inv X pins σ H s → t σ H Q → wpAny (model X.prog X.w) X.A (eval e X.env) (EP X pins σ Q) X.xe s
def PT (X : Cx) (e : Expr) (t : TT) : Prop :=
  ∀ (pins : List (Addr × Obj)) (s : Shared) (σ : St) (H : Hp) (Q : Bool → Hp → Prop), Inv X pins σ H s → t σ H Q → wpAny (model X.prog X.w) X.A (isTrue e X.env (eval e X.env)) (TP X pins σ Q) X.xe s
def PW (X : Cx) (e : Expr) (t : TT) : Prop :=
  ∀ (whole : Sem Value) (pins : List (Addr × Obj)) (s : Shared) (σ : St) (H : Hp) (Q : Bool → Hp → Prop), Inv X pins σ H s → t σ H Q → wpAny (model X.prog X.w) X.A (isTrue e X.env whole) (TP X pins σ Q) X.xe s
theorem PW.pt {X : Cx} {e : Expr} {t : TT} (h : PW X e t) : PT X e t := h _
def PA (X : Cx) (es : List Expr) (t : TA) : Prop :=
  ∀ (pos : Pos) (pins : List (Addr × Obj)) (s : Shared) (σ : St) (H : Hp) (Q : List V → Hp → Prop), Inv X pins σ H s → t σ H Q → wpAny (model X.prog X.w) X.A (spliced (backTo pos (starEach es X.env))) (AP X pins σ Q) X.xe s
def PS (X : Cx) (st : Stmt) (t : TS) : Prop :=
  ∀ (pins : List (Addr × Obj)) (s : Shared) (σ : St) (H : Hp) (D : Ends), Inv X pins σ H s → t D σ H → wpAny (model X.prog X.w) X.A (exec st X.env) (SP X pins D) X.xe s
def PSs (X : Cx) (st : List Stmt) (t : TS) : Prop :=
  ∀ (pins : List (Addr × Obj)) (s : Shared) (σ : St) (H : Hp) (D : Ends), Inv X pins σ H s → t D σ H → wpAny (model X.prog X.w) X.A (execs st X.env) (SP X pins D) X.xe s
theorem thn {α : Type} {t : Sem α} {Q Q' : α → Shared → Prop} {M : Model} {A : Around} {E : Value → Shared → Prop} {s : Shared} (h : wpAny M A t Q E s) (hQ : ∀ a s, Q a s → Q' a s) : wpAny M A t Q' E s := wpAny_mono h hQ fun _ _ x => x
end L2
namespace L2
open PySem PySem.Spec PyProof.Rows
section
variable {X : Cx}
def tVar (i : Nat) : TE := fun σ H Q => ∃ v, σ[i]? = some (some v) ∧ Q v H
def tC (v : V) : TE := fun _ H Q => Q v H
theorem pe_var {i : Nat} {x : Str} {pos : Pos} (hN : X.N[i]? = some x) (hv : Vis X.env.scope x) (hd : (x == ("__debug__" : Str)) = false := by decide) (hcd : (x == ("__classdict__" : Str)) = false := by decide) : PE X (.Name x pos) (tVar i) := by
  intro pins s σ H Q I h
  obtain ⟨v, e, h⟩ := h
  obtain ⟨m, hn, hl⟩ := I.loc
  obtain ⟨u, r, l⟩ := hl i x v hN e hv
  have fin : EP X pins σ Q u s := ⟨v, H, I, r, h⟩
  rcases l with ⟨hk, hm⟩ | ⟨hk, c, hc, hcell⟩
  · exact wpAny_Name (wpAny_loadName_local I.ok.kind hk hn hm fin) hd
  · rcases hk with hk | hk
    · exact wpAny_Name (wpAny_loadName_cell I.ok.kind hk hc hcell fin) hd
    · exact wpAny_Name (wpAny_loadName_free I.ok.kind hk hc hcell fin hcd) hd
theorem pe_int {i j pos} : PE X (.Constant (.int i) j pos) (tC (.int i)) := fun _ _ _ H _ I h => wpAny_Constant_int ⟨.int i, H, I.tok _, ⟨_, rfl⟩, h⟩
theorem pe_bl {b j pos} : PE X (.Constant (.bool b) j pos) (tC (.bl b)) := fun _ _ _ H _ I h => Constant_bool ⟨.bl b, H, I, rfl, h⟩
theorem pe_non {j pos} : PE X (.Constant .none j pos) (tC .non) := fun _ _ _ H _ I h => Constant_none ⟨.non, H, I, rfl, h⟩
def Gl (X : Cx) (x : Str) : Prop := X.env.kindOf x = some .globalImplicit
theorem ld_glob {E : Value → Shared → Prop} {pins : List (Addr × Obj)} {s : Shared} {σ : St} {H : Hp} {x : Str} {u : Value} {pos : Pos} {Q : Value → Shared → Prop} (I : Inv X pins σ H s) (hg : Gl X x) (hm : X.mg x = some u) (h : Q u s)
    (hd : (x == ("__debug__" : Str)) = false := by decide) : wpAny (model X.prog X.w) X.A (eval (.Name x pos) X.env) Q E s :=
  Calls.Name_function_global I.ok.kind hg (Calls.loadGlobal_global (by rw [I.ok.glob]; exact I.mod.glob.keeps I.bk) hm h) hd
theorem ld_blt {E : Value → Shared → Prop} {pins : List (Addr × Obj)} {s : Shared} {σ : St} {H : Hp} {x : Str} {u : Value} {pos : Pos} {Q : Value → Shared → Prop} (I : Inv X pins σ H s) (hg : Gl X x) (hm : X.mg x = none) (hv : bootBuiltins x = some u) (h : Q u s)
    (hn : x ≠ "__name__" := by decide) (hd : (x == ("__debug__" : Str)) = false := by decide) : wpAny (model X.prog X.w) X.A (eval (.Name x pos) X.env) Q E s := by
  obtain ⟨mb, h1, h2⟩ := I.mod.blt
  exact Calls.Name_function_global I.ok.kind hg (Calls.loadGlobal_builtin (by rw [I.ok.glob]; exact I.mod.glob.keeps I.bk) hm (by rw [I.ok.blt]; exact h1.keeps I.bk) ((h2 x hn).trans hv) h) hd
theorem pe_glob {x : Str} {v : V} {u : Value} {pos : Pos} (hg : Gl X x) (hm : X.mg x = some u) (r : RelV v u) (hd : (x == ("__debug__" : Str)) = false := by decide) : PE X (.Name x pos) (tC v) :=
  fun _ _ _ H _ I h => ld_glob I hg hm ⟨v, H, I, r, h⟩ hd
variable {a b : Expr} {ta tb : TE} {pos : Pos}
variable {tA tB' : TT} {rest : List Expr}
def tAnd (t u : TT) : TT := fun σ H Q => t σ H fun c H1 => if c = true then u σ H1 Q else Q false H1
def tOr (t u : TT) : TT := fun σ H Q => t σ H fun c H1 => if c = true then Q true H1 else u σ H1 Q
def tNot (t : TT) : TT := fun σ H Q => t σ H fun c H1 => Q (!c) H1
theorem pw_and1 (ha : PT X a tA) : PW X (.BoolOp .And [a] pos) tA := by
  intro wh pins s σ H Q I h
  refine isTrue_and (thn (ha pins s σ H Q I h) fun c s1 e => ?_)
  cases c with
  | true => exact isTrue_and_nil e
  | false => exact e
theorem pw_or1 (ha : PT X a tA) : PW X (.BoolOp .Or [a] pos) tA := by
  intro wh pins s σ H Q I h
  refine isTrue_or (thn (ha pins s σ H Q I h) fun c s1 e => ?_)
  cases c with
  | false => exact isTrue_or_nil e
  | true => exact e
theorem pw_and (ha : PT X a tA) (hb : PW X (.BoolOp .And (b :: rest) pos) tB') : PW X (.BoolOp .And (a :: b :: rest) pos) (tAnd tA tB') := by
  intro wh pins s σ H Q I h
  refine isTrue_and (thn (ha pins s σ H _ I h) fun c s1 ⟨H1, I1, q1⟩ => ?_)
  cases c with
  | true => exact hb wh pins s1 σ H1 Q I1 q1
  | false => exact ⟨H1, I1, q1⟩
theorem pw_or (ha : PT X a tA) (hb : PW X (.BoolOp .Or (b :: rest) pos) tB') : PW X (.BoolOp .Or (a :: b :: rest) pos) (tOr tA tB') := by
  intro wh pins s σ H Q I h
  refine isTrue_or (thn (ha pins s σ H _ I h) fun c s1 ⟨H1, I1, q1⟩ => ?_)
  cases c with
  | true => exact ⟨H1, I1, q1⟩
  | false => exact hb wh pins s1 σ H1 Q I1 q1
theorem pt_not (ha : PT X a tA) : PT X (.UnaryOp .Not a pos) (tNot tA) := by
  intro pins s σ H Q I h
  exact isTrue_not (ha pins s σ H (fun c H1 => Q (!c) H1) I h)
def tAndV (ta tb : TE) : TE := fun σ H Q => ta σ H fun x H1 => ∃ c, x = .bl c ∧ if c = true then tb σ H1 Q else Q (.bl false) H1
theorem pe_one {op} {t : TE} (h : PE X a t) : PE X (.BoolOp op [a] pos) t := fun pins s σ H Q I hw => BoolOp_one (h pins s σ H Q I hw)
theorem pe_and (ha : PE X a ta) (hb : PE X (.BoolOp .And (b :: rest) pos) tb) : PE X (.BoolOp .And (a :: b :: rest) pos) (tAndV ta tb) := by
  intro pins s σ H Q I h
  refine BoolOp_and (thn (ha pins s σ H _ I h) fun v s1 ⟨x, H1, I1, r1, q1⟩ => ?_)
  obtain ⟨c, rfl, q1⟩ := q1
  cases r1
  refine wpAny_truthy_bool ?_
  cases c with
  | true => exact hb pins s1 σ H1 Q I1 q1
  | false => exact ⟨.bl false, H1, I1, rfl, q1⟩
def tIf (t : TT) (ta tb : TE) : TE := fun σ H Q => t σ H fun c H1 => if c = true then ta σ H1 Q else tb σ H1 Q
theorem pe_ifExp {c : Expr} (hc : PT X c tA) (ha : PE X a ta) (hb : PE X b tb) : PE X (.IfExp c a b pos) (tIf tA ta tb) := by
  intro pins s σ H Q I h
  refine wpAny_IfExp (thn (hc pins s σ H _ I h) fun d s1 ⟨H1, I1, q1⟩ => ?_)
  cases d with
  | true => exact ha pins s1 σ H1 Q I1 q1
  | false => exact hb pins s1 σ H1 Q I1 q1
end
end L2
namespace L2
open PySem PySem.Spec PyProof.Rows
def SqL (K : PySem.W.Frag) (H : Hp) (a : Addr) (xs : List V) : Prop :=
  Rd H a (.lst xs) ∨
    ∃ (o : Obj) (its : Array Value) (n : Nat), K.lookup a = some o ∧ o.cls = .type "list" ∧ o.dict = none ∧ o.data = .seq its n ∧ its.size ≤ sizeLine ∧ Vals xs its.toList
def SqT (K : PySem.W.Frag) (H : Hp) (a : Addr) (xs : List V) : Prop :=
  Rd H a (.tup xs) ∨
    ∃ (o : Obj) (its : Array Value) (n : Nat), K.lookup a = some o ∧ o.cls = .type "tuple" ∧ o.data = .seq its n ∧ its.size ≤ sizeLine ∧ Vals xs its.toList
def absV : Value → Option V
  | .none => some .non
  | .bool b => some (.bl b)
  | .int i _ => some (.int i)
  | .str x _ => some (.str x)
  | .bytes b _ => some (.byt b)
  | .float b _ => some (.flt b)
  | .ref a => some (.ref a)
  | .type n => some (.ty n)
  | _ => none
theorem RelV.abs {x : V} {u : Value} (r : RelV x u) : absV u = some x := by
  cases x with
  | non => cases r; rfl
  | bl _ => cases r; rfl
  | int _ => obtain ⟨t, rfl⟩ := r; rfl
  | str _ => obtain ⟨t, rfl⟩ := r; rfl
  | byt _ => obtain ⟨t, rfl⟩ := r; rfl
  | flt _ => obtain ⟨t, rfl⟩ := r; rfl
  | ref _ => cases r; rfl
  | ty _ => cases r; rfl
theorem RelV.inj {x y : V} {u : Value} (r : RelV x u) (q : RelV y u) : x = y := Option.some.inj (r.abs.symm.trans q.abs)
theorem Vals.inj : ∀ {xs ys : List V} {us : List Value}, Vals xs us → Vals ys us → xs = ys
  | _, _, _, .nil, .nil => rfl
  | _, _, _, .cons r t, .cons r' t' => by rw [r.inj r', Vals.inj t t']
section
variable {X : Cx} {pins : List (Addr × Obj)} {σ : St} {H : Hp} {s : Shared} {a : Addr} {xs ys : List V}
theorem SqL.of {K : PySem.W.Frag} (h : H a = some (.lst xs)) : SqL K H a xs := .inl (.inl h)
theorem SqT.of {K : PySem.W.Frag} (h : H a = some (.tup xs)) : SqT K H a xs := .inl (.inl h)
theorem Inv.list (I : Inv X pins σ H s) (h : SqL X.K H a xs) : ∃ its : List Value, Vals xs its ∧ PlainL s.heap a its.toArray ∧ xs.length ≤ sizeLine := by
  rcases h with h | ⟨o, its, n, hk, hc, hd, hs, hz, r⟩
  · obtain ⟨z, its, n, r, e⟩ := h.ok I.hok
    exact ⟨its, r, ⟨_, n, e, rfl, rfl, rfl⟩, z⟩
  · refine ⟨its.toList, r, ⟨o, n, I.kIn a o hk, hc, hd, by simpa using hs⟩, ?_⟩
    have e := r.length
    simp only [Array.length_toList] at e
    omega
theorem Inv.tuple (I : Inv X pins σ H s) (h : SqT X.K H a xs) : ∃ its : List Value, Vals xs its ∧ IsTup s.heap a its.toArray ∧ xs.length ≤ sizeLine := by
  rcases h with h | ⟨o, its, n, hk, hc, hs, hz, r⟩
  · obtain ⟨z, its, r, p⟩ := h.ok I.hok
    exact ⟨its, r, p, z⟩
  · refine ⟨its.toList, r, ⟨o, I.kIn a o hk, hc, n, by simpa using hs⟩, ?_⟩
    have e := r.length
    simp only [Array.length_toList] at e
    omega
theorem Inv.list_inj (I : Inv X pins σ H s) (h : SqL X.K H a xs) (h' : SqL X.K H a ys) : xs = ys := by
  obtain ⟨its, r, ⟨o, n, e, _, _, d⟩, _⟩ := I.list h
  obtain ⟨its', r', ⟨o', n', e', _, _, d'⟩, _⟩ := I.list h'
  rw [e] at e'; cases e'
  rw [d] at d'
  injection d' with d1 _
  have : its = its' := by simpa using congrArg Array.toList d1
  subst this
  exact r.inj r'
end
abbrev Cx.wish (X : Cx) (E : Value → Shared → Prop) : Cx := { X with xe := E }
abbrev Cx.nox (X : Cx) : Cx := X.wish fun _ _ => False
theorem Cx.Ok.wish {X : Cx} (ok : X.Ok) (E : Value → Shared → Prop) : (X.wish E).Ok :=
  ⟨ok.mod, ok.kind, ok.glob, ok.blt, ok.above, ok.inj, ok.has, ok.cab, ok.hd, ok.frames, ok.stk, ok.exf, ok.bs, ok.bsz, ok.noex, ok.exfs, ok.funs, ok.frf⟩
theorem Cx.Ok.unwish {X : Cx} {E : Value → Shared → Prop} (ok : (X.wish E).Ok) : X.Ok :=
  ⟨ok.mod, ok.kind, ok.glob, ok.blt, ok.above, ok.inj, ok.has, ok.cab, ok.hd, ok.frames, ok.stk, ok.exf, ok.bs, ok.bsz, ok.noex, ok.exfs, ok.funs, ok.frf⟩
section
variable {X : Cx} {pins : List (Addr × Obj)} {σ : St} {H : Hp} {s : Shared} {E : Value → Shared → Prop}
theorem Inv.wish (I : Inv X pins σ H s) (E : Value → Shared → Prop) : Inv (X.wish E) pins σ H s := ⟨I.ok.wish E, I.os, I.bare, I.base, I.loc, I.cell, I.free, I.freeC, I.pin, I.hok, I.len⟩
theorem Inv.unwish (I : Inv (X.wish E) pins σ H s) : Inv X pins σ H s := ⟨I.ok.unwish, I.os, I.bare, I.base, I.loc, I.cell, I.free, I.freeC, I.pin, I.hok, I.len⟩
theorem SP.unwish {D : Ends} {f : Flow} {s' : Shared} (h : SP (X.wish E) pins D f s') : SP X pins D f s' := by
  cases f with
  | next => obtain ⟨σ', H', I, q⟩ := h; exact ⟨σ', H', I.unwish, q⟩
  | brk => obtain ⟨σ', H', I, q⟩ := h; exact ⟨σ', H', I.unwish, q⟩
  | cont => obtain ⟨σ', H', I, q⟩ := h; exact ⟨σ', H', I.unwish, q⟩
  | ret u => obtain ⟨v, σ', H', I, r, q⟩ := h; exact ⟨v, σ', H', I.unwish, r, q⟩
theorem PE.nox {e : Expr} {t : TE} (h : PE X.nox e t) : PE X e t := fun pins s σ H Q I hw =>
  wpAny_mono (h pins s σ H Q (I.wish _) hw) (fun _ _ ⟨v, H', I', r, q⟩ => ⟨v, H', I'.unwish, r, q⟩) fun _ _ z => False.elim z
theorem PT.nox {e : Expr} {t : TT} (h : PT X.nox e t) : PT X e t := fun pins s σ H Q I hw =>
  wpAny_mono (h pins s σ H Q (I.wish _) hw) (fun _ _ ⟨H', I', q⟩ => ⟨H', I'.unwish, q⟩) fun _ _ z => False.elim z
theorem PSs.nox {st : List Stmt} {t : TS} (h : PSs X.nox st t) : PSs X st t := fun pins s σ H D I hw =>
  wpAny_mono (h pins s σ H D (I.wish _) hw) (fun _ _ q => q.unwish) fun _ _ z => False.elim z
end
section
variable {X : Cx} {st : Stmt} {rest : List Stmt} {t u : TS} {e : Expr} {te : TE} {pos : Pos}
def tNext : TS := fun D σ H => D.nx σ H
def tSeq (t u : TS) : TS := fun D σ H => t { D with nx := u D } σ H
theorem pss_nil : PSs X [] tNext := fun _ _ σ H _ I h => wpAny_execs_nil ⟨σ, H, I, h⟩
theorem pss_cons (h1 : PS X st t) (h2 : PSs X rest u) : PSs X (st :: rest) (tSeq t u) := by
  intro pins s σ H D I h
  refine wpAny_execs_cons (thn (h1 pins s σ H { D with nx := u D } I h) fun f s1 q => ?_)
  cases f with
  | next =>
    obtain ⟨σ', H', I', q⟩ := q
    exact h2 pins s1 σ' H' D I' q
  | ret v => exact q
  | brk => exact q
  | cont => exact q
theorem pss_one (h1 : PS X st t) : PSs X [st] t := by
  intro pins s σ H D I h
  refine wpAny_execs_cons (thn (h1 pins s σ H D I h) fun f s1 q => ?_)
  cases f with
  | next => exact wpAny_execs_nil q
  | ret v => exact q
  | brk => exact q
  | cont => exact q
theorem Inv.quiet {pins : List (Addr × Obj)} {σ : St} {H : Hp} {s : Shared} (I : Inv X pins σ H s) : interactive X.env = false := by simp [interactive, I.ok.kind]
def tDrop (te : TE) : TS := fun D σ H => te σ H fun _ H1 => D.nx σ H1
theorem ps_expr (he : PE X e te) (hs : swapsWith e none pos.line X.env = pure false := by rfl) : PS X (.Expr e pos) (tDrop te) := by
  intro pins s σ H D I h
  exact wpAny_Expr_any (thn (he pins s σ H _ I h) fun v s1 ⟨x, H1, I1, r1, q1⟩ => ⟨σ, H1, I1, q1⟩) I.quiet hs
def tRet (te : TE) : TS := fun D σ H => te σ H D.rt
theorem ps_ret (he : PE X e te) : PS X (.Return (some e) pos) (tRet te) := by
  intro pins s σ H D I h
  exact wpAny_Return_some (thn (he pins s σ H _ I h) fun v s1 ⟨x, H1, I1, r1, q1⟩ => ⟨x, σ, H1, I1, r1, q1⟩)
def tIfS (c : TT) (t u : TS) : TS := fun D σ H => c σ H fun b H1 => if b = true then t D σ H1 else u D σ H1
theorem ps_if {c : Expr} {a b : List Stmt} {tc : TT} (hc : PT X c tc) (ha : PSs X a t) (hb : PSs X b u) : PS X (.If c a b pos) (tIfS tc t u) := by
  intro pins s σ H D I h
  refine wpAny_If (thn (hc pins s σ H _ I h) fun d s1 ⟨H1, I1, q1⟩ => ?_)
  cases d with
  | true => exact ha pins s1 σ H1 D I1 q1
  | false => exact hb pins s1 σ H1 D I1 q1
end
abbrev TG := V → St → Hp → (St → Hp → Prop) → Prop
abbrev TGs := List V → St → Hp → (St → Hp → Prop) → Prop
def PG (X : Cx) (target : Expr) (t : TG) : Prop :=
  ∀ (pins : List (Addr × Obj)) (s : Shared) (σ : St) (H : Hp) (v : V) (u : Value) (Q : St → Hp → Prop), Inv X pins σ H s → RelV v u → t v σ H Q →
    wpAny (model X.prog X.w) X.A (assign target X.env u) (fun _ s' => ∃ σ' H', Inv X pins σ' H' s' ∧ Q σ' H') X.xe s
def PGs (X : Cx) (ts : List Expr) (t : TGs) : Prop :=
  ∀ (pins : List (Addr × Obj)) (s : Shared) (σ : St) (H : Hp) (vs : List V) (us : List Value) (Q : St → Hp → Prop), Inv X pins σ H s → Vals vs us → t vs σ H Q →
    wpAny (model X.prog X.w) X.A (assignInOrder ((assignEach ts X.env).map (·.2)) us) (fun _ s' => ∃ σ' H', Inv X pins σ' H' s' ∧ Q σ' H') X.xe s
section
variable {X : Cx} {pos : Pos}
def gName (i : Nat) : TG := fun v σ H Q => Q (σ.set i (some v)) H
theorem pg_name {i : Nat} {x : Str} (hN : X.N.Nodup) (hi : X.N[i]? = some x) (hx : Loc X.env.scope x) (hf : X.fn x = true ∨ X.env.scope.names.lookup x = some .local := by first | exact .inl rfl | exact .inr rfl | assumption) : PG X (.Name x pos) (gName i) := by
  intro pins s σ H v u Q I r h
  exact wpAny_assign_Name (store_ok I hN hi hx r (fun s' I' => ⟨_, H, I', h⟩) hf)
def gNil : TGs := fun vs σ H Q => vs = [] ∧ Q σ H
def gCons (t : TG) (u : TGs) : TGs := fun vs σ H Q => ∃ v r, vs = v :: r ∧ t v σ H fun σ' H' => u r σ' H' Q
theorem pgs_nil : PGs X [] gNil := by
  intro pins s σ H vs us Q I r h
  obtain ⟨e, h⟩ := h
  subst e
  cases r
  exact assignInOrder_nil ⟨σ, H, I, h⟩
theorem pgs_cons {e : Expr} {es : List Expr} {t : TG} {u : TGs} (h1 : PG X e t) (h2 : PGs X es u)
    (hs : (assignEach (e :: es) X.env).map (·.2) = assign e X.env :: (assignEach es X.env).map (·.2) := by rfl) : PGs X (e :: es) (gCons t u) := by
  intro pins s σ H vs us Q I r h
  obtain ⟨v, vr, e1, h⟩ := h
  subst e1
  cases r with
  | cons r rr =>
    rw [hs]
    refine assignInOrder_cons (thn (h1 pins s σ H _ _ _ I r h) fun _ s1 ⟨σ1, H1, I1, q1⟩ => ?_)
    exact h2 pins s1 σ1 H1 _ _ Q I1 rr q1
def gTup (K : PySem.W.Frag) (n : Nat) (t : TGs) : TG := fun v σ H Q => ∃ a xs, v = .ref a ∧ SqT K H a xs ∧ xs.length = n ∧ t xs σ H Q
theorem pg_tup {es : List Expr} {k : Nat} {t : TGs} {n : Nat} (hc : X.calm = true) (h : PGs X es t)
    (hn : (assignEach es X.env).length = n := by rfl) (hst : (assignEach es X.env).findIdx? (·.1) = none := by rfl) : PG X (.Tuple es k pos) (gTup X.K n t) := by
  intro pins s σ H v u Q I r hw
  obtain ⟨a, xs, e1, hq, hl, hw⟩ := hw
  subst e1
  cases r
  obtain ⟨its, rv, ht, hz⟩ := I.tuple hq
  refine assign_Tuple_tuple (I.ok.hd hc) ht (by simp [hn, ← hl, rv.length]) hst fun h' hx => ?_
  have I1 : Inv X pins σ H { s with heap := h' } := I.kept (t' := s.toks) fun b o e => hx b o (Nat.ne_of_lt (Heap.lt_size e)) e
  exact h pins _ σ H xs _ Q I1 (by simpa using rv) hw
def tAsg (te : TE) (g : TG) : TS := fun D σ H => te σ H fun x H1 => g x σ H1 D.nx
theorem ps_set {i : Nat} {x : Str} {e : Expr} {te : TE} {pos' : Pos} (hN : X.N.Nodup) (hi : X.N[i]? = some x) (hx : Loc X.env.scope x) (he : PE X e te) (hs : swapsWith e (some (.Name x pos')) pos.line X.env = pure false := by rfl) (hf : X.fn x = true ∨ X.env.scope.names.lookup x = some .local := by first | exact .inl rfl | exact .inr rfl | assumption) :
    PS X (.Assign [.Name x pos'] e pos) (tAsg te (gName i)) := by
  intro pins s σ H D I h
  refine wpAny_Assign_Name (thn (he pins s σ H _ I h) fun v s1 ⟨y, H1, I1, r1, q1⟩ => ?_) hs
  exact store_ok I1 hN hi hx r1 (fun s2 I2 => ⟨_, H1, I2, q1⟩) hf
end
section
variable {X : Cx} {pos : Pos}
def tWhile (c : TT) (tb : TS) : TS := fun D σ H => ∃ W : Nat → St → Hp → Prop, (∃ m, W m σ H) ∧ ∀ m σ H, W m σ H →
  c σ H fun b H1 => if b = true then ∃ N : St → Hp → Prop, (∀ σ' H', N σ' H' → ∃ m', m' < m ∧ W m' σ' H') ∧ tb { D with nx := N, ct := N, bk := D.nx } σ H1 else D.nx σ H1
theorem ps_while {c : Expr} {body : List Stmt} {tc : TT} {tb : TS} (hp : PassesOwn (model X.prog X.w) X.A X.env X.xe) (hc : PT X c tc) (hb : PSs X body tb) : PS X (.While c body [] pos) (tWhile tc tb) := by
  intro pins s σ H D I h
  obtain ⟨W, ⟨m0, w0⟩, turn⟩ := h
  refine wpAny_While (codeAny_whileLoop (fun n s' => ∃ σ' H', Inv X pins σ' H' s' ∧ W n σ' H') ?_ m0 ⟨σ, H, I, w0⟩)
  rintro n s1 ⟨σ1, H1, I1, w1⟩
  refine wpAny_passesOwn hp (thn (hc pins s1 σ1 H1 _ I1 (turn n σ1 H1 w1)) fun b s2 ⟨H2, I2, q2⟩ => ?_)
  cases b with
  | true =>
    obtain ⟨N, hN, q2⟩ := q2
    rw [if_pos rfl]
    refine wpAny_passesOwn hp (thn (hb pins s2 σ1 H2 _ I2 q2) fun f s3 q3 => ?_)
    cases f with
    | next =>
      obtain ⟨σ3, H3, I3, n3⟩ := q3
      obtain ⟨m', hm, w3⟩ := hN σ3 H3 n3
      exact ⟨m', hm, σ3, H3, I3, w3⟩
    | cont =>
      obtain ⟨σ3, H3, I3, n3⟩ := q3
      obtain ⟨m', hm, w3⟩ := hN σ3 H3 n3
      exact ⟨m', hm, σ3, H3, I3, w3⟩
    | brk => exact q3
    | ret v => exact q3
  | false =>
    rw [if_neg Bool.false_ne_true]
    exact wpAny_execs_nil ⟨σ1, H2, I2, q2⟩
end
structure It where
  go : Nat → Hp → Prop
  yld : Nat → Hp → V → Hp → Prop
  stop : Nat → Hp → Prop
def FpOk (X : Cx) (pins : List (Addr × Obj)) (H : Hp) (b : Addr) : Prop :=
  H b = none ∧ b ≠ X.env.locals ∧ b ∉ X.fs ∧ (b ∈ X.ex ∨ X.s_0.heap.objs.size ≤ b) ∧ (∀ x c, X.env.cells.lookup x = some c → c ≠ b) ∧ ∀ p ∈ X.pn ++ pins, p.1 ≠ b
theorem Inv.fpOk {X : Cx} {pins : List (Addr × Obj)} {σ : St} {H H' : Hp} {s : Shared} {b : Addr} (I : Inv X pins σ H s) (hb : s.heap.objs.size ≤ b) (hn : H' b = none) : FpOk X pins H' b := by
  refine ⟨hn, Nat.ne_of_gt (Nat.lt_of_lt_of_le I.lt hb), I.nofs hb, .inr (Nat.le_trans I.sz hb), fun x c e z => ?_, fun p hp z => ?_⟩
  · obtain ⟨v, q⟩ := I.cell x c e
    exact absurd (Nat.lt_of_lt_of_le q.lt (by rw [z]; exact hb)) (Nat.lt_irrefl _)
  · exact absurd (Nat.lt_of_lt_of_le (Heap.lt_size (I.pin p hp).1) (by rw [z]; exact hb)) (Nat.lt_irrefl _)
structure Turn (P : Program) (w : World) (K : PySem.W.Frag) (tg : Expr) (J : It) (fp : List Addr) (it : Addr) (tn : Nat → Heap → Prop) : Prop where
  mem : it ∈ fp
  obj : ∀ i h, tn i h → ∀ b ∈ fp, ∃ o, h.get? b = some o ∧ ∀ v, o.data ≠ .cell v
  keep : ∀ i h h', tn i h → (∀ b ∈ fp, ∀ o, h.get? b = some o → h'.get? b = some o) → tn i h'
  item : ∀ (X : Cx), X.prog = P → X.w = w → X.K = K → X.calm = true → ∀ (i : Nat) (pins : List (Addr × Obj)) (s : Shared) (σ : St) (H : Hp) (E : Value → Shared → Prop), Inv X pins σ H s → (∀ b ∈ fp, FpOk X pins H b) → tn i s.heap → J.go i H →
    wpAny (model P w) X.A (pyNext (.ref it)) (fun r s1 => ∃ u, r = some u ∧
      wpAny (model P w) X.A (letOwnedTupleGo tg (.ref it) u) (fun _ s2 => ∃ x H', Inv X pins σ H' s2 ∧ RelV x u ∧ J.yld i H x H' ∧ tn (i + 1) s2.heap ∧ ∀ b ∈ fp, H' b = none) E s1) E s
  done : ∀ (X : Cx), X.prog = P → X.w = w → X.K = K → X.calm = true → ∀ (i : Nat) (pins : List (Addr × Obj)) (s : Shared) (σ : St) (H : Hp) (E : Value → Shared → Prop), Inv X pins σ H s → (∀ b ∈ fp, FpOk X pins H b) → tn i s.heap → J.stop i H →
    wpAny (model P w) X.A (pyNext (.ref it)) (fun r s1 => r = none ∧ Inv X pins σ H s1) E s
  self : ∀ (A : Around) (i : Nat) (s : Shared) (Q : Value → Shared → Prop) (E : Value → Shared → Prop), tn i s.heap → Q (.ref it) s → wpAny (model P w) A (pyIter (.ref it)) Q E s
abbrev TI := St → Hp → (It → Hp → Prop) → Prop
def PIE (X : Cx) (pins : List (Addr × Obj)) (σ : St) (tg : Expr) (R : It → Hp → Prop) (itv : Value) (s2 : Shared) : Prop :=
  ∃ (it : Addr) (fp : List Addr) (tn : Nat → Heap → Prop) (J : It) (H' : Hp), itv = .ref it ∧ Inv X pins σ H' s2 ∧ Turn X.prog X.w X.K tg J fp it tn ∧ tn 0 s2.heap ∧ (∀ b ∈ fp, FpOk X pins H' b) ∧ R J H'
def PI (X : Cx) (tg iter : Expr) (wi : TI) : Prop :=
  ∀ (pins : List (Addr × Obj)) (s : Shared) (σ : St) (H : Hp) (R : It → Hp → Prop), Inv X pins σ H s → wi σ H R →
    wpAny (model X.prog X.w) X.A (eval iter X.env) (fun v s1 => wpAny (model X.prog X.w) X.A (pyIter v) (PIE X pins σ tg R) X.xe s1) X.xe s
theorem go_of {M : Model} {A : Around} {E : Value → Shared → Prop} {s : Shared} {tg : Expr} {it : Addr} {u : Value} {o : Obj} {n : String} {vs : Array Value} {Q : Unit → Shared → Prop} (ho : s.heap.get? it = some o) (hc : o.cls = .type n) (hd : o.data = .fields vs)
    (hn : ["enumerate", "zip", "dict_itemiterator", "dict_reverseitemiterator", "odict_iterator", "itertools.zip_longest", "itertools.pairwise"].contains n = false) (hQ : Q () s) : wpAny M A (letOwnedTupleGo tg (.ref it) u) Q E s := by
  unfold letOwnedTupleGo
  cases tg <;> first
    | exact wpAny_pure hQ
    | (cases u <;> first
        | exact wpAny_pure hQ
        | (refine wpAny_bind (wpAny_load ho ?_)
           rw [hc, hd]
           show wpAny M A (if (["enumerate", "zip", "dict_itemiterator", "dict_reverseitemiterator", "odict_iterator", "itertools.zip_longest", "itertools.pairwise"].contains n && vs[0]? == some (rawInt _)) = true then _ else _) Q E s
           rw [if_neg (by intro h; rw [hn, Bool.false_and] at h; cases h)]
           exact wpAny_pure hQ))
def Itl (K : PySem.W.Frag) (a : Addr) : It :=
  ⟨fun i H => ∃ xs x, SqL K H a xs ∧ xs[i]? = some x, fun i H x H' => H' = H ∧ ∀ xs, SqL K H a xs → xs[i]? = some x, fun i H => ∃ xs, SqL K H a xs ∧ xs.length ≤ i⟩
theorem turn_list {P : Program} {w : World} {K : PySem.W.Frag} {tg : Expr} (a it : Addr) : Turn P w K tg (Itl K a) [it] it (fun i h => h.IsListIter it a i) where
  mem := by simp
  obj := fun i h st b hb => by
    have e : b = it := by simpa using hb
    subst e
    obtain ⟨o, e, c, d⟩ := st
    exact ⟨o, e, fun v z => by rw [d] at z; cases z⟩
  keep := fun i h h' st k => st.at fun o e => k it (by simp) o e
  item := by
    intro X hP hw hK hc i pins s σ H E I hf st hg
    subst hP hw hK
    obtain ⟨xs, x, hq, hx⟩ := hg
    obtain ⟨its, rv, p, hz⟩ := I.list hq
    obtain ⟨u, hu, ru⟩ := rv.get hx
    obtain ⟨f0, f1, f2, f3, f4, f5⟩ := hf it (by simp)
    refine wpAny_pyNext_list_item st p.isList (x := u) (by simpa using hu) fun h' st' sb => ?_
    have I1 : Inv X pins σ H { s with heap := h' } := I.turned (t' := s.toks) (fun b o hb e => (sb.2 b hb).trans e) f0 f1 f3 f4 f5
    obtain ⟨o, e, c, d⟩ := id st'
    exact ⟨u, rfl, go_of (s := { s with heap := h' }) e c d (by decide) ⟨x, H, I1, ru, ⟨rfl, fun ys hy => by rw [I.list_inj hy hq]; exact hx⟩, st', fun b hb => (hf b hb).1⟩⟩
  done := by
    intro X hP hw hK hc i pins s σ H E I hf st hg
    subst hP hw hK
    obtain ⟨xs, hq, hx⟩ := hg
    obtain ⟨its, rv, p, hz⟩ := I.list hq
    obtain ⟨f0, f1, f2, f3, f4, f5⟩ := hf it (by simp)
    have hl := rv.length
    exact wpAny_pyNext_list_end (I.ok.hd hc) st p.isList (by simp; omega) fun h' eb => ⟨rfl, I.turned (t' := s.toks) (fun b o hb e => eb b o hb e) f0 f1 f3 f4 f5⟩
  self := fun _ _ _ _ _ st h => wpAny_pyIter_listiter st h
end L2
namespace L2
open PySem PySem.Spec PyProof.Rows
section
variable {X : Cx} {tg : Expr}
def iList (K : PySem.W.Frag) (tl : TE) : TI := fun σ H R => tl σ H fun x H1 => ∃ a, x = .ref a ∧ (∃ xs, SqL K H1 a xs) ∧ R (Itl K a) H1
theorem pi_list {l : Expr} {tl : TE} (hl : PE X l tl) : PI X tg l (iList X.K tl) := by
  intro pins s σ H R I h
  refine thn (hl pins s σ H _ I h) fun v s1 ⟨x, H1, I1, r1, q1⟩ => ?_
  obtain ⟨a, e, ⟨xs, hq⟩, q⟩ := q1
  subst e
  cases r1
  obtain ⟨its, rv, p, hz⟩ := I1.list hq
  refine wpAny_pyIter_list p.isList ?_
  refine ⟨s1.heap.objs.size, [s1.heap.objs.size], _, _, H1, rfl, I1.kept (t' := s1.toks) fun b o e => Heap.get?_push_of_some _ e, turn_list a _, ⟨_, Heap.get?_push_size _ rfl, rfl, rfl⟩, fun b hb => ?_, q⟩
  have e : b = s1.heap.objs.size := by simpa using hb
  subst e
  exact I1.fpOk (Nat.le_refl _) (I1.hok.fresh (Nat.le_refl _))
def tFor (wi : TI) (g : TG) (tb : TS) : TS := fun D σ H => wi σ H fun J H1 => ∃ W : Nat → Nat → St → Hp → Prop, (∃ m, W 0 m σ H1) ∧ ∀ i m σ H, W i m σ H →
  (J.stop i H ∧ D.nx σ H) ∨ (J.go i H ∧ ∃ N : St → Hp → Prop, (∀ σ' H', N σ' H' → ∃ m', m' < m ∧ W (i + 1) m' σ' H') ∧ ∀ x H', J.yld i H x H' → g x σ H' fun σ2 H2 => tb { D with nx := N, ct := N, bk := D.nx } σ2 H2)
def pinsAt (fp : List Addr) (h : Heap) : List (Addr × Obj) := fp.filterMap fun b => (h.get? b).map fun o => (b, o)
theorem mem_pinsAt {fp : List Addr} {h : Heap} {b : Addr} {o : Obj} (hb : b ∈ fp) (e : h.get? b = some o) : (b, o) ∈ pinsAt fp h := List.mem_filterMap.mpr ⟨b, hb, by rw [e]; rfl⟩
theorem of_pinsAt {fp : List Addr} {h : Heap} {p : Addr × Obj} (hp : p ∈ pinsAt fp h) : p.1 ∈ fp ∧ h.get? p.1 = some p.2 := by
  obtain ⟨b, hb, e⟩ := List.mem_filterMap.mp hp
  cases q : h.get? b with
  | none => rw [q] at e; cases e
  | some o =>
    rw [q] at e
    have e' : (b, o) = p := Option.some.inj e
    subst e'
    exact ⟨hb, q⟩
theorem Inv.pinned {pins : List (Addr × Obj)} {σ : St} {H : Hp} {s : Shared} {fp : List Addr} (I : Inv X pins σ H s) (hf : ∀ b ∈ fp, FpOk X pins H b) (ho : ∀ b ∈ fp, ∃ o, s.heap.get? b = some o ∧ ∀ v, o.data ≠ .cell v) : Inv X (pins ++ pinsAt fp s.heap) σ H s :=
  I.pins_of fun p hp => (List.mem_append.mp hp).elim (fun z => I.pin p (List.mem_append_right _ z)) fun z => by
    obtain ⟨hb, e⟩ := of_pinsAt z
    obtain ⟨f0, f1, f2, _⟩ := hf p.1 hb
    obtain ⟨o, e', d⟩ := ho p.1 hb
    rw [e] at e'; cases e'
    exact ⟨e, f0, f1, f2, d⟩
theorem Inv.unpinned {pins pl : List (Addr × Obj)} {σ : St} {H : Hp} {s : Shared} (I : Inv X (pins ++ pl) σ H s) : Inv X pins σ H s := I.pins_of fun p hp => I.pin p (List.mem_append_right _ (List.mem_append_left _ hp))
theorem ps_for {iter : Expr} {body : List Stmt} {wi : TI} {g : TG} {tb : TS} {pos : Pos} (hp : PassesOwn (model X.prog X.w) X.A X.env X.xe) (hc : X.calm = true) (hi : PI X tg iter wi) (hg : PG X tg g) (hb : PSs X body tb)
    (hs : ∀ x, foldedSetIterable iter X.env x = pure x := by intro _; rfl) : PS X (.For tg iter body [] pos) (tFor wi g tb) := by
  intro pins s σ H D I h
  refine wpAny_For (thn (hi pins s σ H _ I h) fun v s1 h1 => thn h1 fun itv s2 h2 => ?_) hs
  obtain ⟨it, fp, tn, J, H2, e, I2, T, st2, f2, W, ⟨m0, w0⟩, turn⟩ := h2
  subst e
  -- what stays true of the iterator's objects through the loop
  have stat : ∀ {H' : Hp}, (∀ b ∈ fp, H' b = none) → ∀ b ∈ fp, FpOk X pins H' b := fun hn b hb => ⟨hn b hb, (f2 b hb).2⟩
  refine codeAny_forLoop_any (fun n s' => ∃ i σ' H', Inv X pins σ' H' s' ∧ tn i s'.heap ∧ (∀ b ∈ fp, H' b = none) ∧ W i n σ' H') ?_ m0 ⟨0, σ, H2, I2, st2, fun b hb => (f2 b hb).1, w0⟩
  rintro n s3 ⟨i, σ3, H3, I3, st3, fr3, w3⟩
  rcases turn i n σ3 H3 w3 with ⟨stop, qn⟩ | ⟨go, N, hN, step⟩
  · refine wpAny_passesOwn hp (thn (T.done X rfl rfl rfl hc i pins s3 σ3 H3 X.xe I3 (stat fr3) st3 stop) fun r s4 ⟨hr, I4⟩ => ?_)
    subst hr
    exact wpAny_execs_nil ⟨σ3, H3, I4, qn⟩
  · refine wpAny_passesOwn hp (thn (T.item X rfl rfl rfl hc i pins s3 σ3 H3 X.xe I3 (stat fr3) st3 go) fun r s4 ⟨u, hr, h4⟩ => ?_)
    subst hr
    refine wpAny_passesOwn hp (thn h4 fun _ s5 ⟨x, H5, I5, r5, y5, st5, fr5⟩ => ?_)
    have I5' := I5.pinned (stat fr5) (T.obj _ _ st5)
    refine wpAny_passesOwn hp (thn (hg _ s5 σ3 H5 x u _ I5' r5 (step x H5 y5)) fun _ s6 ⟨σ6, H6, I6, q6⟩ => ?_)
    refine wpAny_passesOwn hp (thn (hb _ s6 σ6 H6 _ I6 q6) fun f s7 q7 => ?_)
    have again : ∀ {σ7 : St} {H7 : Hp}, Inv X (pins ++ pinsAt fp s5.heap) σ7 H7 s7 → N σ7 H7 → ∃ m, m < n ∧ ∃ i σ' H', Inv X pins σ' H' s7 ∧ tn i s7.heap ∧ (∀ b ∈ fp, H' b = none) ∧ W i m σ' H' := fun {σ7 H7} I7 n7 => by
      obtain ⟨m', hm, w7⟩ := hN σ7 H7 n7
      refine ⟨m', hm, i + 1, σ7, H7, I7.unpinned, T.keep _ _ _ st5 fun b hb o e => (I7.pin (b, o) (List.mem_append_right _ (List.mem_append_right _ (mem_pinsAt hb e)))).1, fun b hb => ?_, w7⟩
      obtain ⟨o, e, d⟩ := T.obj _ _ st5 b hb
      exact (I7.pin (b, o) (List.mem_append_right _ (List.mem_append_right _ (mem_pinsAt hb e)))).2.1
    cases f with
    | next => obtain ⟨σ7, H7, I7, n7⟩ := q7; exact again I7 n7
    | cont => obtain ⟨σ7, H7, I7, n7⟩ := q7; exact again I7 n7
    | brk => obtain ⟨σ7, H7, I7, q7⟩ := q7; exact ⟨σ7, H7, I7.unpinned, q7⟩
    | ret v => obtain ⟨x7, σ7, H7, I7, r7, q7⟩ := q7; exact ⟨x7, σ7, H7, I7.unpinned, r7, q7⟩
end
theorem for_list {K : PySem.W.Frag} {a : Addr} {xs : List V} {g : TG} {tb : TS} {D : Ends} {σ : St} {H : Hp} (Pv : Nat → St → Hp → Prop) (h0 : Pv 0 σ H) (hl : ∀ i σ H, i ≤ xs.length → Pv i σ H → SqL K H a xs)
    (hs : ∀ i x σ H, xs[i]? = some x → Pv i σ H → g x σ H fun σ2 H2 => tb { D with nx := Pv (i + 1), ct := Pv (i + 1), bk := D.nx } σ2 H2) (hd : ∀ σ H, Pv xs.length σ H → D.nx σ H) :
    ∃ W : Nat → Nat → St → Hp → Prop, (∃ m, W 0 m σ H) ∧ ∀ i m σ H, W i m σ H →
      ((Itl K a).stop i H ∧ D.nx σ H) ∨ ((Itl K a).go i H ∧ ∃ N : St → Hp → Prop, (∀ σ' H', N σ' H' → ∃ m', m' < m ∧ W (i + 1) m' σ' H') ∧ ∀ x H', (Itl K a).yld i H x H' → g x σ H' fun σ2 H2 => tb { D with nx := N, ct := N, bk := D.nx } σ2 H2) := by
  refine ⟨fun i m σ H => m = xs.length - i ∧ i ≤ xs.length ∧ Pv i σ H, ⟨xs.length, by simp, Nat.zero_le _, h0⟩, ?_⟩
  rintro i m σ H ⟨rfl, hi, p⟩
  have q := hl i σ H hi p
  by_cases hlt : i < xs.length
  · refine .inr ⟨⟨xs, xs[i], q, by simp [hlt]⟩, Pv (i + 1), fun σ' H' p' => ⟨xs.length - (i + 1), by omega, rfl, hlt, p'⟩, fun x H' y => ?_⟩
    obtain ⟨e, y⟩ := y
    subst e
    exact hs i x σ _ (y xs q) p
  · have e : i = xs.length := by omega
    subst e
    exact .inl ⟨⟨xs, q, Nat.le_refl _⟩, hd σ H p⟩
end L2
namespace L2
open PySem PySem.Spec PyProof.Rows
abbrev R2 := V → V → Hp → VK → Prop
def OpR (X : Cx) (f : Value → Value → Sem Value) (r : R2) : Prop :=
  ∀ (pins : List (Addr × Obj)) (s : Shared) (σ : St) (H : Hp) (x y : V) (v u : Value) (Q : VK), Inv X pins σ H s → RelV x v → RelV y u → r x y H Q →
    wpAny (model X.prog X.w) X.A (f v u) (EP X pins σ Q) X.xe s
def UnR (X : Cx) (f : Value → Sem Value) (r : V → Hp → VK → Prop) : Prop :=
  ∀ (pins : List (Addr × Obj)) (s : Shared) (σ : St) (H : Hp) (x : V) (v : Value) (Q : VK), Inv X pins σ H s → RelV x v → r x H Q →
    wpAny (model X.prog X.w) X.A (f v) (EP X pins σ Q) X.xe s
def CallR (X : Cx) (f : Value) (r : List V → Hp → VK → Prop) : Prop :=
  ∀ (pins : List (Addr × Obj)) (s : Shared) (σ : St) (H : Hp) (xs : List V) (us : List Value) (Q : VK), Inv X pins σ H s → Vals xs us → r xs H Q →
    wpAny (model X.prog X.w) X.A (call f us) (EP X pins σ Q) X.xe s
def TruR (X : Cx) (r : V → Hp → (Bool → Hp → Prop) → Prop) : Prop :=
  ∀ (pins : List (Addr × Obj)) (s : Shared) (σ : St) (H : Hp) (x : V) (v : Value) (Q : Bool → Hp → Prop), Inv X pins σ H s → RelV x v → r x H Q →
    wpAny (model X.prog X.w) X.A (truthy v) (TP X pins σ Q) X.xe s
def tOp (r : R2) (ta tb : TE) : TE := fun σ H Q => ta σ H fun x H1 => tb σ H1 fun y H2 => r x y H2 Q
def tUn (r : V → Hp → VK → Prop) (ta : TE) : TE := fun σ H Q => ta σ H fun x H1 => r x H1 Q
def rI (C : Int → Int → Prop) (g : Int → Int → V) : R2 := fun x y H Q => ∃ i j, x = .int i ∧ y = .int j ∧ C i j ∧ Q (g i j) H
def rI0 (g : Int → Int → V) : R2 := fun x y H Q => ∃ i j, x = .int i ∧ y = .int j ∧ Q (g i j) H
def rU (g : Int → V) : V → Hp → VK → Prop := fun x H Q => ∃ i, x = .int i ∧ Q (g i) H
section
variable {X : Cx} {a b c : Expr} {ta tb tc : TE} {pos : Pos}
theorem binT (ha : PE X a ta) (hb : PE X b tb) {pins : List (Addr × Obj)} {s : Shared} {σ : St} {H : Hp} {R : V → V → Hp → Prop} (I : Inv X pins σ H s)
    (h : ta σ H fun x H1 => tb σ H1 fun y H2 => R x y H2) {Q : Value → Shared → Prop} {f : Value → Value → Sem Value}
    (hf : ∀ v u s2 x y H2, Inv X pins σ H2 s2 → RelV x v → RelV y u → R x y H2 → wpAny (model X.prog X.w) X.A (f v u) Q X.xe s2) :
    wpAny (model X.prog X.w) X.A (eval a X.env) (fun v s₁ => wpAny (model X.prog X.w) X.A (eval b X.env) (fun u s₂ => wpAny (model X.prog X.w) X.A (f v u) Q X.xe s₂) X.xe s₁) X.xe s := by
  refine thn (ha pins s σ H _ I h) fun v s1 ⟨x, H1, I1, r1, q1⟩ => ?_
  refine thn (hb pins s1 σ H1 _ I1 q1) fun u s2 ⟨y, H2, I2, r2, q2⟩ => ?_
  exact hf v u s2 x y H2 I2 r1 r2 q2
theorem pe_op {op : Operator} {r : R2} (ho : OpR X (binaryOp op) r) (ha : PE X a ta) (hb : PE X b tb) : PE X (.BinOp a op b pos) (tOp r ta tb) := by
  intro pins s σ H Q I h
  exact wpAny_BinOp (binT ha hb I h fun v u s2 x y H2 I2 rx ry q => ho pins s2 σ H2 x y v u Q I2 rx ry q)
theorem pe_un {op : UnaryOp} {r : V → Hp → VK → Prop} (ho : UnR X (unaryOp op) r) (ha : PE X a ta) : PE X (.UnaryOp op a pos) (tUn r ta) := by
  intro pins s σ H Q I h
  exact UnaryOp_ (thn (ha pins s σ H _ I h) fun v s1 ⟨x, H1, I1, r1, q1⟩ => ho pins s1 σ H1 x v Q I1 r1 q1)
theorem opI {f : Value → Value → Sem Value} {C : Int → Int → Prop} {g : Int → Int → Int}
    (rule : ∀ (i j : Int) (t u : Tok) (s : Shared) (Q : Value → Shared → Prop) (E : Value → Shared → Prop), C i j → Q (.int (g i j) s.toks) { s with toks := s.toks + 1 } → wpAny (model X.prog X.w) X.A (f (.int i t) (.int j u)) Q E s) :
    OpR X f (rI C fun i j => .int (g i j)) := by
  intro pins s σ H x y v u Q I rx ry h
  obtain ⟨i, j, rfl, rfl, hc, q⟩ := h
  obtain ⟨t, rfl⟩ := rx
  obtain ⟨t', rfl⟩ := ry
  exact rule i j t t' s _ _ hc ⟨.int (g i j), H, I.tok _, ⟨_, rfl⟩, q⟩
theorem opI0 {f : Value → Value → Sem Value} {g : Int → Int → Int}
    (rule : ∀ (i j : Int) (t u : Tok) (s : Shared) (Q : Value → Shared → Prop) (E : Value → Shared → Prop), Q (.int (g i j) s.toks) { s with toks := s.toks + 1 } → wpAny (model X.prog X.w) X.A (f (.int i t) (.int j u)) Q E s) :
    OpR X f (rI0 fun i j => .int (g i j)) := by
  intro pins s σ H x y v u Q I rx ry h
  obtain ⟨i, j, rfl, rfl, q⟩ := h
  obtain ⟨t, rfl⟩ := rx
  obtain ⟨t', rfl⟩ := ry
  exact rule i j t t' s _ _ ⟨.int (g i j), H, I.tok _, ⟨_, rfl⟩, q⟩
theorem opB0 {f : Value → Value → Sem Value} {g : Int → Int → Bool}
    (rule : ∀ (i j : Int) (t u : Tok) (s : Shared) (Q : Value → Shared → Prop) (E : Value → Shared → Prop), Q (.bool (g i j)) s → wpAny (model X.prog X.w) X.A (f (.int i t) (.int j u)) Q E s) :
    OpR X f (rI0 fun i j => .bl (g i j)) := by
  intro pins s σ H x y v u Q I rx ry h
  obtain ⟨i, j, rfl, rfl, q⟩ := h
  obtain ⟨t, rfl⟩ := rx
  obtain ⟨t', rfl⟩ := ry
  exact rule i j t t' s _ _ ⟨.bl (g i j), H, I, rfl, q⟩
def CDiv (i j : Int) : Prop := 0 < j ∧ j < 1073741824
def CMul (i j : Int) : Prop := (-(2 ^ 64) < i ∧ i < 2 ^ 64) ∨ (-(2 ^ 64) < j ∧ j < 2 ^ 64)
theorem CMul.ok {i j : Int} (h : CMul i j) : IntMulOk i j := by
  rcases h with ⟨h1, h2⟩ | ⟨h1, h2⟩
  · exact .of_left (intBits_le_64 h1 h2)
  · exact .of_right (intBits_le_64 h1 h2)
theorem op_add : OpR X (binaryOp .Add) (rI0 fun i j => .int (i + j)) := opI0 fun _ _ _ _ _ _ _ q => add_int q
theorem op_sub : OpR X (binaryOp .Sub) (rI0 fun i j => .int (i - j)) := opI0 fun _ _ _ _ _ _ _ q => sub_int q
theorem op_mul : OpR X (binaryOp .Mult) (rI CMul fun i j => .int (i * j)) := opI fun _ _ _ _ _ _ _ hc q => mul_int q hc.ok
theorem op_fdiv : OpR X (binaryOp .FloorDiv) (rI CDiv fun i j => .int (i / j)) := opI fun i j _ _ _ _ _ hc q => by
  have h1 : (0 : Int) < j := hc.1
  have h2 : j < 1073741824 := hc.2
  exact floordiv_int (by omega) (by rw [Int.fdiv_eq_ediv_of_nonneg i (by omega)]; exact q) (.inl (PyProof.noPylong_small (by omega)))
theorem op_mod : OpR X (binaryOp .Mod) (rI (fun _ j => 0 < j) fun i j => .int (i % j)) := opI fun i j _ _ _ _ _ hc q => by
  have h1 : (0 : Int) < j := hc
  exact mod_int' (by omega) (by rw [Int.fmod_eq_emod_of_nonneg i (by omega)]; exact q)
theorem unI {f : Value → Sem Value} {g : Int → Int}
    (rule : ∀ (i : Int) (t : Tok) (s : Shared) (Q : Value → Shared → Prop) (E : Value → Shared → Prop), Q (.int (g i) s.toks) { s with toks := s.toks + 1 } → wpAny (model X.prog X.w) X.A (f (.int i t)) Q E s) :
    UnR X f (rU fun i => .int (g i)) := by
  intro pins s σ H x v Q I rx h
  obtain ⟨i, rfl, q⟩ := h
  obtain ⟨t, rfl⟩ := rx
  exact rule i t s _ _ ⟨.int (g i), H, I.tok _, ⟨_, rfl⟩, q⟩
theorem un_neg : UnR X (unaryOp .USub) (rU fun i => .int (-i)) := unI fun _ _ _ _ _ q => neg_int q
end
def scal : V → V → Bool
  | .non, .non => true | .non, .int _ => true | .int _, .non => true | .non, .bl _ => true | .bl _, .non => true | .non, .str _ => true | .str _, .non => true
  | .int _, .int _ => true | .bl _, .bl _ => true | .str _, .str _ => true | .byt _, .byt _ => true
  | .int _, .str _ => true | .str _, .int _ => true | .bl _, .str _ => true | .str _, .bl _ => true
  | _, _ => false
def rEq : R2 := fun x y H Q => scal x y = true ∧ Q (.bl (decide (x = y))) H
def rNe : R2 := fun x y H Q => scal x y = true ∧ Q (.bl (!decide (x = y))) H
theorem dec_int {i j : Int} : decide (V.int i = V.int j) = (i == j) := by
  rw [Bool.eq_iff_iff]
  simp
theorem dec_bl {i j : Bool} : decide (V.bl i = V.bl j) = (i == j) := by
  rw [Bool.eq_iff_iff]
  simp
theorem dec_str {i j : Str} : decide (V.str i = V.str j) = (i == j) := by
  rw [Bool.eq_iff_iff]
  simp
theorem dec_byt {i j : Array UInt8} : decide (V.byt i = V.byt j) = (i.toList == j.toList) := by
  rw [Bool.eq_iff_iff]
  cases i
  cases j
  simp
section
variable {X : Cx} {a b c : Expr} {ta tb tc : TE} {pos : Pos}
theorem fin_bl {pins : List (Addr × Obj)} {σ : St} {H : Hp} {s : Shared} {Q : VK} {k k' : Bool} (I : Inv X pins σ H s) (q : Q (.bl k) H) (e : k = k') : EP X pins σ Q (.bool k') s := by
  subst e
  exact ⟨.bl k, H, I, rfl, q⟩
theorem op_eq : OpR X (compareOp .Eq) rEq := by
  intro pins s σ H x y v u Q I rx ry h
  obtain ⟨hs, q⟩ := h
  cases x with
  | non =>
    cases rx
    cases y with
    | non => cases ry; exact PySem.EqNone.eq_none_none (fin_bl I q (by simp))
    | bl j => cases ry; exact PySem.EqNone.eq_none_bool (fin_bl I q (by simp))
    | int j => obtain ⟨t', rfl⟩ := ry; exact PySem.EqNone.eq_none_int (fin_bl I q (by simp))
    | str j => obtain ⟨t', rfl⟩ := ry; exact PySem.EqNone.eq_none_str (fin_bl I q (by simp))
    | _ => exact absurd (show false = true from hs) Bool.false_ne_true
  | bl i =>
    cases rx
    cases y with
    | non => cases ry; exact PySem.EqNone.eq_bool_none (fin_bl I q (by simp))
    | bl j => cases ry; exact eq_bool (fin_bl I q dec_bl)
    | str j => obtain ⟨t', rfl⟩ := ry; exact PySem.EqMixed.eq_bool_str (fin_bl I q (by simp))
    | _ => exact absurd (show false = true from hs) Bool.false_ne_true
  | int i =>
    obtain ⟨t, rfl⟩ := rx
    cases y with
    | non => cases ry; exact PySem.EqNone.eq_int_none (fin_bl I q (by simp))
    | int j => obtain ⟨t', rfl⟩ := ry; exact eq_int (fin_bl I q dec_int)
    | str j => obtain ⟨t', rfl⟩ := ry; exact PySem.EqMixed.eq_int_str (fin_bl I q (by simp))
    | _ => exact absurd (show false = true from hs) Bool.false_ne_true
  | str i =>
    obtain ⟨t, rfl⟩ := rx
    cases y with
    | non => cases ry; exact PySem.EqNone.eq_str_none (fin_bl I q (by simp))
    | bl j => cases ry; exact PySem.EqMixed.eq_str_bool (fin_bl I q (by simp))
    | int j => obtain ⟨t', rfl⟩ := ry; exact PySem.EqMixed.eq_str_int (fin_bl I q (by simp))
    | str j => obtain ⟨t', rfl⟩ := ry; exact eq_str (fin_bl I q dec_str)
    | _ => exact absurd (show false = true from hs) Bool.false_ne_true
  | byt i =>
    obtain ⟨t, rfl⟩ := rx
    cases y with
    | byt j => obtain ⟨t', rfl⟩ := ry; exact PySem.W.eq_bytes (fin_bl I q dec_byt)
    | _ => exact absurd (show false = true from hs) Bool.false_ne_true
  | _ => cases y <;> exact absurd (show false = true from hs) Bool.false_ne_true
theorem op_ne : OpR X (compareOp .NotEq) rNe := by
  intro pins s σ H x y v u Q I rx ry h
  obtain ⟨hs, q⟩ := h
  cases x with
  | non =>
    cases rx
    cases y with
    | non => cases ry; exact PySem.EqNone.ne_none_none (fin_bl I q (by simp))
    | bl j => cases ry; exact PySem.EqNone.ne_none_bool (fin_bl I q (by simp))
    | int j => obtain ⟨t', rfl⟩ := ry; exact PySem.EqNone.ne_none_int (fin_bl I q (by simp))
    | str j => obtain ⟨t', rfl⟩ := ry; exact PySem.EqNone.ne_none_str (fin_bl I q (by simp))
    | _ => exact absurd (show false = true from hs) Bool.false_ne_true
  | bl i =>
    cases rx
    cases y with
    | non => cases ry; exact PySem.EqNone.ne_bool_none (fin_bl I q (by simp))
    | bl j => cases ry; exact ne_bool (fin_bl I q (congrArg not dec_bl))
    | str j => obtain ⟨t', rfl⟩ := ry; exact PySem.EqMixed.ne_bool_str (fin_bl I q (by simp))
    | _ => exact absurd (show false = true from hs) Bool.false_ne_true
  | int i =>
    obtain ⟨t, rfl⟩ := rx
    cases y with
    | non => cases ry; exact PySem.EqNone.ne_int_none (fin_bl I q (by simp))
    | int j => obtain ⟨t', rfl⟩ := ry; exact ne_int (fin_bl I q (congrArg not dec_int))
    | str j => obtain ⟨t', rfl⟩ := ry; exact PySem.EqMixed.ne_int_str (fin_bl I q (by simp))
    | _ => exact absurd (show false = true from hs) Bool.false_ne_true
  | str i =>
    obtain ⟨t, rfl⟩ := rx
    cases y with
    | non => cases ry; exact PySem.EqNone.ne_str_none (fin_bl I q (by simp))
    | bl j => cases ry; exact PySem.EqMixed.ne_str_bool (fin_bl I q (by simp))
    | int j => obtain ⟨t', rfl⟩ := ry; exact PySem.EqMixed.ne_str_int (fin_bl I q (by simp))
    | str j => obtain ⟨t', rfl⟩ := ry; exact ne_str (fin_bl I q (congrArg not dec_str))
    | _ => exact absurd (show false = true from hs) Bool.false_ne_true
  | byt i =>
    obtain ⟨t, rfl⟩ := rx
    cases y with
    | byt j => obtain ⟨t', rfl⟩ := ry; exact PySem.W.ne_bytes (fin_bl I q (congrArg not dec_byt))
    | _ => exact absurd (show false = true from hs) Bool.false_ne_true
  | _ => cases y <;> exact absurd (show false = true from hs) Bool.false_ne_true
theorem op_lt : OpR X (compareOp .Lt) (rI0 fun i j => .bl (decide (i < j))) := opB0 fun _ _ _ _ _ _ _ q => lt_int q
theorem op_le : OpR X (compareOp .LtE) (rI0 fun i j => .bl (decide (i ≤ j))) := opB0 fun _ _ _ _ _ _ _ q => le_int q
theorem op_gt : OpR X (compareOp .Gt) (rI0 fun i j => .bl (decide (j < i))) := opB0 fun _ _ _ _ _ _ _ q => gt_int q
theorem op_ge : OpR X (compareOp .GtE) (rI0 fun i j => .bl (decide (j ≤ i))) := opB0 fun _ _ _ _ _ _ _ q => ge_int q
theorem op_isN : OpR X (compareOp .Is) (fun x y H Q => y = .non ∧ Q (.bl (decide (x = .non))) H) := by
  intro pins s σ H x y v u Q I rx ry h
  obtain ⟨rfl, q⟩ := h
  cases ry
  refine is_none_gen (fin_bl I q ?_)
  cases x <;> first
    | (cases rx; rfl)
    | (obtain ⟨t, rfl⟩ := rx; rfl)
theorem op_notN : OpR X (compareOp .IsNot) (fun x y H Q => y = .non ∧ Q (.bl (!decide (x = .non))) H) := by
  intro pins s σ H x y v u Q I rx ry h
  obtain ⟨rfl, q⟩ := h
  cases ry
  refine isnot_none_gen (fin_bl I q ?_)
  cases x <;> first
    | (cases rx; rfl)
    | (obtain ⟨t, rfl⟩ := rx; rfl)
theorem nomark (b : Expr) {op : CmpOp} (h : op ≠ .In := by decide) (h2 : op ≠ .NotIn := by decide) : behindInMarks op b = false := by
  have e1 : (op == CmpOp.In) = false := by cases op <;> first | rfl | exact absurd rfl h
  have e2 : (op == CmpOp.NotIn) = false := by cases op <;> first | rfl | exact absurd rfl h2
  cases b <;> simp [behindInMarks, e1, e2]
theorem pe_cmpR {op : CmpOp} {r : R2} (ho : OpR X (compareOp op) r) (ha : PE X a ta) (hb : PE X b tb) (hm : behindInMarks op b = false) : PE X (.Compare a [op] [b] pos) (tOp r ta tb) := by
  intro pins s σ H Q I h
  exact wpAny_Compare1 (binT ha hb I h fun v u s2 x y H2 I2 rx ry q => ho pins s2 σ H2 x y v u Q I2 rx ry q) hm
def tTest (t : TE) : TT := fun σ H Q => t σ H fun x H' => ∃ k, x = .bl k ∧ Q k H'
theorem pt_cmpR {op : CmpOp} {r : R2} (ho : OpR X (compareOp op) r) (ha : PE X a ta) (hb : PE X b tb) (hm : behindInMarks op b = false) : PT X (.Compare a [op] [b] pos) (tTest (tOp r ta tb)) := by
  intro pins s σ H Q I h
  refine wpAny_isTrue_Compare1 (thn (ha pins s σ H _ I h) fun v s1 ⟨x, H1, I1, r1, q1⟩ => thn (hb pins s1 σ H1 _ I1 q1) fun u s2 ⟨y, H2, I2, r2, q2⟩ =>
    thn (ho pins s2 σ H2 x y v u _ I2 r1 r2 q2) fun c s3 ⟨z, H3, I3, r3, k, e, q3⟩ => ?_) hm
  subst e
  cases r3
  exact wpAny_truthy_bool ⟨H3, I3, q3⟩
def tChain (r r' : R2) (ta tb tc : TE) : TE := fun σ H Q => ta σ H fun x H1 => tb σ H1 fun y H2 => r x y H2 fun z H3 => ∃ k, z = .bl k ∧
  (if k = true then tc σ H3 fun w' H4 => r' y w' H4 Q else Q (.bl false) H3)
theorem pe_chain {op op' : CmpOp} {r r' : R2} (ho : OpR X (compareOp op) r) (ho' : OpR X (compareOp op') r') (ha : PE X a ta) (hb : PE X b tb) (hc : PE X c tc)
    (hm : lastMarks [op, op'] [b, c] = false := by with_unfolding_all rfl) : PE X (.Compare a [op, op'] [b, c] pos) (tChain r r' ta tb tc) := by
  intro pins s σ H Q I h
  refine Compare_chain (thn (ha pins s σ H _ I h) fun v s1 ⟨x, H1, I1, r1, q1⟩ => chain_link (thn (hb pins s1 σ H1 _ I1 q1) fun u s2 ⟨y, H2, I2, r2, q2⟩ =>
    thn (ho pins s2 σ H2 x y v u _ I2 r1 r2 q2) fun d s3 ⟨z, H3, I3, r3, k, e, q3⟩ => ?_)) hm
  subst e
  cases r3
  refine wpAny_truthy_bool ?_
  cases k with
  | false => exact ite_ff ⟨.bl false, H3, I3, rfl, q3⟩
  | true => exact ite_tt (chain_last (thn (hc pins s3 σ H3 _ I3 q3) fun w' s4 ⟨z', H4, I4, r4, q4⟩ => ho' pins s4 σ H4 y z' u w' Q I4 r2 r4 q4))
theorem pt_chain {op op' : CmpOp} {r r' : R2} (ho : OpR X (compareOp op) r) (ho' : OpR X (compareOp op') r') (ha : PE X a ta) (hb : PE X b tb) (hc : PE X c tc)
    (hm : lastMarks [op, op'] [b, c] = false := by with_unfolding_all rfl) : PT X (.Compare a [op, op'] [b, c] pos) (tTest (tChain r r' ta tb tc)) := by
  intro pins s σ H Q I h
  refine isTrue_chain (thn (ha pins s σ H _ I h) fun v s1 ⟨x, H1, I1, r1, q1⟩ => test_link (thn (hb pins s1 σ H1 _ I1 q1) fun u s2 ⟨y, H2, I2, r2, q2⟩ =>
    thn (ho pins s2 σ H2 x y v u _ I2 r1 r2 q2) fun d s3 ⟨z, H3, I3, r3, k, e, q3⟩ => ?_)) hm
  subst e
  cases r3
  refine wpAny_truthy_bool ?_
  cases k with
  | false =>
    obtain ⟨k', e', q'⟩ := q3
    cases e'
    exact ite_ff ⟨H3, I3, q'⟩
  | true =>
    refine ite_tt (test_last (thn (hc pins s3 σ H3 _ I3 q3) fun w' s4 ⟨z', H4, I4, r4, q4⟩ => thn (ho' pins s4 σ H4 y z' u w' _ I4 r2 r4 q4) fun d' s5 ⟨z2, H5, I5, r5, k2, e2, q5⟩ => ?_))
    subst e2
    cases r5
    exact wpAny_truthy_bool ⟨H5, I5, q5⟩
def TruV (K : PySem.W.Frag) (x : V) (H : Hp) (k : Bool) : Prop :=
  match x with
  | .non => k = false
  | .bl b => k = b
  | .int i => k = (i != 0)
  | .str y => y.length ≤ sizeLine ∧ k = ((y.length : Int) != 0)
  | .byt y => y.size ≤ sizeLine ∧ k = ((y.size : Int) != 0)
  | .ref p => (∃ xs, SqL K H p xs ∧ k = !xs.isEmpty) ∨ (∃ xs, SqT K H p xs ∧ k = !xs.isEmpty) ∨ ∃ kvs, H p = some (.dK kvs) ∧ k = !kvs.isEmpty
  | _ => False
theorem isEmpty_kv {κ : Type} {kvs : List (κ × V)} {vs : List (κ × Value)} (r : KV kvs vs) : (!vs.isEmpty) = !kvs.isEmpty := by
  cases r <;> rfl
theorem isEmpty_of {xs : List V} {its : List Value} (r : Vals xs its) : (!its.toArray.isEmpty) = !xs.isEmpty := by
  cases r <;> simp
theorem line63 : (sizeLine : Nat) < 2 ^ 63 := by rw [sizeLine_eq]; decide
theorem tru_ok : TruR X (fun x H Q => ∃ k, TruV X.K x H k ∧ Q k H) := by
  intro pins s σ H x v Q I rx h
  obtain ⟨k, e, q⟩ := h
  have hl := line63
  have hs : sizeLine = 16777216 := sizeLine_eq
  cases x with
  | non =>
    cases rx
    have e' : k = false := e
    subst e'
    exact truthy_none ⟨H, I, q⟩
  | bl b =>
    cases rx
    have e' : k = b := e
    subst e'
    exact wpAny_truthy_bool ⟨H, I, q⟩
  | int i =>
    obtain ⟨t, rfl⟩ := rx
    have e' : k = (i != 0) := e
    subst e'
    exact PySem.P.truthy_int ⟨H, I, q⟩
  | str y =>
    obtain ⟨t, rfl⟩ := rx
    obtain ⟨hy, e'⟩ : y.length ≤ sizeLine ∧ k = ((y.length : Int) != 0) := e
    subst e'
    exact PySem.P.truthy_str (by omega) ⟨H, I.tok _, q⟩
  | byt y =>
    obtain ⟨t, rfl⟩ := rx
    obtain ⟨hy, e'⟩ : y.size ≤ sizeLine ∧ k = ((y.size : Int) != 0) := e
    subst e'
    exact PySem.W.truthy_bytes (by omega) ⟨H, I.tok _, q⟩
  | ref p =>
    cases rx
    have e' : (∃ xs, SqL X.K H p xs ∧ k = !xs.isEmpty) ∨ (∃ xs, SqT X.K H p xs ∧ k = !xs.isEmpty) ∨ ∃ kvs, H p = some (.dK kvs) ∧ k = !kvs.isEmpty := e
    rcases e' with ⟨xs, hx, e'⟩ | ⟨xs, hx, e'⟩ | ⟨kvs, hx, e'⟩
    · subst e'
      obtain ⟨its, r, pl, hz⟩ := I.list hx
      have hlen := r.length
      exact wpAny_truthy_list pl.isList (by simp only [List.size_toArray]; omega) ⟨H, I.tok _, by rw [isEmpty_of r]; exact q⟩
    · subst e'
      obtain ⟨its, r, pl, hz⟩ := I.tuple hx
      have hlen := r.length
      exact truthy_tuple pl (by simp only [List.size_toArray]; omega) ⟨H, I.tok _, by rw [isEmpty_of r]; exact q⟩
    · subst e'
      obtain ⟨hz, hS, vs, r, m⟩ : kvs.length ≤ sizeLine ∧ (p == sysModules) = false ∧ ∃ vs, KV kvs vs ∧ s.heap.DictOf (mixKind X.prog X.w) p vs := I.hok p _ hx
      have hlen : kvs.length = vs.length := Paired.length r
      exact wpAny_truthy_dict hS m (by omega) ⟨H, I.tok _, by rw [isEmpty_kv r]; exact q⟩
  | _ => exact (show False from e).elim
theorem pt_truth (ha : PE X a ta) (he : ∀ whole, isTrue a X.env whole = (do let v ← whole; standAt a.pos; holding [v] (truthy v))) :
    PT X a (fun σ H Q => ta σ H fun x H' => ∃ k, TruV X.K x H' k ∧ Q k H') := by
  intro pins s σ H Q I h
  exact isTrue_plain (thn (ha pins s σ H _ I h) fun v s1 ⟨x, H1, I1, r1, q1⟩ => tru_ok pins s1 σ H1 x v Q I1 r1 q1) (he _)
theorem vals1 {x : V} {us : List Value} (r : Vals [x] us) : ∃ u, us = [u] ∧ RelV x u := by
  cases r with
  | cons r1 r2 => cases r2; exact ⟨_, rfl, r1⟩
theorem call_abs : CallR X (.builtin "abs") (fun xs H Q => ∃ i, xs = [.int i] ∧ Q (.int (if i < 0 then -i else i)) H) := by
  intro pins s σ H xs us Q I r h
  obtain ⟨i, rfl, q⟩ := h
  obtain ⟨u, rfl, t, rfl⟩ := vals1 r
  exact call_abs_int fun u tk => ⟨.int (if i < 0 then -i else i), H, I.tok _, ⟨_, rfl⟩, q⟩
end
end L2
namespace L2
open PySem PySem.Spec PyProof.Rows
structure ObjM (h : Heap) (x dx C : Addr) (mA : Str → Option Value) : Prop where
  obj : h.get? x = some (PySem.W.instObj C dx)
  ns : h.Ns1 dx mA
  ne : dx ≠ x
theorem lookIn_ns {h : Heap} {dx : Addr} {mA : Str → Option Value} (n : h.Ns1 dx mA) : ∃ od, h.get? dx = some od ∧ ∀ name, PySem.W.lookIn name od = some (mA name) := by
  obtain ⟨o, es, ep, ho, hd, hk, _, hm⟩ := n
  refine ⟨o, ho, fun name => ?_⟩
  have e := hm name
  unfold nsFind findBy at e
  rw [← Array.find?_toList] at e
  unfold PySem.W.lookIn
  rw [hd]
  dsimp only
  split
  · rename_i y q
    rw [q] at e
    exact congrArg some e
  · rename_i q
    rw [q] at e
    have a : es.toList.any (·.refKey) = false := by
      rw [List.any_eq_false]
      intro y hy
      obtain ⟨z, t, hkey⟩ := hk y (Array.mem_toList_iff.mp hy)
      simp [DictEntry.refKey, hkey]
    have a' : ¬ es.toList.any (·.refKey) = true := by rw [a]; exact Bool.false_ne_true
    rw [if_neg a']
    exact congrArg some e
theorem ObjM.look {h : Heap} {x dx C : Addr} {mA : Str → Option Value} (I : ObjM h x dx C mA) : ∃ od, PySem.W.InstAt h x (PySem.W.instObj C dx) C (some od) ∧ ∀ name, PySem.W.lookIn name od = some (mA name) :=
  let ⟨od, ho, hl⟩ := lookIn_ns I.ns
  ⟨od, ⟨I.obj, rfl, rfl, ho⟩, hl⟩
section
variable {prog : Program} {w : World} {A : Around} {E : Value → Shared → Prop} {s : Shared} {K : PySem.W.Frag} {x dx C f : Addr} {mA : Str → Option Value} {name : Str} {v : Value}
theorem get_map {expr : Bool} {Q : Value → Shared → Prop} (X : K.In s.heap) (I : ObjM s.heap x dx C mA) (hg : PySem.W.plainGet K C name = true) (hh : PySem.W.hasDictIn K C = true)
    (ha : PySem.W.findIn K (.ref C) name = some none) (hv : mA name = some v) (hv' : PySem.W.handedIn v = true) (h : Q v { s with toks := s.toks + 1 }) :
    wpAny (model prog w) A (getAttr (.ref x) name expr) Q E s := by
  obtain ⟨od, J, hl⟩ := I.look
  exact PySem.W.get_value X J (PySem.W.plainGet_of hg).1 (PySem.W.findObj_own hh ha rfl (by rw [hl, hv])) hv' h
theorem get_meth {pl : Sem Bool} {Q : Value × List Value → Shared → Prop} (X : K.In s.heap) (I : ObjM s.heap x dx C mA) (hg : PySem.W.plainGet K C name = true)
    (hf : PySem.W.findIn K (.ref C) name = some (some (.ref f))) (ht : PySem.W.isFn K (.ref f) = true) (hv : mA name = none) (h : Q (.ref f, [.ref x]) s) :
    wpAny (model prog w) A (getMethod (.ref x) name pl) Q E s := by
  obtain ⟨od, J, hl⟩ := I.look
  exact PySem.W.method_fn X J (PySem.W.plainGet_of hg).1 (PySem.W.plainGet_of hg).2 hf (beq_iff_eq.mp ht) (by show (PySem.W.lookIn name od).map (·.isSome) = some false; rw [hl, hv]; rfl) h
theorem set_map {ns : List Str} {Q : Unit → Shared → Prop} (X : K.In s.heap) (I : ObjM s.heap x dx C mA)
    (hs : PySem.W.findIn K (.ref C) "__setattr__" = some (some (.builtin "object.__setattr__"))) (hp : PySem.W.plainOver K C = true) (ht : PySem.W.takerIn K C name = some none) (hh : PySem.W.hasDictIn K C = true)
    (hw : PySem.Within mA ns) (hsz : ns.length ≤ sizeLine)
    (h : ∀ h', ObjM h' x dx C (fun y => if y = name then some v else mA y) → Heap.SameBut dx s.heap h' → Q () { s with heap := h', toks := s.toks + 2 }) :
    wpAny (model prog w) A (setAttr (.ref x) name v) Q E s := by
  obtain ⟨od, J, hl⟩ := I.look
  refine PySem.W.set_plain X J hs (PySem.W.osa_open (s := { s with toks := s.toks + 1 }) (r := none) X J hp ht fun b => ?_)
  obtain ⟨cd, hc, hd'⟩ := PySem.W.any_some hh
  have hx : s.heap.get? x = some ⟨.ref C, some dx, .plain, #[]⟩ := I.obj
  refine wpAny_bind (wpAny_pure (wpAny_bind (wpAny_bind (wpAny_loadPart hx (wpAny_bind (PySem.W.Looks.here (s := { s with toks := s.toks + 1 }) (PySem.W.looks_clsIn X hc) ?_))))))
  rw [hd']
  refine wpAny_pure (a := some dx) (wpAny_bind (wpAny_pure (wpAny_bind ?_)))
  refine wpAny_nsSet1 (s := { s with toks := s.toks + 1 }) I.ns fun h' hn2 hs2 => ?_
  obtain ⟨oD, esD, epD, hoD, hdD, hcD⟩ := hn2.count (PySem.Within.cons name v hw)
  refine wpAny_bind (wpAny_lookBehind hoD (by rw [hdD]; exact pastItsLine_dict (Nat.le_trans hcD (by rw [List.length_cons]; omega))) ?_)
  exact wpAny_pure (h _ ⟨(hs2.2 _ (Ne.symm I.ne)).trans I.obj, hn2, I.ne⟩ hs2)
theorem make_map {R : Result → Shared → Prop} {vs : List Value} {kw : List (Str × Value)} (X : K.In s.heap) (hm : PySem.W.makesIn K C = true)
    (hi : PySem.W.findIn K (.ref C) "__init__" = some (some (.ref f))) (hf : PySem.W.typeIn K (.ref f) = some (.type "function"))
    (h : codeAny (model prog w) (A.under (.builtin "type.__call__" ⟨.ref C :: vs, kw⟩)) (.call (.ref f) ⟨.ref (s.heap.objs.size + 1) :: vs, kw⟩) (PySem.W.InitBack (s.heap.objs.size + 1) R)
      { s with heap := (s.heap.push PySem.W.emptyDict).push (PySem.W.instObj C s.heap.objs.size) }) :
    codeAny (model prog w) A (.call (.ref C) ⟨vs, kw⟩) R s := by
  obtain ⟨hh, g, d, t, os⟩ := s
  exact PySem.W.make_core (PySem.W.makes_of X hm) (PySem.W.looks_findIn X hi) (fun self => PySem.W.bind_fn X self hf) (.inl rfl) h
end
def putF (f : Str) (v : V) : List (Str × V) → List (Str × V)
  | [] => [(f, v)]
  | (g, x) :: r => if g = f then (g, v) :: r else (g, x) :: putF f v r
theorem lookup_putF (f g : Str) (v : V) : ∀ fs : List (Str × V), (putF f v fs).lookup g = if g = f then some v else fs.lookup g
  | [] => by
    show List.lookup g [(f, v)] = _
    by_cases h : g = f
    · have hb : (g == f) = true := beq_iff_eq.mpr h
      simp only [List.lookup, hb, if_pos h]
    · have hb : (g == f) = false := beq_eq_false_iff_ne.mpr h
      simp only [List.lookup, hb, if_neg h]
  | (k, x) :: r => by
    have ih := lookup_putF f g v r
    rw [show putF f v ((k, x) :: r) = (if k = f then (k, v) :: r else (k, x) :: putF f v r) from rfl]
    by_cases hk : k = f
    · rw [if_pos hk]
      by_cases h : g = k
      · have hb : (g == k) = true := beq_iff_eq.mpr h
        simp only [List.lookup, hb, if_pos (h.trans hk)]
      · have hb : (g == k) = false := beq_eq_false_iff_ne.mpr h
        simp only [List.lookup, hb, if_neg (fun e : g = f => h (e.trans hk.symm))]
    · rw [if_neg hk]
      by_cases h : g = k
      · have hb : (g == k) = true := beq_iff_eq.mpr h
        simp only [List.lookup, hb, if_neg (fun e : g = f => hk (h.symm.trans e))]
      · have hb : (g == k) = false := beq_eq_false_iff_ne.mpr h
        simp only [List.lookup, hb]
        exact ih
theorem keys_putF (f : Str) (v : V) : ∀ fs : List (Str × V), f ∈ (putF f v fs).map (·.1) ∧ ∀ g, g ∈ fs.map (·.1) → g ∈ (putF f v fs).map (·.1)
  | [] => ⟨by simp [putF], fun g h => by simp at h⟩
  | (k, x) :: r => by
    obtain ⟨i1, i2⟩ := keys_putF f v r
    rw [show putF f v ((k, x) :: r) = (if k = f then (k, v) :: r else (k, x) :: putF f v r) from rfl]
    by_cases hk : k = f
    · rw [if_pos hk]
      subst hk
      exact ⟨by simp, fun g h => by simpa using h⟩
    · rw [if_neg hk]
      refine ⟨?_, fun g h => ?_⟩
      · rw [List.map_cons]
        exact List.mem_cons_of_mem _ i1
      · rw [List.map_cons] at h ⊢
        rcases List.mem_cons.mp h with e | e
        · exact List.mem_cons.mpr (.inl e)
        · exact List.mem_cons_of_mem _ (i2 g e)
theorem length_putF (f : Str) (v : V) : ∀ fs : List (Str × V), (putF f v fs).length ≤ fs.length + 1
  | [] => by simp [putF]
  | (k, x) :: r => by
    have ih := length_putF f v r
    rw [show putF f v ((k, x) :: r) = (if k = f then (k, v) :: r else (k, x) :: putF f v r) from rfl]
    by_cases hk : k = f
    · rw [if_pos hk, List.length_cons, List.length_cons]; omega
    · rw [if_neg hk, List.length_cons, List.length_cons]; omega
theorem RelO.some_of {v : V} {o : Option Value} (r : RelO (some v) o) : ∃ u, o = some u ∧ RelV v u := by
  cases o with
  | none => exact (show False from r).elim
  | some u => exact ⟨u, rfl, r⟩
theorem RelO.none_of {o : Option Value} (r : RelO none o) : o = none := by
  cases o with
  | none => rfl
  | some u => exact (show False from r).elim
theorem handed_of {v : V} {u : Value} (r : RelV v u) : PySem.W.handedIn u = true := by
  cases v with
  | non => cases (show u = Value.none from r); rfl
  | bl b => cases (show u = Value.bool b from r); rfl
  | int i => obtain ⟨t, e⟩ := (show ∃ t, u = Value.int i t from r); cases e; rfl
  | str x => obtain ⟨t, e⟩ := (show ∃ t, u = Value.str x t from r); cases e; rfl
  | byt b => obtain ⟨t, e⟩ := (show ∃ t, u = Value.bytes b t from r); cases e; rfl
  | flt b => obtain ⟨t, e⟩ := (show ∃ t, u = Value.float b t from r); cases e; rfl
  | ref a => cases (show u = Value.ref a from r); rfl
  | ty n => cases (show u = Value.type n from r); rfl
section
variable {P : Program} {w : World} {H H' : Hp} {h h' : Heap} {a C dx : Addr} {fs fs' : List (Str × V)}
theorem ins_get (hok : HOk P w H h) (e : H a = some (.ins C dx fs)) : ∃ mA, ObjM h a dx C mA ∧ (∀ f, RelO (fs.lookup f) (mA f)) ∧ PySem.Within mA (fs.map (·.1)) ∧ fs.length ≤ 1000 ∧ H dx = some (.own a) := by
  obtain ⟨d, z, ne, ob, mA, n, r, q⟩ := (show ObjOk P w H h a (.ins C dx fs) from hok a _ e)
  exact ⟨mA, ⟨ob, n, ne⟩, r, q, z, d⟩
end
structure Cls (K : PySem.W.Frag) (C : Addr) : Prop where
  pg : PySem.W.plainGet K C Str.empty = true
  hd : PySem.W.hasDictIn K C = true
  po : PySem.W.plainOver K C = true
  sa : PySem.W.findIn K (.ref C) "__setattr__" = some (some (.builtin "object.__setattr__"))
theorem Cls.get {K : PySem.W.Frag} {C : Addr} (c : Cls K C) (f : Str) : PySem.W.plainGet K C f = true := c.pg
def NoAttr (K : PySem.W.Frag) (C : Addr) (f : Str) : Prop := PySem.W.findIn K (.ref C) f = some none
theorem NoAttr.taker {K : PySem.W.Frag} {C : Addr} {f : Str} (n : NoAttr K C f) : PySem.W.takerIn K C f = some none := by
  unfold PySem.W.takerIn
  rw [show PySem.W.findIn K (.ref C) f = some none from n]
  rfl
structure Meth (K : PySem.W.Frag) (C : Addr) (m : Str) (f : Addr) : Prop where
  at_ : PySem.W.findIn K (.ref C) m = some (some (.ref f))
  fn : PySem.W.isFn K (.ref f) = true
  kp : PySem.W.keepIn K (.ref f) = true
section
variable {X : Cx} {pins : List (Addr × Obj)} {σ : St} {H : Hp} {s : Shared} {a C dx : Addr} {fs : List (Str × V)} {f : Str} {v : V} {A : Around} {E : Value → Shared → Prop}
theorem getattr_ok {b : Bool} {Q : Value → Shared → Prop} (I : Inv X pins σ H s) (e : H a = some (.ins C dx fs)) (c : Cls X.K C) (n : NoAttr X.K C f) (l : fs.lookup f = some v)
    (h : ∀ u s', Inv X pins σ H s' → RelV v u → Q u s') : wpAny (model X.prog X.w) A (getAttr (.ref a) f b) Q E s := by
  obtain ⟨mA, O, r, _, _, _⟩ := ins_get I.hok e
  obtain ⟨u, hu, ru⟩ := RelO.some_of (v := v) (o := mA f) (by rw [← l]; exact r f)
  exact get_map I.kIn O (c.get f) c.hd n hu (handed_of ru) (h u _ (I.tok _) ru)
theorem getmeth_ok {m : Str} {g : Addr} {pl : Sem Bool} {Q : Value × List Value → Shared → Prop} (I : Inv X pins σ H s) (e : H a = some (.ins C dx fs)) (c : Cls X.K C) (k : Meth X.K C m g) (l : fs.lookup m = none)
    (h : Q (.ref g, [.ref a]) s) : wpAny (model X.prog X.w) A (getMethod (.ref a) m pl) Q E s := by
  obtain ⟨mA, O, r, _, _, _⟩ := ins_get I.hok e
  have hn : mA m = none := RelO.none_of (by rw [← l]; exact r m)
  exact get_meth I.kIn O (c.get m) k.at_ k.fn hn h
theorem setattr_ok {y : V} {u : Value} {Q : Unit → Shared → Prop} (I : Inv X pins σ H s) (e : H a = some (.ins C dx fs)) (c : Cls X.K C) (n : NoAttr X.K C f) (hl : fs.length < 1000) (ry : RelV y u)
    (h : ∀ s', Inv X pins σ (upd H a (.ins C dx (putF f y fs))) s' → Q () s') : wpAny (model X.prog X.w) A (setAttr (.ref a) f u) Q E s := by
  obtain ⟨mA, O, r, wi, _, ho⟩ := ins_get I.hok e
  have hz : (fs.map (·.1)).length ≤ sizeLine := by rw [List.length_map, sizeLine_eq]; omega
  refine set_map I.kIn O c.sa c.po n.taker c.hd wi hz fun h' O' sb => h _ ?_
  have hd : ∃ o, h'.get? dx = some o := let ⟨o, _, _, e', _⟩ := O'.ns; ⟨o, e'⟩
  refine I.write (x := a) (e := dx) (by rw [e]; exact True.intro) (.inr ho) (fun b q hb z => (sb.2 b hb).trans z) hd ?_
  refine ⟨by rw [upd_ne O.ne]; exact ho, ?_, O.ne, O'.obj, _, O'.ns, fun g => ?_, fun g hg => ?_⟩
  · have := length_putF f y fs; omega
  · show RelO ((putF f y fs).lookup g) (if g = f then some u else mA g)
    rw [lookup_putF]
    by_cases q : g = f
    · rw [if_pos q, if_pos q]; exact ry
    · rw [if_neg q, if_neg q]; exact r g
  · by_cases q : g = f
    · rw [q]; exact (keys_putF f y fs).1
    · refine (keys_putF f y fs).2 g (wi g fun z => hg ?_)
      show (if g = f then some u else mA g) = none
      rw [if_neg q]; exact z
theorem Inv.made (I : Inv X pins σ H s) : Inv X pins σ (upd (upd H s.heap.objs.size (.own (s.heap.objs.size + 1))) (s.heap.objs.size + 1) (.ins C s.heap.objs.size []))
    { s with heap := (s.heap.push PySem.W.emptyDict).push (PySem.W.instObj C s.heap.objs.size) } := by
  have e1 : (s.heap.push PySem.W.emptyDict).get? s.heap.objs.size = some PySem.W.emptyDict := Heap.get?_push_size s.heap rfl
  have e2 : ((s.heap.push PySem.W.emptyDict).push (PySem.W.instObj C s.heap.objs.size)).get? (s.heap.objs.size + 1) = some (PySem.W.instObj C s.heap.objs.size) := by
    have := Heap.get?_push_size (s.heap.push PySem.W.emptyDict) (o := PySem.W.instObj C s.heap.objs.size) rfl
    rwa [Heap.size_push] at this
  have e3 : (s.heap.push PySem.W.emptyDict).Ns s.heap.objs.size (fun _ => none) := ⟨PySem.W.emptyDict, #[], _, e1, rfl, (fun e he => absurd he (by simp)), fun _ => rfl⟩
  have I1 := I.laid (a := s.heap.objs.size) (o := .own (s.heap.objs.size + 1)) (h' := s.heap.push PySem.W.emptyDict) (t' := s.toks) (fun b u q => Heap.get?_push_of_some _ q) (Nat.le_refl _) ⟨_, e1⟩
  refine I1.laid (a := s.heap.objs.size + 1) (o := .ins C s.heap.objs.size []) (t' := s.toks) (fun b u q => Heap.get?_push_of_some _ q) (Nat.le_of_eq (Heap.size_push _ _)) ?_
  have ne : s.heap.objs.size ≠ s.heap.objs.size + 1 := Nat.ne_of_lt (Nat.lt_succ_self _)
  refine ⟨by rw [upd_ne ne, upd_same], Nat.zero_le _, ne, e2, fun _ => none, (Heap.Ns1.of_empty e3).at fun o q => Heap.get?_push_of_some _ q, fun _ => True.intro, fun y hy => absurd rfl hy⟩
theorem attr_of {prog : Program} {w : World} {env : Env} {e : Expr} {f : Str} {pos : Pos} {s : Shared} {Q : Value → Shared → Prop} (hb : attributeBase e f env (eval e env) = eval e env)
    (h : wpAny (model prog w) A (eval e env) (fun o s₁ => wpAny (model prog w) A (getAttr o f true) Q E s₁) E s) : wpAny (model prog w) A (eval (.Attribute e f pos) env) Q E s :=
  Attribute_any_ h (by rw [arm_eval_Attribute, hb])
end
def tFld (K : PySem.W.Frag) (ta : TE) (f : Str) : TE := fun σ H Q => ta σ H fun x H1 => ∃ a C dx fs v, x = .ref a ∧ H1 a = some (.ins C dx fs) ∧ Cls K C ∧ NoAttr K C f ∧ fs.lookup f = some v ∧ Q v H1
def sFld (K : PySem.W.Frag) (ta tv : TE) (f : Str) : TS := fun D σ H => tv σ H fun y H1 => ta σ H1 fun x H2 => ∃ a C dx fs, x = .ref a ∧ H2 a = some (.ins C dx fs) ∧ Cls K C ∧ NoAttr K C f ∧ fs.length < 1000 ∧
  D.nx σ (upd H2 a (.ins C dx (putF f y fs)))
def InOp (X : Cx) (op : Operator) (rd : V → V → Hp → VK → Prop) : Prop :=
  ∀ (pins : List (Addr × Obj)) (s : Shared) (σ : St) (H : Hp) (x y : V) (u v : Value) (Q : VK), Inv X pins σ H s → RelV x u → RelV y v → rd x y H Q → wpAny (model X.prog X.w) X.A (inplaceOp op u v) (EP X pins σ Q) X.xe s
def sFldAug (K : PySem.W.Frag) (ta tv : TE) (rd : V → V → Hp → VK → Prop) (f : Str) : TS := fun D σ H => ta σ H fun x H1 => ∃ a C dx fs v, x = .ref a ∧ H1 a = some (.ins C dx fs) ∧ Cls K C ∧ NoAttr K C f ∧ fs.lookup f = some v ∧
  tv σ H1 fun y H2 => rd v y H2 fun z H3 => ∃ dx' fs', H3 a = some (.ins C dx' fs') ∧ fs'.length < 1000 ∧ D.nx σ (upd H3 a (.ins C dx' (putF f z fs')))
section
variable {X : Cx} {o e value : Expr} {f : Str} {pos pos' tpos : Pos} {ta tv : TE}
theorem pe_fld (he : PE X e ta) (hb : attributeBase e f X.env (eval e X.env) = eval e X.env) : PE X (.Attribute e f pos) (tFld X.K ta f) := by
  intro pins s σ H Q I h
  refine attr_of hb (thn (he pins s σ H _ I h) fun u s1 ⟨x, H1, I1, rx, a, C, dx, fs, v, ex, ea, c, n, l, q⟩ => ?_)
  subst ex
  obtain rfl : u = Value.ref a := rx
  exact getattr_ok I1 ea c n l fun u' s2 I2 ru => ⟨v, H1, I2, ru, q⟩
theorem ps_fld (ha : PE X o ta) (hv : PE X value tv) (hs : swapsWith value (some (.Attribute o f pos')) pos.line X.env = pure false) : PS X (.Assign [.Attribute o f pos'] value pos) (sFld X.K ta tv f) := by
  intro pins s σ H D I h
  refine plainObj_wpAny_Assign_Attribute (thn (hv pins s σ H _ I h) fun u s1 ⟨y, H1, I1, ry, q⟩ => thn (ha pins s1 σ H1 _ I1 q) fun ov s2 ⟨x, H2, I2, rx, a, C, dx, fs, ex, ea, c, n, l, q2⟩ => ?_) hs
  subst ex
  obtain rfl : ov = Value.ref a := rx
  exact setattr_ok I2 ea c n l ry fun s3 I3 => ⟨σ, _, I3, q2⟩
theorem ps_fldaug {op : Operator} {rd : V → V → Hp → VK → Prop} (ha : PE X o ta) (hv : PE X value tv) (hop : InOp X op rd) : PS X (.AugAssign (.Attribute o f tpos) op value pos) (sFldAug X.K ta tv rd f) := by
  intro pins s σ H D I h
  refine wpAny_AugAssign_AttributeAny (thn (ha pins s σ H _ I h) fun ov s1 ⟨x, H1, I1, rx, a, C, dx, fs, v, ex, ea, c, n, l, q⟩ => ?_)
  subst ex
  obtain rfl : ov = Value.ref a := rx
  refine getattr_ok I1 ea c n l fun u s2 I2 ru => thn (hv pins s2 σ H1 _ I2 q) fun w3 s3 ⟨y, H2, I3, ry, q3⟩ => thn (hop pins s3 σ H2 v y u w3 _ I3 ru ry q3) fun w4 s4 ⟨z, H3, I4, rz, dx', fs', ea', l', q4⟩ => ?_
  exact setattr_ok I4 ea' c n l' rz fun s5 I5 => ⟨σ, _, I5, q4⟩
def rAdd : V → V → Hp → VK → Prop := fun x y H Q => ∃ i j, x = .int i ∧ y = .int j ∧ Q (.int (i + j)) H
theorem in_add : InOp X .Add rAdd := by
  rintro pins s σ H x y u v Q I rx ry ⟨i, j, rfl, rfl, q⟩
  obtain ⟨t, rfl⟩ := (show ∃ t, u = Value.int i t from rx)
  obtain ⟨t', rfl⟩ := (show ∃ t', v = Value.int j t' from ry)
  exact PyProof.Rows.iadd_int ⟨.int (i + j), H, I.tok _, ⟨_, rfl⟩, q⟩
end
section
variable {X : Cx} {pins : List (Addr × Obj)} {σ : St} {H : Hp} {s : Shared} {A : Around} {E : Value → Shared → Prop} {Q : Value → Shared → Prop} {c : Value} {b : Bool}
end
end L2
namespace L2
open PySem PySem.Spec PyProof.Rows
structure Room (k : Nat) (A : Around) : Prop where
  hd : A.handled = none
  dp : A.depth + 3 * k + 5 < recursionLimit
  un : A.units + 16 * k + 200 < cLine
theorem Room.mono {j k : Nat} {A : Around} (r : Room k A) (h : j ≤ k) : Room j A := ⟨r.hd, by have := r.dp; omega, by have := r.un; omega⟩
theorem Room.deeper {k : Nat} {A : Around} (r : Room (k + 1) A) (env : Env) : Room k (A.deeper env) :=
  ⟨r.hd, by have := r.dp; show A.depth + 1 + 3 * k + 5 < _; omega, by have := r.un; show A.units + 3 + 16 * k + 200 < _; omega⟩
theorem make_depth {A : Around} {C : Addr} {us : List Value} {kw : List (Str × Value)} : (A.under (.builtin "type.__call__" ⟨.ref C :: us, kw⟩)).depth = A.depth + 1 := by
  first | rfl | simp [Around.under, Code.weight, Code.isCreation, Code.isGuard, Code.isCaller, Code.frames, Code.isFrame, guardIds]
theorem make_units {A : Around} {C : Addr} {us : List Value} {kw : List (Str × Value)} : (A.under (.builtin "type.__call__" ⟨.ref C :: us, kw⟩)).units = A.units + 1 := by
  first | rfl | simp [Around.under, Code.cUnits, Code.frames, Code.isFrame]
theorem Room.make {k : Nat} {A : Around} (r : Room (k + 1) A) (C : Addr) (us : List Value) (kw : List (Str × Value)) : Room k (A.under (.builtin "type.__call__" ⟨.ref C :: us, kw⟩)) :=
  ⟨r.hd, by have := r.dp; rw [make_depth]; omega, by have := r.un; rw [make_units]; omega⟩
theorem Room.depth {k : Nat} {A : Around} (r : Room k A) : A.depth < recursionLimit := by have := r.dp; omega
theorem Room.units {k : Nat} {A : Around} (r : Room k A) : A.units + 64 < cLine := by have := r.un; omega
def tNil : TA := fun _ H Q => Q [] H
def tCons (ta : TE) (tr : TA) : TA := fun σ H Q => ta σ H fun x H1 => tr σ H1 fun xs H2 => Q (x :: xs) H2
section
variable {X : Cx} {e : Expr} {es : List Expr} {te : TE} {t : TA} {pos : Pos}
theorem pa_nil : PA X [] tNil := fun _ _ _ _ H Q I h => Calls.spliced_nil ⟨[], H, I, .nil, h⟩
theorem pa_cons (ha : PE X e te) (hr : PA X es t) (hs : starEach (e :: es) X.env = (false, eval e X.env) :: starEach es X.env := by rfl) : PA X (e :: es) (tCons te t) := by
  intro pos pins s σ H Q I h
  rw [hs]
  show wpAny _ _ (spliced ((false, eval e X.env) :: backTo pos (starEach es X.env))) _ _ s
  refine Calls.spliced_cons (thn (ha pins s σ H _ I h) fun u s1 ⟨x, H1, I1, r1, q1⟩ => ?_)
  exact thn (hr pos pins s1 σ H1 _ I1 q1) fun us s2 ⟨xs, H2, I2, r2, q2⟩ => ⟨x :: xs, H2, I2, .cons r1 r2, q2⟩
def tLst (t : TA) : TE := fun σ H Q => t σ H fun xs H1 => xs.length ≤ sizeLine ∧ ∀ p, H1 p = none → Q (.ref p) (upd H1 p (.lst xs))
theorem pe_lst (h : PA X es t) : PE X (.List es pos) (tLst t) := by
  intro pins s σ H Q I hq
  refine wpAny_List_spliced (thn (h pos pins s σ H _ I hq) fun us s1 ⟨xs, H1, I1, r, z, q⟩ => ⟨by rw [← r.length]; exact z, ?_⟩)
  have hf : H1 s1.heap.objs.size = none := I1.hok.fresh (Nat.le_refl _)
  refine ⟨.ref s1.heap.objs.size, upd H1 s1.heap.objs.size (.lst xs), I1.laid (t' := s1.toks) (fun b u e => Heap.get?_push_of_some _ e) (Nat.le_refl _) ?_, rfl, q _ hf⟩
  exact ⟨z, us, 0, r, Heap.get?_push_size _ rfl⟩
end
abbrev Sp := List V → Hp → VK → XK → Prop
abbrev CXT := List Env → Hp → Shared → XK → Value → Shared → Prop
structure Env0 (P : Program) (w : World) (K : PySem.W.Frag) (mg : Str → Option Value) (base : Heap) (A : Around) (outer : List Env) (s : Shared) (H : Hp) : Prop where
  frames : A.frames = some outer
  mod : Mod K mg base
  bs : ∀ b o, base.get? b = some o → s.heap.get? b = some o ∧ H b = none
  bsz : base.objs.size ≤ s.heap.objs.size
  funs : s.heap.FunFrames base outer
  frf : ∀ b ∈ frs outer, H b = none
  hok : HOk P w H s.heap
  bare : AllBare s.gens
def CE (outer : List Env) (P : Program) (w : World) (H : Hp) (s : Shared) (Q : VK) (u : Value) (s' : Shared) : Prop :=
  ∃ v H', s'.os = s.os ∧ AllBare s'.gens ∧ Un (frs outer) [] H H' s.heap s'.heap ∧ HOk P w H' s'.heap ∧ RelV v u ∧ Q v H'
def CR (CX : CXT) (outer : List Env) (P : Program) (w : World) (H : Hp) (s : Shared) (Q : VK) (E : XK) (r : Result) (s' : Shared) : Prop :=
  match r with
  | .ok (.ret u) => CE outer P w H s Q u s'
  | .ok _ => False
  | .error e => CX outer H s E e s'
structure FnOk (P : Program) (w : World) (K : PySem.W.Frag) (mg : Str → Option Value) (base : Heap) (CX : CXT) (k : Nat) (f : Addr) (fd : FuncData) (ps : List Str) (sp : Sp) : Prop where
  len : ∀ vs H Q E, sp vs H Q E → vs.length = ps.length
  run : ∀ (A : Around) (outer : List Env) (s : Shared) (H : Hp) (args : Args) (us : List Value) (vs : List V) (Q : VK) (E : XK), Room k A → Env0 P w K mg base A outer s H → BindsTo s fd args (ps.zip us) → Vals vs us → sp vs H Q E →
    codeAny (model P w) A (.call (.ref f) args) (CR CX outer P w H s Q E) s
theorem FnOk.mono {P : Program} {w : World} {K : PySem.W.Frag} {mg : Str → Option Value} {base : Heap} {CX : CXT} {j k : Nat} {f : Addr} {fd : FuncData} {ps : List Str} {sp : Sp} (F : FnOk P w K mg base CX j f fd ps sp) (h : j ≤ k) :
    FnOk P w K mg base CX k f fd ps sp := ⟨F.len, fun A outer s H args us vs Q E hr => F.run A outer s H args us vs Q E (hr.mono h)⟩
theorem Env0.make {P : Program} {w : World} {K : PySem.W.Frag} {mg : Str → Option Value} {base : Heap} {A : Around} {outer : List Env} {s : Shared} {H : Hp} (e : Env0 P w K mg base A outer s H) (C : Addr) (us : List Value) (kw : List (Str × Value)) :
    Env0 P w K mg base (A.under (.builtin "type.__call__" ⟨.ref C :: us, kw⟩)) outer s H := ⟨by first | exact e.frames | (simpa [Around.under, Code.envs, Code.isFrame, pushEnvs] using e.frames), e.mod, e.bs, e.bsz, e.funs, e.frf, e.hok, e.bare⟩
section
variable {X : Cx} {pins : List (Addr × Obj)} {σ : St} {H : Hp} {s s' : Shared}
theorem Inv.env0 (I : Inv X pins σ H s) : Env0 X.prog X.w X.K X.mg X.base X.A X.stack s H :=
  ⟨I.ok.frames, I.ok.mod, I.bs, Nat.le_trans I.ok.bsz I.sz, I.stack, I.stkFree, I.hok, I.bare⟩
theorem Inv.after {Q : VK} {u : Value} (I : Inv X pins σ H s) (h : CE X.stack X.prog X.w H s Q u s') : EP X pins σ Q u s' := by
  obtain ⟨v, H', os, bare, un, hok, r, q⟩ := h
  obtain ⟨hh, g, d, t, os'⟩ := s'
  obtain rfl : os' = s.os := os
  exact ⟨v, H', I.call (h' := hh) (g' := g) (d' := d) (t' := t) (ch := []) un hok bare (fun b z => absurd z (by simp)), r, q⟩
end
def tCall (sp : Sp) (dvs : List V) (E : XK) (t : TA) : TE := fun σ H Q => t σ H fun vs H1 => sp (vs ++ dvs) H1 Q E
def tMeth (C : Addr) (m : Str) (sp : Sp) (dvs : List V) (E : XK) (ta : TE) (t : TA) : TE := fun σ H Q => ta σ H fun x H1 => ∃ a dx fs, x = .ref a ∧ H1 a = some (.ins C dx fs) ∧ fs.lookup m = none ∧
  t σ H1 fun vs H2 => sp (x :: (vs ++ dvs)) H2 Q E
def tMake (C : Addr) (sp : Sp) (dvs : List V) (E : XK) (t : TA) : TE := fun σ H Q => t σ H fun vs H1 => ∀ x dx, H1 x = none → H1 dx = none → dx ≠ x →
  sp (.ref x :: (vs ++ dvs)) (upd (upd H1 dx (.own x)) x (.ins C dx [])) (fun v H2 => v = .non ∧ Q (.ref x) H2) E
def Binds (K : PySem.W.Frag) (fd : FuncData) (ps : List Str) (ds : List Value) : Prop :=
  ∀ (s : Shared) (us : List Value), K.In s.heap → (us ++ ds).length = ps.length → BindsTo s fd ⟨us, []⟩ (ps.zip (us ++ ds))
theorem Binds.all {K : PySem.W.Frag} {fd : FuncData} {ps : List Str} (h : ∀ us : List Value, us.length = ps.length → bindArgs fd ⟨us, []⟩ = pure (ps.zip us)) : Binds K fd ps [] := fun s us _ hl => by
  rw [List.append_nil] at hl ⊢
  exact .of_eq (h us hl)
def Passes (CX : CXT) (X : Cx) (E : XK) : Prop := ∀ (pins : List (Addr × Obj)) (σ : St) (H : Hp) (s : Shared) (e : Value) (s' : Shared), Inv X pins σ H s → CX X.stack H s E e s' → X.xe e s'
section
variable {X : Cx} {CX : CXT} {k : Nat} {f C : Addr} {fd : FuncData} {ps : List Str} {sp : Sp} {dvs : List V} {ds : List Value} {E : XK} {x m : Str} {p pos apos : Pos} {e o : Expr} {es : List Expr} {ta : TE} {t : TA}
theorem run_fn {pins : List (Addr × Obj)} {σ : St} {H : Hp} {s : Shared} {Q : VK} {us : List Value} {vs : List V} (F : FnOk X.prog X.w X.K X.mg X.base CX k f fd ps sp) (hr : Room k X.A) (hb : Binds X.K fd ps ds) (hd : Vals dvs ds) (hx : Passes CX X E)
    (I : Inv X pins σ H s) (r : Vals vs us) (h : sp (vs ++ dvs) H Q E) : wpAny (model X.prog X.w) X.A (call (.ref f) us) (EP X pins σ Q) X.xe s := by
  have r2 : Vals (vs ++ dvs) (us ++ ds) := r.append hd
  have hl : (us ++ ds).length = ps.length := by rw [← r2.length]; exact F.len _ _ _ _ h
  refine wpAny_call (codeAny_mono (F.run X.A X.stack s H ⟨us, []⟩ (us ++ ds) (vs ++ dvs) Q E hr I.env0 (hb s us I.kIn hl) r2 h) fun r s' hq => ?_)
  cases r with
  | error e => exact hx pins σ H s e s' I hq
  | ok fl =>
    cases fl with
    | ret u => exact I.after hq
    | next => exact False.elim hq
    | brk => exact False.elim hq
    | cont => exact False.elim hq
theorem pe_call (F : FnOk X.prog X.w X.K X.mg X.base CX k f fd ps sp) (hr : Room k X.A) (hg : Gl X x) (hm : X.mg x = some (.ref f)) (hk : PySem.W.keepIn X.K (.ref f) = true) (hb : Binds X.K fd ps ds) (hd : Vals dvs ds) (hx : Passes CX X E)
    (ha : PA X (e :: es) t) (hdb : (x == ("__debug__" : Str)) = false := by decide) (he : starEach (e :: es) X.env = (false, eval e X.env) :: starEach es X.env := by rfl) (hpl : (backTo pos (starEach es X.env)).any (·.1) = false := by rfl) :
    PE X (.Call (.Name x p) (e :: es) [] pos) (tCall sp dvs E t) := by
  intro pins s σ H Q I h
  refine wpAny_Call_Name_kw (ld_glob I hg hm ?_ hdb)
  refine PySem.W.callWith_K (h₀ := X.base) I.ok.mod.kin hk (thn (ha pos pins s σ H _ I h) fun us s1 ⟨vs, H1, I1, r, q⟩ => ⟨I1.kIn, ?_⟩) he hpl
  exact run_fn F hr hb hd hx I1 r q
theorem pe_meth {pl : Sem Bool} (he : PE X o ta) (c : Cls X.K C) (hm : Meth X.K C m f) (F : FnOk X.prog X.w X.K X.mg X.base CX k f fd ps sp) (hr : Room k X.A) (hb : Binds X.K fd ps ds) (hd : Vals dvs ds) (hx : Passes CX X E) (ha : PA X (e :: es) t)
    (hst : starEach (e :: es) X.env = (false, eval e X.env) :: starEach es X.env := by rfl) (hpl : (backTo pos (starEach es X.env)).any (·.1) = false := by rfl)
    (ht : eval (.Call (.Attribute o m apos) (e :: es) [] pos) X.env = (do
      let ov ← eval o X.env
      standAt apos.atName
      let (f, first) ← holding [ov] (getMethod ov m pl)
      callWith pos f first (backTo pos (starEach (e :: es) X.env)) (backToKw pos (keywordEach [] X.env))) := by rfl) :
    PE X (.Call (.Attribute o m apos) (e :: es) [] pos) (tMeth C m sp dvs E ta t) := by
  intro pins s σ H Q I h
  refine PySem.W.methodCall_KW (pl := pl) (thn (he pins s σ H _ I h) fun u s1 ⟨x, H1, I1, rx, a, dx, fs, ex, ea, l, q⟩ => ?_) ht
  subst ex
  obtain rfl : u = Value.ref a := rx
  refine getmeth_ok I1 ea c hm l ?_
  refine PySem.W.callWith_K (first := [.ref a]) (h₀ := X.base) I.ok.mod.kin hm.kp (thn (ha pos pins s1 σ H1 _ I1 q) fun us s2 ⟨vs, H2, I2, r, q2⟩ => ⟨I2.kIn, ?_⟩) hst hpl
  exact run_fn (us := .ref a :: us) (vs := .ref a :: vs) F hr hb hd hx I2 (.cons rfl r) q2
theorem pe_meth0 {pl : Sem Bool} (he : PE X o ta) (c : Cls X.K C) (hm : Meth X.K C m f) (F : FnOk X.prog X.w X.K X.mg X.base CX k f fd ps sp) (hr : Room k X.A) (hb : Binds X.K fd ps ds) (hd : Vals dvs ds) (hx : Passes CX X E)
    (ht : eval (.Call (.Attribute o m apos) [] [] pos) X.env = (do
      let ov ← eval o X.env
      standAt apos.atName
      let (f, first) ← holding [ov] (getMethod ov m pl)
      callWith pos f first (backTo pos (starEach [] X.env)) (backToKw pos (keywordEach [] X.env))) := by rfl) :
    PE X (.Call (.Attribute o m apos) [] [] pos) (tMeth C m sp dvs E ta tNil) := by
  intro pins s σ H Q I h
  refine PySem.W.methodCall_KW (pl := pl) (thn (he pins s σ H _ I h) fun u s1 ⟨x, H1, I1, rx, a, dx, fs, ex, ea, l, q⟩ => ?_) ht
  subst ex
  obtain rfl : u = Value.ref a := rx
  refine getmeth_ok I1 ea c hm l ?_
  exact PySem.W.callWith_K0 (first := [.ref a]) I1.kIn hm.kp (run_fn (us := [.ref a]) (vs := [.ref a]) F hr hb hd hx I1 (.cons rfl .nil) q)
structure Mk (K : PySem.W.Frag) (C f : Addr) : Prop where
  makes : PySem.W.makesIn K C = true
  init : PySem.W.findIn K (.ref C) "__init__" = some (some (.ref f))
  fn : PySem.W.isFn K (.ref f) = true
  kp : PySem.W.keepIn K (.ref C) = true
theorem run_make {pins : List (Addr × Obj)} {σ : St} {H : Hp} {s : Shared} {Q : VK} {us : List Value} {vs : List V} (M : Mk X.K C f) (F : FnOk X.prog X.w X.K X.mg X.base CX k f fd ps sp) (hr : Room (k + 1) X.A) (hb : Binds X.K fd ps ds) (hd : Vals dvs ds)
    (hx : Passes CX X E) (I : Inv X pins σ H s) (r : Vals vs us)
    (h : ∀ x dx, H x = none → H dx = none → dx ≠ x → sp (.ref x :: (vs ++ dvs)) (upd (upd H dx (.own x)) x (.ins C dx [])) (fun v H2 => v = .non ∧ Q (.ref x) H2) E) :
    wpAny (model X.prog X.w) X.A (call (.ref C) us) (EP X pins σ Q) X.xe s := by
  have hq := h (s.heap.objs.size + 1) s.heap.objs.size (I.hok.fresh (Nat.le_succ _)) (I.hok.fresh (Nat.le_refl _)) (Nat.ne_of_lt (Nat.lt_succ_self _))
  have I2 := Inv.made (C := C) I
  have r2 : Vals (V.ref (s.heap.objs.size + 1) :: (vs ++ dvs)) (Value.ref (s.heap.objs.size + 1) :: (us ++ ds)) := .cons rfl (r.append hd)
  have hl : (Value.ref (s.heap.objs.size + 1) :: us ++ ds).length = ps.length := by
    have e := r2.length
    rw [F.len _ _ _ _ hq] at e
    exact e.symm
  refine wpAny_call (make_map (f := f) I.kIn M.makes M.init (beq_iff_eq.mp M.fn) (codeAny_mono (F.run _ X.stack _ _ ⟨Value.ref (s.heap.objs.size + 1) :: us, []⟩ (Value.ref (s.heap.objs.size + 1) :: (us ++ ds)) _ _ E (hr.make C us [])
    (I2.env0.make C us []) (hb _ (Value.ref (s.heap.objs.size + 1) :: us) I2.kIn hl) r2 hq) fun r s' hq' => ?_))
  cases r with
  | error e => exact hx pins σ _ _ e s' I2 hq'
  | ok fl =>
    cases fl with
    | ret u =>
      obtain ⟨v, H', I3, rv, ev, q3⟩ := I2.after hq'
      subst ev
      exact ⟨rv, ⟨V.ref (s.heap.objs.size + 1), H', I3, rfl, q3⟩⟩
    | next => exact False.elim hq'
    | brk => exact False.elim hq'
    | cont => exact False.elim hq'
theorem pe_make (M : Mk X.K C f) (F : FnOk X.prog X.w X.K X.mg X.base CX k f fd ps sp) (hr : Room (k + 1) X.A) (hg : Gl X x) (hm : X.mg x = some (.ref C)) (hb : Binds X.K fd ps ds) (hd : Vals dvs ds) (hx : Passes CX X E)
    (ha : PA X (e :: es) t) (hdb : (x == ("__debug__" : Str)) = false := by decide) (he : starEach (e :: es) X.env = (false, eval e X.env) :: starEach es X.env := by rfl) (hpl : (backTo pos (starEach es X.env)).any (·.1) = false := by rfl) :
    PE X (.Call (.Name x p) (e :: es) [] pos) (tMake C sp dvs E t) := by
  intro pins s σ H Q I h
  refine wpAny_Call_Name_kw (ld_glob I hg hm ?_ hdb)
  refine PySem.W.callWith_K (h₀ := X.base) I.ok.mod.kin M.kp (thn (ha pos pins s σ H _ I h) fun us s1 ⟨vs, H1, I1, r, q⟩ => ⟨I1.kIn, ?_⟩) he hpl
  exact run_make M F hr hb hd hx I1 r q
theorem pe_make0 (M : Mk X.K C f) (F : FnOk X.prog X.w X.K X.mg X.base CX k f fd ps sp) (hr : Room (k + 1) X.A) (hg : Gl X x) (hm : X.mg x = some (.ref C)) (hb : Binds X.K fd ps ds) (hd : Vals dvs ds) (hx : Passes CX X E)
    (hdb : (x == ("__debug__" : Str)) = false := by decide) : PE X (.Call (.Name x p) [] [] pos) (tMake C sp dvs E tNil) := by
  intro pins s σ H Q I h
  refine wpAny_Call_Name_kw (ld_glob I hg hm ?_ hdb)
  exact PySem.W.callWith_K0 I.kIn M.kp (run_make (us := []) M F hr hb hd hx I .nil h)
end
section
variable {X : Cx} {CX : CXT} {k : Nat} {f C : Addr} {fd : FuncData} {ps ks : List Str} {sp : Sp} {E : XK} {x m : Str} {p pos apos kpos : Pos} {e o : Expr} {es : List Expr} {kws : List Keyword} {te ta : TE} {t tk : TA} {nm : Option Str}
variable {g : List Value → List Value → List Value} {gV : List V → List V → List V}
end
structure FnScope (N P : List Str) (sc : Scope) : Prop where
  kind : sc.kind = .function
  co : sc.isCoroutine = false
  gen : sc.isGenerator = false
  nd : N.Nodup
  pre : N.take P.length = P
  par : ∀ x ∈ P, sc.names.lookup x = some .local ∨ sc.names.lookup x = some .cell
  nofree : ∀ y ∈ sc.names, y.2 ≠ .free
theorem bindL_out {kindOf : Str → Option NameKind} {x : Str} : ∀ {binds : List (Str × Value)} {m : Str → Option Value}, (∀ v, (x, v) ∉ binds) → bindL kindOf binds m x = m x
  | [], _, _ => rfl
  | (n, v) :: r, m, h => by
    unfold bindL
    rw [bindL_out fun w hw => h w (List.mem_cons_of_mem _ hw)]
    split
    · have : x ≠ n := by rintro rfl; exact h v List.mem_cons_self
      simp [this]
    · rfl
theorem bindC_out {kindOf : Str → Option NameKind} {x : Str} : ∀ {binds : List (Str × Value)} {m : Str → Option Value}, (∀ v, (x, v) ∉ binds) → bindC kindOf binds m x = m x
  | [], _, _ => rfl
  | (n, v) :: r, m, h => by
    unfold bindC
    rw [bindC_out fun w hw => h w (List.mem_cons_of_mem _ hw)]
    split
    · rfl
    · have : x ≠ n := by rintro rfl; exact h v List.mem_cons_self
      simp [this]
theorem bindL_get {kindOf : Str → Option NameKind} {x : Str} {v : Value} : ∀ {P : List Str} {vs : List Value} {i : Nat} {m : Str → Option Value}, P.Nodup → P[i]? = some x → vs[i]? = some v → kindOf x = some .local →
    bindL kindOf (P.zip vs) m x = some v
  | [], _, _, _, _, h, _, _ => by simp at h
  | _ :: _, [], _, _, _, _, h, _ => by simp at h
  | p :: P, w :: vs, 0, m, nd, h1, h2, hk => by
    simp at h1 h2; subst h1; subst h2
    show bindL kindOf ((p, w) :: P.zip vs) m p = _
    unfold bindL
    rw [bindL_out fun v hv => (List.nodup_cons.mp nd).1 (List.of_mem_zip hv).1, if_pos hk]
    simp
  | p :: P, w :: vs, i + 1, m, nd, h1, h2, hk => by
    show bindL kindOf ((p, w) :: P.zip vs) m x = _
    unfold bindL
    exact bindL_get (i := i) (List.nodup_cons.mp nd).2 (by simpa using h1) (by simpa using h2) hk
theorem bindC_get {kindOf : Str → Option NameKind} {x : Str} {v : Value} : ∀ {P : List Str} {vs : List Value} {i : Nat} {m : Str → Option Value}, P.Nodup → P[i]? = some x → vs[i]? = some v → kindOf x ≠ some .local →
    bindC kindOf (P.zip vs) m x = some v
  | [], _, _, _, _, h, _, _ => by simp at h
  | _ :: _, [], _, _, _, _, h, _ => by simp at h
  | p :: P, w :: vs, 0, m, nd, h1, h2, hk => by
    simp at h1 h2; subst h1; subst h2
    show bindC kindOf ((p, w) :: P.zip vs) m p = _
    unfold bindC
    rw [bindC_out fun v hv => (List.nodup_cons.mp nd).1 (List.of_mem_zip hv).1, if_neg hk]
    simp
  | p :: P, w :: vs, i + 1, m, nd, h1, h2, hk => by
    show bindC kindOf ((p, w) :: P.zip vs) m x = _
    unfold bindC
    exact bindC_get (i := i) (List.nodup_cons.mp nd).2 (by simpa using h1) (by simpa using h2) hk
def start (N : List Str) (vs : List V) : St := vs.map some ++ List.replicate (N.length - vs.length) none
def cxOf (CX : CXT) (P : Program) (w : World) (K : PySem.W.Frag) (mg : Str → Option Value) (base : Heap) (N : List Str) (qual : Str) (scope : Scope) (f : Addr) (cd : Value) (A : Around) (outer : List Env) (s : Shared) (H : Hp) (E : XK) : Cx where
  prog := P
  w := w
  K := K
  mg := mg
  base := base
  A := A.deeper (envOfC qual scope s.heap.objs.size f cd)
  N := N
  s_0 := s
  H_0 := H
  env := envOfC qual scope s.heap.objs.size f cd
  outer := outer
  stack := envOfC qual scope s.heap.objs.size f cd :: outer
  ex := []
  calm := true
  fn := fun _ => true
  pn := []
  xe := fun e s' => wpAny (model P w) (A.deeper (envOfC qual scope s.heap.objs.size f cd)) (leaving (envOfC qual scope s.heap.objs.size f cd) e) (fun _ s'' => CX outer H s E e s'') (fun e' s'' => CX outer H s E e' s'') s'
theorem cell_has {sc : Scope} {n : Nat} {x : Str} (h : sc.names.lookup x = some .cell) : ∃ c, (cellsFrom n sc.names []).lookup x = some c := by
  have q := PySem.W.cellsFrom_some sc.names n [] (.inl h)
  exact Option.isSome_iff_exists.mp q
theorem inv_start {CX : CXT} {P : Program} {w : World} {K : PySem.W.Frag} {mg : Str → Option Value} {base : Heap} {N ps : List Str} {qual : Str} {scope : Scope} {f : Addr} {cd : Value} {A : Around} {outer : List Env} {s s1 : Shared} {H : Hp} {E : XK} {us : List Value} {vs : List V}
    (S : FnScope N ps scope) (hd : A.handled = none) (e0 : Env0 P w K mg base A outer s H) (hl : vs.length = ps.length) (r : Vals vs us)
    (x : InCallC s s.heap.objs.size (bindL (envOfC qual scope s.heap.objs.size f cd).kindOf (ps.zip us) fun _ => none) (cellsFrom (s.heap.objs.size + 1) scope.names []) (bindC (envOfC qual scope s.heap.objs.size f cd).kindOf (ps.zip us) fun _ => none) s1) :
    Inv (cxOf CX P w K mg base N qual scope f cd A outer s H E) [] (start N vs) H s1 := by
  have hpl : ps.length ≤ N.length := by have := congrArg List.length S.pre; rw [List.length_take] at this; omega
  obtain ⟨h1, tk, rfl, hk⟩ := x.done
  have noA : ∀ b : Addr, b ∉ (cxOf CX P w K mg base N qual scope f cd A outer s H E).ex := fun b z => absurd (show b ∈ ([] : List Addr) from z) (by simp)
  refine ⟨⟨e0.mod, S.kind, rfl, rfl, Nat.le_refl _, fun y z c h1 h2 => ?_, fun y hy => ?_, fun y c _ h => ?_, fun _ => hd, Around.frames_deeper e0.frames, .inr ⟨rfl, rfl⟩, fun b z => absurd z (noA b), e0.bs, e0.bsz, fun b _ _ => noA b, fun b z => absurd z (noA b), e0.funs, e0.frf⟩,
    rfl, e0.bare, Un.kept hk, ⟨_, x.toInCall.ns, fun i y v h1 h2 h3 => ?_⟩, fun y c h => ⟨_, x.cell y c h⟩, e0.hok.fresh (Nat.le_refl _), fun y c h => ?_, fun p hp => absurd (show p ∈ ([] : List (Addr × Obj)) from hp) (by simp), e0.hok.kept hk, ?_⟩
  · exact name_of_addr x.apart (PySem.mem_of_lookup h1) (PySem.mem_of_lookup h2)
  · have hy : scope.names.lookup y = some .cell ∨ scope.names.lookup y = some .free := hy
    rcases hy with hy | hy
    · exact cell_has hy
    · exact absurd rfl (S.nofree _ (PySem.mem_of_lookup hy))
  · exact Nat.le_of_lt (x.above y c (PySem.mem_of_lookup h))
  · have hi : i < vs.length := by
      unfold start at h2
      by_cases hi : i < vs.length
      · exact hi
      · rw [List.getElem?_append_right (by simpa using hi)] at h2
        rw [List.getElem?_replicate] at h2
        split at h2 <;> cases h2
    have ha : vs[i]? = some v := by
      unfold start at h2
      rw [List.getElem?_append_left (by simpa using hi), List.getElem?_map] at h2
      cases e : vs[i]? with
      | none => rw [e] at h2; cases h2
      | some a => rw [e] at h2; cases h2; rfl
    obtain ⟨u, hu, rv⟩ := r.get ha
    have hp : ps[i]? = some y := by
      rw [← S.pre, List.getElem?_take_of_lt (by omega)]; exact h1
    have ndP : ps.Nodup := by rw [← S.pre]; exact S.nd.sublist (List.take_sublist _ _)
    refine ⟨u, rv, ?_⟩
    rcases S.par y (List.mem_of_getElem? hp) with k | k
    · exact .inl ⟨k, bindL_get ndP hp hu k⟩
    · obtain ⟨c, e⟩ := cell_has (n := s.heap.objs.size + 1) k
      refine .inr ⟨.inl k, c, e, ?_⟩
      have q := x.cell y c e
      rw [bindC_get ndP hp hu (by show scope.names.lookup y ≠ _; rw [k]; decide)] at q
      exact q
  · exact e0.hok.fresh (Nat.le_of_lt (x.above y c (PySem.mem_of_lookup h)))
  · unfold start
    show _ = N.length
    rw [List.length_append, List.length_map, List.length_replicate]
    omega
theorem fn_of {CX : CXT} {P : Program} {w : World} {K : PySem.W.Frag} {mg : Str → Option Value} {base : Heap} {k : Nat} {f : Addr} {name qual : Str} {params : Arguments} {body : List Stmt} {scope : Scope} {dV kV doc pm cdv ct oc : Value} {an od : Option Addr}
    {osl : Array (Option Value)} {N ps : List Str} {sp : Sp} (lk : K.lookup f = some ⟨oc, od, .func (PySem.W.fnOf name qual params body scope dV kV doc pm an cdv ct), osl⟩) (hcd : PySem.W.codeIn K cdv qual = true) (S : FnScope N ps scope)
    (len : ∀ vs H Q E, sp vs H Q E → vs.length = ps.length)
    (hbody : ∀ (A : Around) (outer : List Env) (s : Shared) (H : Hp) (vs : List V) (Q : VK) (E : XK), Room k (A.deeper (envOfC qual scope s.heap.objs.size f cdv)) → sp vs H Q E →
      ∃ t, PSs (cxOf CX P w K mg base N qual scope f cdv A outer s H E) body t ∧ t { nx := fun _ H' => Q .non H', rt := Q } (start N vs) H) :
    FnOk P w K mg base CX (k + 1) f (PySem.W.fnOf name qual params body scope dV kV doc pm an cdv ct) ps sp := by
  refine ⟨len, fun A outer s H args us vs Q E hr e0 hb r hsp => ?_⟩
  have hl := len _ _ _ _ hsp
  have KX : K.In s.heap := e0.mod.kin.keeps fun b o e => (e0.bs b o e).1
  have lim : s.heap.NoLimit := e0.mod.nolimit.keeps fun b o e => (e0.bs b o e).1
  have hkind : ∀ y ∈ ps.zip us, scope.names.lookup y.1 = some .local ∨ (scope.names.lookup y.1 = some .cell ∧ ((cellsFrom (s.heap.objs.size + 1) scope.names []).lookup y.1).isSome = true) := fun ⟨n, v⟩ hy => by
    rcases S.par n (List.of_mem_zip hy).1 with q | q
    · exact .inl q
    · exact .inr ⟨q, PySem.W.cellsFrom_some _ _ _ (.inl q)⟩
  refine codeAny_call_function hr.depth (KX _ _ lk) rfl S.co S.gen rfl (PySem.W.codeRec_of KX hcd) (hb _ _ _ _ ?_)
  refine wpAny_newFunctionEnv_cells S.kind hkind fun env he s1 x => ?_
  subst he
  refine ⟨lim.keeps x.toInCall.keep, codeAny_func ?_⟩
  obtain ⟨t, ht, hq⟩ := hbody A outer s H vs Q E (hr.deeper _) hsp
  have I : Inv (cxOf CX P w K mg base N qual scope f cdv A outer s H E) [] (start N vs) H s1 := inv_start S hr.hd e0 hl r x
  refine wpAny_mono (ht [] s1 (start N vs) H _ I hq) (fun fl s' hs => ?_) fun e s' hs => hs
  have fin : ∀ {σ' : St} {H' : Hp} {v : V} {u : Value}, Inv (cxOf CX P w K mg base N qual scope f cdv A outer s H E) [] σ' H' s' → RelV v u → Q v H' → CE outer P w H s Q u s' :=
    fun {σ' H' v u} J rv q => ⟨v, H', J.os, J.bare, J.base, J.hok, rv, q⟩
  cases fl with
  | ret u =>
    obtain ⟨v, σ', H', J, rv, q⟩ := hs
    exact fin J rv q
  | next =>
    obtain ⟨σ', H', J, q⟩ := hs
    exact fin (v := V.non) (u := Value.none) J rfl q
  | brk =>
    obtain ⟨_, _, _, q⟩ := hs
    exact False.elim q
  | cont =>
    obtain ⟨_, _, _, q⟩ := hs
    exact False.elim q
end L2
namespace L2
open PySem PySem.Spec PyProof.Rows
section
variable {X : Cx} {x : Str} {p pos : Pos} {e : Expr} {es : List Expr} {t : TA} {id T : String} {r : List V → Hp → VK → Prop}
def tCB (r : List V → Hp → VK → Prop) (t : TA) : TE := fun σ H Q => t σ H fun vs H1 => r vs H1 Q
theorem pe_callB (hc : CallR X (.builtin id) r) (hg : Gl X x) (hm : X.mg x = none) (hv : bootBuiltins x = some (.builtin id)) (ha : PA X (e :: es) t) (hn : x ≠ "__name__" := by decide) (hdb : (x == ("__debug__" : Str)) = false := by decide)
    (he : starEach (e :: es) X.env = (false, eval e X.env) :: starEach es X.env := by rfl) (hpl : (backTo pos (starEach es X.env)).any (·.1) = false := by rfl) : PE X (.Call (.Name x p) (e :: es) [] pos) (tCB r t) := by
  intro pins s σ H Q I h
  refine wpAny_Call_Name_kw (ld_blt I hg hm hv ?_ hn hdb)
  exact PyProof.Rows.callWith_builtin1 (thn (ha pos pins s σ H _ I h) fun us s1 ⟨vs, H1, I1, r1, q1⟩ => hc pins s1 σ H1 vs us Q I1 r1 q1) he hpl
end
end L2
namespace HT
open PySem PyProof.Rows
section
open PySem.SeqAt
open PySem.AutoSeq1 (wpAny_loadPart')
open PySem.MeetsSeq PySem.MeetsSeq2 PySem.MeetsSeq3
end
section
variable {prog : Program} {w : World} {A : Around} {E : Value → Shared → Prop} {s : Shared}
def sIx (n d : Nat) : Option Int → Nat
  | none => d
  | some v => if v < 0 then (v + (n : Int)).toNat else min v.toNat n
theorem sIx_nat (n d k : Nat) : sIx n d (some (k : Int)) = min k n := by
  show (if (k : Int) < 0 then ((k : Int) + (n : Int)).toNat else min (k : Int).toNat n) = min k n
  rw [if_neg (by omega), Int.toNat_natCast]
end
end HT
namespace L2
open PySem PySem.Spec PyProof.Rows
abbrev TO := St → Hp → (Option Int → Hp → Prop) → Prop
def PO (X : Cx) (e : Option Expr) (t : TO) : Prop :=
  ∀ (pins : List (Addr × Obj)) (s : Shared) (σ : St) (H : Hp) (Q : Option Int → Hp → Prop), Inv X pins σ H s → t σ H Q →
    wpAny (model X.prog X.w) X.A (evalPart e X.env) (fun u s' => ∃ o H', Inv X pins σ H' s' ∧ IsPart u o ∧ Q o H') X.xe s
def tNoPart : TO := fun _ H Q => Q none H
def tPart (t : TE) : TO := fun σ H Q => t σ H fun x H1 => ∃ i, x = .int i ∧ Q (some i) H1
section
variable {X : Cx} {e : Expr} {te : TE} {lo hi : Option Expr} {tl th : TO} {pos p2 : Pos}
theorem po_none : PO X none tNoPart := by
  intro pins s σ H Q I h
  rw [evalPart_none]
  exact wpAny_pure ⟨none, H, I, .none, h⟩
theorem po_some (h : PE X e te) : PO X (some e) (tPart te) := by
  intro pins s σ H Q I hw
  rw [evalPart_some]
  refine thn (h pins s σ H _ I hw) fun u s1 ⟨x, H1, I1, r1, q1⟩ => ?_
  obtain ⟨i, rfl, q⟩ := q1
  obtain ⟨t, rfl⟩ := r1
  exact ⟨some i, H1, I1, .int i t, q⟩
def SlR (X : Cx) (r : V → Option Int → Option Int → Hp → VK → Prop) : Prop :=
  ∀ (pins : List (Addr × Obj)) (s : Shared) (σ : St) (H : Hp) (x : V) (v vl vu : Value) (lo hi : Option Int) (sl : Addr) (Q : VK), Inv X pins σ H s → RelV x v → s.heap.IsSliceOf sl vl vu .none → IsPart vl lo → IsPart vu hi → r x lo hi H Q →
    ∃ T id, typeLookup (.type T) "__getitem__" = pure (some (.builtin id)) ∧ s.TypeIs v T ∧ wpAny (model X.prog X.w) X.A (getItem v (.ref sl)) (EP X pins σ Q) X.xe s
def tSl (r : V → Option Int → Option Int → Hp → VK → Prop) (te : TE) (tl th : TO) : TE := fun σ H Q => te σ H fun x H1 => tl σ H1 fun l H2 => th σ H2 fun u H3 => r x l u H3 Q
theorem pe_slice {r : V → Option Int → Option Int → Hp → VK → Prop} (hr : SlR X r) (he : PE X e te) (hl : PO X lo tl) (hu : PO X hi th) : PE X (.Subscript e (.Slice lo hi none p2) pos) (tSl r te tl th) := by
  intro pins s σ H Q I h
  refine Subscript_ (thn (he pins s σ H _ I h) fun v s1 ⟨x, H1, I1, r1, q1⟩ => ?_)
  refine wpAny_Slice (thn (hl pins s1 σ H1 _ I1 q1) fun vl s2 ⟨l, H2, I2, pl, q2⟩ => thn (hu pins s2 σ H2 _ I2 q2) fun vu s3 ⟨u, H3, I3, pu, q3⟩ => ?_)
  rw [evalPart_none]
  refine wpAny_pure ?_
  have I4 : Inv X pins σ H3 { s3 with heap := s3.heap.push { cls := .type "slice", data := .fields #[vl, vu, .none] } } := I3.kept (t' := s3.toks) fun b ob q => Heap.get?_push_of_some _ q
  obtain ⟨T, id, hT, ht, hg⟩ := hr pins { s3 with heap := s3.heap.push { cls := .type "slice", data := .fields #[vl, vu, .none] } } σ H3 x v vl vu l u s3.heap.objs.size Q I4 r1 (Heap.IsSliceOf.new ..) pl pu q3
  show wpAny (model X.prog X.w) X.A (subscriptTail e (.Slice lo hi none p2) v (.ref s3.heap.objs.size)) (EP X pins σ Q) X.xe { s3 with heap := s3.heap.push { cls := .type "slice", data := .fields #[vl, vu, .none] } }
  exact tail_any (ops := [.ref s3.heap.objs.size, v]) ht hT hg (by with_unfolding_all rfl)
def cutV (xs : List V) (lo hi : Option Int) : List V := (xs.drop (HT.sIx xs.length 0 lo)).take (HT.sIx xs.length xs.length hi - HT.sIx xs.length 0 lo)
theorem cutV_length (xs : List V) (lo hi : Option Int) : (cutV xs lo hi).length ≤ xs.length := by
  unfold cutV
  rw [List.length_take, List.length_drop]
  omega
end
end L2
namespace L2
open PySem PySem.Spec PyProof.Rows
def ixN (n : Nat) (i : Int) : Option Nat := if 0 ≤ i then (if i < n then some i.toNat else none) else if -(n : Int) ≤ i then some (i + n).toNat else none
def atI {α : Type} (xs : List α) (i : Int) : Option α := (ixN xs.length i).bind fun j => xs[j]?
theorem ixN_seq {n : Nat} {i : Int} {j : Nat} (h : ixN n i = some j) : seqIndex? i n = some j ∧ j < n ∧ -(n : Int) ≤ i ∧ i < n := by
  unfold ixN at h
  by_cases h0 : 0 ≤ i
  · rw [if_pos h0] at h
    by_cases h1 : i < n
    · rw [if_pos h1] at h
      have e : i.toNat = j := Option.some.inj h
      exact ⟨by rw [seqIndex_of h0 h1, e], by omega, by omega, h1⟩
    · rw [if_neg h1] at h; cases h
  · rw [if_neg h0] at h
    by_cases h1 : -(n : Int) ≤ i
    · rw [if_pos h1] at h
      have e : (i + n).toNat = j := Option.some.inj h
      exact ⟨by rw [seqIndex_neg (by omega) h1, e], by omega, h1, by omega⟩
    · rw [if_neg h1] at h; cases h
theorem atI_get {α : Type} {xs : List α} {i : Int} {v : α} (h : atI xs i = some v) : ∃ j, seqIndex? i xs.length = some j ∧ xs[j]? = some v ∧ j < xs.length ∧ -(xs.length : Int) ≤ i ∧ i < xs.length := by
  unfold atI at h
  cases e : ixN xs.length i with
  | none => rw [e] at h; cases h
  | some j =>
    rw [e] at h
    obtain ⟨h1, h2, h3, h4⟩ := ixN_seq e
    exact ⟨j, h1, h, h2, h3, h4⟩
theorem atI_nat {α : Type} {xs : List α} {j : Nat} {v : α} (h : xs[j]? = some v) : atI xs (j : Int) = some v := by
  have hj : j < xs.length := (List.getElem?_eq_some_iff.mp h).1
  have e : ixN xs.length (j : Int) = some j := by
    unfold ixN
    rw [if_pos (by omega), if_pos (by omega)]; simp
  unfold atI; rw [e]; exact h
theorem atI_last {α : Type} (xs : List α) (v : α) : atI (xs ++ [v]) (-1) = some v := by
  have hl : (xs ++ [v]).length = xs.length + 1 := by simp
  have e : ixN (xs ++ [v]).length (-1) = some xs.length := by
    unfold ixN
    rw [hl, if_neg (by decide), if_pos (by omega)]
    congr 1
    omega
  unfold atI
  rw [e]
  show (xs ++ [v])[xs.length]? = some v
  simp
def PlainIx (b : Expr) : Prop := ∀ o i, subscripted b false o i = operate [o, i] (getItem o i)
def IxR (X : Cx) (r : R2) : Prop :=
  ∀ (value slice : Expr) (pins : List (Addr × Obj)) (s : Shared) (σ : St) (H : Hp) (x y : V) (v u : Value) (Q : VK), Inv X pins σ H s → RelV x v → RelV y u → r x y H Q →
    subscripted slice false v u = operate [v, u] (getItem v u) → wpAny (model X.prog X.w) X.A (subscriptTail value slice v u) (EP X pins σ Q) X.xe s
def MtR (X : Cx) (id : String) (r : V → List V → Hp → VK → Prop) : Prop :=
  ∀ (pins : List (Addr × Obj)) (s : Shared) (σ : St) (H : Hp) (x : V) (xs : List V) (v : Value) (us : List Value) (Q : VK), Inv X pins σ H s → RelV x v → Vals xs us → r x xs H Q →
    wpAny (model X.prog X.w) X.A (call (.builtin id) (v :: us)) (EP X pins σ Q) X.xe s
section
variable {X : Cx} {a b : Expr} {ta tb : TE} {pos : Pos}
theorem pe_ix {r : R2} (hr : IxR X r) (ha : PE X a ta) (hb : PE X b tb) (hs : PlainIx b) : PE X (.Subscript a b pos) (tOp r ta tb) := by
  intro pins s σ H Q I h
  exact Subscript_ (binT ha hb I h fun v u s2 x y H2 I2 rx ry q => hr a b pins s2 σ H2 x y v u Q I2 rx ry q (hs _ _))
def rIxL (K : PySem.W.Frag) : R2 := fun x y H Q => ∃ p xs i v, x = .ref p ∧ y = .int i ∧ SqL K H p xs ∧ atI xs i = some v ∧ Q v H
def rIxT (K : PySem.W.Frag) : R2 := fun x y H Q => ∃ p xs i v, x = .ref p ∧ y = .int i ∧ SqT K H p xs ∧ atI xs i = some v ∧ Q v H
theorem ix_list : IxR X (rIxL X.K) := by
  intro value slice pins s σ H x y v u Q I rx ry h hs
  obtain ⟨p, xs, i, z, rfl, rfl, hq, he, q⟩ := h
  cases rx
  obtain ⟨t, rfl⟩ := ry
  obtain ⟨its, r, pl, hz⟩ := I.list hq
  obtain ⟨j, h1, h2, h3, h4, h5⟩ := atI_get he
  obtain ⟨w, ew, rw'⟩ := r.get h2
  have hl := r.length
  have hn := line63
  have fin : EP X pins σ Q w s := ⟨z, H, I, rw', q⟩
  by_cases h0 : 0 ≤ i
  · have hj : i.toNat = j := by
      rw [seqIndex_of h0 h5] at h1
      exact Option.some.inj h1
    exact item_listR pl.isList h0 (by omega) (by rw [hj]; simpa using ew) fin hs
  · have hj : (i + (its.toArray.size : Int)).toNat = j := by
      rw [seqIndex_neg (by omega) h4] at h1
      rw [List.size_toArray, ← hl]
      exact Option.some.inj h1
    exact subscriptTail_builtinR (x := w) pl.isList.typeIs slot_list_getitem.lookup
      (wpAny_getItem_list_neg (Q := fun r s' => r = w ∧ EP X pins σ Q r s') pl.isList (by omega) (by rw [List.size_toArray] <;> omega) (by omega) (by rw [hj]; simpa using ew) ⟨rfl, fin⟩) hs
theorem ix_tup : IxR X (rIxT X.K) := by
  intro value slice pins s σ H x y v u Q I rx ry h hs
  obtain ⟨p, xs, i, z, rfl, rfl, hq, he, q⟩ := h
  cases rx
  obtain ⟨t, rfl⟩ := ry
  obtain ⟨its, r, pl, hz⟩ := I.tuple hq
  obtain ⟨j, h1, h2, h3, h4, h5⟩ := atI_get he
  obtain ⟨w, ew, rw'⟩ := r.get h2
  have hl := r.length
  have hn := line63
  have fin : EP X pins σ Q w s := ⟨z, H, I, rw', q⟩
  exact subscriptTail_builtinR (x := w) pl.typeIs slot_tuple_getitem.lookup
    (getItem_tuple (j := j) (Q := fun r s' => r = w ∧ EP X pins σ Q r s') pl (by omega) (by omega) (by rw [List.size_toArray, ← hl]; exact h1) (by simpa using ew) ⟨rfl, fin⟩) hs
theorem Inv.lst {pins : List (Addr × Obj)} {σ : St} {H : Hp} {s : Shared} {p : Addr} {xs : List V} (I : Inv X pins σ H s) (h : H p = some (.lst xs)) :
    ∃ (its : List Value) (n : Nat), Vals xs its ∧ s.heap.get? p = some { cls := .type "list", data := .seq its.toArray n } ∧ xs.length ≤ sizeLine := by
  obtain ⟨z, its, n, r, e⟩ := I.hok p _ h
  exact ⟨its, n, r, e, z⟩
theorem slice_bounds (lo hi : Option Int) (n : Nat) : (sliceBounds lo hi none n).1 = ((HT.sIx n 0 lo : Nat) : Int) ∧ (sliceBounds lo hi none n).2.1 = ((HT.sIx n n hi : Nat) : Int) ∧ (sliceBounds lo hi none n).2.2 = 1 := by
  refine ⟨?_, ?_, rfl⟩
  · cases lo with
    | none => simp [sliceBounds, HT.sIx]
    | some i =>
      simp only [sliceBounds, HT.sIx, Option.getD_none, show (1 : Int) > 0 by decide, if_true]
      by_cases h : i < 0
      · simp only [h, if_true] <;> omega
      · simp only [h, if_false] <;> omega
  · cases hi with
    | none => simp [sliceBounds, HT.sIx]
    | some i =>
      simp only [sliceBounds, HT.sIx, Option.getD_none, show (1 : Int) > 0 by decide, if_true]
      by_cases h : i < 0
      · simp only [h, if_true] <;> omega
      · simp only [h, if_false] <;> omega
theorem slicePick_cut (its : List Value) (lo hi : Option Int) : slicePick its.toArray lo hi none = ((its.drop (HT.sIx its.length 0 lo)).take (HT.sIx its.length its.length hi - HT.sIx its.length 0 lo)).toArray := by
  obtain ⟨h1, h2, h3⟩ := slice_bounds lo hi its.toArray.size
  unfold slicePick
  rw [h1, h2, h3]
  simp only [sliceRange_one, pick_run, List.size_toArray] <;> rfl
def rSlL (K : PySem.W.Frag) : V → Option Int → Option Int → Hp → VK → Prop := fun x lo hi H Q => ∃ a xs, x = .ref a ∧ SqL K H a xs ∧ ∀ p, H p = none → Q (.ref p) (upd H p (.lst (cutV xs lo hi)))
theorem sl_list : SlR X (rSlL X.K) := by
  intro pins s σ H x v vl vu lo hi sl Q I rx hs pl pu h
  obtain ⟨a, xs, rfl, hx, q⟩ := h
  cases rx
  obtain ⟨its, r, ht, hz⟩ := I.list hx
  have hlen := r.length
  refine ⟨"list", _, slot_list_getitem.lookup, ht.isList.typeIs, ?_⟩
  refine wpAny_getItem_list_slice ht.isList hs pl pu .none (by simp) ?_ (by rw [List.size_toArray] <;> omega)
  rw [slicePick_cut, ← hlen]
  refine ⟨.ref s.heap.objs.size, _, I.laid (t' := s.toks) (o := .lst (cutV xs lo hi)) (fun b ob q => Heap.get?_push_of_some _ q) (Nat.le_refl _) ?_, rfl, q _ (I.hok.fresh (Nat.le_refl _))⟩
  exact ⟨Nat.le_trans (cutV_length xs lo hi) hz, _, 0, (r.drop (HT.sIx xs.length 0 lo)).take (HT.sIx xs.length xs.length hi - HT.sIx xs.length 0 lo), Heap.get?_push_size _ rfl⟩
def flatV : V → Bool
  | .non => true
  | .bl _ => true
  | .int _ => true
  | .str _ => true
  | _ => false
def eqV : V → V → Bool
  | .non, .non => true
  | .bl a, .bl b => a == b
  | .bl a, .int b => (if a then 1 else 0) == b
  | .int a, .bl b => a == (if b then 1 else 0)
  | .int a, .int b => a == b
  | .str a, .str b => a == b
  | _, _ => false
theorem eqAt_V {A : Around} {s : Shared} {y x : V} {u v : Value} (ry : RelV y u) (rx : RelV x v) (fy : flatV y = true) (fx : flatV x = true) : SeqAt.EqAt A s u v (eqV y x) := by
  cases y with
  | non =>
    cases ry
    cases x with
    | non => cases rx; exact SeqAt.EqAt.same _
    | bl b => cases rx; exact SeqAt.EqAt.none_bool b
    | int b => obtain ⟨t, rfl⟩ := rx; exact SeqAt.EqAt.none_int b t
    | str b => obtain ⟨t, rfl⟩ := rx; exact SeqAt.EqAt.none_str b t
    | _ => exact absurd (show false = true from fx) Bool.false_ne_true
  | bl a =>
    cases ry
    cases x with
    | non => cases rx; exact SeqAt.EqAt.bool_none a
    | bl b => cases rx; exact SeqAt.EqAt.bool_bool a b
    | int b => obtain ⟨t, rfl⟩ := rx; exact SeqAt.EqAt.bool_int a b t
    | str b => obtain ⟨t, rfl⟩ := rx; exact SeqAt.EqAt.bool_str a b t
    | _ => exact absurd (show false = true from fx) Bool.false_ne_true
  | int a =>
    obtain ⟨t', rfl⟩ := ry
    cases x with
    | non => cases rx; exact SeqAt.EqAt.int_none a t'
    | bl b => cases rx; exact SeqAt.EqAt.int_bool a t' b
    | int b => obtain ⟨t, rfl⟩ := rx; exact SeqAt.EqAt.int_int a t' b t
    | str b => obtain ⟨t, rfl⟩ := rx; exact SeqAt.EqAt.int_str a t' b t
    | _ => exact absurd (show false = true from fx) Bool.false_ne_true
  | str a =>
    obtain ⟨t', rfl⟩ := ry
    cases x with
    | non => cases rx; exact SeqAt.EqAt.str_none a t'
    | bl b => cases rx; exact SeqAt.EqAt.str_bool a t' b
    | int b => obtain ⟨t, rfl⟩ := rx; exact SeqAt.EqAt.str_int a t' b t
    | str b => obtain ⟨t, rfl⟩ := rx; exact SeqAt.EqAt.str_str a t' b t
    | _ => exact absurd (show false = true from fx) Bool.false_ne_true
  | _ => exact absurd (show false = true from fy) Bool.false_ne_true
def eqU (x : V) (u : Value) : Bool := match u with
  | .none => eqV .non x
  | .bool b => eqV (.bl b) x
  | .int i _ => eqV (.int i) x
  | .str z _ => eqV (.str z) x
  | _ => false
theorem eqU_of {x y : V} {u : Value} (r : RelV y u) (f : flatV y = true) : eqU x u = eqV y x := by
  cases y with
  | non => cases r; rfl
  | bl b => cases r; rfl
  | int i => obtain ⟨t, rfl⟩ := r; rfl
  | str z => obtain ⟨t, rfl⟩ := r; rfl
  | _ => exact absurd (show false = true from f) Bool.false_ne_true
theorem any_eqU {x : V} : ∀ {xs : List V} {us : List Value}, Vals xs us → xs.all flatV = true → us.any (eqU x) = xs.any fun y => eqV y x
  | _, _, .nil, _ => rfl
  | y :: xs, u :: us, .cons r t, f => by
    rw [List.all_cons, Bool.and_eq_true] at f
    rw [List.any_cons, List.any_cons, eqU_of r f.1, any_eqU t f.2]
theorem mem_eqAt {A : Around} {s : Shared} {x : V} {v : Value} (rx : RelV x v) (fx : flatV x = true) : ∀ {xs : List V} {us : List Value}, Vals xs us → xs.all flatV = true → ∀ u ∈ us, SeqAt.EqAt A s u v (eqU x u)
  | _, _, .nil, _ => fun u hu => by cases hu
  | y :: xs, u :: us, .cons r t, f => fun u' hu => by
    rw [List.all_cons, Bool.and_eq_true] at f
    rcases List.mem_cons.mp hu with rfl | hu
    · rw [eqU_of r f.1]; exact eqAt_V r rx f.1 fx
    · exact mem_eqAt rx fx t f.2 u' hu
def inV (x : V) (xs : List V) : Bool := xs.any fun y => eqV y x
def rIn (K : PySem.W.Frag) (neg : Bool) : R2 := fun x y H Q => ∃ p xs, y = .ref p ∧ (SqL K H p xs ∨ SqT K H p xs) ∧ flatV x = true ∧ xs.all flatV = true ∧ Q (.bl (if neg then !inV x xs else inV x xs)) H
theorem op_in_seq : OpR X (compareOp .In) (rIn X.K false) := by
  intro pins s σ H x y v u Q I rx ry h
  obtain ⟨p, xs, rfl, hq, fx, fs, q⟩ := h
  cases ry
  rcases hq with hq | hq
  · obtain ⟨its, r, pl, hz⟩ := I.list hq
    refine SeqAt.in_listAt (eqU x) pl.isList (fun w hw => mem_eqAt rx fx r fs w (by simpa using hw)) ⟨.bl _, H, I, rfl, ?_⟩
    rw [show its.toArray.any (eqU x) = its.any (eqU x) by simp, any_eqU r fs]
    exact q
  · obtain ⟨its, r, pl, hz⟩ := I.tuple hq
    refine SeqAt.in_tupleAt (eqU x) pl (fun w hw => mem_eqAt rx fx r fs w (by simpa using hw)) ⟨.bl _, H, I, rfl, ?_⟩
    rw [show its.toArray.any (eqU x) = its.any (eqU x) by simp, any_eqU r fs]
    exact q
theorem call_len_seq : CallR X (.builtin "len") (fun xs H Q => ∃ p ys, xs = [.ref p] ∧ (SqL X.K H p ys ∨ SqT X.K H p ys) ∧ Q (.int ys.length) H) := by
  intro pins s σ H xs us Q I r h
  obtain ⟨p, ys, rfl, hq, q⟩ := h
  obtain ⟨u, rfl, rx⟩ := vals1 r
  cases rx
  have hn := line63
  rcases hq with hq | hq
  · obtain ⟨its, r', pl, hz⟩ := I.list hq
    have hlen := r'.length
    exact Calls.call_len_list pl.isList (by simp only [List.size_toArray] <;> omega) ⟨.int ys.length, H, I.tok _, ⟨s.toks + 1, by rw [List.size_toArray, hlen]⟩, q⟩
  · obtain ⟨its, r', pl, hz⟩ := I.tuple hq
    have hlen := r'.length
    exact len_tuple pl (by simp only [List.size_toArray] <;> omega) ⟨.int ys.length, H, I.tok _, ⟨s.toks + 1, by rw [List.size_toArray, hlen]⟩, q⟩
def tyV (K : PySem.W.Frag) (T : String) (x : V) (H : Hp) : Prop := match x with
  | .str _ => T = "str"
  | .int _ => T = "int"
  | .ref p => (T = "list" ∧ ∃ xs, SqL K H p xs) ∨ (T = "tuple" ∧ ∃ o, K.lookup p = some o ∧ o.cls = .type "tuple" ∧ o.dict = none) ∨
      (T = "dict" ∧ ((∃ kvs, H p = some (.dK kvs)) ∨ ∃ kvs, H p = some (.dT kvs))) ∨ (T = "set" ∧ ∃ S n, H p = some (.set S n))
  | _ => False
theorem tyV_is {pins : List (Addr × Obj)} {σ : St} {H : Hp} {s : Shared} {T : String} {x : V} {v : Value} (I : Inv X pins σ H s) (r : RelV x v) (ty : tyV X.K T x H) :
    s.TypeIs v T ∧ ∀ a, v = .ref a → ∃ ob, s.heap.get? a = some ob ∧ ob.dict = none := by
  cases x with
  | str z =>
    obtain ⟨t, rfl⟩ := r
    cases (show T = "str" from ty)
    exact ⟨typeIs_str s z t, fun _ e => nomatch e⟩
  | int i =>
    obtain ⟨t, rfl⟩ := r
    cases (show T = "int" from ty)
    exact ⟨typeIs_int s i t, fun _ e => nomatch e⟩
  | ref p =>
    cases r
    rcases ty with ⟨rfl, xs, hq⟩ | ⟨rfl, o, hk, hc, hd⟩ | ⟨rfl, hk⟩ | ⟨rfl, S, n, hk⟩
    · obtain ⟨its, _, pl, _⟩ := I.list hq
      refine ⟨pl.isList.typeIs, fun a e => ?_⟩
      cases e
      obtain ⟨o, n, e, c, hd, _⟩ := pl
      exact ⟨o, e, hd⟩
    · refine ⟨⟨o, I.kIn p o hk, hc⟩, fun a e => ?_⟩
      cases e
      exact ⟨o, I.kIn _ o hk, hd⟩
    · have z : ∃ o, s.heap.get? p = some o ∧ o.ExactDict := by
        rcases hk with ⟨kvs, hk⟩ | ⟨kvs, hk⟩
        · obtain ⟨_, _, _, _, o, _, _, e, ex, _⟩ := I.hok p _ hk
          exact ⟨o, e, ex⟩
        · obtain ⟨_, _, _, _, o, _, _, e, ex, _⟩ := I.hok p _ hk
          exact ⟨o, e, ex⟩
      obtain ⟨o, e, ex⟩ := z
      refine ⟨⟨o, e, ex.1⟩, fun a e2 => ?_⟩
      cases e2
      exact ⟨o, e, ex.2.1⟩
    · obtain ⟨o, _, _, _, e, ex, _⟩ := I.hok p _ hk
      refine ⟨⟨o, e, ex.1⟩, fun a e2 => ?_⟩
      cases e2
      exact ⟨o, e, ex.2.1⟩
  | _ => exact False.elim ty
def tBM0 (K : PySem.W.Frag) (T : String) (r : V → List V → Hp → VK → Prop) (to : TE) : TE := fun σ H Q => to σ H fun x H1 => tyV K T x H1 ∧ r x [] H1 Q
def tBM (K : PySem.W.Frag) (T : String) (r : V → List V → Hp → VK → Prop) (to : TE) (t : TA) : TE := fun σ H Q => to σ H fun x H1 => tyV K T x H1 ∧ t σ H1 fun xs H2 => r x xs H2 Q
variable {o e : Expr} {es : List Expr} {to : TE} {t : TA} {name : Str} {apos cpos : Pos} {T id : String} {r : V → List V → Hp → VK → Prop}
theorem pe_bm0 (pa : PlainAttrs T) (slot : Slot T name id) (hty : typeOf (.builtin id) = pure (.type "method_descriptor")) (hm : MtR X id r) (ho : PE X o to)
    (hbase : attributeBase o name X.env (eval o X.env) = eval o X.env := by rfl) (hline : (apos.endLine == cpos.line) = true := by rfl) : PE X (.Call (.Attribute o name apos) [] [] cpos) (tBM0 X.K T r to) := by
  intro pins s σ H Q I h
  refine wpAny_Call_method0_late hbase hline (thn (ho pins s σ H _ I h) fun v s1 ⟨x, H1, I1, r1, ty, q1⟩ => ?_)
  obtain ⟨h1, h2⟩ := tyV_is I1 r1 ty
  exact ⟨T, id, pa, slot, hty, h1, h2, Calls.callWith_builtin rfl (PySem.evalArgs_none (hm pins s1 σ H1 x [] v [] Q I1 r1 .nil q1))⟩
theorem pe_bm (pa : PlainAttrs T) (slot : Slot T name id) (hty : typeOf (.builtin id) = pure (.type "method_descriptor")) (hm : MtR X id r) (ho : PE X o to) (ha : PA X (e :: es) t)
    (hbase : attributeBase o name X.env (eval o X.env) = eval o X.env := by rfl)
    (hfew : ((backTo cpos (starEach (e :: es) X.env)).all (fun x => !x.1) && (backToKw cpos (keywordEach [] X.env)).all (fun x => x.1.isSome)
      && decide ((e :: es).length + ([] : List Keyword).length + (if ([] : List Keyword).isEmpty then 0 else 1) < 30)) = true := by rfl)
    (hline : (apos.endLine == cpos.line) = true := by rfl) (hs : starEach (e :: es) X.env = (false, eval e X.env) :: starEach es X.env := by rfl) (hplain : (backTo cpos (starEach es X.env)).any (·.1) = false := by rfl) :
    PE X (.Call (.Attribute o name apos) (e :: es) [] cpos) (tBM X.K T r to t) := by
  intro pins s σ H Q I h
  refine wpAny_Call_method_late hbase hfew hline rfl (thn (ho pins s σ H _ I h) fun v s1 ⟨x, H1, I1, r1, ty, q1⟩ => ?_)
  obtain ⟨h1, h2⟩ := tyV_is I1 r1 ty
  refine ⟨T, id, pa, slot, hty, h1, h2, ?_⟩
  have hA := ha cpos pins s1 σ H1 _ I1 q1
  rw [hs] at hA ⊢
  refine Calls.callWith_builtin (by show (false || (backTo cpos (starEach es X.env)).any (·.1)) = false; rw [hplain] <;> rfl) (Calls.evalArgs_plain ?_)
  exact thn hA fun us s2 ⟨vs, H2, I2, r2, q2⟩ => hm pins s2 σ H2 x vs v us Q I2 r1 r2 q2
end
end L2
namespace L2
open PySem PySem.Spec PyProof.Rows
def MtM (X : Cx) (id : String) (r : V → List V → Hp → VK → Prop) : Prop :=
  ∀ (pins : List (Addr × Obj)) (s : Shared) (σ : St) (H : Hp) (x : V) (xs : List V) (v : Value) (us : List Value) (Q : VK), Inv X pins σ H s → RelV x v → Vals xs us → r x xs H Q →
    wpAny (model X.prog X.w) X.A (call (.builtin id) (v :: us)) (EP X pins σ Q) X.xe s
theorem Vals.one : ∀ {x : V} {us : List Value}, Vals [x] us → ∃ u, us = [u] ∧ RelV x u
  | _, _, .cons r .nil => ⟨_, rfl, r⟩
theorem Vals.zero : ∀ {us : List Value}, Vals [] us → us = []
  | _, .nil => rfl
theorem Vals.dropLast {xs : List V} {us : List Value} (h : Vals xs us) : Vals xs.dropLast us.dropLast := by
  induction h with
  | nil => exact .nil
  | cons r t ih =>
    cases t with
    | nil => exact .nil
    | cons q t' => exact .cons r ih
theorem Vals.eraseIdx : ∀ {xs : List V} {us : List Value} (i : Nat), Vals xs us → Vals (xs.eraseIdx i) (us.eraseIdx i)
  | _, _, _, .nil => .nil
  | _, _, 0, .cons _ t => t
  | _, _, i + 1, .cons r t => .cons r (Vals.eraseIdx i t)
theorem erase_last {α : Type} (l : List α) : l.eraseIdx (l.length - 1) = l.dropLast := by
  induction l with
  | nil => rfl
  | cons a r ih =>
    cases r with
    | nil => rfl
    | cons b r =>
      have e : (a :: b :: r).length - 1 = ((b :: r).length - 1) + 1 := by
        have h1 : (a :: b :: r).length = r.length + 2 := rfl
        have h2 : (b :: r).length = r.length + 1 := rfl
        omega
      rw [e, List.eraseIdx_cons_succ, ih]
      all_goals rfl
section
variable {X : Cx} {pins : List (Addr × Obj)} {σ : St} {H : Hp} {s : Shared} {l b : Addr} {xs ys zs : List V}
theorem Inv.lset {its its' : List Value} {n : Nat} {f : Array Value → Array Value} {t' : Nat} (I : Inv X pins σ H s) (hH : H l = some (.lst xs))
    (e : s.heap.get? l = some { cls := .type "list", data := .seq its.toArray n }) (hf : f its.toArray = its'.toArray) (hv : Vals ys its') (hz : ys.length ≤ sizeLine) :
    Inv X pins σ (upd H l (.lst ys)) { s with heap := s.heap.update l (Obj.mapSeq f), toks := t' } := by
  have q := PySem.IsL.update e f
  rw [hf] at q
  refine I.write (x := l) (e := l) (by rw [hH]; exact trivial) (.inl rfl) (fun b' u hb hu => (Heap.get?_update_other s.heap (Obj.mapSeq f) (Ne.symm hb)).trans hu) ⟨_, q⟩ ?_
  exact ⟨hz, its', _, hv, q⟩
theorem Inv.lnew {its : List Value} {t' : Nat} (I : Inv X pins σ H s) (hv : Vals ys its) (hz : ys.length ≤ sizeLine) :
    Inv X pins σ (upd H s.heap.objs.size (.lst ys)) { s with heap := s.heap.push { cls := .type "list", data := .seq its.toArray }, toks := t' } :=
  I.laid (fun _ _ q => Heap.get?_push_of_some _ q) (Nat.le_refl _) ⟨hz, its, 0, hv, Heap.get?_push_size _ rfl⟩
theorem Inv.fresh (I : Inv X pins σ H s) : H s.heap.objs.size = none := I.hok.fresh (Nat.le_refl _)
theorem Inv.lstM (I : Inv X pins σ H s) (hH : H l = some (.lst xs)) : xs.length ≤ sizeLine ∧ ∃ (its : List Value) (n : Nat), Vals xs its ∧ xs.length = its.length ∧ s.heap.get? l = some { cls := .type "list", data := .seq its.toArray n } := by
  obtain ⟨z, its, n, r, e⟩ := I.hok l _ hH
  exact ⟨z, its, n, r, r.length, e⟩
theorem notLongL {n : Nat} (h : n ≤ sizeLine) : Builtin.List.listTooLong n = false := by
  unfold Builtin.List.listTooLong
  exact decide_eq_false (by omega)
end
section
variable {X : Cx}
def rAppend : V → List V → Hp → VK → Prop := fun x vs H Q => ∃ l xs y, x = .ref l ∧ vs = [y] ∧ H l = some (.lst xs) ∧ xs.length < sizeLine ∧ Q .non (upd H l (.lst (xs ++ [y])))
theorem mt_append : MtM X "list.append" rAppend := by
  intro pins s σ H x vs v us Q I rx rv h
  obtain ⟨l, xs, y, rfl, rfl, hH, hz, q⟩ := h
  cases rx
  obtain ⟨u, rfl, ru⟩ := rv.one
  obtain ⟨z, its, n, r, hl, e⟩ := I.lstM hH
  refine call_meets F.slot_list_append ⟨_, e, rfl⟩ F.entry_list_append (F.args_list_append_2 _ _) (PySem.list_append l its.toArray n u (by rw [List.size_toArray]; omega)) ⟨e, ?_⟩
  refine ⟨.non, _, I.lset (its' := its ++ [u]) hH e (by simp) (r.append (.cons ru .nil)) ?_, rfl, q⟩
  rw [List.length_append, List.length_singleton]
  omega
def rExtend : V → List V → Hp → VK → Prop := fun x vs H Q => ∃ l b xs zs, x = .ref l ∧ vs = [.ref b] ∧ H l = some (.lst xs) ∧ H b = some (.lst zs) ∧ xs.length + zs.length ≤ sizeLine ∧ Q .non (upd H l (.lst (xs ++ zs)))
theorem mt_extend : MtM X "list.extend" rExtend := by
  intro pins s σ H x vs v us Q I rx rv h
  obtain ⟨l, b, xs, zs, rfl, rfl, hH, hB, hz, q⟩ := h
  cases rx
  obtain ⟨u, rfl, ru⟩ := rv.one
  cases ru
  obtain ⟨z, its, n, r, hl, e⟩ := I.lstM hH
  obtain ⟨z2, its2, n2, r2, hl2, e2⟩ := I.lstM hB
  have hsz : its.toArray.size + its2.toArray.size ≤ sizeLine := by rw [List.size_toArray, List.size_toArray]; omega
  have hlong : ¬ (!its.toArray.isEmpty && Builtin.List.listTooLong (its.toArray.size + its2.toArray.size)) = true := by
    rw [notLongL hsz, Bool.and_false]
    exact Bool.false_ne_true
  refine call_meets F.slot_list_extend ⟨_, e, rfl⟩ F.entry_list_extend (F.args_list_extend_2 _ _)
    (AutoSeq1.list_extend_list_list_0 l its.toArray n b its2.toArray n2 hlong (by rw [List.size_toArray]; omega) (by omega)) ⟨e, e2, ?_⟩
  refine ⟨.non, _, I.lset (its' := its ++ its2) hH e (by simp) (r.append r2) ?_, rfl, q⟩
  rw [List.length_append]
  omega
def rPop : V → List V → Hp → VK → Prop := fun x vs H Q => ∃ l xs y, x = .ref l ∧ vs = [] ∧ H l = some (.lst xs) ∧ xs[xs.length - 1]? = some y ∧ Q y (upd H l (.lst xs.dropLast))
theorem mt_pop : MtM X "list.pop" rPop := by
  intro pins s σ H x vs v us Q I rx rv h
  obtain ⟨l, xs, y, rfl, rfl, hH, hy, q⟩ := h
  cases rx
  have hus := rv.zero
  subst hus
  obtain ⟨z, its, n, r, hl, e⟩ := I.lstM hH
  obtain ⟨u, hu, ru⟩ := r.get hy
  have hy' : its.toArray[its.toArray.size - 1]? = some u := by
    show its.toArray[its.length - 1]? = some u
    rw [← Array.getElem?_toList, ← hl]
    exact hu
  refine call_meets F.slot_list_pop ⟨_, e, rfl⟩ F.entry_list_pop (F.args_list_pop_1 _) (MeetsSeq.list_pop_last l its.toArray n u hy' (by rw [List.size_toArray]; omega)) ⟨e, ?_⟩
  refine ⟨y, _, I.lset (its' := its.dropLast) hH e ?_ r.dropLast ?_, ru, q⟩
  · show its.toArray.eraseIdxIfInBounds (its.toArray.size - 1) = its.dropLast.toArray
    rw [List.size_toArray, List.eraseIdxIfInBounds_toArray, erase_last]
  · rw [List.length_dropLast]
    omega
def rCat : R2 := fun x y H Q => ∃ l b xs zs, x = .ref l ∧ y = .ref b ∧ H l = some (.lst xs) ∧ H b = some (.lst zs) ∧ xs.length + zs.length ≤ sizeLine ∧ ∀ p, H p = none → Q (.ref p) (upd H p (.lst (xs ++ zs)))
theorem op_cat : OpR X (binaryOp .Add) rCat := by
  intro pins s σ H x y v u Q I rx ry h
  obtain ⟨l, b, xs, zs, rfl, rfl, hH, hB, hz, q⟩ := h
  cases rx
  cases ry
  obtain ⟨z, its, n, r, hl, e⟩ := I.lstM hH
  obtain ⟨z2, its2, n2, r2, hl2, e2⟩ := I.lstM hB
  refine PySem.P.add_list e e2 ?_ (by rw [List.size_toArray, List.size_toArray]; omega)
  have ea : its.toArray ++ its2.toArray = (its ++ its2).toArray := by simp
  rw [ea]
  exact ⟨.ref _, _, I.lnew (t' := s.toks) (r.append r2) (by rw [List.length_append]; omega), rfl, q _ I.fresh⟩
end
section
variable {prog : Program} {w : World} {A : Around} {E : Value → Shared → Prop} {s : Shared}
end
section
variable {X : Cx}
end
end L2
namespace L2
open PySem PySem.Spec PyProof.Rows
theorem Vals.ints : ∀ {ns : List Int} {us : List Value}, Vals (ns.map V.int) us → IntsAre us ns
  | [], us, h => by
    rw [List.map_nil] at h
    cases h
    exact IntsAre.nil
  | n :: ns, us, h => by
    rw [List.map_cons] at h
    cases h with
    | cons r t =>
      obtain ⟨k, rfl⟩ := r
      exact IntsAre.cons n k (Vals.ints t)
theorem Vals.strs : ∀ {xs : List Str} {us : List Value}, Vals (xs.map V.str) us → StrsAre us xs
  | [], us, h => by
    rw [List.map_nil] at h
    cases h
    exact StrsAre.nil
  | x :: xs, us, h => by
    rw [List.map_cons] at h
    cases h with
    | cons r t =>
      obtain ⟨k, rfl⟩ := r
      exact StrsAre.cons x k (Vals.strs t)
section
variable {prog : Program} {w : World} {A : Around} {E : Value → Shared → Prop} {s : Shared} {l : Addr} {its : List Value} {ns : List Int} {Q : Value → Shared → Prop}
end
section
variable {X : Cx}
end
section
variable {X : Cx}
end
section
variable {X : Cx}
end
section
variable {X : Cx}
end
mutual
inductive Dp (K : PySem.W.Frag) (H : Hp) : V → PyData → Prop
  | non : Dp K H .non .none
  | bl (b : Bool) : Dp K H (.bl b) (.bool b)
  | int (i : Int) : Dp K H (.int i) (.int i)
  | str (x : Str) : Dp K H (.str x) (.str x)
  | lst {a : Addr} {xs : List V} {ds : List PyData} : SqL K H a xs → DpAll K H xs ds → Dp K H (.ref a) (.list ds)
  | tup {a : Addr} {xs : List V} {ds : List PyData} : SqT K H a xs → DpAll K H xs ds → Dp K H (.ref a) (.tuple ds)
inductive DpAll (K : PySem.W.Frag) (H : Hp) : List V → List PyData → Prop
  | nil : DpAll K H [] []
  | cons {v : V} {vs : List V} {d : PyData} {ds : List PyData} : Dp K H v d → DpAll K H vs ds → DpAll K H (v :: vs) (d :: ds)
end
section
variable {X : Cx} {pins : List (Addr × Obj)} {σ : St} {H : Hp} {s : Shared}
mutual
theorem Dp.reads (I : Inv X pins σ H s) : ∀ (d : PyData) (v : V) (u : Value), Dp X.K H v d → RelV v u → ∃ as, Reads s.heap u d as
  | .none, _, _, h, r => by
    cases h
    cases r
    exact ⟨_, Reads.none⟩
  | .bool b, _, _, h, r => by
    cases h
    cases r
    exact ⟨_, Reads.bool b⟩
  | .int i, _, _, h, r => by
    cases h
    obtain ⟨t, rfl⟩ := r
    exact ⟨_, Reads.int i t⟩
  | .str x, _, _, h, r => by
    cases h
    obtain ⟨t, rfl⟩ := r
    exact ⟨_, Reads.str x t⟩
  | .list ds, _, _, h, r => by
    cases h with
    | lst hs ha =>
      cases r
      obtain ⟨its, rv, ⟨o, n, ho, hc, _, hd⟩, _⟩ := I.list hs
      obtain ⟨as, hr⟩ := Dp.readsAll I ds _ its ha rv
      exact ⟨_, Reads.list ho hc hd hr⟩
  | .tuple ds, _, _, h, r => by
    cases h with
    | tup hs ha =>
      cases r
      obtain ⟨its, rv, ⟨o, ho, hc, n, hd⟩, _⟩ := I.tuple hs
      obtain ⟨as, hr⟩ := Dp.readsAll I ds _ its ha rv
      exact ⟨_, Reads.tuple ho hc hd hr⟩
  | .dict _, _, _, h, _ => by cases h
theorem Dp.readsAll (I : Inv X pins σ H s) : ∀ (ds : List PyData) (vs : List V) (us : List Value), DpAll X.K H vs ds → Vals vs us → ∃ as, ReadsAll s.heap us ds as
  | [], _, _, h, r => by
    cases h
    cases r
    exact ⟨_, ReadsAll.nil⟩
  | d :: ds, _, _, h, r => by
    cases h with
    | cons h1 h2 =>
      cases r with
      | cons r1 r2 =>
        obtain ⟨as, q1⟩ := Dp.reads I d _ _ h1 r1
        obtain ⟨bs, q2⟩ := Dp.readsAll I ds _ _ h2 r2
        exact ⟨_, ReadsAll.cons q1 q2⟩
end
end
section
variable {X : Cx}
end
end L2
namespace L2
open PySem PySem.Spec PyProof.Rows
abbrev CellAt (h : Heap) (c : Addr) (v : Option Value) : Prop := h.IsCell c v
def relS (scope sc : Scope) : Scope :=
  { scope with names := scope.names.map fun (n, k) => if (k == .free && sc.kind == .function && sc.names.lookup n == some .cell) then (n, .cell) else (n, k) }
def cloFrom (cells : List (Str × Addr)) : List (Str × NameKind) → List (Str × Addr) → List (Str × Addr)
  | [], acc => acc
  | (n, k) :: r, acc => if k == .free then cloFrom cells r ((n, (cells.lookup n).getD 0) :: acc) else cloFrom cells r acc
theorem closure_loop (env : Env) (f : Str × NameKind → List (Str × Addr) → Sem (ForInStep (List (Str × Addr))))
    (hf : ∀ n k c, f (n, k) c = if k == .free then (do let a ← cellOf env n; pure (.yield ((n, a) :: c))) else pure (.yield c)) :
    ∀ (names : List (Str × NameKind)) (acc : List (Str × Addr)), (∀ y ∈ names, y.2 = .free → ∃ c, env.cells.lookup y.1 = some c) → forIn names acc f = pure (cloFrom env.cells names acc)
  | [], acc, _ => by rw [List.forIn_nil]; rfl
  | (n, k) :: r, acc, h => by
    rw [List.forIn_cons, hf]
    have ih := fun acc => closure_loop env f hf r acc fun y hy => h y (List.mem_cons_of_mem _ hy)
    unfold cloFrom
    by_cases hk : (k == NameKind.free) = true
    · rw [if_pos hk, if_pos hk]
      obtain ⟨c, hc⟩ := h (n, k) List.mem_cons_self (by simpa using hk)
      have e : cellOf env n = pure c := by unfold cellOf; rw [hc]
      rw [e]
      have e2 : (env.cells.lookup n).getD 0 = c := by rw [hc]; rfl
      rw [e2]
      exact ih _
    · rw [if_neg hk, if_neg hk]
      exact ih _
theorem closure_ok {scope : Scope} {env : Env} (h : ∀ y ∈ scope.names, y.2 = .free → ∃ c, env.cells.lookup y.1 = some c) : closureFor scope env = pure (cloFrom env.cells scope.names []) := by
  simp only [closureFor]
  rw [closure_loop env _ (fun n k c => rfl) scope.names [] h]
  rfl
theorem mem_lookup {α : Type} : ∀ {l : List (Str × α)} {n : Str} {c : α}, (n, c) ∈ l → ∃ c', l.lookup n = some c'
  | (k, v) :: r, n, c, h => by
    rw [List.lookup_cons]
    cases hb : n == k with
    | true => exact ⟨_, rfl⟩
    | false =>
      rcases List.mem_cons.mp h with e | h
      · cases e; simp at hb
      · exact mem_lookup h
theorem cloFrom_mem {cells : List (Str × Addr)} : ∀ {names : List (Str × NameKind)} {acc : List (Str × Addr)} {n : Str} {c : Addr}, (n, c) ∈ cloFrom cells names acc → (n, c) ∈ acc ∨ ((n, .free) ∈ names ∧ c = (cells.lookup n).getD 0)
  | [], _, _, _, h => .inl h
  | (m, k) :: r, acc, n, c, h => by
    unfold cloFrom at h
    split at h
    · rename_i hk
      have hk : k = .free := by simpa using hk
      rcases cloFrom_mem h with h | ⟨h1, h2⟩
      · rcases List.mem_cons.mp h with e | h
        · cases e; exact .inr ⟨hk ▸ List.mem_cons_self, rfl⟩
        · exact .inl h
      · exact .inr ⟨List.mem_cons_of_mem _ h1, h2⟩
    · rcases cloFrom_mem h with h | ⟨h1, h2⟩
      · exact .inl h
      · exact .inr ⟨List.mem_cons_of_mem _ h1, h2⟩
theorem cloFrom_acc {cells : List (Str × Addr)} : ∀ {names : List (Str × NameKind)} {acc : List (Str × Addr)} {p : Str × Addr}, p ∈ acc → p ∈ cloFrom cells names acc
  | [], _, _, h => h
  | (m, k) :: r, acc, p, h => by
    unfold cloFrom
    split
    · exact cloFrom_acc (List.mem_cons_of_mem _ h)
    · exact cloFrom_acc h
theorem cloFrom_has {cells : List (Str × Addr)} : ∀ {names : List (Str × NameKind)} {acc : List (Str × Addr)} {n : Str}, (n, .free) ∈ names → (n, (cells.lookup n).getD 0) ∈ cloFrom cells names acc
  | (m, k) :: r, acc, n, h => by
    unfold cloFrom
    rcases List.mem_cons.mp h with e | h
    · cases e
      exact cloFrom_acc List.mem_cons_self
    · split
      · exact cloFrom_has h
      · exact cloFrom_has h
theorem cells_mem : ∀ {names : List (Str × NameKind)} {h : Heap} {acc : List (Str × Addr)} {x : Str} {c : Addr}, (x, c) ∈ cellsFrom h.objs.size names acc →
    (x, c) ∈ acc ∨ ((x, .cell) ∈ names ∧ h.objs.size ≤ c ∧ CellAt (pushCells h names) c none)
  | [], _, _, _, _, h => .inl h
  | (n, k) :: r, h, acc, x, c, hm => by
    unfold cellsFrom at hm
    unfold pushCells
    split at hm
    · rename_i hk
      rw [if_pos hk]
      have hk : k = .cell := by simpa using hk
      rw [← Heap.size_push h { cls := .type "cell", data := .cell none }] at hm
      rcases cells_mem hm with hm | ⟨h1, h2, h3⟩
      · rcases List.mem_cons.mp hm with e | hm
        · cases e
          exact .inr ⟨hk ▸ List.mem_cons_self, Nat.le_refl _, _, pushCells_keeps r _ _ _ (Heap.get?_push_size _ rfl), rfl⟩
        · exact .inl hm
      · rw [Heap.size_push] at h2
        exact .inr ⟨List.mem_cons_of_mem _ h1, Nat.le_of_succ_le h2, h3⟩
    · rename_i hk
      rw [if_neg hk]
      rcases cells_mem hm with hm | ⟨h1, h2, h3⟩
      · exact .inl hm
      · exact .inr ⟨List.mem_cons_of_mem _ h1, h2, h3⟩
theorem cells_acc : ∀ {names : List (Str × NameKind)} {n : Nat} {acc : List (Str × Addr)} {p : Str × Addr}, p ∈ acc → p ∈ cellsFrom n names acc
  | [], _, _, _, h => h
  | (m, k) :: r, n, acc, p, h => by
    unfold cellsFrom
    split
    · exact cells_acc (List.mem_cons_of_mem _ h)
    · exact cells_acc h
theorem cells_has : ∀ {names : List (Str × NameKind)} {n : Nat} {acc : List (Str × Addr)} {x : Str}, (x, .cell) ∈ names → ∃ c, (x, c) ∈ cellsFrom n names acc
  | (m, k) :: r, n, acc, x, h => by
    unfold cellsFrom
    rcases List.mem_cons.mp h with e | h
    · cases e
      exact ⟨n, cells_acc List.mem_cons_self⟩
    · split
      · exact cells_has h
      · exact cells_has h
theorem cells_inj : ∀ {names : List (Str × NameKind)} {h : Heap} {acc : List (Str × Addr)} {x y : Str} {c : Addr}, (∀ p ∈ acc, p.2 < h.objs.size) → (∀ x y c, (x, c) ∈ acc → (y, c) ∈ acc → x = y) →
    (x, c) ∈ cellsFrom h.objs.size names acc → (y, c) ∈ cellsFrom h.objs.size names acc → x = y
  | [], _, _, _, _, _, _, hi, h1, h2 => hi _ _ _ h1 h2
  | (n, k) :: r, h, acc, x, y, c, hl, hi, h1, h2 => by
    unfold cellsFrom at h1 h2
    split at h1
    · rename_i hk
      rw [if_pos hk] at h2
      rw [← Heap.size_push h { cls := .type "cell", data := .cell none }] at h1 h2
      refine cells_inj (h := h.push _) (fun p hp => ?_) (fun x y c a b => ?_) h1 h2
      · rw [Heap.size_push]
        rcases List.mem_cons.mp hp with rfl | hp
        · exact Nat.lt_succ_self _
        · exact Nat.lt_succ_of_lt (hl p hp)
      · rcases List.mem_cons.mp a with e | a <;> rcases List.mem_cons.mp b with e' | b
        · cases e; cases e'; rfl
        · cases e; exact absurd (hl _ b) (Nat.lt_irrefl _)
        · cases e'; exact absurd (hl _ a) (Nat.lt_irrefl _)
        · exact hi _ _ _ a b
    · rename_i hk
      rw [if_neg hk] at h2
      exact cells_inj hl hi h1 h2
theorem newEnv_comp {M : Model} {A : Around} {E : Value → Shared → Prop} {s : Shared} {scope : Scope} {globals : Addr} {closure : List (Str × Addr)} {qual : Str} {func : Option Addr} {code : Value} {around : Env} {builtins : Addr} {Q : Env → Shared → Prop}
    (h : Q (newEnv scope s.heap.objs.size globals (cellsFrom (s.heap.objs.size + 1) scope.names closure) qual func code (some around) builtins)
      { s with heap := pushCells (s.heap.push { cls := .type "dict", data := .dict #[] }) scope.names }) :
    wpAny M A (newFunctionEnv scope globals closure [] qual func code (some around) builtins) Q E s := by
  simp only [newFunctionEnv, Option.isSome_some, if_true]
  refine wpAny_bind (wpAny_alloc ?_)
  refine wpAny_bind (wpAny_layCells _ (fun n k c => rfl) scope.names closure _ _ ?_)
  rw [show ({ s with heap := s.heap.push { cls := .type "dict", data := .dict #[] } } : Shared).heap.objs.size = s.heap.objs.size + 1 from Heap.size_push ..]
  rw [List.forIn_nil]
  exact wpAny_bind (wpAny_pure (wpAny_pure h))
theorem lookup_relS {sc : Scope} : ∀ {names : List (Str × NameKind)} {x : Str} {k : NameKind},
    (names.map fun (n, k) => if (k == NameKind.free && sc.kind == .function && sc.names.lookup n == some .cell) then (n, NameKind.cell) else (n, k)).lookup x = some k →
    ∃ k', names.lookup x = some k' ∧ (k = k' ∨ (k' = .free ∧ k = .cell))
  | [], _, _, h => by simp at h
  | (n, k₀) :: r, x, k, h => by
    have ih := @lookup_relS sc r x k
    have h' : List.lookup x ((if (k₀ == NameKind.free && sc.kind == .function && sc.names.lookup n == some .cell) = true then (n, NameKind.cell) else (n, k₀)) :: (r.map _)) = some k := h
    cases hx : x == n with
    | true =>
      simp only [List.lookup_cons, hx]
      by_cases hc : (k₀ == NameKind.free && sc.kind == .function && sc.names.lookup n == some .cell) = true
      · rw [if_pos hc] at h'
        simp only [List.lookup_cons, hx] at h'
        cases h'
        simp only [Bool.and_eq_true, beq_iff_eq] at hc
        exact ⟨k₀, rfl, .inr ⟨hc.1.1, rfl⟩⟩
      · rw [if_neg hc] at h'
        simp only [List.lookup_cons, hx] at h'
        cases h'
        exact ⟨_, rfl, .inl rfl⟩
    | false =>
      simp only [List.lookup_cons, hx]
      by_cases hc : (k₀ == NameKind.free && sc.kind == .function && sc.names.lookup n == some .cell) = true
      · rw [if_pos hc] at h'
        simp only [List.lookup_cons, hx] at h'
        exact ih h'
      · rw [if_neg hc] at h'
        simp only [List.lookup_cons, hx] at h'
        exact ih h'
structure BlkOk (N : List Str) (sc scope : Scope) (own : List (Str × Nat)) : Prop where
  kind : scope.kind = .function
  uniq : ∀ y ∈ scope.names, scope.names.lookup y.1 = some y.2
  ix : ∀ p ∈ own, N[p.2]? = some p.1
  free : ∀ y ∈ scope.names, y.2 = .free → sc.names.lookup y.1 = some .cell ∨ sc.names.lookup y.1 = some .free
  own : ∀ y ∈ scope.names, y.2 = .local ∨ y.2 = .cell → y.1 ∈ own.map (·.1) ∨ y.1 ∉ N
def wipe (σ : St) : List Nat → St
  | [] => σ
  | v :: vs => (wipe σ vs).set v none
theorem wipe_length (σ : St) : ∀ vs : List Nat, (wipe σ vs).length = σ.length
  | [] => rfl
  | v :: vs => by unfold wipe; rw [List.length_set, wipe_length σ vs]
theorem wipe_some {σ : St} {i : Nat} {x : V} : ∀ {vs : List Nat}, (wipe σ vs)[i]? = some (some x) → σ[i]? = some (some x) ∧ i ∉ vs
  | [], h => ⟨h, by simp⟩
  | v :: vs, h => by
    unfold wipe at h
    by_cases hi : v = i
    · subst hi
      by_cases hv : v < (wipe σ vs).length
      · rw [List.getElem?_set_self hv] at h; cases h
      · rw [List.getElem?_eq_none (by simpa using hv)] at h; cases h
    · rw [List.getElem?_set_ne hi] at h
      obtain ⟨h1, h2⟩ := wipe_some h
      exact ⟨h1, by simp only [List.mem_cons, not_or]; exact ⟨fun e => hi e.symm, h2⟩⟩
abbrev Cx.blk (X : Cx) (s : Shared) (H : Hp) (scope : Scope) (cenv : Env) (fp : List Addr) : Cx := { X with s_0 := s, H_0 := H, env := cenv, outer := X.stack, ex := fp, fn := fun x => scope.names.lookup x == some .cell, pn := [], xe := fun _ _ => False }
section
variable {X : Cx} {pins : List (Addr × Obj)} {σ : St} {H : Hp} {s : Shared}
theorem block_start {scope : Scope} {own : List (Str × Nat)} {fp : List Addr} (I : Inv X pins σ H s) (ok : BlkOk X.N X.env.scope scope own) (hN : X.N.Nodup) (hfp : ∀ b ∈ fp, FpOk X pins H b ∧ b < s.heap.objs.size) :
    Inv (X.blk s H scope (compEnvC scope (cellsFrom (s.heap.objs.size + 1) scope.names (cloFrom X.env.cells scope.names [])) s.heap.objs.size X.env) fp) [] (wipe σ (own.map (·.2))) H { s with heap := pushCells (s.heap.push { cls := .type "dict", data := .dict #[] }) scope.names } := by
  have hfree : ∀ y ∈ scope.names, y.2 = .free → ∃ c, X.env.cells.lookup y.1 = some c := fun y hy e => by
    rcases ok.free y hy e with k | k
    · exact I.ok.has _ (.inl k)
    · exact I.ok.has _ (.inr k)
  generalize hcenv : compEnvC scope (cellsFrom (s.heap.objs.size + 1) scope.names (cloFrom X.env.cells scope.names [])) s.heap.objs.size X.env = cenv
  have kp : ∀ b o, s.heap.get? b = some o → (pushCells (s.heap.push { cls := .type "dict", data := .dict #[] }) scope.names).get? b = some o := fun b o e => pushCells_keeps _ _ _ _ (Heap.get?_push_of_some _ e)
  have hL : cenv.locals = s.heap.objs.size := by rw [← hcenv]; rfl
  have hcl : cenv.cells = cellsFrom (s.heap.objs.size + 1) scope.names (cloFrom X.env.cells scope.names []) := by rw [← hcenv]; rfl
  have hsc : cenv.scope = relS scope X.env.scope := by rw [← hcenv]; rfl
  rw [← Heap.size_push s.heap { cls := .type "dict", data := .dict #[] }] at hcl
  have cm : ∀ {y c}, (y, c) ∈ cloFrom X.env.cells scope.names [] → X.env.cells.lookup y = some c ∧ c < s.heap.objs.size := fun {y c} hm => by
    rcases cloFrom_mem hm with hm | ⟨h1, rfl⟩
    · cases hm
    · obtain ⟨c, hc⟩ := hfree _ h1 rfl
      rw [hc]
      obtain ⟨w, z⟩ := I.cell _ _ hc
      exact ⟨rfl, z.lt⟩
  have mem : ∀ {y c}, cenv.cells.lookup y = some c → (X.env.cells.lookup y = some c ∧ c < s.heap.objs.size) ∨ (s.heap.objs.size + 1 ≤ c ∧ CellAt (pushCells (s.heap.push { cls := .type "dict", data := .dict #[] }) scope.names) c none) := fun {y c} e => by
    rw [hcl] at e
    rcases cells_mem (PySem.mem_of_lookup e) with hm | ⟨_, h2, h3⟩
    · exact .inl (cm hm)
    · rw [Heap.size_push] at h2; exact .inr ⟨h2, h3⟩
  have look : ∀ {y}, scope.names.lookup y = some .free → ∃ c, cenv.cells.lookup y = some c ∧ X.env.cells.lookup y = some c := fun {y} hl => by
    have hy : (y, NameKind.free) ∈ scope.names := PySem.mem_of_lookup hl
    obtain ⟨c', e'⟩ := mem_lookup (cells_acc (names := scope.names) (n := (s.heap.push { cls := .type "dict", data := .dict #[] }).objs.size) (cloFrom_has (cells := X.env.cells) (acc := []) hy))
    rw [← hcl] at e'
    refine ⟨c', e', ?_⟩
    rw [hcl] at e'
    rcases cells_mem (PySem.mem_of_lookup e') with hm | ⟨h1, _, _⟩
    · exact (cm hm).1
    · have := ok.uniq _ h1
      rw [hl] at this; cases this
  have okB : (X.blk s H scope cenv fp).Ok := by
    refine ⟨I.ok.mod, by show cenv.scope.kind = _; rw [hsc]; exact ok.kind, by show cenv.globals = _; rw [← hcenv]; exact I.ok.glob, by show cenv.builtins = _; rw [← hcenv]; exact I.ok.blt, by show s.heap.objs.size ≤ cenv.locals; rw [hL]; exact Nat.le_refl _,
      fun y z c e1 e2 => ?_, fun y hy => ?_, fun y c z e => ?_, I.ok.hd, I.ok.frames, .inl rfl, fun b hb => ⟨?_, fun y c e z => ?_⟩, I.bs, Nat.le_trans I.ok.bsz I.sz, fun b o e hb => ?_, fun b hb z => ?_, I.stack, I.stkFree⟩
    · have e1 : cenv.cells.lookup y = some c := e1
      have e2 : cenv.cells.lookup z = some c := e2
      rw [hcl] at e1 e2
      refine cells_inj (fun p hp => ?_) (fun y z c a b => I.ok.inj y z c (cm a).1 (cm b).1) (PySem.mem_of_lookup e1) (PySem.mem_of_lookup e2)
      rw [Heap.size_push]
      exact Nat.lt_succ_of_lt (cm (y := p.1) (c := p.2) hp).2
    · show ∃ c, cenv.cells.lookup y = some c
      have key : ∀ k, cenv.kindOf y = some k → (k = .cell ∨ k = .free) → ∃ c, cenv.cells.lookup y = some c := fun k hk hk' => by
        unfold Env.kindOf at hk
        rw [hsc] at hk
        obtain ⟨k', e, r⟩ := lookup_relS hk
        have : k' = .cell ∨ k' = .free := by
          rcases r with rfl | ⟨rfl, _⟩
          · exact hk'
          · exact .inr rfl
        rcases this with rfl | rfl
        · obtain ⟨c, hm⟩ := cells_has (n := (s.heap.push { cls := .type "dict", data := .dict #[] }).objs.size) (acc := cloFrom X.env.cells scope.names []) (PySem.mem_of_lookup e)
          obtain ⟨c', e'⟩ := mem_lookup hm
          exact ⟨c', by rw [hcl]; exact e'⟩
        · obtain ⟨c, h1, _⟩ := look e
          exact ⟨c, h1⟩
      rcases hy with hy | hy
      · exact key _ hy (.inl rfl)
      · exact key _ hy (.inr rfl)
    · have z : (scope.names.lookup y == some NameKind.cell) = true := z
      have z : scope.names.lookup y = some .cell := by simpa using z
      have e : cenv.cells.lookup y = some c := e
      rw [hcl] at e
      rcases cells_mem (PySem.mem_of_lookup e) with hm | ⟨_, h2, _⟩
      · rcases cloFrom_mem hm with hm | ⟨h1, _⟩
        · cases hm
        · have q := ok.uniq _ h1
          rw [z] at q; cases q
      · rw [Heap.size_push] at h2
        exact Nat.le_of_succ_le h2
    · show b ≠ cenv.locals
      rw [hL]; exact Nat.ne_of_lt (hfp b hb).2
    · have e : cenv.cells.lookup y = some c := e
      rcases mem e with ⟨h1, _⟩ | ⟨h1, _⟩
      · exact (hfp b hb).1.2.2.2.2.1 y c h1 z
      · have h2 : s.heap.objs.size + 1 ≤ b := by rw [← z]; exact h1
        exact absurd (Nat.lt_of_lt_of_le (hfp b hb).2 (Nat.le_of_succ_le h2)) (Nat.lt_irrefl _)
    · rcases (hfp b hb).1.2.2.2.1 with z | z
      · exact I.ok.noex b o e z
      · exact absurd (Nat.lt_of_lt_of_le (Heap.lt_size e) (Nat.le_trans I.ok.bsz z)) (Nat.lt_irrefl _)
    · rcases List.mem_cons.mp (I.stkSub b z) with z | z
      · exact (hfp b hb).1.2.1 z
      · exact (hfp b hb).1.2.2.1 z
  refine ⟨okB, rfl, I.bare, Un.kept kp, ⟨fun _ => none, ?_, fun i y av e1 e2 e3 => ?_⟩, fun y c e => ?_, ?_, fun y c e => ?_, fun p hp => ?_, I.hok.kept kp, by rw [wipe_length]; exact I.len⟩
  · show Heap.Ns _ cenv.locals _
    rw [hL]
    exact Heap.Ns.keeps (Heap.Ns.new ..) fun b o e => pushCells_keeps _ _ _ _ e
  · obtain ⟨e2, hne⟩ := wipe_some e2
    have hfr : scope.names.lookup y = some .free ∧ (cenv.kindOf y = some .cell ∨ cenv.kindOf y = some .free) := by
      have key : ∀ k, cenv.scope.names.lookup y = some k → k = .local ∨ k = .cell ∨ k = .free → scope.names.lookup y = some .free ∧ (cenv.kindOf y = some .cell ∨ cenv.kindOf y = some .free) := fun k hk hk' => by
        have hk0 := hk
        rw [hsc] at hk
        obtain ⟨k', e, r⟩ := lookup_relS hk
        have no : ¬ (k' = .local ∨ k' = .cell) := fun hh => by
          rcases ok.own _ (PySem.mem_of_lookup e) hh with e' | e'
          · obtain ⟨p, hp, hpy⟩ := List.mem_map.mp e'
            have e3 := ok.ix p hp
            have : p.1 = y := hpy
            rw [this] at e3
            exact hne (List.mem_map.mpr ⟨p, hp, nodup_ix hN e3 e1⟩)
          · exact e' (List.mem_of_getElem? e1)
        rcases r with rfl | ⟨rfl, rfl⟩
        · rcases hk' with rfl | rfl | rfl
          · exact absurd (.inl rfl) no
          · exact absurd (.inr rfl) no
          · exact ⟨e, .inr hk0⟩
        · exact ⟨e, .inl hk0⟩
      have e3 : Vis cenv.scope y := e3
      rcases e3 with e3 | e3 | e3
      · exact key _ e3 (.inl rfl)
      · exact key _ e3 (.inr (.inl rfl))
      · exact key _ e3 (.inr (.inr rfl))
    obtain ⟨m, hn, hl⟩ := I.loc
    have hvis : Vis X.env.scope y := (ok.free _ (PySem.mem_of_lookup hfr.1) rfl).elim (fun k => .inr (.inl k)) (fun k => .inr (.inr k))
    obtain ⟨w, r, q⟩ := hl i y av e1 e2 hvis
    refine ⟨w, r, .inr ⟨hfr.2, ?_⟩⟩
    obtain ⟨c, h1, h2⟩ := look hfr.1
    rcases q with ⟨k, _⟩ | ⟨_, c', e', z⟩
    · have k : X.env.scope.names.lookup y = some .local := k
      rcases ok.free _ (PySem.mem_of_lookup hfr.1) rfl with k' | k' <;> rw [show X.env.scope.names.lookup y = _ from k'] at k <;> cases k
    · rw [h2] at e'; cases e'
      exact ⟨c, h1, z.keeps kp⟩
  · have e : cenv.cells.lookup y = some c := e
    rcases mem e with ⟨h1, _⟩ | ⟨_, z⟩
    · obtain ⟨w, z⟩ := I.cell y c h1
      exact ⟨w, z.keeps kp⟩
    · exact ⟨_, z⟩
  · show H cenv.locals = none
    rw [hL]; exact I.hok.fresh (Nat.le_refl _)
  · have e : cenv.cells.lookup y = some c := e
    rcases mem e with ⟨h1, _⟩ | ⟨h1, _⟩
    · exact I.freeC y c h1
    · exact I.hok.fresh (Nat.le_of_succ_le h1)
  · exact absurd (show p ∈ ([] : List (Addr × Obj)) ++ [] from hp) (by simp)
theorem app_ok {E : Value → Shared → Prop} {D : Addr} {xs : List V} {y : V} {v : Value} {Q : Value → Shared → Prop} (I : Inv X pins σ H s) (hD : H D = some (.lst xs)) (hz : xs.length < sizeLine) (r : RelV y v)
    (h : ∀ s', Inv X pins σ (upd H D (.lst (xs ++ [y]))) s' → Q .none s') : wpAny (model X.prog X.w) X.A (call (.builtin "list.append") [.ref D, v]) Q E s := by
  obtain ⟨hz', its, n, ri, e⟩ := I.hok D _ hD
  have hl := ri.length
  refine append_at (hsz := by rw [List.size_toArray]; omega) e fun h' sb ho' => ?_
  refine h { s with heap := h' } (I.write (t' := s.toks) (by rw [hD]; trivial) (.inl rfl) (fun b u hb q => (sb.2 b hb).trans q) ⟨_, ho'⟩ ⟨by rw [List.length_append]; exact hz, its ++ [v], n + 1, ri.append (.cons r .nil), ?_⟩)
  rw [ho']
  simp
def PTs (X : Cx) (ifs : List Expr) (t : TT) : Prop :=
  ∀ (pins : List (Addr × Obj)) (s : Shared) (σ : St) (H : Hp) (Q : Bool → Hp → Prop), Inv X pins σ H s → t σ H Q →
    wpAny (model X.prog X.w) X.A (forIn ifs true fun c r => if r = true then do let ok ← isTrue c X.env (eval c X.env); pure (ForInStep.yield ok) else pure (ForInStep.yield r)) (TP X pins σ Q) X.xe s
def tYes : TT := fun _ H Q => Q true H
theorem pts_nil : PTs X [] tYes := fun _ _ _ H _ I h => wpAny_tests_nil ⟨H, I, h⟩
end
theorem thnF {α : Type} {t : Sem α} {Q Q' : α → Shared → Prop} {M : Model} {A : Around} {E : Value → Shared → Prop} {s : Shared} (h : wpAny M A t Q (fun _ _ => False) s) (hQ : ∀ a s, Q a s → Q' a s) : wpAny M A t Q' E s := wpAny_mono h hQ fun _ _ z => False.elim z
theorem compLoop_any {prog : Program} {w : World} {A : Around} {R : Result → Shared → Prop} {s : Shared} {elt target iter : Expr} {ifs : List Expr} {scope : Scope} {pos : Pos} {it acc : Value} {env : Env} (I : Nat → Shared → Prop)
    (turn : ∀ n s, I n s → wpAny (model prog w) A (pyNext it) (fun r s₁ => match r with
      | none => R (.ok .next) s₁
      | some v => wpAny (model prog w) A (letOwnedTupleGo target it v) (fun _ s₁' => wpAny (model prog w) A (assign target env v) (fun _ s₂ =>
          wpAny (model prog w) A (forIn ifs true fun c r => if r = true then do let ok ← isTrue c env (eval c env); pure (ForInStep.yield ok) else pure (ForInStep.yield r)) (fun ok s₃ =>
            if ok = true then wpAny (model prog w) A (eval elt env) (fun x s₄ =>
              wpAny (model prog w) A (call (.builtin "list.append") [acc, x]) (fun _ s₅ => ∃ m, m < n ∧ I m s₅) (notedBy (model prog w) A env fun e s' => R (.error e) s') s₄) (notedBy (model prog w) A env fun e s' => R (.error e) s') s₃
            else ∃ m, m < n ∧ I m s₃) (notedBy (model prog w) A env fun e s' => R (.error e) s') s₂) (notedBy (model prog w) A env fun e s' => R (.error e) s') s₁') (notedBy (model prog w) A env fun e s' => R (.error e) s') s₁) (notedBy (model prog w) A env fun e s' => R (.error e) s') s)
    (n : Nat) (h : I n s) :
    codeAny (model prog w) A (.compLoop (.ListComp elt [⟨target, iter, ifs, 0⟩] scope pos) 0 it acc env) R s := by
  refine codeAny_loop rfl I (fun n s hI => ?_) n h
  show wpAny _ A ((compTurn (.ListComp elt [⟨target, iter, ifs, 0⟩] scope pos) 0 it acc env).onRaise (fun x => do noteFrame x env; theTreesLotGoes x)) _ _ s
  refine wpAny_noted ?_
  rw [compTurn_list]
  refine wpAny_bind (wpAny_standAt (wpAny_bind (wpAny_mono (turn n s hI) (fun r s₁ h₁ => ?_) fun _ _ h' => h')))
  cases r with
  | none => exact wpAny_pure h₁
  | some v =>
    refine wpAny_bind (wpAny_mono h₁ (fun _ s₁' h₁' => ?_) fun _ _ h' => h')
    refine wpAny_bind (wpAny_mono h₁' (fun _ s₂ h₂ => wpAny_bind (wpAny_mono h₂ (fun ok s₃ h₃ => ?_) fun _ _ h' => h')) fun _ _ h' => h')
    cases ok with
    | false => exact wpAny_pure ⟨rfl, h₃⟩
    | true =>
      exact wpAny_bind (wpAny_bind (wpAny_mono h₃ (fun x s₄ h₄ => wpAny_bind (wpAny_mono h₄ (fun _ s₅ h₅ => wpAny_pure (wpAny_pure ⟨rfl, h₅⟩)) fun _ _ h' => h')) fun _ _ h' => h'))
section
variable {X : Cx}
def tLc (wi : TI) (g : TG) (tt : TT) (te : TE) (vs : List Nat) : TE := fun σ H Q => wi σ H fun J H1 => ∀ D, H1 D = none → ∃ W : Nat → Nat → Hp → Prop, (∃ m, W 0 m (upd H1 D (.lst []))) ∧ ∀ i m H, W i m H →
  (J.stop i H ∧ Q (.ref D) H) ∨ (J.go i H ∧ ∃ Nx : Hp → Prop, (∀ H', Nx H' → ∃ m', m' < m ∧ W (i + 1) m' H') ∧ ∀ x H', J.yld i H x H' → g x (wipe σ vs) H' fun σ2 H2 => wipe σ2 vs = wipe σ vs ∧ tt σ2 H2 fun b H3 =>
    if b = true then te σ2 H3 fun y H4 => ∃ acc, H4 D = some (.lst acc) ∧ acc.length < sizeLine ∧ Nx (upd H4 D (.lst (acc ++ [y]))) else Nx H3)
theorem lc_core {pins : List (Addr × Obj)} {s : Shared} {σ : St} {H : Hp} {Q : VK} {elt tg iter : Expr} {ifs : List Expr} {scope : Scope} {own : List (Str × Nat)} {pos pos' : Pos} {wi : TI} {g : TG} {tt : TT} {te : TE} {use : Option (Value → Sem Unit)} {Qf : Value → Shared → Prop}
    (hc : X.calm = true) (hN : X.N.Nodup) (I : Inv X pins σ H s) (hi : PI X tg iter wi) (ok : BlkOk X.N X.env.scope scope own)
    (hg : ∀ (s : Shared) (H : Hp) (C : Addr) (cl : List (Str × Addr)) (fp : List Addr), PG (X.blk s H scope (compEnvC scope cl C X.env) fp) tg g) (ht : ∀ (s : Shared) (H : Hp) (C : Addr) (cl : List (Str × Addr)) (fp : List Addr), PTs (X.blk s H scope (compEnvC scope cl C X.env) fp) ifs tt)
    (he : ∀ (s : Shared) (H : Hp) (C : Addr) (cl : List (Str × Addr)) (fp : List Addr), PE (X.blk s H scope (compEnvC scope cl C X.env) fp) elt te) (hs : ∀ x, foldedSetIterable iter X.env x = pure x)
    (h : tLc wi g tt te (own.map (·.2)) σ H Q)
    (hRR : ∀ D C s' m H', Inv X pins σ H' s' → Q (.ref D) H' → s'.heap.Ns C m → FpOk X pins H' C → compPost (model X.prog X.w) X.A X.xe use Qf (.ref D) C (.ok .next) s') :
    wpAny (model X.prog X.w) X.A (comprehension (.ListComp elt [⟨tg, iter, ifs, 0⟩] scope pos) scope X.env pos' (newList []) false (eval iter X.env) use) Qf X.xe s := by
  have hfree : ∀ y ∈ scope.names, y.2 = .free → ∃ c, X.env.cells.lookup y.1 = some c := fun y hy e => by
    rcases ok.free y hy e with k | k
    · exact I.ok.has _ (.inl k)
    · exact I.ok.has _ (.inr k)
  refine wpAny_comprehension_free (use := use) rfl hs (closure_ok hfree) ok.kind (fun y hy e => by rw [ok.uniq y hy, e])
    (thn (hi pins s σ H _ I h) fun xv s1 hx => thn hx fun itv s2 h2 => ?_)
  obtain ⟨it, fp, tn, J, H2, e, I2, T, st2, f2, q⟩ := h2
  subst e
  refine wpAny_newObj_type (newEnv_comp ?_) (by show 0 ≤ sizeLine; decide)
  generalize hD : s2.heap.objs.size = D
  have hDn : H2 D = none := I2.hok.fresh (Nat.le_of_eq hD)
  obtain ⟨W, ⟨m0, w0⟩, turn⟩ := q D hDn
  -- the new list
  generalize hs3 : ({ s2 with heap := s2.heap.push { cls := .type "list", data := .seq ([] : List Value).toArray } } : Shared) = s3
  have I3 : Inv X pins σ (upd H2 D (.lst [])) s3 := by
    rw [← hs3]
    refine I2.laid (t' := s2.toks) (fun b o e => Heap.get?_push_of_some _ e) (Nat.le_of_eq hD) ⟨Nat.zero_le _, [], 0, .nil, ?_⟩
    rw [← hD]
    exact Heap.get?_push_size _ rfl
  have h3 : s3.heap = s2.heap.push { cls := .type "list", data := .seq ([] : List Value).toArray } := by rw [← hs3]
  have sz : ∀ b ∈ fp, b < s2.heap.objs.size := fun b hb => by
    obtain ⟨o, e, _⟩ := T.obj _ _ st2 b hb
    exact Heap.lt_size e
  have f3 : ∀ b ∈ fp, FpOk X pins (upd H2 D (.lst [])) b ∧ b < s3.heap.objs.size := fun b hb => by
    have hlt := sz b hb
    refine ⟨⟨?_, (f2 b hb).2⟩, by rw [h3, Heap.size_push]; exact Nat.lt_succ_of_lt hlt⟩
    rw [upd_ne (by rw [← hD]; exact Nat.ne_of_lt hlt)]
    exact (f2 b hb).1
  have st3 : tn 0 s3.heap := T.keep _ _ _ st2 fun b _ o e => by rw [h3]; exact Heap.get?_push_of_some _ e
  have I4 := block_start I3 ok hN f3
  have pg := hg s3 (upd H2 D (.lst [])) s3.heap.objs.size (cellsFrom (s3.heap.objs.size + 1) scope.names (cloFrom X.env.cells scope.names [])) fp
  have pt := ht s3 (upd H2 D (.lst [])) s3.heap.objs.size (cellsFrom (s3.heap.objs.size + 1) scope.names (cloFrom X.env.cells scope.names [])) fp
  have pe := he s3 (upd H2 D (.lst [])) s3.heap.objs.size (cellsFrom (s3.heap.objs.size + 1) scope.names (cloFrom X.env.cells scope.names [])) fp
  show codeAny _ _ (.compStart (.ListComp elt [⟨tg, iter, ifs, 0⟩] scope pos) 0 (.ref it) (.ref D) (compEnvC scope (cellsFrom (s3.heap.objs.size + 1) scope.names (cloFrom X.env.cells scope.names [])) s3.heap.objs.size X.env)) (compPost (model X.prog X.w) X.A X.xe use Qf (.ref D) s3.heap.objs.size) { s3 with heap := pushCells (s3.heap.push { cls := .type "dict", data := .dict #[] }) scope.names }
  have nfp : ∀ b ∈ fp, (upd H2 D (.lst [])) b = none := fun b hb => (f3 b hb).1.1
  generalize hce : compEnvC scope (cellsFrom (s3.heap.objs.size + 1) scope.names (cloFrom X.env.cells scope.names [])) s3.heap.objs.size X.env = ce at I4 pg pt pe ⊢
  have cL : ce.locals = s3.heap.objs.size := by subst hce; rfl
  generalize hH3 : upd H2 D (.lst []) = H3 at I3 I4 pg pt pe w0 nfp f3
  generalize hs4 : ({ s3 with heap := pushCells (s3.heap.push { cls := .type "dict", data := .dict #[] }) scope.names } : Shared) = s4 at I4 ⊢
  have st4 : tn 0 s4.heap := T.keep _ _ _ st3 fun b _ o e => by rw [← hs4]; exact pushCells_keeps _ _ _ _ (Heap.get?_push_of_some _ e)
  have stat : ∀ {σ' : St} {H' : Hp} {s' : Shared}, Inv (X.blk s3 H3 scope ce fp) [] σ' H' s' → (∀ b ∈ fp, H' b = none) → ∀ b ∈ fp, FpOk (X.blk s3 H3 scope ce fp) [] H' b := fun {σ' H' s'} I' hn b hb =>
    ⟨hn b hb, (I'.ok.exf b hb).1, I'.ok.exfs b hb, .inl hb, fun x c e => (I'.ok.exf b hb).2 x c e, fun p hp => absurd (show p ∈ ([] : List (Addr × Obj)) ++ [] from hp) (by simp)⟩
  have loop : codeAny (model X.prog X.w) X.A (.compLoop (.ListComp elt [⟨tg, iter, ifs, 0⟩] scope pos) 0 (.ref it) (.ref D) ce) (compPost (model X.prog X.w) X.A X.xe use Qf (.ref D) s3.heap.objs.size) s4 := by
    refine compLoop_any (fun n s' => ∃ i H', Inv (X.blk s3 H3 scope ce fp) [] (wipe σ (own.map (·.2))) H' s' ∧ tn i s'.heap ∧ (∀ b ∈ fp, H' b = none) ∧ W i n H') ?_ m0 ⟨0, H3, I4, st4, nfp, w0⟩
    rintro n s5 ⟨i, H5, I5, st5, n5, w5⟩
    rcases turn i n H5 w5 with ⟨stop, qq⟩ | ⟨go, Nx, hNx, step⟩
    · have td := T.done (X.blk s3 H3 scope ce fp) rfl rfl rfl hc i [] s5 _ H5 (fun _ _ => False) I5 (stat I5 n5) st5 stop
      refine thnF td fun r s6 ⟨hr, I6⟩ => ?_
      subst hr
      -- back in the def's context
      have I7 : Inv X pins σ H5 s6 := I3.call' (ch := fp) I6.os I6.base I6.hok I6.bare fun b hb => ⟨(f3 b hb).1.2.2.2.1, (f3 b hb).1.2.1, (f3 b hb).1.2.2.2.2.1, (f3 b hb).1.2.2.2.2.2⟩
      have nC : H5 s3.heap.objs.size = none := by
        have z : H5 ce.locals = none := I6.free
        rw [cL] at z
        exact z
      obtain ⟨m, hn, _⟩ := I6.loc
      have hn : s6.heap.Ns ce.locals m := hn
      rw [cL] at hn
      exact hRR D s3.heap.objs.size s6 m H5 I7 qq hn (I3.fpOk (Nat.le_refl _) nC)
    · have ti := T.item (X.blk s3 H3 scope ce fp) rfl rfl rfl hc i [] s5 _ H5 (fun _ _ => False) I5 (stat I5 n5) st5 go
      refine thnF ti fun r s6 ⟨u, hr, h6⟩ => ?_
      subst hr
      refine thnF h6 fun _ s7 ⟨x, H7, I7, r7, y7, st7, n7⟩ => ?_
      have I7' := I7.pinned (stat I7 n7) (T.obj _ _ st7)
      refine thnF (pg _ s7 _ H7 x u _ I7' r7 (step x H7 y7)) fun _ s8 ⟨σ8, H8, I8, hw8, q8⟩ => ?_
      refine thnF (pt _ s8 σ8 H8 _ I8 q8) fun b s9 ⟨H9, I9, q9⟩ => ?_
      -- the turn's end
      have fin : ∀ {s' : Shared} {H' : Hp}, Inv (X.blk s3 H3 scope ce fp) ([] ++ pinsAt fp s7.heap) σ8 H' s' → Nx H' → ∃ m, m < n ∧ ∃ i H', Inv (X.blk s3 H3 scope ce fp) [] (wipe σ (own.map (·.2))) H' s' ∧ tn i s'.heap ∧ (∀ b ∈ fp, H' b = none) ∧ W i m H' := fun {s' H'} I' nx => by
        obtain ⟨m', hm, w'⟩ := hNx H' nx
        have pin' : ∀ b ∈ fp, ∀ o, s7.heap.get? b = some o → s'.heap.get? b = some o ∧ H' b = none := fun b hb o e =>
          let z := I'.pin (b, o) (List.mem_append_right _ (List.mem_append_right _ (mem_pinsAt hb e)))
          ⟨z.1, z.2.1⟩
        have hl : (wipe σ (own.map (·.2))).length = σ8.length := by rw [← hw8, wipe_length]
        refine ⟨m', hm, i + 1, H', (I'.unpinned (pins := [])).weak hl (fun j v e => ?_), T.keep _ _ _ st7 fun b hb o e => (pin' b hb o e).1, fun b hb => ?_, w'⟩
        · rw [← hw8] at e
          exact (wipe_some e).1
        · obtain ⟨o, e, _⟩ := T.obj _ _ st7 b hb
          exact (pin' b hb o e).2
      cases b with
      | false =>
        simp only [Bool.false_eq_true, if_false] at q9 ⊢
        exact fin I9 q9
      | true =>
        simp only [if_true] at q9 ⊢
        refine thnF (pe _ s9 σ8 H9 _ I9 q9) fun z s10 ⟨yv, H10, I10, r10, acc, hD10, hz10, nx⟩ => ?_
        exact app_ok (X := X.blk s3 H3 scope ce fp) I10 hD10 hz10 r10 fun s11 I11 => fin I11 nx
  exact codeAny_compStart_list loop (T.self X.A 0 _ _ _ st4 loop)
theorem pe_lc {elt tg iter : Expr} {ifs : List Expr} {scope : Scope} {own : List (Str × Nat)} {pos : Pos} {wi : TI} {g : TG} {tt : TT} {te : TE} (hc : X.calm = true) (hN : X.N.Nodup) (hi : PI X tg iter wi) (ok : BlkOk X.N X.env.scope scope own)
    (hg : ∀ (s : Shared) (H : Hp) (C : Addr) (cl : List (Str × Addr)) (fp : List Addr), PG (X.blk s H scope (compEnvC scope cl C X.env) fp) tg g) (ht : ∀ (s : Shared) (H : Hp) (C : Addr) (cl : List (Str × Addr)) (fp : List Addr), PTs (X.blk s H scope (compEnvC scope cl C X.env) fp) ifs tt)
    (he : ∀ (s : Shared) (H : Hp) (C : Addr) (cl : List (Str × Addr)) (fp : List Addr), PE (X.blk s H scope (compEnvC scope cl C X.env) fp) elt te) (hs : ∀ x, foldedSetIterable iter X.env x = pure x := by intro _; rfl) :
    PE X (.ListComp elt [⟨tg, iter, ifs, 0⟩] scope pos) (tLc wi g tt te (own.map (·.2))) := by
  intro pins s σ H Q I h
  rw [eval_ListComp]
  refine lc_core hc hN I hi ok hg ht he hs h fun D C s' m H' I' q hn f => ⟨m, hn, fun h'' sb => ?_⟩
  obtain ⟨f0, f1, f2, f3, f4, f5⟩ := f
  exact ⟨.ref D, H', I'.turned (t' := s'.toks) (fun b o hb e => (sb.2 b hb).trans e) f0 f1 f3 f4 f5, rfl, q⟩
end
theorem lc_list {K : PySem.W.Frag} {a : Addr} {xs : List V} {g : TG} {tt : TT} {te : TE} {vs : List Nat} {σ : St} {H1 : Hp} {D : Addr} {Qd : Hp → Prop} (Pv : Nat → Hp → Prop) (h0 : Pv 0 (upd H1 D (.lst []))) (hl : ∀ i H, i ≤ xs.length → Pv i H → SqL K H a xs)
    (hs : ∀ i x H, xs[i]? = some x → Pv i H → g x (wipe σ vs) H fun σ2 H2 => wipe σ2 vs = wipe σ vs ∧ tt σ2 H2 fun b H3 =>
      if b = true then te σ2 H3 fun y H4 => ∃ acc, H4 D = some (.lst acc) ∧ acc.length < sizeLine ∧ Pv (i + 1) (upd H4 D (.lst (acc ++ [y]))) else Pv (i + 1) H3) (hd : ∀ H, Pv xs.length H → Qd H) :
    ∃ W : Nat → Nat → Hp → Prop, (∃ m, W 0 m (upd H1 D (.lst []))) ∧ ∀ i m H, W i m H →
      ((Itl K a).stop i H ∧ Qd H) ∨ ((Itl K a).go i H ∧ ∃ Nx : Hp → Prop, (∀ H', Nx H' → ∃ m', m' < m ∧ W (i + 1) m' H') ∧ ∀ x H', (Itl K a).yld i H x H' → g x (wipe σ vs) H' fun σ2 H2 => wipe σ2 vs = wipe σ vs ∧ tt σ2 H2 fun b H3 =>
        if b = true then te σ2 H3 fun y H4 => ∃ acc, H4 D = some (.lst acc) ∧ acc.length < sizeLine ∧ Nx (upd H4 D (.lst (acc ++ [y]))) else Nx H3) := by
  refine ⟨fun i m H => m = xs.length - i ∧ i ≤ xs.length ∧ Pv i H, ⟨xs.length, by simp, Nat.zero_le _, h0⟩, ?_⟩
  rintro i m H ⟨rfl, hi, p⟩
  have q := hl i H hi p
  by_cases hlt : i < xs.length
  · refine .inr ⟨⟨xs, xs[i], q, by simp [hlt]⟩, Pv (i + 1), fun H' p' => ⟨xs.length - (i + 1), by omega, rfl, hlt, p'⟩, fun x H' y => ?_⟩
    obtain ⟨e, y⟩ := y
    subst e
    exact hs i x _ (y xs q) p
  · have e : i = xs.length := by omega
    subst e
    exact .inl ⟨⟨xs, q, Nat.le_refl _⟩, hd H p⟩
def blkC (N : List Str) (sc scope : Scope) (own : List (Str × Nat)) : Bool :=
  (match scope.kind with | .function => true | _ => false) && (scope.names.all fun y => decide (scope.names.lookup y.1 = some y.2)) && (own.all fun p => decide (N[p.2]? = some p.1)) &&
    (scope.names.all fun y => match y.2 with
      | .free => (match sc.names.lookup y.1 with | some .cell => true | some .free => true | _ => false)
      | .local => decide (y.1 ∈ own.map (·.1)) || decide (y.1 ∉ N)
      | .cell => decide (y.1 ∈ own.map (·.1)) || decide (y.1 ∉ N)
      | _ => true)
theorem blkOk_by {N : List Str} {sc scope : Scope} {own : List (Str × Nat)} (h : blkC N sc scope own = true) : BlkOk N sc scope own := by
  unfold blkC at h
  simp only [Bool.and_eq_true, List.all_eq_true, decide_eq_true_eq] at h
  obtain ⟨⟨⟨h1, h2⟩, h3⟩, h4⟩ := h
  refine ⟨?_, h2, h3, fun y hy e => ?_, fun y hy e => ?_⟩
  · split at h1
    · assumption
    · cases h1
  · have q := h4 y hy
    simp only [e] at q
    split at q <;> first | exact .inl (by assumption) | exact .inr (by assumption) | cases q
  · have q := h4 y hy
    rcases e with e | e <;> (simp only [e, Bool.or_eq_true, decide_eq_true_eq] at q; exact q)
end L2
namespace L2
open PySem PySem.Spec PyProof.Rows
section
variable {prog : Program} {w : World} {A : Around} {R : Result → Shared → Prop} {s : Shared} {elt t0 i0 t1 i1 : Expr} {ifs0 ifs1 : List Expr} {scope : Scope} {pos : Pos} {it acc : Value} {env : Env}
end
section
variable {X : Cx}
end
end L2
namespace L2
open PySem PySem.Spec PyProof.Rows
section
variable {κ : Type} [DecidableEq κ]
def valV (kvs : List (κ × V)) (k : κ) : Option V := (kvs.find? fun kv => decide (kv.1 = k)).map (·.2)
def putK (kvs : List (κ × V)) (k : κ) (v : V) : List (κ × V) :=
  if (kvs.any fun kv => decide (kv.1 = k)) = true then kvs.map (fun kv => if kv.1 = k then (kv.1, v) else kv) else kvs ++ [(k, v)]
def dropK (kvs : List (κ × V)) (k : κ) : List (κ × V) := kvs.filter fun kv => decide (kv.1 ≠ k)
theorem valV_pos {p : κ × V} {r : List (κ × V)} {k : κ} (e : p.1 = k) : valV (p :: r) k = some p.2 := by simp [valV, List.find?_cons, e]
theorem valV_neg {p : κ × V} {r : List (κ × V)} {k : κ} (e : ¬ p.1 = k) : valV (p :: r) k = valV r k := by simp [valV, List.find?_cons, e]
theorem valV_any (k : κ) : ∀ kvs : List (κ × V), (kvs.any fun kv => decide (kv.1 = k)) = (valV kvs k).isSome
  | [] => rfl
  | p :: r => by
    rw [List.any_cons]
    by_cases e : p.1 = k
    · simp only [valV_pos e, decide_eq_true e, Bool.true_or, Option.isSome_some]
    · rw [valV_neg e, decide_eq_false e, Bool.false_or]; exact valV_any k r
theorem RelO.isSome_eq {o : Option V} {u : Option Value} (r : RelO o u) : o.isSome = u.isSome := by
  cases o with
  | none => cases u with
    | none => rfl
    | some _ => exact (show False from r).elim
  | some _ => cases u with
    | none => exact (show False from r).elim
    | some _ => rfl
theorem RelO.getD {o : Option V} {u : Option Value} {d : V} {d' : Value} (r : RelO o u) (rd : RelV d d') : RelV (o.getD d) (u.getD d') := by
  cases o with
  | none => cases u with
    | none => exact rd
    | some _ => exact (show False from r).elim
  | some _ => cases u with
    | none => exact (show False from r).elim
    | some _ => exact r
theorem KV.val {kvs : List (κ × V)} {vs : List (κ × Value)} (r : KV kvs vs) (k : κ) : RelO (valV kvs k) (valueAt vs k) := by
  unfold KV at r
  induction r with
  | nil => exact True.intro
  | @cons p q ps qs h t ih =>
    obtain ⟨h1, h2⟩ := h
    by_cases e : p.1 = k
    · have e' : q.1 = k := h1.symm.trans e
      have b : valueAt (q :: qs) k = some q.2 := by simp [valueAt, List.find?_cons, e']
      rw [valV_pos e, b]; exact h2
    · have e' : ¬ q.1 = k := fun z => e (h1.trans z)
      have b : valueAt (q :: qs) k = valueAt qs k := by simp [valueAt, List.find?_cons, e']
      rw [valV_neg e, b]; exact ih
theorem KV.any {kvs : List (κ × V)} {vs : List (κ × Value)} (r : KV kvs vs) (k : κ) : (kvs.any fun kv => decide (kv.1 = k)) = vs.any fun kv => decide (kv.1 = k) := by
  unfold KV at r
  induction r with
  | nil => rfl
  | cons h t ih => rw [List.any_cons, List.any_cons, ih, h.1]
theorem KV.repl {kvs : List (κ × V)} {vs : List (κ × Value)} (r : KV kvs vs) (k : κ) {y : V} {u : Value} (ry : RelV y u) :
    KV (kvs.map fun kv => if kv.1 = k then (kv.1, y) else kv) (vs.map fun kv => if kv.1 = k then (kv.1, u) else kv) := by
  unfold KV at r ⊢
  induction r with
  | nil => exact .nil
  | @cons p q ps qs h t ih =>
    rw [List.map_cons, List.map_cons]
    refine .cons ?_ ih
    obtain ⟨h1, h2⟩ := h
    by_cases e : p.1 = k
    · rw [if_pos e, if_pos (h1.symm.trans e)]; exact ⟨h1, ry⟩
    · rw [if_neg e, if_neg (fun z => e (h1.trans z))]; exact ⟨h1, h2⟩
theorem KV.put {kvs : List (κ × V)} {vs : List (κ × Value)} (r : KV kvs vs) (k : κ) {y : V} {u : Value} (ry : RelV y u) : KV (putK kvs k y) (stored vs k u) := by
  unfold putK stored
  rw [r.any k]
  by_cases e : (vs.any fun kv => decide (kv.1 = k)) = true
  · rw [if_pos e, if_pos e]; exact r.repl k ry
  · rw [if_neg e, if_neg e]; exact Paired.snoc r ⟨rfl, ry⟩
theorem KV.drop {kvs : List (κ × V)} {vs : List (κ × Value)} (r : KV kvs vs) (k : κ) : KV (dropK kvs k) (without vs k) := by
  unfold KV at r ⊢
  unfold dropK without
  induction r with
  | nil => exact .nil
  | @cons p q ps qs h t ih =>
    obtain ⟨h1, h2⟩ := h
    rw [List.filter_cons, List.filter_cons]
    by_cases e : p.1 = k
    · have a : ¬ decide (p.1 ≠ k) = true := by simp [e]
      have b : ¬ decide (q.1 ≠ k) = true := by simp [h1.symm.trans e]
      rw [if_neg a, if_neg b]; exact ih
    · have e' : ¬ q.1 = k := fun z => e (h1.trans z)
      have a : decide (p.1 ≠ k) = true := by simp [e]
      have b : decide (q.1 ≠ k) = true := by simp [e']
      rw [if_pos a, if_pos b]; exact .cons ⟨h1, h2⟩ ih
theorem KV.keys {kvs : List (κ × V)} {vs : List (κ × Value)} (r : KV kvs vs) : kvs.map (·.1) = vs.map (·.1) := by
  unfold KV at r
  induction r with
  | nil => rfl
  | cons h t ih => rw [List.map_cons, List.map_cons, ih, h.1]
theorem KV.length {kvs : List (κ × V)} {vs : List (κ × Value)} (r : KV kvs vs) : kvs.length = vs.length := Paired.length r
end
abbrev KT (H : Hp) : List (List Key × V) → List (List Key × Addr × Value) → Prop := Paired fun p q => p.1 = q.1 ∧ H q.2.1 = some (.tup (p.1.map kV)) ∧ RelV p.2 q.2.2
theorem KT.val {H : Hp} {kvs : List (List Key × V)} {xs : List (List Key × Addr × Value)} (r : KT H kvs xs) (k : List Key) : RelO (valV kvs k) ((atKey xs k).map (·.2)) := by
  induction r with
  | nil => exact True.intro
  | @cons p q ps qs h t ih =>
    obtain ⟨h1, _, h2⟩ := h
    by_cases e : p.1 = k
    · have e' : q.1 = k := h1.symm.trans e
      have b : atKey (q :: qs) k = some q.2 := by simp [atKey, List.find?_cons, e']
      rw [valV_pos e, b]; exact h2
    · have e' : ¬ q.1 = k := fun z => e (h1.trans z)
      have b : atKey (q :: qs) k = atKey qs k := by simp [atKey, List.find?_cons, e']
      rw [valV_neg e, b]; exact ih
theorem KT.repl {H : Hp} {kvs : List (List Key × V)} {xs : List (List Key × Addr × Value)} (r : KT H kvs xs) (k : List Key) {y : V} {u : Value} (ry : RelV y u) :
    KT H (kvs.map fun kv => if kv.1 = k then (kv.1, y) else kv) (xs.map (putAt k u)) := by
  induction r with
  | nil => exact .nil
  | @cons p q ps qs h t ih =>
    rw [List.map_cons, List.map_cons]
    refine .cons ?_ ih
    obtain ⟨h1, h2, h3⟩ := h
    unfold putAt
    by_cases e : p.1 = k
    · rw [if_pos e, if_pos (h1.symm.trans e)]; exact ⟨h1, h2, ry⟩
    · rw [if_neg e, if_neg (fun z => e (h1.trans z))]; exact ⟨h1, h2, h3⟩
theorem KT.put {H : Hp} {kvs : List (List Key × V)} {xs : List (List Key × Addr × Value)} (r : KT H kvs xs) (k : List Key) {b : Addr} {y : V} {u : Value} (hb : H b = some (.tup (k.map kV))) (ry : RelV y u) :
    KT H (putK kvs k y) (storedH xs k b u) := by
  have e : (kvs.any fun kv => decide (kv.1 = k)) = (atKey xs k).isSome := by
    rw [valV_any, (r.val k).isSome_eq, Option.isSome_map]
  unfold putK storedH
  rw [e]
  by_cases q : (atKey xs k).isSome = true
  · rw [if_pos q, if_pos q]; exact r.repl k ry
  · rw [if_neg q, if_neg q]; exact Paired.snoc r ⟨rfl, hb, ry⟩
theorem KT.keeps {H H' : Hp} {kvs : List (List Key × V)} {xs : List (List Key × Addr × Value)} (r : KT H kvs xs) (ht : ∀ b ys, H b = some (.tup ys) → H' b = some (.tup ys)) : KT H' kvs xs :=
  Paired.mapP r fun _ _ z => ⟨z.1, ht _ _ z.2.1, z.2.2⟩
section
variable {P : Program} {w : World} {H : Hp} {h : Heap} {a : Addr}
end
def DGet (H : Hp) (a : Addr) (y : V) (r : Option V) : Prop :=
  (∃ kvs k, Rd H a (.dK kvs) ∧ y = kV k ∧ r = valV kvs k) ∨ ∃ kvs k b, Rd H a (.dT kvs) ∧ y = .ref b ∧ H b = some (.tup (k.map kV)) ∧ r = valV kvs k
def DPut (H : Hp) (a : Addr) (y v : V) (H' : Hp) : Prop :=
  (∃ kvs k, H a = some (.dK kvs) ∧ y = kV k ∧ kvs.length < sizeLine ∧ H' = upd H a (.dK (putK kvs k v))) ∨
  ∃ kvs k b, H a = some (.dT kvs) ∧ y = .ref b ∧ H b = some (.tup (k.map kV)) ∧ kvs.length < sizeLine ∧ H' = upd H a (.dT (putK kvs k v))
theorem DGet.k {H : Hp} {a : Addr} {kvs : List (Key × V)} {k : Key} (e : H a = some (.dK kvs)) : DGet H a (kV k) (valV kvs k) := .inl ⟨kvs, k, .inl e, rfl, rfl⟩
theorem DGet.t {H : Hp} {a b : Addr} {kvs : List (List Key × V)} {k : List Key} (e : H a = some (.dT kvs)) (eb : H b = some (.tup (k.map kV))) : DGet H a (.ref b) (valV kvs k) := .inr ⟨kvs, k, b, .inl e, rfl, eb, rfl⟩
theorem DPut.k {H : Hp} {a : Addr} {kvs : List (Key × V)} {k : Key} {v : V} (e : H a = some (.dK kvs)) (hl : kvs.length < sizeLine) : DPut H a (kV k) v (upd H a (.dK (putK kvs k v))) := .inl ⟨kvs, k, e, rfl, hl, rfl⟩
theorem DPut.t {H : Hp} {a b : Addr} {kvs : List (List Key × V)} {k : List Key} {v : V} (e : H a = some (.dT kvs)) (eb : H b = some (.tup (k.map kV))) (hl : kvs.length < sizeLine) :
    DPut H a (.ref b) v (upd H a (.dT (putK kvs k v))) := .inr ⟨kvs, k, b, e, rfl, eb, hl, rfl⟩
section
variable {X : Cx} {pins : List (Addr × Obj)} {σ : St} {H : Hp} {s : Shared} {a : Addr} {y v : V} {u r : Value} {o : Option V} {A : Around} {E : Value → Shared → Prop}
end
section
variable {X : Cx} {pins : List (Addr × Obj)} {σ : St} {H : Hp} {s : Shared} {a : Addr} {kvs : List (Key × V)} {k : Key} {u : Value} {A : Around} {E : Value → Shared → Prop}
end
section
variable {X : Cx} {o i e value : Expr} {pos pos' tpos : Pos} {td ty tv : TE}
end
section
variable {X : Cx} {pos : Pos}
end
section
variable {X : Cx} {pins : List (Addr × Obj)} {σ : St} {H : Hp} {s : Shared} {a : Addr} {y d : V} {u r : Value} {o : Option V} {A : Around} {E : Value → Shared → Prop}
end
section
variable {X : Cx} {o e f : Expr} {apos cpos : Pos} {td ty tx : TE}
end
section
variable {X : Cx} {pins : List (Addr × Obj)} {σ : St} {H : Hp} {s : Shared} {a : Addr} {kvs : List (Key × V)} {A : Around} {E : Value → Shared → Prop}
end
section
variable {X : Cx} {pins : List (Addr × Obj)} {σ : St} {H : Hp} {s : Shared} {a : Addr} {y : V} {u : Value} {A : Around} {E : Value → Shared → Prop}
end
end L2
namespace L2
open PySem PySem.Spec PyProof.Rows
section
variable {prog : Program} {w : World} {A : Around} {E : Value → Shared → Prop}
end
section
variable {X : Cx}
end
end L2
namespace L2
open PySem PySem.Spec PyProof.Rows
section
variable {X : Cx} {pins : List (Addr × Obj)} {σ : St} {H : Hp} {s : Shared} {h' : Heap}
theorem Inv.turnedNew {t' : Nat} {ch : List Addr} {T : Addr} {ob : HO} (I : Inv X pins σ H s) (k : ∀ b o, b ∉ ch → s.heap.get? b = some o → h'.get? b = some o) (hf : ∀ b ∈ ch, FpOk X pins H b) (hT : s.heap.objs.size ≤ T)
    (new : ObjOk X.prog X.w (upd H T ob) h' T ob) : Inv X pins σ (upd H T ob) { s with heap := h', toks := t' } := by
  have hn : H T = none := I.hok.fresh hT
  have nit : ∀ b u, H b = some u → b ∉ ch := fun b u e z => by
    have q := (hf b z).1
    rw [q] at e; cases e
  refine I.step (g' := s.gens) (d' := s.drawn) (ch := ch) (fun b hb => ⟨(hf b hb).2.2.2.1, (hf b hb).2.1, (hf b hb).2.2.2.2.1, (hf b hb).2.2.2.2.2⟩) (fun b o _ _ hc e _ => k b o hc e) (fun b o _ _ hc e _ => ⟨o.slots, k b o hc e⟩)
    (fun b o _ e n => ?_) (fun b o hc e => ⟨o, k b o hc e⟩) (fun b xs e => ?_) (fun b o u e => ?_) (fun b ps e => ⟨#[], ?_⟩) (fun m hm => ?_) (fun b u e => ?_) I.bare
  · rw [upd_ne (Nat.ne_of_lt (Nat.lt_of_lt_of_le (Heap.lt_size e) hT))]; exact n
  · rw [upd_ne (ne_of_none e hn)]; exact e
  · rw [upd_ne (ne_of_none e hn)]; exact e
  · rw [upd_ne (ne_of_none e hn), e]; simp
  · obtain ⟨o, es, ep, ho, r⟩ := hm
    exact ⟨o, es, ep, k _ o (fun z => (hf _ z).2.1 rfl) ho, r⟩
  · by_cases hb : b = T
    · subst hb
      rw [upd_same] at e
      cases e
      exact new
    · rw [upd_ne hb] at e
      refine (I.hok b u e).stay (fun c v hc q => k c v ?_ q) (fun c q => by rw [upd_ne (ne_of_none q hn)]; exact q) fun c xs q => by rw [upd_ne (ne_of_none q hn)]; exact q
      rcases hc with z | z
      · rw [z]; exact nit b u e
      · exact nit c _ z
end
section
variable {X : Cx}
theorem pi_one {tg : Expr} {pins : List (Addr × Obj)} {σ : St} {H : Hp} {s : Shared} {R : It → Hp → Prop} {J : It} {tn : Nat → Heap → Prop} {tk : Nat} (I : Inv X pins σ H s) (o : Obj)
    (T : Turn X.prog X.w X.K tg J [s.heap.objs.size] s.heap.objs.size tn) (st : tn 0 (s.heap.push o)) (q : R J H) : PIE X pins σ tg R (.ref s.heap.objs.size) { s with heap := s.heap.push o, toks := tk } := by
  refine ⟨s.heap.objs.size, [s.heap.objs.size], tn, J, H, rfl, I.kept fun b ob e => Heap.get?_push_of_some _ e, T, st, fun b hb => ?_, q⟩
  have e : b = s.heap.objs.size := by simpa using hb
  subst e
  exact I.fpOk (Nat.le_refl _) (I.hok.fresh (Nat.le_refl _))
end
def Itc (lo c : Int) (n : Nat) : It := ⟨fun i _ => i < n, fun i H x H' => H' = H ∧ x = .int (lo + (i : Nat) * c), fun i _ => n ≤ i⟩
theorem turn_rangeC {P : Program} {w : World} {K : PySem.W.Frag} {tg : Expr} (it : Addr) (lo c : Int) (n : Nat) : Turn P w K tg (Itc lo c n) [it] it (fun i h => IsRangeIter h it (lo + (i : Nat) * c) ((n : Int) - (i : Nat)) c) where
  mem := by simp
  obj := fun i h st b hb => by
    have e : b = it := by simpa using hb
    subst e
    exact ⟨_, st, fun v z => nomatch z⟩
  keep := fun i h h' st k => k it (by simp) _ st
  item := by
    intro X hP hw hK hc i pins s σ H E I hf st hg
    subst hP hw hK
    obtain ⟨f0, f1, f2, f3, f4, f5⟩ := hf it (by simp)
    have W := Walks.range (prog := X.prog) (w := X.w) (I.ok.hd hc) it lo c n
    refine W.item i s _ _ hg st fun v h' tk hv st' kk => ?_
    obtain ⟨t, rfl⟩ := hv
    have I1 : Inv X pins σ H { s with heap := h', toks := tk } := I.turned (fun b o hb e => kk b o (by simpa using hb) e) f0 f1 f3 f4 f5
    exact ⟨_, rfl, go_of (s := { s with heap := h', toks := tk }) (n := "range_iterator") st' rfl rfl (by decide) ⟨.int (lo + (i : Nat) * c), H, I1, ⟨t, rfl⟩, ⟨rfl, rfl⟩, st', fun b hb => (hf b hb).1⟩⟩
  done := by
    intro X hP hw hK hc i pins s σ H E I hf st hg
    subst hP hw hK
    obtain ⟨f0, f1, f2, f3, f4, f5⟩ := hf it (by simp)
    exact wpAny_pyNext_range_end (I.ok.hd hc) st (by have : n ≤ i := hg; omega) fun h' eb => ⟨rfl, I.turned (t' := s.toks) (fun b o hb e => eb b o hb e) f0 f1 f3 f4 f5⟩
  self := fun A i s Q E st h => wpAny_pyIter_rangeiter st h
def RgC (i j c : Int) (n : Nat) : Prop := c ≠ 0 ∧ c.natAbs < 1073741824 ∧ Builtin.Range.small i j c = true ∧ Builtin.Range.rangeSize i j c = n
theorem RgC.neg {i j : Int} (ha : -(2 ^ 62) ≤ i) (ha' : i < 2 ^ 62) (hb : -(2 ^ 62) ≤ j) (hb' : j < 2 ^ 62) : RgC i j (-1) (i - j).toNat :=
  ⟨by decide, by decide, PySem.W.small_down ha ha' hb hb', PySem.W.rangeSize_downNat i j⟩
def iRng3 (ta : TA) : TI := fun σ H R => ta σ H fun vs H1 => ∃ (i j c : Int) (n : Nat), vs = [.int i, .int j, .int c] ∧ RgC i j c n ∧ R (Itc i c n) H1
section
variable {X : Cx} {tg : Expr}
theorem pi_range3 {a b c : Expr} {ta : TA} {p pos : Pos} (hg : Gl X "range") (hm : X.mg "range" = none) (ha : PA X [a, b, c] ta)
    (hs : starEach [a, b, c] X.env = (false, eval a X.env) :: starEach [b, c] X.env := by rfl) (hpl : (backTo pos (starEach [b, c] X.env)).any (·.1) = false := by rfl) :
    PI X tg (.Call (.Name "range" p) [a, b, c] [] pos) (iRng3 ta) := by
  intro pins s σ H R I h
  refine Call_ (ld_blt I hg hm boot_range (PyProof.Rows.callWith_type1 (thn (ha pos pins s σ H _ I h) fun us s1 ⟨vs, H1, I1, r1, q1⟩ => ?_) hs hpl))
  obtain ⟨i, j, k, n, e, ⟨c0, c1, c2, c3⟩, q⟩ := q1
  subst e
  cases r1 with
  | cons r rr =>
    cases rr with
    | cons r' rr =>
      cases rr with
      | cons r'' rr =>
        cases rr
        obtain ⟨t, rfl⟩ := r
        obtain ⟨t', rfl⟩ := r'
        obtain ⟨t'', rfl⟩ := r''
        refine call_range_3 c0 ?_ (.inl (PyProof.noPylong_small c1))
        refine wpAny_pyIter_range (IsRange.new ..) c2 ?_
        have I2 : Inv X pins σ H1 { s1 with heap := s1.heap.push { cls := .type "range", data := .fields #[.int i t, .int j t', .int k t''] } } := I1.kept (t' := s1.toks) fun b o e => Heap.get?_push_of_some _ e
        refine pi_one (tk := s1.toks) I2 _ (turn_rangeC _ i k n) ?_ q
        have e1 : i + ((0 : Nat) : Int) * k = i := by simp
        have e2 : (n : Int) - ((0 : Nat) : Int) = Builtin.Range.rangeSize i j k := by rw [c3]; simp
        show IsRangeIter _ _ (i + ((0 : Nat) : Int) * k) ((n : Int) - ((0 : Nat) : Int)) k
        rw [e1, e2]
        exact Heap.get?_push_size _ rfl
end
theorem for_rangeC {lo c : Int} {n : Nat} {g : TG} {tb : TS} {D : Ends} {σ : St} {H : Hp} (Pv : Nat → St → Hp → Prop) (h0 : Pv 0 σ H)
    (hs : ∀ i σ H, i < n → Pv i σ H → g (.int (lo + (i : Nat) * c)) σ H fun σ2 H2 => tb { D with nx := Pv (i + 1), ct := Pv (i + 1), bk := D.nx } σ2 H2) (hd : ∀ σ H, Pv n σ H → D.nx σ H) :
    ∃ W : Nat → Nat → St → Hp → Prop, (∃ m, W 0 m σ H) ∧ ∀ i m σ H, W i m σ H →
      ((Itc lo c n).stop i H ∧ D.nx σ H) ∨ ((Itc lo c n).go i H ∧ ∃ N : St → Hp → Prop, (∀ σ' H', N σ' H' → ∃ m', m' < m ∧ W (i + 1) m' σ' H') ∧ ∀ x H', (Itc lo c n).yld i H x H' → g x σ H' fun σ2 H2 => tb { D with nx := N, ct := N, bk := D.nx } σ2 H2) := by
  refine ⟨fun i m σ H => m = n - i ∧ i ≤ n ∧ Pv i σ H, ⟨n, by simp, Nat.zero_le _, h0⟩, ?_⟩
  rintro i m σ H ⟨rfl, hi, p⟩
  by_cases hlt : i < n
  · refine .inr ⟨hlt, Pv (i + 1), fun σ' H' p' => ⟨n - (i + 1), by omega, rfl, hlt, p'⟩, fun x H' y => ?_⟩
    obtain ⟨e, y⟩ := y
    subst e y
    exact hs i σ _ hlt p
  · have e : i = n := by omega
    subst e
    exact .inl ⟨Nat.le_refl _, hd σ H p⟩
section
variable {X : Cx} {tg : Expr}
end
section
variable {prog : Program} {w : World} {A : Around} {E : Value → Shared → Prop} {s : Shared}
end
section
variable {X : Cx} {pins : List (Addr × Obj)} {σ : St} {H : Hp} {s : Shared} {d : Addr} {o : Obj}
end
section
variable {P : Program} {w : World} {K : PySem.W.Frag} {tg : Expr} {d : Addr} {o : Obj} {es : Array DictEntry} {ep : Nat}
end
section
variable {X : Cx} {tg e : Expr} {td : TE} {apos cpos : Pos}
end
def Ite (K : PySem.W.Frag) (a : Addr) : It :=
  ⟨fun i H => ∃ (xs : List V) (x : V), SqL K H a xs ∧ xs[i]? = some x, fun i H v H' => ∃ T x, v = .ref T ∧ H T = none ∧ H' = upd H T (.tup [.int (i : Nat), x]) ∧ ∀ xs, SqL K H a xs → xs[i]? = some x, fun i H => ∃ xs : List V, SqL K H a xs ∧ xs.length ≤ i⟩
theorem turn_enum {P : Program} {w : World} {K : PySem.W.Frag} {elts : List Expr} {kk : Nat} {tpos : Pos} (a e it : Addr) :
    Turn P w K (.Tuple elts kk tpos) (Ite K a) [e, it] e (fun i h => (∃ old, IsEnum h e it ((i : Nat) : Int) old) ∧ h.IsListIter it a i ∧ e ≠ it) where
  mem := by simp
  obj := fun i h st b hb => by
    obtain ⟨⟨old, he⟩, ⟨o, ho, hc, hd⟩, _⟩ := st
    have e' : b = e ∨ b = it := by simpa using hb
    rcases e' with z | z
    · rw [z]; exact ⟨_, he, fun v q => nomatch q⟩
    · rw [z]; exact ⟨o, ho, fun v q => by rw [hd] at q; cases q⟩
  keep := fun i h h' st k => let ⟨⟨old, he⟩, hi, hne⟩ := st; ⟨⟨old, k e (by simp) _ he⟩, hi.at fun o q => k it (by simp) o q, hne⟩
  item := by
    intro X hP hw hK hc i pins s σ H E I hf st hg
    subst hP hw hK
    obtain ⟨⟨old, he⟩, hit, hne⟩ := st
    obtain ⟨xs, x, hq, hx⟩ := hg
    obtain ⟨its, rv, p, hz⟩ := I.list hq
    obtain ⟨u, hu, ru⟩ := rv.get hx
    have hel : e < s.heap.objs.size := Heap.lt_size he
    have hil : it < s.heap.objs.size := by obtain ⟨_, q, _⟩ := hit; exact Heap.lt_size q
    refine wpAny_pyNext_enum_item he hit p.isList (x := u) (by simpa using hu) hne fun h' ho hit' hT hsz hk => ?_
    refine ⟨_, rfl, wpAny_letOwnedTupleGo_enum (s := { s with heap := h', toks := s.toks + 1 }) ho fun h'' he' sb => ?_⟩
    have hT2 : h''.get? s.heap.objs.size = some { cls := .type "tuple", data := .seq #[.int i s.toks, u] } := (sb.2 _ (Nat.ne_of_gt hel)).trans hT
    have new : ObjOk X.prog X.w (upd H s.heap.objs.size (.tup [.int (i : Nat), x])) h'' s.heap.objs.size (.tup [.int (i : Nat), x]) :=
      ⟨by show 2 ≤ sizeLine; decide, [.int i s.toks, u], .cons ⟨_, rfl⟩ (.cons ru .nil), ⟨_, hT2, rfl, _, rfl⟩⟩
    have I1 : Inv X pins σ (upd H s.heap.objs.size (.tup [.int (i : Nat), x])) { s with heap := h'', toks := s.toks + 1 } :=
      I.turnedNew (ch := [e, it]) (fun b ob hb q => (sb.2 b (fun z => hb (by simp [z]))).trans (hk b ob (fun z => hb (by simp [z])) (fun z => hb (by simp [z])) q)) hf (Nat.le_refl _) new
    refine ⟨.ref s.heap.objs.size, _, I1, rfl, ⟨_, x, rfl, I.hok.fresh (Nat.le_refl _), rfl, fun ys hy => by rw [I.list_inj hy hq]; exact hx⟩, ⟨⟨u, ?_⟩, hit'.at fun o q => (sb.2 it (Ne.symm hne)).trans q, hne⟩, fun b hb => ?_⟩
    · have e1 : ((i + 1 : Nat) : Int) = (i : Int) + 1 := by omega
      rw [e1]; exact he'
    · have hb' : b < s.heap.objs.size := by
        have e' : b = e ∨ b = it := by simpa using hb
        rcases e' with z | z
        · rw [z]; exact hel
        · rw [z]; exact hil
      rw [upd_ne (Nat.ne_of_lt hb')]
      exact (hf b hb).1
  done := by
    intro X hP hw hK hc i pins s σ H E I hf st hg
    subst hP hw hK
    obtain ⟨⟨old, he⟩, hit, hne⟩ := st
    obtain ⟨xs, hq, hx⟩ := hg
    obtain ⟨its, rv, p, hz⟩ := I.list hq
    obtain ⟨f0, f1, f2, f3, f4, f5⟩ := hf it (by simp)
    have hl := rv.length
    exact wpAny_pyNext_enum_end (I.ok.hd hc) he hit p.isList (by simp; omega) fun h' eb => ⟨rfl, I.turned (t' := s.toks) (fun b o hb q => eb b o hb q) f0 f1 f3 f4 f5⟩
  self := fun A i s Q E st h => let ⟨⟨_, he⟩, _⟩ := st; wpAny_pyIter_enum he h
def iEnum (K : PySem.W.Frag) (ta : TA) : TI := fun σ H R => ta σ H fun vs H1 => ∃ a xs, vs = [.ref a] ∧ SqL K H1 a xs ∧ R (Ite K a) H1
theorem pi_enum {X : Cx} {e : Expr} {ta : TA} {p pos tpos : Pos} {elts : List Expr} {kk : Nat} (hg : Gl X "enumerate") (hm : X.mg "enumerate" = none) (ha : PA X [e] ta) (hs : starEach [e] X.env = [(false, eval e X.env)] := by rfl) :
    PI X (.Tuple elts kk tpos) (.Call (.Name "enumerate" p) [e] [] pos) (iEnum X.K ta) := by
  intro pins s σ H R I h
  refine Call_ (ld_blt I hg hm boot_enumerate (PyProof.Rows.callWith_type1 (thn (ha pos pins s σ H _ I h) fun us s1 ⟨vs, H1, I1, r1, q1⟩ => ?_) hs rfl))
  obtain ⟨a, xs, ex, hq, q⟩ := q1
  subst ex
  cases r1 with
  | cons r rr =>
    cases rr
    cases r
    obtain ⟨its, rv, p', hz⟩ := I1.list hq
    refine call_enumerate_list p'.isList fun h' he hit hsz hk => wpAny_pyIter_enum he ?_
    have I2 : Inv X pins σ H1 { s1 with heap := h' } := I1.kept (t' := s1.toks) hk
    refine ⟨s1.heap.objs.size + 1, [s1.heap.objs.size + 1, s1.heap.objs.size], _, _, H1, rfl, I2, turn_enum a (s1.heap.objs.size + 1) s1.heap.objs.size, ⟨⟨.none, he⟩, hit, Nat.succ_ne_self _⟩, fun b hb => ?_, q⟩
    have e' : b = s1.heap.objs.size + 1 ∨ b = s1.heap.objs.size := by simpa using hb
    have hle : s1.heap.objs.size ≤ b := by
      rcases e' with z | z
      · rw [z]; exact Nat.le_add_right _ _
      · rw [z]; exact Nat.le_refl _
    exact I1.fpOk hle (I1.hok.fresh hle)
end L2
section 
namespace Bits
open PySem PyProof.Rows
end Bits
end 
section 
namespace TL
open PySem PySem.Builtin PySem.Builtin.Str PySem.StrLaws
abbrev tl (x : Str) : List Nat := x.cps.toList
def pre (S l : List Nat) : Bool := l.take S.length == S
def par (S : List Nat) : List Nat → List Nat → Option (List Nat × List Nat)
  | _, [] => none
  | acc, c :: r => if pre S (c :: r) = true then some (acc, (c :: r).drop S.length) else par S (acc ++ [c]) r
end TL
end 
namespace L2
open PySem PySem.Spec PyProof.Rows
section
variable {X : Cx} {pins : List (Addr × Obj)} {σ : St} {H : Hp} {s : Shared} {Q : VK}
end
section
variable {X : Cx}
end
section
variable {X : Cx} {o e : Expr} {to te : TE}
end
end L2
namespace L2
open PySem PySem.Spec PyProof.Rows
section
variable {X : Cx}
end
end L2
namespace Att
open PySem PySem.W PySem.Calls PyProof.Rows
section
variable {prog : Program} {w : World} {A : Around} {E : Value → Shared → Prop} {s : Shared} {K : Frag}
end
end Att
namespace L2
open PySem PySem.Spec PyProof.Rows
end L2
namespace L2
open PySem PySem.Spec PyProof.Rows
abbrev KOf {K : PySem.W.Frag} {h : Heap} (_ : K.In h) : PySem.W.Frag := K
end L2
namespace L2
open PySem PySem.Spec PyProof.Rows
def inClass (s : Stmt) (j : Nat) : Stmt := match s with
  | .ClassDef _ _ _ body _ _ _ _ _ _ _ => body.getD j (.Pass ⟨0, 0, 0, 0⟩)
  | _ => .Pass ⟨0, 0, 0, 0⟩
def defArgs (s : Stmt) : Arguments := match s with
  | .FunctionDef _ a _ _ _ _ _ _ _ _ => a
  | _ => { posonlyargs := [], args := [], vararg := none, kwonlyargs := [], kw_defaults := [], kwarg := none, defaults := [] }
def defBody (s : Stmt) : List Stmt := match s with
  | .FunctionDef _ _ b _ _ _ _ _ _ _ => b
  | _ => []
def defScope (s : Stmt) : Scope := match s with
  | .FunctionDef _ _ _ _ _ _ sc _ _ _ => sc
  | _ => { kind := .function, names := [], isGenerator := false, isCoroutine := false }
abbrev CX0 : CXT := fun _ _ _ _ _ _ => False
abbrev E0 : XK := fun _ _ _ => False
theorem pass0 {X : Cx} : Passes CX0 X E0 := fun _ _ _ _ _ _ _ h => h.elim
structure Fun (K : PySem.W.Frag) (x qual : Str) (st : Stmt) (f : Addr) (fd : FuncData) : Prop where
  ex : ∃ (oc : Value) (od : Option Addr) (kV doc pm : Value) (an : Option Addr) (cdv ct : Value) (osl : Array (Option Value)),
    fd = PySem.W.fnOf x qual (defArgs st) (defBody st) (defScope st) .none kV doc pm an cdv ct ∧ K.lookup f = some ⟨oc, od, .func fd, osl⟩ ∧ PySem.W.codeIn K cdv qual = true
  kp : PySem.W.keepIn K (.ref f) = true
section
variable {P : Program} {w : World} {K : PySem.W.Frag} {mg : Str → Option Value} {base : Heap}
theorem Fun.ok {x qual : Str} {st : Stmt} {f : Addr} {fd : FuncData} {N ps : List Str} {k : Nat} {sp : Sp} (F : Fun K x qual st f fd) (S : FnScope N ps (defScope st)) (len : ∀ vs H Q E, sp vs H Q E → vs.length = ps.length)
    (hbody : ∀ (cdv : Value) (A : Around) (outer : List Env) (s : Shared) (H : Hp) (vs : List V) (Q : VK) (E : XK), Room k (A.deeper (envOfC qual (defScope st) s.heap.objs.size f cdv)) → sp vs H Q E →
      ∃ t, PSs (cxOf CX0 P w K mg base N qual (defScope st) f cdv A outer s H E).nox (defBody st) t ∧ t { nx := fun _ H' => Q .non H', rt := Q } (start N vs) H) : FnOk P w K mg base CX0 (k + 1) f fd ps sp := by
  obtain ⟨oc, od, kV, doc, pm, an, cdv, ct, osl, rfl, lk, hcd⟩ := F.ex
  refine fn_of lk hcd S len fun A outer s H vs Q E hr hsp => ?_
  obtain ⟨t, h, q⟩ := hbody cdv A outer s H vs Q E hr hsp
  exact ⟨t, h.nox, q⟩
theorem Fun.binds {x qual : Str} {st : Stmt} {f : Addr} {fd : FuncData} {ps : List Str} (F : Fun K x qual st f fd)
    (h : ∀ (kV doc pm : Value) (an : Option Addr) (cdv ct : Value) (us : List Value), us.length = ps.length → bindArgs (PySem.W.fnOf x qual (defArgs st) (defBody st) (defScope st) .none kV doc pm an cdv ct) ⟨us, []⟩ = pure (ps.zip us)) : Binds K fd ps [] := by
  obtain ⟨oc, od, kV, doc, pm, an, cdv, ct, osl, rfl, lk, hcd⟩ := F.ex
  exact .all (h kV doc pm an cdv ct)
theorem fun_mk {x qual : Str} {st : Stmt} {f : Addr} {oc : Value} {od an : Option Addr} {osl : Array (Option Value)} {kV doc pm cdv ct : Value} (l : K.lookup f = some ⟨oc, od, .func (PySem.W.fnOf x qual (defArgs st) (defBody st) (defScope st) .none kV doc pm an cdv ct), osl⟩)
    (c : PySem.W.codeIn K cdv qual = true) (k : PySem.W.keepIn K (.ref f) = true) : Fun K x qual st f (PySem.W.fnOf x qual (defArgs st) (defBody st) (defScope st) .none kV doc pm an cdv ct) := ⟨⟨oc, od, kV, doc, pm, an, cdv, ct, osl, rfl, l, c⟩, k⟩
end
section
variable {X : Cx}
theorem pv (i : Nat) {x : Str} {pos : Pos} (hN : X.N[i]? = some x := by rfl) (hv : Vis X.env.scope x := by first | exact Or.inl rfl | exact Or.inr (Or.inl rfl) | exact Or.inr (Or.inr rfl)) (hd : (x == ("__debug__" : Str)) = false := by decide)
    (hcd : (x == ("__classdict__" : Str)) = false := by decide) : PE X (.Name x pos) (tVar i) := pe_var hN hv hd hcd
end
theorem iteF {A B : Prop} (h : B) : if false = true then A else B := by
  rw [if_neg Bool.false_ne_true]
  exact h
theorem iteT {A B : Prop} (h : A) : if true = true then A else B := by
  rw [if_pos rfl]
  exact h
theorem ite2 {c A B : Prop} [Decidable c] (h1 : c → A) (h2 : ¬ c → B) : if c then A else B := by
  by_cases h : c
  · rw [if_pos h]
    exact h1 h
  · rw [if_neg h]
    exact h2 h
def Same (H H' : Hp) : Prop := ∀ b o, H b = some o → H' b = some o
theorem Same.refl (H : Hp) : Same H H := fun _ _ h => h
theorem Same.trans {H H1 H2 : Hp} (a : Same H H1) (b : Same H1 H2) : Same H H2 := fun c o h => b c o (a c o h)
theorem Same.free {H H' : Hp} (e : Same H H') {l : Addr} (h : H' l = Option.none) : H l = Option.none := by
  cases q : H l with
  | none => rfl
  | some o =>
    rw [e l o q] at h
    cases h
theorem Same.seq {K : PySem.W.Frag} {H H' : Hp} {a : Addr} {xs : List V} (e : Same H H') (h : SqL K H a xs) : SqL K H' a xs := by
  rcases h with (h | ⟨o, h⟩) | h
  · exact .inl (.inl (e _ _ h))
  · exact .inl (.inr ⟨o, e _ _ h⟩)
  · exact .inr h
section
variable {κ : Type} [DecidableEq κ]
theorem nd_snoc : ∀ {l : List κ} {k : κ}, l.Nodup → ¬ k ∈ l → (l ++ [k]).Nodup
  | [], k, _, _ => by simp
  | a :: r, k, h, hk => by
    obtain ⟨h1, h2⟩ := List.nodup_cons.mp h
    show (a :: (r ++ [k])).Nodup
    refine List.nodup_cons.mpr ⟨fun m => ?_, nd_snoc h2 fun m => hk (List.mem_cons.mpr (Or.inr m))⟩
    rcases List.mem_append.mp m with q | q
    · exact h1 q
    · exact hk (List.mem_cons.mpr (Or.inl (List.mem_singleton.mp q).symm))
end
theorem nd_ix {α : Type} {l : List α} (hN : l.Nodup) {i j : Nat} {x : α} (a : l[i]? = some x) (b : l[j]? = some x) : i = j := by
  obtain ⟨h1, e1⟩ := List.getElem?_eq_some_iff.mp a
  obtain ⟨h2, e2⟩ := List.getElem?_eq_some_iff.mp b
  exact (List.getElem_inj hN).mp (e1.trans e2.symm)
theorem Same.made {H H1 : Hp} {x dx C : Addr} (nx : H x = Option.none) (nd : H dx = Option.none) (k : ∀ b o, (upd (upd H dx (.own x)) x (.ins C dx [])) b = some o → b ≠ x → H1 b = some o) : Same H H1 := fun b o e =>
  k b o (by rw [upd_ne (ne_of_none e nx), upd_ne (ne_of_none e nd)]; exact e) (ne_of_none e nx)
end L2
section
set_option Elab.async false
set_option linter.all false
set_option maxRecDepth 100000
set_option maxHeartbeats 2000000
namespace L2
open PySem PySem.Spec PyProof.Rows
open PySem.W (WData Codec OpenSpec Well WellAll ReadsW ReadsAllW)
mutual
/-- x stands for the datum d, lists and tuples all the way -/
inductive Dw (K : PySem.W.Frag) (H : Hp) : V → WData → Prop
  | non : Dw K H .non .none
  | bl (b : Bool) : Dw K H (.bl b) (.bool b)
  | int (i : Int) : Dw K H (.int i) (.int i)
  | str (x : Str) : Dw K H (.str x) (.str x)
  | byt (b : Array UInt8) : Dw K H (.byt b) (.bytes b.toList)
  | lst {a : Addr} {xs : List V} {ds : List WData} : SqL K H a xs → DwAll K H xs ds → Dw K H (.ref a) (.list ds)
  | tup {a : Addr} {xs : List V} {ds : List WData} : SqT K H a xs → DwAll K H xs ds → Dw K H (.ref a) (.tuple ds)
inductive DwAll (K : PySem.W.Frag) (H : Hp) : List V → List WData → Prop
  | nil : DwAll K H [] []
  | cons {v : V} {vs : List V} {d : WData} {ds : List WData} : Dw K H v d → DwAll K H vs ds → DwAll K H (v :: vs) (d :: ds)
end
theorem dw_ints {K : PySem.W.Frag} {H : Hp} : ∀ ns : List Int, DwAll K H (ns.map V.int) (ns.map WData.int)
  | [] => .nil
  | n :: r => .cons (.int n) (dw_ints r)
theorem ints_dw {K : PySem.W.Frag} {H : Hp} : ∀ (ns : List Int) (xs : List V), DwAll K H xs (ns.map WData.int) → xs = ns.map V.int
  | [], xs, h => by
    cases h
    rfl
  | n :: r, xs, h => by
    cases h with
    | cons h1 h2 =>
      cases h1
      rw [ints_dw r _ h2] <;> rfl
section
variable {P : Program} {w : World} {K : PySem.W.Frag} {H : Hp} {h : Heap} {R : PySem.W.WRecords} {cl : Str → Option Addr}
theorem sqL_at {a : Addr} {xs : List V} (hok : HOk P w H h) (KX : K.In h) (q : SqL K H a xs) : ∃ (its : List Value) (o : Obj) (n : Nat), Vals xs its ∧ h.get? a = some o ∧ o.cls = .type "list" ∧ o.data = .seq its.toArray n := by
  rcases q with q | ⟨o, its, n, e, hc, _, hd, _, hv⟩
  · obtain ⟨_, its, n, hv, e⟩ := (show ObjOk P w H h a (.lst xs) from q.ok hok)
    exact ⟨its, _, n, hv, e, rfl, rfl⟩
  · exact ⟨its.toList, o, n, hv, KX _ _ e, hc, by simp [hd]⟩
theorem sqT_at {a : Addr} {xs : List V} (hok : HOk P w H h) (KX : K.In h) (q : SqT K H a xs) : ∃ (its : List Value) (o : Obj) (n : Nat), Vals xs its ∧ h.get? a = some o ∧ o.cls = .type "tuple" ∧ o.data = .seq its.toArray n := by
  rcases q with q | ⟨o, its, n, e, hc, hd, _, hv⟩
  · obtain ⟨_, its, hv, o, e, hc, n, hd⟩ := (show ObjOk P w H h a (.tup xs) from q.ok hok)
    exact ⟨its, o, n, hv, e, hc, hd⟩
  · exact ⟨its.toList, o, n, hv, KX _ _ e, hc, by simp [hd]⟩
mutual
theorem Dw.reads (hok : HOk P w H h) (KX : K.In h) : ∀ (d : WData) (v : V) (u : Value), Dw K H v d → RelV v u → ∃ as, ReadsW R cl h u d as
  | .none, _, _, x, r => by
    cases x
    cases r
    exact ⟨_, ReadsW.none⟩
  | .bool b, _, _, x, r => by
    cases x
    cases r
    exact ⟨_, ReadsW.bool b⟩
  | .int i, _, _, x, r => by
    cases x
    obtain ⟨t, rfl⟩ := r
    exact ⟨_, ReadsW.int i t⟩
  | .str s, _, _, x, r => by
    cases x
    obtain ⟨t, rfl⟩ := r
    exact ⟨_, ReadsW.str s t⟩
  | .bytes b, _, _, x, r => by
    cases x
    obtain ⟨t, rfl⟩ := r
    exact ⟨_, ReadsW.bytes _ t⟩
  | .list ds, _, _, x, r => by
    cases x with
    | lst hs ha =>
      cases r
      obtain ⟨its, o, n, rv, ho, hc, hd⟩ := sqL_at hok KX hs
      obtain ⟨as, hr⟩ := Dw.readsAll hok KX ds _ its ha rv
      exact ⟨_, ReadsW.list ho hc hd hr⟩
  | .tuple ds, _, _, x, r => by
    cases x with
    | tup hs ha =>
      cases r
      obtain ⟨its, o, n, rv, ho, hc, hd⟩ := sqT_at hok KX hs
      obtain ⟨as, hr⟩ := Dw.readsAll hok KX ds _ its ha rv
      exact ⟨_, ReadsW.tuple ho hc hd hr⟩
  | .float _, _, _, x, _ => by cases x
  | .dict _, _, _, x, _ => by cases x
  | .bytearray _, _, _, x, _ => by cases x
  | .set _, _, _, x, _ => by cases x
  | .frozenset _, _, _, x, _ => by cases x
  | .obj _ _, _, _, x, _ => by cases x
theorem Dw.readsAll (hok : HOk P w H h) (KX : K.In h) : ∀ (ds : List WData) (vs : List V) (us : List Value), DwAll K H vs ds → Vals vs us → ∃ as, ReadsAllW R cl h us ds as
  | [], _, _, x, r => by
    cases x
    cases r
    exact ⟨_, ReadsAllW.nil⟩
  | d :: ds, _, _, x, r => by
    cases x with
    | cons h1 h2 =>
      cases r with
      | cons r1 r2 =>
        obtain ⟨as, q1⟩ := Dw.reads hok KX d _ _ h1 r1
        obtain ⟨bs, q2⟩ := Dw.readsAll hok KX ds _ _ h2 r2
        exact ⟨_, ReadsAllW.cons q1 q2⟩
end
end
mutual
/-- data that a codec tells -/
def plW : WData → Bool
  | .none => true
  | .bool _ => true
  | .int _ => true
  | .str _ => true
  | .bytes _ => true
  | .list xs => plWs xs
  | .tuple xs => plWs xs
  | _ => false
def plWs : List WData → Bool
  | [] => true
  | x :: r => plW x && plWs r
end
theorem plWs_map {α : Type} {f : α → WData} (h : ∀ a, plW (f a) = true) : ∀ l : List α, plWs (l.map f) = true
  | [] => rfl
  | x :: r => by
    show (plW (f x) && plWs (r.map f)) = true
    rw [h x, plWs_map h r] <;> rfl
theorem pl_enc : ∀ (c : Codec) (a : c.denote), plW (c.enc a) = true
  | .unit, _ => rfl
  | .bool, _ => rfl
  | .int _ _, _ => rfl
  | .nat _ _, _ => rfl
  | .u8, _ => rfl
  | .bytes _ _, _ => rfl
  | .text _ _ _ _, _ => rfl
  | .list _ _ c, a => plWs_map (fun x => pl_enc c x) a
  | .pair c d, a => by
    show (plW (c.enc a.1) && (plW (d.enc a.2) && true)) = true
    rw [pl_enc c a.1, pl_enc d a.2] <;> rfl
  | .triple c d e, a => by
    show (plW (c.enc a.1) && (plW (d.enc a.2.1) && (plW (e.enc a.2.2) && true))) = true
    rw [pl_enc c a.1, pl_enc d a.2.1, pl_enc e a.2.2] <;> rfl
  | .option c, none => rfl
  | .option c, some x => pl_enc c x
theorem pl_encAll : ∀ (cs : List Codec) (a : Codec.denoteAll cs), plWs (Codec.encAll cs a) = true
  | [], _ => rfl
  | c :: cs, a => by
    show (plW (c.enc a.1) && plWs (Codec.encAll cs a.2)) = true
    rw [pl_enc c a.1, pl_encAll cs a.2] <;> rfl
theorem weight_mem : ∀ {xs : List WData} {d : WData}, d ∈ xs → d.weight ≤ WData.weightAll xs
  | [], d, h => absurd h (by simp)
  | x :: r, d, h => by
    show d.weight ≤ x.weight + 1 + WData.weightAll r
    rcases List.mem_cons.mp h with e | m
    · rw [e]
      omega
    · have z := weight_mem m
      omega
def toV : Value → V
  | .none => .non
  | .bool b => .bl b
  | .int i _ => .int i
  | .str x _ => .str x
  | .bytes b _ => .byt b
  | .ref a => .ref a
  | _ => .non
def OkU (A : List Addr) : Value → Prop
  | .none => True
  | .bool _ => True
  | .int _ _ => True
  | .str _ _ => True
  | .bytes _ _ => True
  | .ref a => a ∈ A
  | _ => False
theorem OkU.mono {A B : List Addr} (h : ∀ a ∈ A, a ∈ B) : ∀ {u : Value}, OkU A u → OkU B u := fun {u} x => by
  cases u with
  | ref a => exact h a x
  | none => trivial
  | bool b => trivial
  | int i t => trivial
  | str s t => trivial
  | bytes b t => trivial
  | _ => exact False.elim x
theorem relV_toV {A : List Addr} {u : Value} (x : OkU A u) : RelV (toV u) u := by
  cases u with
  | ref a => rfl
  | none => rfl
  | bool b => rfl
  | int i t => exact ⟨t, rfl⟩
  | str s t => exact ⟨t, rfl⟩
  | bytes b t => exact ⟨t, rfl⟩
  | _ => exact False.elim x
theorem vals_toV {A : List Addr} : ∀ {vs : List Value}, (∀ u ∈ vs, OkU A u) → Vals (vs.map toV) vs
  | [], _ => .nil
  | u :: r, h => .cons (relV_toV (h u (List.mem_cons_self ..))) (vals_toV fun x hx => h x (List.mem_cons_of_mem _ hx))
def ArgOb (h : Heap) (A : List Addr) (a : Addr) : Prop := ∃ vs : List Value, vs.length ≤ sizeLine ∧ (∀ u ∈ vs, OkU A u) ∧
  (h.get? a = some { cls := .type "list", data := .seq vs.toArray } ∨ h.get? a = some { cls := .type "tuple", data := .seq vs.toArray })
theorem ArgOb.mono {h : Heap} {A B : List Addr} {a : Addr} (k : ∀ a ∈ A, a ∈ B) (x : ArgOb h A a) : ArgOb h B a := by
  obtain ⟨vs, h1, h2, h3⟩ := x
  exact ⟨vs, h1, fun u hu => (h2 u hu).mono k, h3⟩
theorem wellAll_len {P : Params} {h : Heap} : ∀ {vs : List Value} {ds : List WData}, WellAll P h vs ds → vs.length = ds.length
  | _, _, .nil => rfl
  | _, _, .cons _ b => by
    show _ + 1 = _ + 1
    rw [wellAll_len b]
theorem well_list {P : Params} {h : Heap} {v : Value} {ds : List WData} (x : Well P h v (.list ds)) : ∃ (a : Addr) (vs : List Value), v = .ref a ∧ h.get? a = some { cls := .type "list", data := .seq vs.toArray } ∧ WellAll P h vs ds := by
  cases x with
  | list ho hall => exact ⟨_, _, rfl, ho, hall⟩
theorem well_tuple {P : Params} {h : Heap} {v : Value} {ds : List WData} (x : Well P h v (.tuple ds)) : ∃ (a : Addr) (vs : List Value), v = .ref a ∧ h.get? a = some { cls := .type "tuple", data := .seq vs.toArray } ∧ WellAll P h vs ds := by
  cases x with
  | tuple ho hall => exact ⟨_, _, rfl, ho, hall⟩
theorem well_cons {P : Params} {h : Heap} {us : List Value} {d : WData} {ds : List WData} (x : WellAll P h us (d :: ds)) : ∃ (v : Value) (vs : List Value), us = v :: vs ∧ Well P h v d ∧ WellAll P h vs ds := by
  cases x with
  | cons a b => exact ⟨_, _, rfl, a, b⟩
theorem line_of {n : Nat} (h : n ≤ 1048576) : n ≤ sizeLine := Nat.le_trans h (by decide)
section
variable {P : Params} {h : Heap}
mutual
theorem area_one : ∀ (d : WData) (v : Value), Well P h v d → plW d = true → d.weight ≤ 1048576 → ∃ A : List Addr, OkU A v ∧ ∀ a ∈ A, ArgOb h A a
  | .none, _, x, _, _ => by
    cases x
    exact ⟨[], trivial, fun a m => absurd m (by simp)⟩
  | .bool b, _, x, _, _ => by
    cases x
    exact ⟨[], trivial, fun a m => absurd m (by simp)⟩
  | .int i, _, x, _, _ => by
    cases x
    exact ⟨[], trivial, fun a m => absurd m (by simp)⟩
  | .str s, _, x, _, _ => by
    cases x
    exact ⟨[], trivial, fun a m => absurd m (by simp)⟩
  | .bytes b, _, x, _, _ => by
    cases x
    exact ⟨[], trivial, fun a m => absurd m (by simp)⟩
  | .list ds, _, x, p, z => by
    obtain ⟨a, vs, rfl, ho, hall⟩ := well_list x
    have z2 : WData.weightAll ds ≤ 1048576 := z
    obtain ⟨A, h1, h2⟩ := area_all ds _ hall p fun d hd => Nat.le_trans (weight_mem hd) z2
    have k : ∀ b ∈ A, b ∈ a :: A := fun b hb => List.mem_cons_of_mem _ hb
    refine ⟨a :: A, List.mem_cons_self .., fun b hb => ?_⟩
    rcases List.mem_cons.mp hb with e | m
    · rw [e]
      exact ⟨vs, line_of (by rw [wellAll_len hall]; exact Nat.le_trans (PySem.W.length_le_weightAllW ds) z2), fun u hu => (h1 u hu).mono k, .inl ho⟩
    · exact (h2 b m).mono k
  | .tuple ds, _, x, p, z => by
    obtain ⟨a, vs, rfl, ho, hall⟩ := well_tuple x
    have z2 : WData.weightAll ds ≤ 1048576 := z
    obtain ⟨A, h1, h2⟩ := area_all ds _ hall p fun d hd => Nat.le_trans (weight_mem hd) z2
    have k : ∀ b ∈ A, b ∈ a :: A := fun b hb => List.mem_cons_of_mem _ hb
    refine ⟨a :: A, List.mem_cons_self .., fun b hb => ?_⟩
    rcases List.mem_cons.mp hb with e | m
    · rw [e]
      exact ⟨vs, line_of (by rw [wellAll_len hall]; exact Nat.le_trans (PySem.W.length_le_weightAllW ds) z2), fun u hu => (h1 u hu).mono k, .inr ho⟩
    · exact (h2 b m).mono k
  | .float _, _, _, p, _ => Bool.noConfusion (show false = true from p)
  | .dict _, _, _, p, _ => Bool.noConfusion (show false = true from p)
  | .bytearray _, _, _, p, _ => Bool.noConfusion (show false = true from p)
  | .set _, _, _, p, _ => Bool.noConfusion (show false = true from p)
  | .frozenset _, _, _, p, _ => Bool.noConfusion (show false = true from p)
  | .obj _ _, _, _, p, _ => Bool.noConfusion (show false = true from p)
theorem area_all : ∀ (ds : List WData) (vs : List Value), WellAll P h vs ds → plWs ds = true → (∀ d ∈ ds, d.weight ≤ 1048576) → ∃ A : List Addr, (∀ u ∈ vs, OkU A u) ∧ ∀ a ∈ A, ArgOb h A a
  | [], _, x, _, _ => by
    cases x
    exact ⟨[], fun u m => absurd m (by simp), fun a m => absurd m (by simp)⟩
  | d :: ds, _, x, p, z => by
    obtain ⟨v, vs, rfl, x1, x2⟩ := well_cons x
    have q : plW d = true ∧ plWs ds = true := Bool.and_eq_true_iff.mp p
    obtain ⟨A, a1, a2⟩ := area_one d v x1 q.1 (z d (List.mem_cons_self ..))
    obtain ⟨B, b1, b2⟩ := area_all ds vs x2 q.2 fun e he => z e (List.mem_cons_of_mem _ he)
    have kA : ∀ b ∈ A, b ∈ A ++ B := fun b hb => List.mem_append.mpr (.inl hb)
    have kB : ∀ b ∈ B, b ∈ A ++ B := fun b hb => List.mem_append.mpr (.inr hb)
    refine ⟨A ++ B, fun u hu => ?_, fun b hb => ?_⟩
    · rcases List.mem_cons.mp hu with e | m
      · rw [e]
        exact a1.mono kA
      · exact (b1 u m).mono kB
    · rcases List.mem_append.mp hb with m | m
      · exact (a2 b m).mono kA
      · exact (b2 b m).mono kB
end
end
def hoOf (o : Obj) : Option HO := match o.data with
  | .seq vs _ => if (o.cls == Value.type "list") = true then some (.frz o (.lst (vs.toList.map toV))) else some (.frz o (.tup (vs.toList.map toV)))
  | _ => none
def argH (K : PySem.W.Frag) (h : Heap) (A : List Addr) : Hp := fun b => if b ∈ A then (if (K.lookup b).isNone = true then (h.get? b).bind hoOf else none) else none
def OnlyF (H : Hp) : Prop := ∀ b, H b = none ∨ ∃ o u, H b = some (.frz o u)
theorem hoOf_lst (vs : List Value) : hoOf { cls := .type "list", data := .seq vs.toArray } = some (.frz { cls := .type "list", data := .seq vs.toArray } (.lst (vs.map toV))) := by
  show (if (Value.type "list" == Value.type "list") = true then some (HO.frz { cls := .type "list", data := .seq vs.toArray } (.lst (vs.toArray.toList.map toV))) else some (HO.frz { cls := .type "list", data := .seq vs.toArray } (.tup (vs.toArray.toList.map toV)))) = _
  rw [if_pos (beq_self_eq_true _)]
theorem hoOf_tup (vs : List Value) : hoOf { cls := .type "tuple", data := .seq vs.toArray } = some (.frz { cls := .type "tuple", data := .seq vs.toArray } (.tup (vs.map toV))) := by
  show (if (Value.type "tuple" == Value.type "list") = true then some (HO.frz { cls := .type "tuple", data := .seq vs.toArray } (.lst (vs.toArray.toList.map toV))) else some (HO.frz { cls := .type "tuple", data := .seq vs.toArray } (.tup (vs.toArray.toList.map toV)))) = _
  rw [if_neg (by decide)]
section
variable {P : Program} {w : World} {K : PySem.W.Frag} {h : Heap} {A : List Addr}
theorem argH_at {b : Addr} {o : Obj} (hb : b ∈ A) (hk : K.lookup b = none) (e : h.get? b = some o) : argH K h A b = hoOf o := by
  unfold argH
  rw [if_pos hb, hk, if_pos (show (none : Option Obj).isNone = true from rfl), e] <;> rfl
theorem of_argH {b : Addr} {u : HO} (q : argH K h A b = some u) : b ∈ A ∧ K.lookup b = none := by
  unfold argH at q
  by_cases hb : b ∈ A
  · rw [if_pos hb] at q
    cases hk : K.lookup b with
    | none => exact ⟨hb, rfl⟩
    | some o =>
      rw [hk, if_neg (by simp)] at q
      cases q
  · rw [if_neg hb] at q
    cases q
theorem argH_is (ar : ∀ a ∈ A, ArgOb h A a) {b : Addr} {u : HO} (q : argH K h A b = some u) : K.lookup b = none ∧ ∃ vs : List Value, vs.length ≤ sizeLine ∧ (∀ u ∈ vs, OkU A u) ∧
    ((h.get? b = some { cls := .type "list", data := .seq vs.toArray } ∧ u = .frz { cls := .type "list", data := .seq vs.toArray } (.lst (vs.map toV))) ∨
     (h.get? b = some { cls := .type "tuple", data := .seq vs.toArray } ∧ u = .frz { cls := .type "tuple", data := .seq vs.toArray } (.tup (vs.map toV)))) := by
  obtain ⟨hb, hk⟩ := of_argH q
  obtain ⟨vs, h1, h2, h3⟩ := ar b hb
  refine ⟨hk, vs, h1, h2, ?_⟩
  rcases h3 with e | e
  · rw [argH_at hb hk e, hoOf_lst] at q
    exact .inl ⟨e, (Option.some.inj q).symm⟩
  · rw [argH_at hb hk e, hoOf_tup] at q
    exact .inr ⟨e, (Option.some.inj q).symm⟩
theorem argH_only (ar : ∀ a ∈ A, ArgOb h A a) : OnlyF (argH K h A) := fun b => by
  cases q : argH K h A b with
  | none => exact .inl rfl
  | some u =>
    obtain ⟨_, vs, _, _, ⟨_, e⟩ | ⟨_, e⟩⟩ := argH_is ar q
    · exact .inr ⟨_, _, by rw [e]⟩
    · exact .inr ⟨_, _, by rw [e]⟩
theorem argH_ok (ar : ∀ a ∈ A, ArgOb h A a) : HOk P w (argH K h A) h := fun b u q => by
  obtain ⟨_, vs, h1, h2, ⟨e, rfl⟩ | ⟨e, rfl⟩⟩ := argH_is ar q
  · exact ⟨e, by rw [List.length_map]; exact h1, vs, _, vals_toV h2, e⟩
  · exact ⟨e, by rw [List.length_map]; exact h1, vs, vals_toV h2, _, e, rfl, _, rfl⟩
theorem seq_inj {c c' : Value} {vs us : List Value} (e : (some { cls := c, data := .seq vs.toArray } : Option Obj) = some { cls := c', data := .seq us.toArray }) : c = c' ∧ vs = us := by
  have e1 := Option.some.inj e
  have e2 : c = c' := congrArg Obj.cls e1
  have e3 : Data.seq vs.toArray = Data.seq us.toArray := congrArg Obj.data e1
  injection e3 with e4
  refine ⟨e2, ?_⟩
  have e5 := congrArg Array.toList e4
  simpa using e5
theorem argL (KX : K.In h) (ar : ∀ a ∈ A, ArgOb h A a) {a : Addr} {vs : List Value} (ha : a ∈ A) (e : h.get? a = some { cls := .type "list", data := .seq vs.toArray }) : (∀ u ∈ vs, OkU A u) ∧ SqL K (argH K h A) a (vs.map toV) := by
  obtain ⟨us, h1, h2, h3⟩ := ar a ha
  have hu : us = vs := by
    rcases h3 with q | q
    · rw [e] at q
      exact (seq_inj q).2.symm
    · rw [e] at q
      exact absurd (Value.type.inj (seq_inj q).1) (by decide)
  subst hu
  refine ⟨h2, ?_⟩
  cases hk : K.lookup a with
  | none => exact .inl (.inr ⟨_, by rw [argH_at ha hk e, hoOf_lst]⟩)
  | some o =>
    have e2 := KX a o hk
    rw [e] at e2
    obtain rfl := Option.some.inj e2
    exact .inr ⟨_, us.toArray, _, hk, rfl, rfl, rfl, by rw [List.size_toArray]; exact h1, by simpa using vals_toV h2⟩
theorem argT (KX : K.In h) (ar : ∀ a ∈ A, ArgOb h A a) {a : Addr} {vs : List Value} (ha : a ∈ A) (e : h.get? a = some { cls := .type "tuple", data := .seq vs.toArray }) : (∀ u ∈ vs, OkU A u) ∧ SqT K (argH K h A) a (vs.map toV) := by
  obtain ⟨us, h1, h2, h3⟩ := ar a ha
  have hu : us = vs := by
    rcases h3 with q | q
    · rw [e] at q
      exact absurd (Value.type.inj (seq_inj q).1) (by decide)
    · rw [e] at q
      exact (seq_inj q).2.symm
  subst hu
  refine ⟨h2, ?_⟩
  cases hk : K.lookup a with
  | none => exact .inl (.inr ⟨_, by rw [argH_at ha hk e, hoOf_tup]⟩)
  | some o =>
    have e2 := KX a o hk
    rw [e] at e2
    obtain rfl := Option.some.inj e2
    exact .inr ⟨_, us.toArray, _, hk, rfl, rfl, by rw [List.size_toArray]; exact h1, by simpa using vals_toV h2⟩
mutual
theorem dw_one {Pm : Params} (KX : K.In h) (ar : ∀ a ∈ A, ArgOb h A a) : ∀ (d : WData) (v : Value), Well Pm h v d → plW d = true → OkU A v → Dw K (argH K h A) (toV v) d
  | .none, _, x, _, _ => by
    cases x
    exact .non
  | .bool b, _, x, _, _ => by
    cases x
    exact .bl b
  | .int i, _, x, _, _ => by
    cases x
    exact .int i
  | .str s, _, x, _, _ => by
    cases x
    exact .str s
  | .bytes b, _, x, _, _ => by
    cases x
    have z := Dw.byt (K := K) (H := argH K h A) b.toArray
    exact z
  | .list ds, _, x, p, hu => by
    obtain ⟨a, vs, rfl, ho, hall⟩ := well_list x
    obtain ⟨h2, hs⟩ := argL KX ar hu ho
    exact .lst hs (dw_all KX ar ds _ hall p h2)
  | .tuple ds, _, x, p, hu => by
    obtain ⟨a, vs, rfl, ho, hall⟩ := well_tuple x
    obtain ⟨h2, hs⟩ := argT KX ar hu ho
    exact .tup hs (dw_all KX ar ds _ hall p h2)
  | .float _, _, _, p, _ => Bool.noConfusion (show false = true from p)
  | .dict _, _, _, p, _ => Bool.noConfusion (show false = true from p)
  | .bytearray _, _, _, p, _ => Bool.noConfusion (show false = true from p)
  | .set _, _, _, p, _ => Bool.noConfusion (show false = true from p)
  | .frozenset _, _, _, p, _ => Bool.noConfusion (show false = true from p)
  | .obj _ _, _, _, p, _ => Bool.noConfusion (show false = true from p)
theorem dw_all {Pm : Params} (KX : K.In h) (ar : ∀ a ∈ A, ArgOb h A a) : ∀ (ds : List WData) (vs : List Value), WellAll Pm h vs ds → plWs ds = true → (∀ u ∈ vs, OkU A u) → DwAll K (argH K h A) (vs.map toV) ds
  | [], _, x, _, _ => by
    cases x
    exact .nil
  | d :: ds, _, x, p, hu => by
    obtain ⟨v, vs, rfl, x1, x2⟩ := well_cons x
    have q : plW d = true ∧ plWs ds = true := Bool.and_eq_true_iff.mp p
    exact .cons (dw_one KX ar d v x1 q.1 (hu _ (List.mem_cons_self ..))) (dw_all KX ar ds vs x2 q.2 fun u m => hu u (List.mem_cons_of_mem _ m))
end
end
theorem spec_call {P : Program} {w : World} {K : PySem.W.Frag} {mg mb : Str → Option Value} {CX : CXT} {k : Nat} {fa : Addr} {fd : FuncData} {ps : List Str} {sp : Sp} {s₁ : Shared} {vals : List Value} {ds : List WData} {R : PySem.W.WRecords} {cl : Str → Option Addr} {d0 : WData}
    (KX : K.In s₁.heap) (hns : s₁.heap.Ns mainGlobals mg) (hb : s₁.heap.Ns builtinsNs mb) (hbb : ∀ x : Str, x ≠ "__name__" → mb x = bootBuiltins x) (hlim : s₁.heap.NoLimit) (hg : s₁.gens = #[])
    (hwl : WellAll w.params s₁.heap vals ds) (hpl : plWs ds = true) (hwt : ∀ d ∈ ds, d.weight ≤ 1048576) (hr : Room k callerA)
    (F : ∀ base : Heap, K.In base → base.Ns mainGlobals mg → FnOk P w K mg base CX k fa fd ps sp) (hbind : ∀ (s : Shared) (us : List Value), us.length = ps.length → BindsTo s fd ⟨us, []⟩ (ps.zip us)) (hlen : ds.length = ps.length)
    (hsp : ∀ (H : Hp) (xs : List V), OnlyF H → DwAll K H xs ds → sp xs H (fun v H' => Dw K H' v d0) fun _ _ _ => False)
    (hCX : ∀ H e s', CX [] H s₁ (fun _ _ _ => False) e s' → False) :
    codeAny (model P w) callerA (.call (.ref fa) ⟨vals, []⟩) (fun r s' => ∃ u as, r = .ok (.ret u) ∧ ReadsW R cl s'.heap u d0 as ∧ OldK s₁.heap s'.heap ∧ s'.os = s₁.os ∧ AllBare s'.gens) s₁ := by
  obtain ⟨A, ho, ar⟩ := area_all ds vals hwl hpl hwt
  have hO : OnlyF (argH K s₁.heap A) := argH_only ar
  have hok : HOk P w (argH K s₁.heap A) s₁.heap := argH_ok ar
  have hS := dw_all KX ar ds vals hwl hpl ho
  have hV := vals_toV ho
  have hK : ∀ b u, argH K s₁.heap A b = some u → K.lookup b = none := fun b u q => (argH_is ar q).1
  have noA : ∀ {b : Addr} {o : Obj} {es : Array DictEntry} {ep : Nat}, s₁.heap.get? b = some o → o.data = .dict es ep → argH K s₁.heap A b = none := fun {b o es ep} e d => by
    cases q : argH K s₁.heap A b with
    | none => rfl
    | some u =>
      obtain ⟨_, vs, _, _, ⟨e2, _⟩ | ⟨e2, _⟩⟩ := argH_is ar q
      · rw [e2] at e
        cases e
        have d' : Data.seq vs.toArray _ = Data.dict es ep := d
        cases d'
      · rw [e2] at e
        cases e
        have d' : Data.seq vs.toArray _ = Data.dict es ep := d
        cases d'
  generalize argH K s₁.heap A = H at hO hok hS hK noA
  have base_of : ∀ {b : Addr} {o : Obj}, s₁.heap.get? b = some o → H b = none → (hidT s₁.heap H).get? b = some o := fun e n => hidT_get e n
  have nsK : ∀ {b : Addr} {m : Str → Option Value}, s₁.heap.Ns b m → (hidT s₁.heap H).Ns b m := fun {b m} ⟨o, es, ep, e, d, r⟩ => ⟨o, es, ep, base_of e (noA e d), d, r⟩
  have nK : ∀ b o, K.lookup b = some o → H b = none := fun b o e => by
    cases q : H b with
    | none => rfl
    | some u =>
      rw [hK b u q] at e
      cases e
  have hKb : K.In (hidT s₁.heap H) := fun b o e => base_of (KX b o e) (nK b o e)
  have hM : Mod K mg (hidT s₁.heap H) := ⟨hKb, nsK hns, ⟨mb, nsK hb, hbb⟩, let ⟨mc, h1, h2⟩ := hlim; ⟨mc, nsK h1, h2⟩⟩
  have e0 : Env0 P w K mg (hidT s₁.heap H) callerA [] s₁ H := ⟨rfl, hM, fun b o e => of_hidT e, Nat.le_of_eq (hidT_size _ _), trivial, fun b hb => absurd (show b ∈ ([] : List Addr) from hb) (by simp), hok, .of_eq hg⟩
  have hl : vals.length = ps.length := by rw [wellAll_len hwl]; exact hlen
  refine codeAny_mono ((F _ hKb (nsK hns)).run callerA [] s₁ H ⟨vals, []⟩ vals (vals.map toV) _ _ hr e0 (hbind s₁ vals hl) hV (hsp H _ hO hS)) fun r s' x => ?_
  cases r with
  | error e => exact (hCX H e s' x).elim
  | ok fl =>
    cases fl with
    | next => exact False.elim x
    | brk => exact False.elim x
    | cont => exact False.elim x
    | ret u =>
      obtain ⟨v, H', os, bare, un, hok', r', q⟩ := x
      have kept : ∀ b o, s₁.heap.get? b = some o → s'.heap.get? b = some o := fun b o e => by
        cases q2 : H b with
        | none => exact un.keep b o e q2 (by intro z; exact absurd (show b ∈ ([] : List Addr) from z) (by simp)) (by simp)
        | some u2 =>
          rcases hO b with z | ⟨ob, u3, z⟩
          · rw [q2] at z
            cases z
          · have z2 := un.frzs b ob _ z
            obtain ⟨e1, _⟩ := hok b _ z
            obtain ⟨e2, _⟩ := hok' b _ z2
            rw [e] at e1
            cases e1
            exact e2
      have KX' : K.In s'.heap := fun b o e => kept b o (KX b o e)
      obtain ⟨as, hrd⟩ := Dw.reads (R := R) (cl := cl) hok' KX' d0 v u q r'
      exact ⟨u, as, rfl, hrd, OldK.of_keep kept, os, bare⟩
theorem layable_weight {ds : List WData} (h : WData.layableAll ds = true) : ∀ d ∈ ds, d.weight ≤ 1048576 := fun d hd =>
  (PySem.W.layableW_iff.mp (List.all_eq_true.mp h d hd)).2.2
theorem encAll_len : ∀ (cs : List Codec) (a : Codec.denoteAll cs), (Codec.encAll cs a).length = cs.length
  | [], _ => rfl
  | c :: cs, a => by
    show (Codec.encAll cs a.2).length + 1 = cs.length + 1
    rw [encAll_len cs a.2]
theorem walk_spec {r : OpenSpec} {k : Nat} {q : Program} {loose : List Str} {XP : (Str → Option Value) → Heap → Prop} {YP : World → Heap → Prop} {d : DefRec} {K : Params → PySem.W.Frag} {CX : World → CXT} {ps : List Str} {sp : World → Sp}
    (hwell : r.wellSaid = true) (hdf : d.params.defaults = []) (hlen : r.args.length = ps.length) (hr : Room k callerA)
    (hY : ∀ (w : World) (h : Heap), YP w h → (K w.params).In h)
    (F : ∀ (w : World) (mg : Str → Option Value) (fa : Addr) (h : Heap), YP w h → (K w.params).In h → h.Ns mainGlobals mg → mg d.name = some (.ref fa) →
      ∃ fd : FuncData, (∀ (s : Shared) (us : List Value), us.length = ps.length → BindsTo s fd ⟨us, []⟩ (ps.zip us)) ∧
        ∀ base : Heap, (K w.params).In base → base.Ns mainGlobals mg → FnOk r.prog w (K w.params) mg base (CX w) k fa fd ps (sp w))
    (hsp : ∀ (w : World) (H : Hp) (xs : List V) (a : Codec.denoteAll r.args), OnlyF H → Codec.withinAll r.args a = true → Codec.app r.args r.asked a = true → DwAll (K w.params) H xs (Codec.encAll r.args a) →
      sp w xs H (fun v H' => Dw (K w.params) H' v (r.ret.enc (Codec.app r.args r.f a))) fun _ _ _ => False)
    (hCX : ∀ (w : World) (H : Hp) (s : Shared) (e : Value) (s' : Shared), CX w [] H s (fun _ _ _ => False) e s' → False) :
    PySem.W.WalkOS q loose XP YP r d [] (fun f vs => PySem.call f vs) := by
  intro w s_0 s₁ mg mb G Y fa o pm cd doc dV kV ho hd hcd hD hmg hg args vals as hpre hlay hrd hwl hlo
  obtain ⟨a, e1, e2⟩ := PySem.W.os_pre_some hpre
  obtain ⟨e3, hwi⟩ := Codec.encAll_of_decAll r.args args a e1
  subst e3
  have KX := hY w _ Y
  obtain ⟨fd, hb, hF⟩ := F w mg fa _ Y KX G.T.g hmg
  refine PySem.W.enter_call (codeAny_mono (spec_call (R := []) (cl := classAt s_0.heap) (d0 := r.ret.enc (Codec.app r.args r.f a)) KX G.T.g G.T.b G.T.builtins G.T.nolimit hg hwl (pl_encAll _ _) (layable_weight hlay) hr hF hb (by rw [encAll_len]; exact hlen)
    (fun H xs hO hS => hsp w H xs a hO hwi e2 hS) fun H e s' => hCX w H s₁ e s') fun r' s' hq => ?_)
  obtain ⟨u, as', rfl, h1, h2, h3, h4⟩ := hq
  exact ⟨.inl ⟨u, _, as', rfl, fun _ => rfl, h1, (OpenSpec.post_iff hwell hwi _ _).mpr rfl, fun z => Bool.noConfusion (show false = true from z)⟩, h2, h3, h4⟩
theorem walk_specK {r : OpenSpec} {k : Nat} {q : Program} {loose : List Str} {XP : (Str → Option Value) → Heap → Prop} {YP : World → Heap → Prop} {d : DefRec} {K : Params → PySem.W.Frag} {CX : CXT} {ps : List Str} {sp : PySem.W.Frag → Sp}
    (hwell : r.wellSaid = true) (hdf : d.params.defaults = []) (hlen : r.args.length = ps.length) (hr : Room k callerA)
    (hY : ∀ (w : World) (h : Heap), YP w h → (K w.params).In h)
    (F : ∀ (w : World) (mg : Str → Option Value) (fa : Addr) (h : Heap), YP w h → (K w.params).In h → h.Ns mainGlobals mg → mg d.name = some (.ref fa) →
      ∃ fd : FuncData, (∀ (s : Shared) (us : List Value), us.length = ps.length → BindsTo s fd ⟨us, []⟩ (ps.zip us)) ∧
        ∀ base : Heap, (K w.params).In base → base.Ns mainGlobals mg → FnOk r.prog w (K w.params) mg base CX k fa fd ps (sp (K w.params)))
    (hsp : ∀ (K : PySem.W.Frag) (H : Hp) (xs : List V) (a : Codec.denoteAll r.args), OnlyF H → Codec.withinAll r.args a = true → Codec.app r.args r.asked a = true → DwAll K H xs (Codec.encAll r.args a) →
      sp K xs H (fun v H' => Dw K H' v (r.ret.enc (Codec.app r.args r.f a))) fun _ _ _ => False)
    (hCX : ∀ (H : Hp) (s : Shared) (e : Value) (s' : Shared), CX [] H s (fun _ _ _ => False) e s' → False) :
    PySem.W.WalkOS q loose XP YP r d [] (fun f vs => PySem.call f vs) :=
  walk_spec (K := K) (CX := fun _ => CX) (sp := fun w => sp (K w.params)) hwell hdf hlen hr hY F (fun w H xs a h1 h2 h3 h4 => hsp (K w.params) H xs a h1 h2 h3 h4) fun _ H s e s' => hCX H s e s'
end L2
end

end
section
set_option linter.all false
namespace Mm
open Kp239
/-! ### the row's widths -/
def ws (b : Bench) : List Nat := b.row.map (size b)
def aft (b : Bench) (m d : Nat) : Nat := (dieAt b d).ground + ((dieAt b d).drawn + through b m d) / (dieAt b d).life
def wsA (b : Bench) (m : Nat) : List Nat := b.row.map (aft b m)
def wp (most : Nat) : Nat → List Nat → Option Nat
  | _, [] => none
  | a, c :: l => if step1 most a c then (wp most c l).map (· + 1) else some 0
def lastW (rod : Nat) (l : List Nat) : Nat := match l.getLast? with
  | some d => d
  | none => rod
def holdsW (b : Bench) (l : List Nat) : Bool := (wp b.most b.rod l).isNone && near b (lastW b.rod l)
theorem aft_zero (b : Bench) (d : Nat) : aft b 0 d = size b d := by
  unfold aft through size wide
  rw [Nat.zero_mul, Nat.zero_div, Nat.add_zero]
theorem wsA_zero (b : Bench) : wsA b 0 = ws b := by
  unfold wsA ws
  exact List.map_congr_left fun d _ => aft_zero b d
theorem goes_wp (b : Bench) : ∀ (l : List Nat) (a : Nat), goes b a l = (wp b.most a (l.map (size b))).isNone
  | [], _ => rfl
  | d :: l, a => by
    show (step1 b.most a (size b d) && goes b (size b d) l) = (if step1 b.most a (size b d) then (wp b.most (size b d) (l.map (size b))).map (· + 1) else some 0).isNone
    rw [goes_wp b l]
    cases step1 b.most a (size b d)
    · rfl
    · cases wp b.most (size b d) (l.map (size b)) <;> rfl
theorem lastSize_W (b : Bench) (l : List Nat) : lastSize b l = lastW b.rod (l.map (size b)) := by
  unfold lastSize lastW
  rw [List.getLast?_map]
  cases l.getLast? <;> rfl
theorem holds_W (b : Bench) : holds b = holdsW b (ws b) := by
  unfold holds holdsW ws
  rw [goes_wp, lastSize_W]
/-! ### a state that can come to be -/
structure GoodDie (x : Die) : Prop where
  g1 : 100 ≤ x.ground
  g2 : wide x ≤ 10000
  l1 : 1 ≤ x.life
  l2 : x.life ≤ 100000
structure Good (b : Bench) : Prop where
  r1 : 100 ≤ b.rod
  r2 : b.rod ≤ 10000
  m1 : 1 ≤ b.most
  m2 : b.most ≤ 500
  w1 : 100 ≤ b.want
  w2 : b.want ≤ 10000
  o1 : b.off ≤ 1000
  dn : b.dies.length ≤ 8
  dies : ∀ x ∈ b.dies, GoodDie x
  row : ∀ d ∈ b.row, d < b.dies.length
  nd : b.row.Nodup
theorem dieAt_get {b : Bench} {d : Nat} {x : Die} (h : b.dies[d]? = some x) : dieAt b d = x := by
  unfold dieAt
  rw [List.getD_eq_getElem?_getD, h]
  rfl
theorem dieAt_mem {b : Bench} {d : Nat} (h : d < b.dies.length) : dieAt b d ∈ b.dies := by
  rw [dieAt_get (List.getElem?_eq_getElem h)]
  exact List.getElem_mem h
theorem Good.die {b : Bench} (g : Good b) {d : Nat} (h : d < b.dies.length) : GoodDie (dieAt b d) := g.dies _ (dieAt_mem h)
theorem GoodDie.lo {x : Die} (g : GoodDie x) : 100 ≤ wide x := Nat.le_trans g.g1 (Nat.le_add_right _ _)
theorem Good.slo {b : Bench} (g : Good b) {d : Nat} (h : d < b.dies.length) : 100 ≤ size b d := (g.die h).lo
theorem Good.shi {b : Bench} (g : Good b) {d : Nat} (h : d < b.dies.length) : size b d ≤ 10000 := (g.die h).g2
/-! ### worn -/
theorem worn_get {b : Bench} {m d : Nat} (h : d < b.dies.length) : (worn b m).dies[d]? = some (if b.row.contains d then { dieAt b d with drawn := (dieAt b d).drawn + through b m d } else dieAt b d) := by
  show ((List.range b.dies.length).map _)[d]? = _
  rw [List.getElem?_map, List.getElem?_range h]
  rfl
theorem worn_len (b : Bench) (m : Nat) : (worn b m).dies.length = b.dies.length := by
  show ((List.range b.dies.length).map _).length = _
  rw [List.length_map, List.length_range]
theorem worn_row {b : Bench} {m d : Nat} (h : d < b.dies.length) (hr : d ∈ b.row) : dieAt (worn b m) d = { dieAt b d with drawn := (dieAt b d).drawn + through b m d } := by
  rw [dieAt_get (worn_get h), if_pos (by simpa using hr)]
theorem worn_off {b : Bench} {m d : Nat} (h : d < b.dies.length) (hr : ¬ d ∈ b.row) : dieAt (worn b m) d = dieAt b d := by
  rw [dieAt_get (worn_get h), if_neg (by simpa using hr)]
theorem size_worn {b : Bench} {m d : Nat} (h : d < b.dies.length) (hr : d ∈ b.row) : size (worn b m) d = aft b m d := by
  unfold size
  rw [worn_row h hr]
  rfl
theorem ws_worn {b : Bench} (g : Good b) (m : Nat) : ws (worn b m) = wsA b m := by
  show b.row.map _ = b.row.map _
  exact List.map_congr_left fun d hd => size_worn (g.row d hd) hd
theorem holds_worn {b : Bench} (g : Good b) (m : Nat) : holds (worn b m) = holdsW b (wsA b m) := by
  rw [holds_W, ws_worn g]
  rfl
/-! ### wrong -/
theorem wp_find (most : Nat) : ∀ (l : List Nat) (a : Nat), (List.range l.length).find? (fun k => !step1 most ((a :: l).getD k 0) (l.getD k 0)) = wp most a l
  | [], _ => rfl
  | c :: l, a => by
    rw [List.length_cons, List.range_succ_eq_map, List.find?_cons]
    show (match !step1 most a c with | true => some 0 | false => _) = if step1 most a c then (wp most c l).map (· + 1) else some 0
    cases h : step1 most a c
    · rfl
    · show ((List.range l.length).map Nat.succ).find? _ = (wp most c l).map (· + 1)
      rw [List.find?_map, ← wp_find most l c]
      rfl
theorem before_get {b : Bench} {k : Nat} (h : k < b.row.length) : before b k = (b.rod :: ws b).getD k 0 := by
  unfold before
  cases k with
  | zero => rfl
  | succ k =>
    have hk : k < b.row.length := by omega
    show size b (b.row.getD (k + 1 - 1) 0) = (ws b).getD k 0
    unfold ws
    rw [List.getD_eq_getElem?_getD, List.getD_eq_getElem?_getD, List.getElem?_map, Nat.add_sub_cancel, List.getElem?_eq_getElem hk]
    rfl
theorem ws_get {b : Bench} {k : Nat} (h : k < b.row.length) : size b (b.row.getD k 0) = (ws b).getD k 0 := by
  unfold ws
  rw [List.getD_eq_getElem?_getD, List.getD_eq_getElem?_getD, List.getElem?_map, List.getElem?_eq_getElem h]
  rfl
theorem find_congr {α : Type} {p q : α → Bool} : ∀ {l : List α}, (∀ x ∈ l, p x = q x) → l.find? p = l.find? q
  | [], _ => rfl
  | x :: l, h => by
    rw [List.find?_cons, List.find?_cons, h x (List.mem_cons_self ..), find_congr fun y hy => h y (List.mem_cons_of_mem _ hy)]
theorem wrong_wp (b : Bench) : wrong b = wp b.most b.rod (ws b) := by
  rw [← wp_find]
  show (List.range b.row.length).find? _ = _
  have e : (ws b).length = b.row.length := List.length_map ..
  rw [e]
  exact find_congr fun k hk => by rw [before_get (List.mem_range.mp hk), ws_get (List.mem_range.mp hk)]
/-! ### what comes out -/
theorem out_eq {b : Bench} (g : Good b) (m : Nat) : out b m = m * (b.rod * b.rod) / (lastW b.rod (ws b) * lastW b.rod (ws b)) := by
  unfold out lastW ws
  rw [List.getLast?_map]
  cases b.row.getLast? with
  | none =>
    have h : 0 < b.rod * b.rod := Nat.mul_pos (by have := g.r1; omega) (by have := g.r1; omega)
    exact (Nat.mul_div_cancel m h).symm
  | some d => rfl
theorem wp_none_lt {most : Nat} : ∀ {l : List Nat} {a : Nat}, wp most a l = none → ∀ c ∈ l, c < a
  | [], _, _, _, h => by cases h
  | d :: l, a, h, c, hc => by
    have h' : (if step1 most a d then (wp most d l).map (· + 1) else some 0) = none := h
    cases e : step1 most a d with
    | false => rw [e] at h'; cases h'
    | true =>
      rw [e, if_pos rfl] at h'
      have h2 : wp most d l = none := by
        cases q : wp most d l with
        | none => rfl
        | some z => rw [q] at h'; cases h'
      have hd : d < a := by
        unfold step1 at e
        rw [Bool.and_eq_true] at e
        exact of_decide_eq_true e.1
      rcases List.mem_cons.mp hc with q | q
      · rw [q]; exact hd
      · exact Nat.lt_trans (wp_none_lt h2 c q) hd
theorem holdsW_lt {b : Bench} {l : List Nat} (h : holdsW b l = true) : ∀ c ∈ l, c < b.rod := by
  unfold holdsW at h
  rw [Bool.and_eq_true] at h
  exact wp_none_lt (Option.isNone_iff_eq_none.mp h.1)
/-! ### what a call leaves is good -/
theorem okSize_iff {s : Nat} : okSize s = true ↔ 100 ≤ s ∧ s ≤ 10000 := by
  unfold okSize SIZE
  rw [Bool.and_eq_true, decide_eq_true_eq, decide_eq_true_eq]
theorem Good.worn {b : Bench} (g : Good b) {m : Nat} (h : holds (worn b m) = true) : Good (Kp239.worn b m) := by
  refine ⟨g.r1, g.r2, g.m1, g.m2, g.w1, g.w2, g.o1, by rw [worn_len]; exact g.dn, fun x hx => ?_, fun d hd => by rw [worn_len]; exact g.row d hd, g.nd⟩
  obtain ⟨d, hd⟩ := List.getElem?_of_mem hx
  have hl : d < b.dies.length := by
    have := (List.getElem?_eq_some_iff.mp hd).1
    rwa [worn_len] at this
  have e := dieAt_get hd
  have gd := g.die hl
  by_cases hr : d ∈ b.row
  · rw [worn_row hl hr] at e
    rw [holds_worn g] at h
    have h1 : aft b m d < b.rod := holdsW_lt h _ (List.mem_map.mpr ⟨d, hr, rfl⟩)
    subst e
    refine ⟨gd.g1, ?_, gd.l1, gd.l2⟩
    show aft b m d ≤ 10000
    have := g.r2
    omega
  · rw [worn_off hl hr] at e
    rw [← e]
    exact gd
end Mm

end
section
set_option linter.all false
namespace Mm
open Kp239
theorem rowOf_ok (b : Bench) : ∀ (n a : Nat) (used l : List Nat), rowOf b n a used = some l → (∀ d ∈ l, d < b.dies.length) ∧ l.Nodup ∧ (∀ d ∈ l, ¬ d ∈ used) ∧ l.length = n
  | 0, a, used, l, h => by
    have h' : (if near b a then some [] else none) = some l := h
    cases e : near b a with
    | false => rw [e] at h'; cases h'
    | true =>
      rw [e] at h'
      cases h'
      exact ⟨fun _ q => (by cases q), List.nodup_nil, fun _ q => (by cases q), rfl⟩
  | n + 1, a, used, l, h => by
    have h' : ((List.range b.dies.length).filter fun d => !used.contains d && step1 b.most a (size b d)).findSome? (fun d => (rowOf b n (size b d) (d :: used)).map fun l => d :: l) = some l := h
    obtain ⟨d, hd, hl⟩ := List.exists_of_findSome?_eq_some h'
    obtain ⟨l', h1, h2⟩ := Option.map_eq_some_iff.mp hl
    subst h2
    obtain ⟨hd1, hd2⟩ := List.mem_filter.mp hd
    have hd3 : ¬ d ∈ used := by
      rw [Bool.and_eq_true] at hd2
      simpa using hd2.1
    obtain ⟨i1, i2, i3, i4⟩ := rowOf_ok b n _ _ _ h1
    refine ⟨fun x hx => ?_, List.nodup_cons.mpr ⟨fun m => i3 d m (List.mem_cons_self ..), i2⟩, fun x hx => ?_, by rw [List.length_cons, i4]⟩
    · rcases List.mem_cons.mp hx with q | q
      · rw [q]; exact List.mem_range.mp hd1
      · exact i1 x q
    · rcases List.mem_cons.mp hx with q | q
      · rw [q]; exact hd3
      · exact fun m => i3 x q (List.mem_cons_of_mem _ m)
theorem fewest_ok {b : Bench} {l : List Nat} (h : fewest b = some l) : (∀ d ∈ l, d < b.dies.length) ∧ l.Nodup ∧ l.length ≤ b.dies.length := by
  unfold fewest at h
  obtain ⟨n, hn, hl⟩ := List.exists_of_findSome?_eq_some h
  obtain ⟨i1, i2, _, i4⟩ := rowOf_ok b n _ _ _ hl
  exact ⟨i1, i2, by have := List.mem_range.mp hn; omega⟩
def GoodS (s : State) : Prop := ∀ b, s = some b → Good b
theorem nd_snoc {l : List Nat} {k : Nat} (h : l.Nodup) (hk : ¬ k ∈ l) : (l ++ [k]).Nodup := by
  rw [List.nodup_append]
  exact ⟨h, by simp, fun a ha b hb e => hk (by rw [List.mem_singleton.mp hb] at e; rw [← e]; exact ha)⟩
theorem Good.rod {b : Bench} (g : Good b) {r : Nat} (h : okSize r = true) : Good { b with rod := r } :=
  ⟨(okSize_iff.mp h).1, (okSize_iff.mp h).2, g.m1, g.m2, g.w1, g.w2, g.o1, g.dn, g.dies, g.row, g.nd⟩
theorem Good.want {b : Bench} (g : Good b) {w o : Nat} (h : okSize w = true) (ho : ¬ 1000 < o) : Good { b with want := w, off := o } :=
  ⟨g.r1, g.r2, g.m1, g.m2, (okSize_iff.mp h).1, (okSize_iff.mp h).2, (by show o ≤ 1000; omega), g.dn, g.dies, g.row, g.nd⟩
theorem Good.withRow {b : Bench} (g : Good b) {l : List Nat} (h : ∀ d ∈ l, d < b.dies.length) (hn : l.Nodup) : Good { b with row := l } :=
  ⟨g.r1, g.r2, g.m1, g.m2, g.w1, g.w2, g.o1, g.dn, g.dies, h, hn⟩
theorem Good.addDie {b : Bench} (g : Good b) {z l : Nat} (hz : okSize z = true) (h1 : ¬ l = 0) (h2 : ¬ 100000 < l) (hn : ¬ DIES ≤ b.dies.length) : Good { b with dies := b.dies ++ [⟨z, l, 0⟩] } := by
  refine ⟨g.r1, g.r2, g.m1, g.m2, g.w1, g.w2, g.o1, ?_, fun x hx => ?_, fun d hd => ?_, g.nd⟩
  · unfold DIES at hn
    show (b.dies ++ [_]).length ≤ 8
    rw [List.length_append, List.length_singleton]
    omega
  · rcases List.mem_append.mp hx with q | q
    · exact g.dies x q
    · rw [List.mem_singleton.mp q]
      refine ⟨(okSize_iff.mp hz).1, ?_, by show 1 ≤ l; omega, by show l ≤ 100000; omega⟩
      show z + 0 / l ≤ 10000
      rw [Nat.zero_div]
      exact (okSize_iff.mp hz).2
  · show d < (b.dies ++ [_]).length
    rw [List.length_append]
    exact Nat.lt_of_lt_of_le (g.row d hd) (Nat.le_add_right _ _)
theorem Good.ground {b : Bench} (g : Good b) {d z : Nat} (hd : d < b.dies.length) (hz : okSize z = true) : Good { b with dies := b.dies.set d { dieAt b d with ground := z, drawn := 0 } } := by
  have gd := g.die hd
  refine ⟨g.r1, g.r2, g.m1, g.m2, g.w1, g.w2, g.o1, ?_, fun x hx => ?_, fun e he => ?_, g.nd⟩
  · show (b.dies.set d _).length ≤ 8
    rw [List.length_set]
    exact g.dn
  · rcases List.mem_or_eq_of_mem_set hx with q | q
    · exact g.dies x q
    · rw [q]
      refine ⟨(okSize_iff.mp hz).1, ?_, gd.l1, gd.l2⟩
      show z + 0 / (dieAt b d).life ≤ 10000
      rw [Nat.zero_div]
      exact (okSize_iff.mp hz).2
  · show e < (b.dies.set d _).length
    rw [List.length_set]
    exact g.row e he
theorem nd_le {l : List Nat} {n : Nat} (h : l.Nodup) (hl : ∀ d ∈ l, d < n) : l.length ≤ n := by
  have e : l.Subset (List.range n) := fun d hd => List.mem_range.mpr (hl d hd)
  have := h.length_le_of_subset e
  rwa [List.length_range] at this
/-! ### one call leaves a good state -/
theorem begin_ok {r m w o : Nat} (h : ¬ (okSize r = false ∨ m = 0 ∨ 500 < m ∨ okSize w = false ∨ 1000 < o)) : Good ⟨r, m, [], [], w, o, 0⟩ := by
  have a1 : okSize r = true := by cases e : okSize r <;> simp_all
  have a2 : okSize w = true := by cases e : okSize w <;> simp_all
  have b1 : ¬ m = 0 := fun e => h (.inr (.inl e))
  have b2 : ¬ 500 < m := fun e => h (.inr (.inr (.inl e)))
  have b3 : ¬ 1000 < o := fun e => h (.inr (.inr (.inr (.inr e))))
  refine ⟨(okSize_iff.mp a1).1, (okSize_iff.mp a1).2, by show 1 ≤ m; omega, by show m ≤ 500; omega, (okSize_iff.mp a2).1, (okSize_iff.mp a2).2, by show o ≤ 1000; omega, Nat.zero_le _, fun _ q => (by cases q), fun _ q => (by cases q), List.nodup_nil⟩
theorem not_false_true {x : Bool} (h : ¬ x = false) : x = true := by cases x <;> simp_all
theorem good_step {s : State} (g : GoodS s) (c : Call) : GoodS (step s c).1 := by
  cases c with
  | begin_ r m w o =>
    unfold step
    dsimp only
    split
    · exact g
    · rename_i h
      intro b e
      cases e
      exact begin_ok h
  | die z l =>
    cases s with
    | none => exact g
    | some b =>
      have gb := g b rfl
      unfold step
      dsimp only
      split
      · exact g
      · rename_i h
        split
        · exact g
        · rename_i h2
          intro b' e
          cases e
          exact gb.addDie (not_false_true fun q => h (.inl q)) (fun q => h (.inr (.inl q))) (fun q => h (.inr (.inr q))) h2
  | grind d z =>
    cases s with
    | none => exact g
    | some b =>
      have gb := g b rfl
      unfold step
      dsimp only
      split
      · exact g
      · rename_i h1
        split
        · exact g
        · rename_i h2
          split
          · exact g
          · split
            · exact g
            · intro b' e
              cases e
              exact gb.ground (of_decide_eq_true (not_false_true h1)) (not_false_true h2)
  | rod r =>
    cases s with
    | none => exact g
    | some b =>
      unfold step
      dsimp only
      split
      · exact g
      · rename_i h
        intro b' e
        cases e
        exact (g b rfl).rod (not_false_true h)
  | want w o =>
    cases s with
    | none => exact g
    | some b =>
      unfold step
      dsimp only
      split
      · exact g
      · rename_i h
        intro b' e
        cases e
        exact (g b rfl).want (not_false_true fun q => h (.inl q)) fun q => h (.inr q)
  | put d =>
    cases s with
    | none => exact g
    | some b =>
      have gb := g b rfl
      unfold step
      dsimp only
      split
      · exact g
      · rename_i h1
        split
        · exact g
        · rename_i h2
          split
          · exact g
          · intro b' e
            cases e
            have hd : d < b.dies.length := of_decide_eq_true (not_false_true h1)
            refine gb.withRow (fun x hx => ?_) (nd_snoc gb.nd (by simpa using h2))
            rcases List.mem_append.mp hx with q | q
            · exact gb.row x q
            · rw [List.mem_singleton.mp q]; exact hd
  | take =>
    cases s with
    | none => exact g
    | some b =>
      have gb := g b rfl
      unfold step
      dsimp only
      split
      · exact g
      · intro b' e
        cases e
        exact gb.withRow (fun x hx => gb.row x ((List.dropLast_sublist _).subset hx)) ((List.dropLast_sublist _).nodup gb.nd)
  | clear =>
    cases s with
    | none => exact g
    | some b =>
      intro b' e
      cases e
      exact (g b rfl).withRow (fun _ q => (by cases q)) List.nodup_nil
  | run m =>
    cases s with
    | none => exact g
    | some b =>
      unfold step
      dsimp only
      split
      · exact g
      · split
        · exact g
        · split
          · exact g
          · rename_i h
            intro b' e
            cases e
            exact (g b rfl).worn (not_false_true h)
  | set =>
    cases s with
    | none => exact g
    | some b =>
      have gb := g b rfl
      unfold step
      dsimp only
      split
      · rename_i l h
        intro b' e
        cases e
        obtain ⟨i1, i2, _⟩ := fewest_ok h
        exact gb.withRow i1 i2
      · exact g
  | _ => cases s <;> exact g
/-! ### the list of calls -/
theorem ifc {p i : Int} {x y : Nat × Nat} {r : Option (Nat × Nat)} (h : (if p = i then some x else r) = some y) : (p = i ∧ x = y) ∨ r = some y := by
  by_cases e : p = i
  · rw [if_pos e] at h
    exact .inl ⟨e, Option.some.inj h⟩
  · rw [if_neg e] at h
    exact .inr h
theorem shape_rows {p : Int} {n k : Nat} (h : PyKp239.shape p = some (n, k)) : k = 0 := by
  unfold PyKp239.shape at h
  iterate 22
    rcases ifc h with ⟨_, e⟩ | h
    · exact (Prod.mk.inj e).2.symm
  cases h
theorem len0 {l : List Int} (h : 0 = l.length) : l = [] := List.length_eq_zero_iff.mp h.symm
theorem len1 {l : List Int} (h : 1 = l.length) : ∃ a, l = [a] := match l, h with
  | [a], _ => ⟨a, rfl⟩
theorem len2 {l : List Int} (h : 2 = l.length) : ∃ a b, l = [a, b] := match l, h with
  | [a, b], _ => ⟨a, b, rfl⟩
theorem len4 {l : List Int} (h : 4 = l.length) : ∃ a b c d, l = [a, b, c, d] := match l, h with
  | [a, b, c, d], _ => ⟨a, b, c, d, rfl⟩
theorem calls_nil {f : Nat} {cs : List (List (List Int))} (h : PyFlat.calls PyKp239.shape f [] = some cs) : cs = [] := by
  cases f <;> (cases h; rfl)
theorem calls_cons {f : Nat} {p : Int} {r : List Int} {cs : List (List (List Int))} (h : PyFlat.calls PyKp239.shape f (p :: r) = some cs) :
    ∃ f' n cs', f = f' + 1 ∧ PyKp239.shape p = some (n, 0) ∧ n ≤ r.length ∧ cs = [p :: r.take n] :: cs' ∧ PyFlat.calls PyKp239.shape f' (r.drop n) = some cs' := by
  cases f with
  | zero => cases h
  | succ f' =>
    have h1 : (match PyFlat.call PyKp239.shape (p :: r) with
      | none => none
      | some (c, t) => match PyFlat.calls PyKp239.shape f' t with
        | none => none
        | some cs => some (c :: cs)) = some cs := h
    cases e : PyFlat.call PyKp239.shape (p :: r) with
    | none => rw [e] at h1; cases h1
    | some ct =>
      obtain ⟨c, t⟩ := ct
      rw [e] at h1
      have h2 : (match PyFlat.calls PyKp239.shape f' t with
        | none => none
        | some cs => some (c :: cs)) = some cs := h1
      cases e2 : PyFlat.calls PyKp239.shape f' t with
      | none => rw [e2] at h2; cases h2
      | some cs' =>
        rw [e2] at h2
        have h3 : c :: cs' = cs := Option.some.inj h2
        have e' : (match PyKp239.shape p with
          | none => none
          | some (n, k) => if r.length < n then none else match PyFlat.rows k (r.drop n) with
            | none => none
            | some (xs, t) => some ((p :: r.take n) :: xs, t)) = some (c, t) := e
        cases es : PyKp239.shape p with
        | none => rw [es] at e'; cases e'
        | some nk =>
          obtain ⟨n, k⟩ := nk
          have hk := shape_rows es
          subst hk
          rw [es] at e'
          have e3 : (if r.length < n then none else some ([p :: r.take n], r.drop n)) = some (c, t) := e'
          by_cases hn : r.length < n
          · rw [if_pos hn] at e3; cases e3
          · rw [if_neg hn] at e3
            obtain ⟨e4, e5⟩ := Prod.mk.inj (Option.some.inj e3)
            subst e4 e5
            exact ⟨f', n, cs', rfl, rfl, by omega, h3.symm, e2⟩
theorem calls_all : ∀ {f : Nat} {l : List Int} {cs : List (List (List Int))}, PyFlat.calls PyKp239.shape f l = some cs → ∀ c ∈ cs, ∃ p xs, c = [p :: xs] ∧ PyKp239.shape p = some (xs.length, 0)
  | f, [], cs, h, c, hc => by
    rw [calls_nil h] at hc
    cases hc
  | f, p :: r, cs, h, c, hc => by
    obtain ⟨f', n, cs', e1, e2, e3, e4, e5⟩ := calls_cons h
    rw [e4] at hc
    rcases List.mem_cons.mp hc with q | q
    · exact ⟨p, r.take n, q, by rw [List.length_take, Nat.min_eq_left e3]; exact e2⟩
    · have : f' < f := by omega
      exact calls_all e5 c q
termination_by f => f
theorem whole_one {p : Int} {xs : List Int} (h : PyKp239.shape p = some (xs.length, 0)) : PyKp239.whole [p :: xs] = [p :: xs] := by
  unfold PyKp239.shape at h
  iterate 22
    rcases ifc h with ⟨rfl, e⟩ | h
    · have e := (Prod.mk.inj e).1
      first
        | (obtain rfl := len0 e; rfl)
        | (obtain ⟨a, rfl⟩ := len1 e; rfl)
        | (obtain ⟨a, b, rfl⟩ := len2 e; rfl)
        | (obtain ⟨a, b, c, d, rfl⟩ := len4 e; rfl)
  cases h
theorem wholes_id {f : Nat} {l : List Int} {cs : List (List (List Int))} (h : PyFlat.calls PyKp239.shape f l = some cs) : cs.map PyKp239.whole = cs := by
  have e : cs.map PyKp239.whole = cs.map id := List.map_congr_left fun c hc => by
    obtain ⟨p, xs, rfl, hs⟩ := calls_all h c hc
    exact whole_one hs
  rw [e, List.map_id]
/-- what is told of the rest, from a state -/
def rest (s : State) (cs : List (List (List Int))) : List Int := PyFlat.told (PyFlat.played Kp239Neutral.step s cs)
theorem rest_nil (s : State) : rest s [] = [] := rfl
theorem rest_cons (s : State) (c : List (List Int)) (cs : List (List (List Int))) :
    rest s (c :: cs) = (((Kp239Neutral.step s c).2.length : Int) :: (Kp239Neutral.step s c).2) ++ rest (Kp239Neutral.step s c).1 cs := by
  show PyFlat.told ((Kp239Neutral.step s c).2 :: PyFlat.played Kp239Neutral.step (Kp239Neutral.step s c).1 cs) = _
  show List.flatMap _ (_ :: _) = _
  rw [List.flatMap_cons]
  rfl
theorem asked_calls {l : List Int} (h : PyKp239.answers_asked l = true) : ∃ cs, PyFlat.calls PyKp239.shape l.length l = some cs ∧ PyKp239.answers l = rest none cs ∧ (PyKp239.answers l).length ≤ 10000000 ∧ (∀ c ∈ cs, Kp239Neutral.asked1 c = true) := by
  unfold PyKp239.answers_asked at h
  cases e : PyFlat.calls PyKp239.shape l.length l with
  | none => rw [e] at h; cases h
  | some cs =>
    rw [e] at h
    simp only [Bool.and_eq_true] at h
    obtain ⟨⟨⟨⟨_, _⟩, _⟩, h3⟩, h4⟩ := h
    refine ⟨cs, rfl, ?_, ?_, ?_⟩
    · unfold PyKp239.answers PyKp239.calls
      rw [e]
      show PyFlat.told (PyFlat.played Kp239Neutral.step Kp239Neutral.start (cs.map PyKp239.whole)) = _
      rw [wholes_id e]
      rfl
    · unfold PyFlat.short at h4
      exact of_decide_eq_true h4
    · rw [wholes_id e] at h3
      unfold Kp239Neutral.asked at h3
      simp only [Bool.and_eq_true] at h3
      exact List.all_eq_true.mp h3.2.2
end Mm

end
section
set_option linter.all false
namespace Mm
open Kp239
def drawnDie (b : Bench) (m d : Nat) : Die := { dieAt b d with drawn := (dieAt b d).drawn + through b m d }
def wornL (b : Bench) (m : Nat) (r : List Nat) : Bench := { b with dies := (List.range b.dies.length).map fun d => if r.contains d then drawnDie b m d else dieAt b d }
theorem wornL_get {b : Bench} {m d : Nat} {r : List Nat} (h : d < b.dies.length) : (wornL b m r).dies[d]? = some (if r.contains d then drawnDie b m d else dieAt b d) := by
  show ((List.range b.dies.length).map _)[d]? = _
  rw [List.getElem?_map, List.getElem?_range h]
  rfl
theorem wornL_len (b : Bench) (m : Nat) (r : List Nat) : (wornL b m r).dies.length = b.dies.length := by
  show ((List.range b.dies.length).map _).length = _
  rw [List.length_map, List.length_range]
theorem wornL_nil (b : Bench) (m : Nat) : (wornL b m []).dies = b.dies := by
  refine List.ext_getElem? fun d => ?_
  by_cases h : d < b.dies.length
  · rw [wornL_get h, List.getElem?_eq_getElem h, if_neg (by simp), dieAt_get (List.getElem?_eq_getElem h)]
  · rw [List.getElem?_eq_none (by rw [wornL_len]; omega), List.getElem?_eq_none (by omega)]
theorem wornL_snoc {b : Bench} {m n : Nat} {r : List Nat} (hn : n < b.dies.length) : (wornL b m (r ++ [n])).dies = (wornL b m r).dies.set n (drawnDie b m n) := by
  refine List.ext_getElem? fun d => ?_
  by_cases h : d < b.dies.length
  · rw [wornL_get h]
    by_cases e : d = n
    · subst e
      rw [List.getElem?_set_self (by rw [wornL_len]; exact h), if_pos (by simp)]
    · rw [List.getElem?_set_ne (fun z => e z.symm), wornL_get h]
      have e2 : (r ++ [n]).contains d = r.contains d := by simp [e]
      rw [e2]
  · rw [List.getElem?_eq_none (by rw [wornL_len]; omega), List.getElem?_eq_none (by rw [List.length_set, wornL_len]; omega)]
theorem wornL_row (b : Bench) (m : Nat) : (wornL b m b.row).dies = (worn b m).dies := rfl
theorem wornL_at {b : Bench} {m n : Nat} {r : List Nat} (hn : n < b.dies.length) (hr : ¬ n ∈ r) : dieAt (wornL b m r) n = dieAt b n := by
  rw [dieAt_get (wornL_get hn), if_neg (by simpa using hr)]
theorem nd_take {l : List Nat} {i n : Nat} (h : l.Nodup) (hn : l[i]? = some n) : ¬ n ∈ l.take i := by
  intro hm
  obtain ⟨j, hj⟩ := List.getElem?_of_mem hm
  obtain ⟨h1, h2⟩ := List.getElem?_eq_some_iff.mp hj
  have h3 : j < i := by
    rw [List.length_take] at h1
    omega
  rw [List.getElem_take] at h2
  obtain ⟨h4, h5⟩ := List.getElem?_eq_some_iff.mp hn
  have := (List.getElem_inj h).mp (h2.trans h5.symm)
  omega
/-! ### the steps, written out -/
theorem step_begin (s : State) (r m w o : Nat) : step s (.begin_ r m w o) = if okSize r = false ∨ m = 0 ∨ 500 < m ∨ okSize w = false ∨ 1000 < o then (s, say (-22)) else (some ⟨r, m, [], [], w, o, 0⟩, say 0) := rfl
theorem step_die (b : Bench) (z l : Nat) : step (some b) (.die z l) = if okSize z = false ∨ l = 0 ∨ 100000 < l then (some b, say (-22)) else if DIES ≤ b.dies.length then (some b, say (-28)) else (some { b with dies := b.dies ++ [⟨z, l, 0⟩] }, say (b.dies.length : Int)) := rfl
theorem step_grind (b : Bench) (d z : Nat) : step (some b) (.grind d z) = if isDie b d = false then (some b, say (-2)) else if okSize z = false then (some b, say (-22)) else if b.row.contains d then (some b, say (-16)) else if z < size b d then (some b, say (-33)) else
          (some { b with dies := b.dies.set d { dieAt b d with ground := z, drawn := 0 } }, say (size b d : Int)) := rfl
theorem step_rod (b : Bench) (r : Nat) : step (some b) (.rod r) = if okSize r = false then (some b, say (-22)) else (some { b with rod := r }, say (b.rod : Int)) := rfl
theorem step_want (b : Bench) (w o : Nat) : step (some b) (.want w o) = if okSize w = false ∨ 1000 < o then (some b, say (-22)) else (some { b with want := w, off := o }, say (b.want : Int)) := rfl
theorem step_put (b : Bench) (d : Nat) : step (some b) (.put d) = if isDie b d = false then (some b, say (-2)) else if b.row.contains d then (some b, say (-17)) else if step1 b.most (lastSize b b.row) (size b d) = false then (some b, say (-33)) else (some { b with row := b.row ++ [d] }, say (b.row.length + 1 : Nat)) := rfl
theorem step_take_nil (b : Bench) (h : b.row = []) : step (some b) .take = (some b, say (-6)) := by
  show (match b.row.getLast? with | none => (some b, say (-6)) | some d => (some { b with row := b.row.dropLast }, say (d : Int))) = _
  rw [h]
  rfl
theorem step_take_snoc (b : Bench) {l : List Nat} {d : Nat} (h : b.row = l ++ [d]) : step (some b) .take = (some { b with row := l }, say (d : Int)) := by
  show (match b.row.getLast? with | none => (some b, say (-6)) | some d => (some { b with row := b.row.dropLast }, say (d : Int))) = _
  rw [h, List.getLast?_concat, List.dropLast_concat]
theorem step_clear (b : Bench) : step (some b) .clear = (some { b with row := [] }, say (b.row.length : Int)) := rfl
theorem step_holds (b : Bench) : step (some b) .holds = (some b, say (if holds b then 1 else 0)) := rfl
theorem step_wrong (b : Bench) : step (some b) .wrong = (some b, orSay (wrong b)) := rfl
theorem step_run (b : Bench) (m : Nat) : step (some b) (.run m) = if m = 0 ∨ RUN < m then (some b, say (-22)) else if holds b = false then (some b, say (-33)) else if holds (worn b m) = false then (some b, say (-61)) else (some (worn b m), say (out b m : Int)) := rfl
end Mm

end
section
set_option linter.all false
namespace Mm
open Kp239
/-- a call by its number and its numbers -/
inductive MkC : Nat → List Nat → Call → Prop
  | c0 (a : Nat) (b : Nat) (c : Nat) (d : Nat) : MkC 0 [a, b, c, d] (.begin_ a b c d)
  | c1 (a : Nat) (b : Nat) : MkC 1 [a, b] (.die a b)
  | c2 (a : Nat) (b : Nat) : MkC 2 [a, b] (.grind a b)
  | c3 (a : Nat) : MkC 3 [a] (.rod a)
  | c4 (a : Nat) (b : Nat) : MkC 4 [a, b] (.want a b)
  | c5 (a : Nat) : MkC 5 [a] (.put a)
  | c6 : MkC 6 [] (.take)
  | c7 : MkC 7 [] (.clear)
  | c8 : MkC 8 [] (.holds)
  | c9 : MkC 9 [] (.wrong)
  | c10 (a : Nat) : MkC 10 [a] (.run a)
  | c11 (a : Nat) : MkC 11 [a] (.may a)
  | c12 (a : Nat) : MkC 12 [a] (.out a)
  | c13 : MkC 13 [] (.longest)
  | c14 : MkC 14 [] (.fewest)
  | c15 : MkC 15 [] (.set)
  | c16 (a : Nat) : MkC 16 [a] (.takes a)
  | c17 (a : Nat) : MkC 17 [a] (.least a)
  | c18 (a : Nat) : MkC 18 [a] (.size a)
  | c19 (a : Nat) : MkC 19 [a] (.left a)
  | c20 : MkC 20 [] (.row)
  | c21 : MkC 21 [] (.sums)
theorem and_of {x y : Bool} (h : (x && y) = true) : x = true ∧ y = true := by
  rw [Bool.and_eq_true] at h
  exact h
theorem nat_of {z : Int} (h : Kp239Neutral.natural z = true) : ∃ n : Nat, z = (n : Int) := by
  unfold Kp239Neutral.natural at h
  rw [Bool.and_eq_true] at h
  have := of_decide_eq_true h.1
  exact ⟨z.toNat, by omega⟩
def natsI (l : List Nat) : List Int := l.map fun (n : Nat) => (n : Int)
/-- a call that may be asked, as it is read -/
theorem asked_call {p : Int} {xs : List Int} (hs : PyKp239.shape p = some (xs.length, 0)) (h : Kp239Neutral.asked1 [p :: xs] = true) : ∃ (n : Nat) (as : List Nat) (c : Call), p = (n : Int) ∧ xs = natsI as ∧ MkC n as c ∧ Kp239Neutral.callOf [p :: xs] = some c := by
  unfold PyKp239.shape at hs
  rcases ifc hs with ⟨rfl, e⟩ | hs
  · obtain ⟨x, y, z, v, rfl⟩ := len4 (Prod.mk.inj e).1
    obtain ⟨h1, h2⟩ := and_of h
    obtain ⟨h2, h3⟩ := and_of h2
    obtain ⟨h3, h4⟩ := and_of h3
    obtain ⟨a, rfl⟩ := nat_of h1
    obtain ⟨b, rfl⟩ := nat_of h2
    obtain ⟨c, rfl⟩ := nat_of h3
    obtain ⟨d, rfl⟩ := nat_of h4
    exact ⟨0, [a, b, c, d], _, rfl, rfl, .c0 a b c d, rfl⟩
  rcases ifc hs with ⟨rfl, e⟩ | hs
  · obtain ⟨x, y, rfl⟩ := len2 (Prod.mk.inj e).1
    obtain ⟨h1, h2⟩ := and_of h
    obtain ⟨a, rfl⟩ := nat_of h1
    obtain ⟨b, rfl⟩ := nat_of h2
    exact ⟨1, [a, b], _, rfl, rfl, .c1 a b, rfl⟩
  rcases ifc hs with ⟨rfl, e⟩ | hs
  · obtain ⟨x, y, rfl⟩ := len2 (Prod.mk.inj e).1
    obtain ⟨h1, h2⟩ := and_of h
    obtain ⟨a, rfl⟩ := nat_of h1
    obtain ⟨b, rfl⟩ := nat_of h2
    exact ⟨2, [a, b], _, rfl, rfl, .c2 a b, rfl⟩
  rcases ifc hs with ⟨rfl, e⟩ | hs
  · obtain ⟨x, rfl⟩ := len1 (Prod.mk.inj e).1
    obtain ⟨a, rfl⟩ := nat_of h
    exact ⟨3, [a], _, rfl, rfl, .c3 a, rfl⟩
  rcases ifc hs with ⟨rfl, e⟩ | hs
  · obtain ⟨x, y, rfl⟩ := len2 (Prod.mk.inj e).1
    obtain ⟨h1, h2⟩ := and_of h
    obtain ⟨a, rfl⟩ := nat_of h1
    obtain ⟨b, rfl⟩ := nat_of h2
    exact ⟨4, [a, b], _, rfl, rfl, .c4 a b, rfl⟩
  rcases ifc hs with ⟨rfl, e⟩ | hs
  · obtain ⟨x, rfl⟩ := len1 (Prod.mk.inj e).1
    obtain ⟨a, rfl⟩ := nat_of h
    exact ⟨5, [a], _, rfl, rfl, .c5 a, rfl⟩
  rcases ifc hs with ⟨rfl, e⟩ | hs
  · obtain rfl := len0 (Prod.mk.inj e).1
    exact ⟨6, [], _, rfl, rfl, .c6, rfl⟩
  rcases ifc hs with ⟨rfl, e⟩ | hs
  · obtain rfl := len0 (Prod.mk.inj e).1
    exact ⟨7, [], _, rfl, rfl, .c7, rfl⟩
  rcases ifc hs with ⟨rfl, e⟩ | hs
  · obtain rfl := len0 (Prod.mk.inj e).1
    exact ⟨8, [], _, rfl, rfl, .c8, rfl⟩
  rcases ifc hs with ⟨rfl, e⟩ | hs
  · obtain rfl := len0 (Prod.mk.inj e).1
    exact ⟨9, [], _, rfl, rfl, .c9, rfl⟩
  rcases ifc hs with ⟨rfl, e⟩ | hs
  · obtain ⟨x, rfl⟩ := len1 (Prod.mk.inj e).1
    obtain ⟨a, rfl⟩ := nat_of h
    exact ⟨10, [a], _, rfl, rfl, .c10 a, rfl⟩
  rcases ifc hs with ⟨rfl, e⟩ | hs
  · obtain ⟨x, rfl⟩ := len1 (Prod.mk.inj e).1
    obtain ⟨a, rfl⟩ := nat_of h
    exact ⟨11, [a], _, rfl, rfl, .c11 a, rfl⟩
  rcases ifc hs with ⟨rfl, e⟩ | hs
  · obtain ⟨x, rfl⟩ := len1 (Prod.mk.inj e).1
    obtain ⟨a, rfl⟩ := nat_of h
    exact ⟨12, [a], _, rfl, rfl, .c12 a, rfl⟩
  rcases ifc hs with ⟨rfl, e⟩ | hs
  · obtain rfl := len0 (Prod.mk.inj e).1
    exact ⟨13, [], _, rfl, rfl, .c13, rfl⟩
  rcases ifc hs with ⟨rfl, e⟩ | hs
  · obtain rfl := len0 (Prod.mk.inj e).1
    exact ⟨14, [], _, rfl, rfl, .c14, rfl⟩
  rcases ifc hs with ⟨rfl, e⟩ | hs
  · obtain rfl := len0 (Prod.mk.inj e).1
    exact ⟨15, [], _, rfl, rfl, .c15, rfl⟩
  rcases ifc hs with ⟨rfl, e⟩ | hs
  · obtain ⟨x, rfl⟩ := len1 (Prod.mk.inj e).1
    obtain ⟨a, rfl⟩ := nat_of h
    exact ⟨16, [a], _, rfl, rfl, .c16 a, rfl⟩
  rcases ifc hs with ⟨rfl, e⟩ | hs
  · obtain ⟨x, rfl⟩ := len1 (Prod.mk.inj e).1
    obtain ⟨a, rfl⟩ := nat_of h
    exact ⟨17, [a], _, rfl, rfl, .c17 a, rfl⟩
  rcases ifc hs with ⟨rfl, e⟩ | hs
  · obtain ⟨x, rfl⟩ := len1 (Prod.mk.inj e).1
    obtain ⟨a, rfl⟩ := nat_of h
    exact ⟨18, [a], _, rfl, rfl, .c18 a, rfl⟩
  rcases ifc hs with ⟨rfl, e⟩ | hs
  · obtain ⟨x, rfl⟩ := len1 (Prod.mk.inj e).1
    obtain ⟨a, rfl⟩ := nat_of h
    exact ⟨19, [a], _, rfl, rfl, .c19 a, rfl⟩
  rcases ifc hs with ⟨rfl, e⟩ | hs
  · obtain rfl := len0 (Prod.mk.inj e).1
    exact ⟨20, [], _, rfl, rfl, .c20, rfl⟩
  rcases ifc hs with ⟨rfl, e⟩ | hs
  · obtain rfl := len0 (Prod.mk.inj e).1
    exact ⟨21, [], _, rfl, rfl, .c21, rfl⟩
  cases hs
theorem step_of {s : State} {c : List (List Int)} {x : Call} (h : Kp239Neutral.callOf c = some x) : Kp239Neutral.step s c = ((step s x).1, (step s x).2.num :: (step s x).2.nums) := by
  unfold Kp239Neutral.step
  rw [h]
theorem shape_mk {n : Nat} {as : List Nat} {c : Call} (h : MkC n as c) : PyKp239.shape (n : Int) = some (as.length, 0) := by
  cases h <;> rfl
end Mm

end
section
set_option linter.all false
namespace Mm
open Kp239
/-! ### rows that come to what's wanted -/
def endW (b : Bench) (a : Nat) (l : List Nat) : Nat := lastW a (l.map (size b))
structure Valid (b : Bench) (a : Nat) (used l : List Nat) : Prop where
  lt : ∀ d ∈ l, d < b.dies.length
  nd : l.Nodup
  off : ∀ d ∈ l, ¬ d ∈ used
  go : goes b a l = true
  near : near b (endW b a l) = true
/-- by numbers, die by die -/
def Lx : List Nat → List Nat → Prop
  | [], _ => True
  | _ :: _, [] => False
  | a :: l, c :: m => a < c ∨ (a = c ∧ Lx l m)
theorem endW_cons (b : Bench) (a d : Nat) (l : List Nat) : endW b a (d :: l) = endW b (size b d) l := by
  unfold endW lastW
  rw [List.map_cons, List.getLast?_cons]
  cases (l.map (size b)).getLast? <;> rfl
theorem Valid.tail {b : Bench} {a d : Nat} {used l : List Nat} (v : Valid b a used (d :: l)) : Valid b (size b d) (d :: used) l := by
  refine ⟨fun x hx => v.lt x (List.mem_cons_of_mem _ hx), (List.nodup_cons.mp v.nd).2, fun x hx hm => ?_, ?_, ?_⟩
  · rcases List.mem_cons.mp hm with e | e
    · subst e; exact (List.nodup_cons.mp v.nd).1 hx
    · exact v.off x (List.mem_cons_of_mem _ hx) e
  · have := v.go
    unfold goes at this
    rw [Bool.and_eq_true] at this
    exact this.2
  · have := v.near
    rw [endW_cons] at this
    exact this
theorem Valid.cons {b : Bench} {a d : Nat} {used l : List Nat} (v : Valid b (size b d) (d :: used) l) (hd : d < b.dies.length) (hu : ¬ d ∈ used) (hs : step1 b.most a (size b d) = true) : Valid b a used (d :: l) := by
  refine ⟨fun x hx => ?_, List.nodup_cons.mpr ⟨fun hm => v.off d hm (List.mem_cons_self ..), v.nd⟩, fun x hx hm => ?_, ?_, ?_⟩
  · rcases List.mem_cons.mp hx with e | e
    · rw [e]; exact hd
    · exact v.lt x e
  · rcases List.mem_cons.mp hx with e | e
    · rw [e] at hm; exact hu hm
    · exact v.off x e (List.mem_cons_of_mem _ hm)
  · unfold goes
    rw [hs, Bool.true_and]
    exact v.go
  · rw [endW_cons]; exact v.near
theorem Valid.head {b : Bench} {a d : Nat} {used l : List Nat} (v : Valid b a used (d :: l)) : d ∈ (List.range b.dies.length).filter fun d => !used.contains d && step1 b.most a (size b d) := by
  refine List.mem_filter.mpr ⟨List.mem_range.mpr (v.lt d (List.mem_cons_self ..)), ?_⟩
  have := v.go
  unfold goes at this
  rw [Bool.and_eq_true] at this
  rw [Bool.and_eq_true]
  exact ⟨by simpa using v.off d (List.mem_cons_self ..), this.1⟩
theorem rowOf_succ (b : Bench) (n a : Nat) (used : List Nat) : rowOf b (n + 1) a used = ((List.range b.dies.length).filter fun d => !used.contains d && step1 b.most a (size b d)).findSome? (fun d => (rowOf b n (size b d) (d :: used)).map fun l => d :: l) := rfl
theorem rowOf_none {b : Bench} : ∀ {n a : Nat} {used l : List Nat}, rowOf b n a used = none → l.length = n → ¬ Valid b a used l
  | 0, a, used, [], h, _, v => by
    have h' : (if near b a then some [] else none : Option (List Nat)) = none := h
    have := v.near
    rw [show endW b a [] = a from rfl] at this
    rw [this] at h'
    cases h'
  | n + 1, a, used, d :: l, h, e, v => by
    rw [rowOf_succ] at h
    have h2 := (List.findSome?_eq_none_iff.mp h) d v.head
    have h3 : rowOf b n (size b d) (d :: used) = none := Option.map_eq_none_iff.mp h2
    exact rowOf_none h3 (by simpa using e) v.tail
  | 0, _, _, _ :: _, _, e, _ => by simp at e
  | _ + 1, _, _, [], _, e, _ => by simp at e
theorem rowOf_some {b : Bench} : ∀ {n a : Nat} {used l : List Nat}, rowOf b n a used = some l → l.length = n ∧ Valid b a used l ∧ ∀ l', l'.length = n → Valid b a used l' → Lx l l'
  | 0, a, used, l, h => by
    have h' : (if near b a then some [] else none : Option (List Nat)) = some l := h
    cases e : near b a with
    | false => rw [e] at h'; cases h'
    | true =>
      rw [e] at h'
      cases h'
      exact ⟨rfl, ⟨fun _ q => (by cases q), List.nodup_nil, fun _ q => (by cases q), rfl, e⟩, fun _ _ _ => trivial⟩
  | n + 1, a, used, l, h => by
    rw [rowOf_succ] at h
    obtain ⟨l1, d, l2, e1, e2, e3⟩ := List.findSome?_eq_some_iff.mp h
    obtain ⟨m, h1, h2⟩ := Option.map_eq_some_iff.mp e2
    subst h2
    obtain ⟨i1, i2, i3⟩ := rowOf_some h1
    have hd : d ∈ (List.range b.dies.length).filter fun d => !used.contains d && step1 b.most a (size b d) := by rw [e1]; simp
    obtain ⟨hd1, hd2⟩ := List.mem_filter.mp hd
    rw [Bool.and_eq_true] at hd2
    refine ⟨by rw [List.length_cons, i1], i2.cons (List.mem_range.mp hd1) (by simpa using hd2.1) hd2.2, fun l' hl' v' => ?_⟩
    cases l' with
    | nil => simp at hl'
    | cons d' m' =>
      have hm := v'.head
      rw [e1] at hm
      rcases List.mem_append.mp hm with q | q
      · have h3 : rowOf b n (size b d') (d' :: used) = none := Option.map_eq_none_iff.mp (e3 d' q)
        exact absurd v'.tail (rowOf_none h3 (by simpa using hl'))
      · rcases List.mem_cons.mp q with q | q
        · subst q
          exact .inr ⟨rfl, i3 m' (by simpa using hl') v'.tail⟩
        · have hp : ((List.range b.dies.length).filter fun d => !used.contains d && step1 b.most a (size b d)).Pairwise (· < ·) := List.Pairwise.filter _ List.pairwise_lt_range
          rw [e1] at hp
          have := (List.pairwise_cons.mp (List.pairwise_append.mp hp).2.1).1 d' q
          exact .inl this
theorem Lx_anti : ∀ {l m : List Nat}, Lx l m → Lx m l → l.length = m.length → l = m
  | [], [], _, _, _ => rfl
  | a :: l, c :: m, h1, h2, e => by
    rcases h1 with h1 | ⟨e1, h1⟩
    · rcases h2 with h2 | ⟨e2, _⟩ <;> omega
    · rcases h2 with h2 | ⟨_, h2⟩
      · omega
      · rw [e1, Lx_anti h1 h2 (by simpa using e)]
  | [], _ :: _, _, _, e => by simp at e
  | _ :: _, [], _, _, e => by simp at e
/-- what fewest is -/
theorem fewest_none {b : Bench} (h : fewest b = none) (l : List Nat) : ¬ Valid b b.rod [] l := by
  intro v
  unfold fewest at h
  have hl : l.length ≤ b.dies.length := nd_le v.nd v.lt
  have h2 := (List.findSome?_eq_none_iff.mp h) l.length (List.mem_range.mpr (by omega))
  exact rowOf_none h2 rfl v
theorem fewest_some {b : Bench} {l : List Nat} (h : fewest b = some l) : Valid b b.rod [] l ∧ ∀ l', Valid b b.rod [] l' → l.length < l'.length ∨ (l.length = l'.length ∧ Lx l l') := by
  unfold fewest at h
  obtain ⟨l1, n, l2, e1, e2, e3⟩ := List.findSome?_eq_some_iff.mp h
  obtain ⟨i1, i2, i3⟩ := rowOf_some e2
  refine ⟨i2, fun l' v' => ?_⟩
  have hl : l'.length ≤ b.dies.length := nd_le v'.nd v'.lt
  have hm : l'.length ∈ List.range (b.dies.length + 1) := List.mem_range.mpr (by omega)
  rw [e1] at hm
  rcases List.mem_append.mp hm with q | q
  · exact absurd v' (rowOf_none (e3 _ q) rfl)
  · rcases List.mem_cons.mp q with q | q
    · exact .inr ⟨by rw [i1, q], i3 l' q v'⟩
    · have hp : (List.range (b.dies.length + 1)).Pairwise (· < ·) := List.pairwise_lt_range
      rw [e1] at hp
      have := (List.pairwise_cons.mp (List.pairwise_append.mp hp).2.1).1 _ q
      exact .inl (by omega)
/-- and what is it is fewest -/
theorem fewest_is {b : Bench} {l : List Nat} (v : Valid b b.rod [] l) (h : ∀ l', Valid b b.rod [] l' → l.length < l'.length ∨ (l.length = l'.length ∧ Lx l l')) : fewest b = some l := by
  cases e : fewest b with
  | none => exact absurd v (fewest_none e l)
  | some m =>
    obtain ⟨v2, h2⟩ := fewest_some e
    congr 1
    rcases h m v2 with q | ⟨q1, q2⟩
    · rcases h2 l v with r | ⟨r, _⟩ <;> omega
    · rcases h2 l v with r | ⟨_, r⟩
      · omega
      · exact Lx_anti r q2 q1.symm
theorem fewest_not {b : Bench} (h : ∀ l, ¬ Valid b b.rod [] l) : fewest b = none := by
  cases e : fewest b with
  | none => rfl
  | some m => exact absurd (fewest_some e).1 (h m)
/-- a row that goes has no die twice -/
theorem goes_lt {b : Bench} {l : List Nat} {a : Nat} (h : goes b a l = true) : ∀ d ∈ l, size b d < a := fun d hd => by
  rw [goes_wp] at h
  exact wp_none_lt (Option.isNone_iff_eq_none.mp h) _ (List.mem_map.mpr ⟨d, hd, rfl⟩)
theorem goes_nd {b : Bench} : ∀ {l : List Nat} {a : Nat}, goes b a l = true → l.Nodup
  | [], _, _ => List.nodup_nil
  | d :: l, a, h => by
    unfold goes at h
    rw [Bool.and_eq_true] at h
    refine List.nodup_cons.mpr ⟨fun hm => ?_, goes_nd h.2⟩
    have := goes_lt h.2 d hm
    omega
/-! ### least -/
theorem find_range {p : Nat → Bool} {n k : Nat} (h : (List.range n).find? p = some k) : p k = true ∧ k < n ∧ ∀ j < k, p j = false := by
  have h1 := List.find?_some h
  have h2 : k < n := List.mem_range.mp (List.mem_of_find?_eq_some h)
  refine ⟨h1, h2, fun j hj => ?_⟩
  obtain ⟨_, l1, l2, e, hl⟩ := List.find?_eq_some_iff_append.mp h
  have hm : j ∈ List.range n := List.mem_range.mpr (by omega)
  rw [e] at hm
  rcases List.mem_append.mp hm with q | q
  · simpa using hl j q
  · have hp : (List.range n).Pairwise (· < ·) := List.pairwise_lt_range
    rw [e] at hp
    have hp2 := (List.pairwise_cons.mp (List.pairwise_append.mp hp).2.1).1
    rcases List.mem_cons.mp q with q | q
    · omega
    · have := hp2 j q
      omega
theorem find_range_is {p : Nat → Bool} {n k : Nat} (h1 : p k = true) (h2 : k < n) (h3 : ∀ j < k, p j = false) : (List.range n).find? p = some k := by
  cases e : (List.range n).find? p with
  | none =>
    have := List.find?_eq_none.mp e k (List.mem_range.mpr h2)
    exact absurd h1 this
  | some m =>
    obtain ⟨i1, i2, i3⟩ := find_range e
    congr 1
    rcases Nat.lt_trichotomy m k with q | q | q
    · rw [h3 m q] at i1; cases i1
    · exact q
    · rw [i3 k q] at h1; cases h1
theorem least_is {b : Bench} {a c : Nat} (h1 : a * a * (1000 - b.most) ≤ 1000 * (c * c)) (h2 : c ≤ a) (h3 : ∀ j < c, ¬ a * a * (1000 - b.most) ≤ 1000 * (j * j)) : least b a = c := by
  unfold least
  rw [find_range_is (decide_eq_true h1) (by omega) fun j hj => decide_eq_false (h3 j hj)]
  rfl
theorem least_top (b : Bench) (a : Nat) : a * a * (1000 - b.most) ≤ 1000 * (a * a) := by
  rw [Nat.mul_comm 1000]
  exact Nat.mul_le_mul_left _ (by omega)
/-! ### longest -/
theorem find_down (p : Nat → Bool) (n : Nat) : (List.range (n + 1)).reverse.find? p = if p n then some n else (List.range n).reverse.find? p := by
  rw [List.range_succ, List.reverse_append, List.reverse_singleton, List.singleton_append, List.find?_cons]
  cases p n <;> rfl
theorem find_down_is {p : Nat → Bool} : ∀ {n k : Nat}, p k = true → k < n → (∀ j, k < j → j < n → p j = false) → (List.range n).reverse.find? p = some k
  | 0, k, _, h, _ => by omega
  | n + 1, k, h1, h2, h3 => by
    rw [find_down]
    by_cases e : k = n
    · subst e; rw [if_pos h1]
    · rw [h3 n (by omega) (by omega), if_neg Bool.false_ne_true]
      exact find_down_is h1 (by omega) fun j a b => h3 j a (by omega)
theorem worn_zero {b : Bench} (g : Good b) : holds (worn b 0) = holds b := by
  rw [holds_worn g, wsA_zero, holds_W]
theorem longest_no {b : Bench} (h : holds b = false) : longest b = none := by
  unfold longest
  rw [h]
  rfl
theorem longest_is {b : Bench} (h : holds b = true) {k : Nat} (h1 : holds (worn b (100 * k)) = true) (h2 : k ≤ 200) (h3 : ∀ j, k < j → j ≤ 200 → holds (worn b (100 * j)) = false) : longest b = some k := by
  unfold longest
  rw [h, if_pos rfl]
  refine find_down_is ?_ (by unfold RUN; omega) fun j a c => ?_
  · unfold mayRun; rw [h, h1]; rfl
  · unfold mayRun; rw [h3 j a (by unfold RUN at c; omega), Bool.and_false]
/-! ### the steps of the second stage -/
theorem step_may (b : Bench) (m : Nat) : step (some b) (.may m) = (some b, if m = 0 ∨ RUN < m then say (-22) else say (if mayRun b m then 1 else 0)) := rfl
theorem step_out (b : Bench) (m : Nat) : step (some b) (.out m) = (some b, if RUN < m then say (-22) else say (out b m : Int)) := rfl
theorem step_longest (b : Bench) : step (some b) .longest = (some b, match longest b with | some k => say (100 * k : Nat) | none => say (-33)) := rfl
theorem step_fewest (b : Bench) : step (some b) .fewest = (some b, match fewest b with | some l => tellAll l | none => say (-33)) := rfl
theorem step_set_some {b : Bench} {l : List Nat} (h : fewest b = some l) : step (some b) .set = (some { b with row := l }, say (l.length : Int)) := by
  show (match fewest b with | some l => (some { b with row := l }, say (l.length : Int)) | none => (some b, say (-33))) = _
  rw [h]
theorem step_set_none {b : Bench} (h : fewest b = none) : step (some b) .set = (some b, say (-33)) := by
  show (match fewest b with | some l => (some { b with row := l }, say (l.length : Int)) | none => (some b, say (-33))) = _
  rw [h]
theorem step_least (b : Bench) (a : Nat) : step (some b) (.least a) = (some b, if okSize a = false then say (-22) else say (least b a : Int)) := rfl
theorem step_size (b : Bench) (d : Nat) : step (some b) (.size d) = (some b, if isDie b d = false then say (-2) else ⟨(size b d : Int), Kp239.«ints» [(dieAt b d).ground, (dieAt b d).life, (dieAt b d).drawn]⟩) := rfl
theorem step_left (b : Bench) (d : Nat) : step (some b) (.left d) = (some b, if isDie b d = false then say (-2) else say ((dieAt b d).life - (dieAt b d).drawn % (dieAt b d).life : Nat)) := rfl
theorem step_row (b : Bench) : step (some b) .row = (some b, tellAll b.row) := rfl
theorem step_sums (b : Bench) : step (some b) .sums = (some b, ⟨(b.rod : Int), Kp239.«ints» [b.most, b.want, b.off, b.dies.length, b.metres, lastSize b b.row]⟩) := rfl
theorem step_takes (b : Bench) (k : Nat) : step (some b) (.takes k) = (some b, if b.row.length ≤ k then say (-2) else if size b (b.row.getD k 0) < before b k then ⟨0, Kp239.«ints» [(takes b k).1, (takes b k).2]⟩ else say (-33)) := rfl
theorem takes_eq (b : Bench) (k : Nat) : takes b k = frac (before b k * before b k - size b (b.row.getD k 0) * size b (b.row.getD k 0)) (before b k * before b k) := rfl
theorem frac_pos {a c : Nat} (h : 0 < c) : frac a c = (a / Nat.gcd a c, c / Nat.gcd a c) := by
  unfold frac
  rw [if_neg (Nat.ne_of_gt (Nat.gcd_pos_of_pos_right a h))]
end Mm

end
section
set_option linter.all false
namespace Mm
open Kp239
/-! ### rows, length by length -/
def sizes (b : Bench) (r : List Nat) : List Nat := r.map (size b)
def holdsR (b : Bench) (r : List Nat) : Bool := holdsW b (sizes b r)
/-- of the first j dies those to which wire goes from so wide -/
def growTo (b : Bench) (r : List Nat) (j : Nat) : List (List Nat) := ((List.range j).filter fun d => step1 b.most (lastW b.rod (sizes b r)) (size b d)).map fun d => r ++ [d]
def grow (b : Bench) (r : List Nat) : List (List Nat) := growTo b r b.dies.length
def ext (b : Bench) (rs : List (List Nat)) : List (List Nat) := rs.flatMap (grow b)
def lev (b : Bench) : Nat → List (List Nat)
  | 0 => [[]]
  | k + 1 => ext b (lev b k)
theorem growTo_zero (b : Bench) (r : List Nat) : growTo b r 0 = [] := rfl
theorem growTo_yes {b : Bench} {r : List Nat} {j : Nat} (h : step1 b.most (lastW b.rod (sizes b r)) (size b j) = true) : growTo b r (j + 1) = growTo b r j ++ [r ++ [j]] := by
  unfold growTo
  rw [List.range_succ, List.filter_append, List.map_append, List.filter_cons, h]
  rfl
theorem growTo_no {b : Bench} {r : List Nat} {j : Nat} (h : step1 b.most (lastW b.rod (sizes b r)) (size b j) = false) : growTo b r (j + 1) = growTo b r j := by
  unfold growTo
  rw [List.range_succ, List.filter_append, List.map_append, List.filter_cons, h]
  exact List.append_nil _
theorem growTo_len (b : Bench) (r : List Nat) (j : Nat) : (growTo b r j).length ≤ j := by
  unfold growTo
  rw [List.length_map]
  exact Nat.le_trans (List.length_filter_le _ _) (by rw [List.length_range]; exact Nat.le_refl _)
theorem growTo_mono (b : Bench) (r : List Nat) {j : Nat} : ∀ {n : Nat}, j ≤ n → (growTo b r j).length ≤ (growTo b r n).length
  | 0, h => by
    have : j = 0 := by omega
    subst this
    exact Nat.le_refl _
  | n + 1, h => by
    by_cases e : j = n + 1
    · subst e; exact Nat.le_refl _
    · refine Nat.le_trans (growTo_mono b r (n := n) (by omega)) ?_
      cases q : step1 b.most (lastW b.rod (sizes b r)) (size b n) with
      | true => rw [growTo_yes q, List.length_append]; exact Nat.le_add_right _ _
      | false => rw [growTo_no q]; exact Nat.le_refl _
theorem ext_nil (b : Bench) : ext b [] = [] := rfl
theorem ext_cons (b : Bench) (r : List Nat) (rs : List (List Nat)) : ext b (r :: rs) = grow b r ++ ext b rs := by
  unfold ext
  rw [List.flatMap_cons]
theorem ext_app (b : Bench) : ∀ (rs ss : List (List Nat)), ext b (rs ++ ss) = ext b rs ++ ext b ss
  | [], _ => rfl
  | r :: rs, ss => by rw [List.cons_append, ext_cons, ext_cons, ext_app b rs ss, List.append_assoc]
theorem ext_len (b : Bench) : ∀ rs : List (List Nat), (ext b rs).length ≤ rs.length * b.dies.length
  | [] => Nat.zero_le _
  | r :: rs => by
    rw [ext_cons, List.length_append, List.length_cons, Nat.add_mul, Nat.one_mul]
    have h1 := growTo_len b r b.dies.length
    have h2 := ext_len b rs
    have h3 : (grow b r).length ≤ b.dies.length := h1
    omega
/-- how far the list can have come within the i-th row -/
theorem ext_part {b : Bench} {rs : List (List Nat)} {i j : Nat} {r : List Nat} (h : rs[i]? = some r) (hj : j < b.dies.length) (hs : step1 b.most (lastW b.rod (sizes b r)) (size b j) = true) :
    (ext b (rs.take i) ++ growTo b r j).length < (ext b rs).length := by
  obtain ⟨h1, h2⟩ := List.getElem?_eq_some_iff.mp h
  have e : rs = rs.take i ++ r :: rs.drop (i + 1) := by
    rw [← h2, ← List.drop_eq_getElem_cons h1, List.take_append_drop]
  have e2 : ext b rs = ext b (rs.take i) ++ (grow b r ++ ext b (rs.drop (i + 1))) := by
    conv => lhs; rw [e]
    rw [ext_app, ext_cons]
  rw [e2, List.length_append, List.length_append, List.length_append]
  have h3 : (growTo b r (j + 1)).length ≤ (grow b r).length := growTo_mono b r (by omega)
  rw [growTo_yes hs, List.length_append, List.length_singleton] at h3
  omega
theorem lastW_snoc (r : Nat) (l : List Nat) (x : Nat) : lastW r (l ++ [x]) = x := by
  unfold lastW
  rw [List.getLast?_concat]
theorem lastW_cons (a c : Nat) (l : List Nat) : lastW a (c :: l) = lastW c l := by
  unfold lastW
  rw [List.getLast?_cons]
  cases l.getLast? <;> rfl
theorem goes_snoc (b : Bench) (d : Nat) : ∀ (l : List Nat) (a : Nat), goes b a (l ++ [d]) = (goes b a l && step1 b.most (lastW a (sizes b l)) (size b d))
  | [], a => by
    show (step1 b.most a (size b d) && true) = (true && step1 b.most a (size b d))
    rw [Bool.and_true, Bool.true_and]
  | c :: l, a => by
    show (step1 b.most a (size b c) && goes b (size b c) (l ++ [d])) = ((step1 b.most a (size b c) && goes b (size b c) l) && step1 b.most (lastW a (size b c :: sizes b l)) (size b d))
    rw [goes_snoc b d l, lastW_cons, Bool.and_assoc]
theorem mem_grow {b : Bench} {r l : List Nat} : l ∈ grow b r ↔ ∃ d, d < b.dies.length ∧ step1 b.most (lastW b.rod (sizes b r)) (size b d) = true ∧ l = r ++ [d] := by
  unfold grow growTo
  rw [List.mem_map]
  constructor
  · rintro ⟨d, hd, rfl⟩
    obtain ⟨h1, h2⟩ := List.mem_filter.mp hd
    exact ⟨d, List.mem_range.mp h1, h2, rfl⟩
  · rintro ⟨d, h1, h2, rfl⟩
    exact ⟨d, List.mem_filter.mpr ⟨List.mem_range.mpr h1, h2⟩, rfl⟩
theorem mem_ext {b : Bench} {rs : List (List Nat)} {l : List Nat} : l ∈ ext b rs ↔ ∃ r ∈ rs, l ∈ grow b r := List.mem_flatMap
theorem mem_lev {b : Bench} : ∀ {k : Nat} {l : List Nat}, l ∈ lev b k ↔ l.length = k ∧ (∀ d ∈ l, d < b.dies.length) ∧ goes b b.rod l = true
  | 0, l => by
    show l ∈ [[]] ↔ _
    rw [List.mem_singleton]
    constructor
    · rintro rfl
      exact ⟨rfl, fun _ q => (by cases q), rfl⟩
    · rintro ⟨h, _⟩
      exact List.length_eq_zero_iff.mp h
  | k + 1, l => by
    show l ∈ ext b (lev b k) ↔ _
    rw [mem_ext]
    constructor
    · rintro ⟨r, hr, hl⟩
      obtain ⟨h1, h2, h3⟩ := mem_lev.mp hr
      obtain ⟨d, hd, hs, rfl⟩ := mem_grow.mp hl
      refine ⟨by rw [List.length_append, h1]; rfl, fun x hx => ?_, by rw [goes_snoc, h3, hs]; rfl⟩
      rcases List.mem_append.mp hx with q | q
      · exact h2 x q
      · rw [List.mem_singleton.mp q]; exact hd
    · rintro ⟨h1, h2, h3⟩
      rcases List.eq_nil_or_concat l with rfl | ⟨r, d, e⟩
      · cases h1
      · rw [List.concat_eq_append] at e
        subst e
        rw [goes_snoc, Bool.and_eq_true] at h3
        rw [List.length_append, List.length_singleton] at h1
        exact ⟨r, mem_lev.mpr ⟨by omega, fun x hx => h2 x (List.mem_append_left _ hx), h3.1⟩, mem_grow.mpr ⟨d, h2 d (by simp), h3.2, rfl⟩⟩
theorem lev_lt {b : Bench} {k : Nat} {l : List Nat} (h : l ∈ lev b k) : ∀ d ∈ l, d < b.dies.length := (mem_lev.mp h).2.1
theorem lev_le {b : Bench} {k : Nat} {l : List Nat} (h : l ∈ lev b k) : k ≤ b.dies.length := by
  obtain ⟨h1, h2, h3⟩ := mem_lev.mp h
  rw [← h1]
  exact nd_le (goes_nd h3) h2
theorem lev_far {b : Bench} {k : Nat} (h : b.dies.length < k) : lev b k = [] := by
  cases e : lev b k with
  | nil => rfl
  | cons l rs =>
    have : l ∈ lev b k := by rw [e]; exact List.mem_cons_self ..
    have := lev_le this
    omega
theorem lev_pow {b : Bench} (h : b.dies.length ≤ 8) : ∀ k, (lev b k).length ≤ 8 ^ k
  | 0 => Nat.le_refl _
  | k + 1 => by
    have h1 := ext_len b (lev b k)
    have h2 := lev_pow h k
    refine Nat.le_trans h1 ?_
    rw [Nat.pow_succ]
    exact Nat.mul_le_mul h2 h
theorem lev_size {b : Bench} (h : b.dies.length ≤ 8) (k : Nat) : (lev b k).length ≤ 16777216 := by
  by_cases e : k ≤ 8
  · exact Nat.le_trans (lev_pow h k) (Nat.pow_le_pow_right (by decide) e)
  · rw [lev_far (by omega)]
    exact Nat.zero_le _
/-! ### their order -/
def Ls : List Nat → List Nat → Prop
  | a :: l, c :: m => a < c ∨ (a = c ∧ Ls l m)
  | _, _ => False
theorem Ls.lx : ∀ {l m : List Nat}, Ls l m → Lx l m
  | [], _, _ => trivial
  | a :: l, c :: m, h => by
    rcases h with h | ⟨h1, h2⟩
    · exact .inl h
    · exact .inr ⟨h1, Ls.lx h2⟩
  | _ :: _, [], h => h.elim
theorem Ls.app : ∀ {l m : List Nat}, Ls l m → ∀ x y, Ls (l ++ x) (m ++ y)
  | [], _, h, _, _ => by
    unfold Ls at h
    exact h.elim
  | a :: l, c :: m, h, x, y => by
    rcases h with h | ⟨h1, h2⟩
    · exact .inl h
    · exact .inr ⟨h1, Ls.app h2 x y⟩
  | _ :: _, [], h, _, _ => h.elim
theorem Ls.last : ∀ (r : List Nat) {d e : Nat}, d < e → Ls (r ++ [d]) (r ++ [e])
  | [], _, _, h => .inl h
  | _ :: r, _, _, h => .inr ⟨rfl, Ls.last r h⟩
theorem Lx.rfl' : ∀ l : List Nat, Lx l l
  | [] => trivial
  | _ :: l => .inr ⟨rfl, Lx.rfl' l⟩
theorem lev_order (b : Bench) : ∀ k, (lev b k).Pairwise Ls
  | 0 => List.pairwise_singleton _ _
  | k + 1 => by
    show ((lev b k).flatMap (grow b)).Pairwise Ls
    rw [List.pairwise_flatMap]
    refine ⟨fun r _ => ?_, (lev_order b k).imp fun {r r'} h x hx y hy => ?_⟩
    · unfold grow growTo
      rw [List.pairwise_map]
      exact (List.Pairwise.filter _ List.pairwise_lt_range).imp fun h => Ls.last r h
    · obtain ⟨d, _, _, rfl⟩ := mem_grow.mp hx
      obtain ⟨e, _, _, rfl⟩ := mem_grow.mp hy
      exact h.app _ _
/-! ### the fewest, by them -/
theorem holdsR_eq (b : Bench) (r : List Nat) : holdsR b r = (goes b b.rod r && near b (endW b b.rod r)) := by
  unfold holdsR holdsW sizes endW
  rw [goes_wp]
theorem valid_of {b : Bench} {r : List Nat} (h1 : ∀ d ∈ r, d < b.dies.length) (h2 : holdsR b r = true) : Valid b b.rod [] r := by
  rw [holdsR_eq, Bool.and_eq_true] at h2
  exact ⟨h1, goes_nd h2.1, fun _ _ q => (by cases q), h2.1, h2.2⟩
theorem of_valid {b : Bench} {r : List Nat} (v : Valid b b.rod [] r) : r ∈ lev b r.length ∧ holdsR b r = true :=
  ⟨mem_lev.mpr ⟨rfl, v.lt, v.go⟩, by rw [holdsR_eq, v.go, v.near]; rfl⟩
theorem few_some {b : Bench} {k i : Nat} {r : List Nat} (hk : ∀ j < k, ∀ x ∈ lev b j, holdsR b x = false) (h : (lev b k)[i]? = some r) (hr : holdsR b r = true) (hb : ∀ j < i, ∀ x, (lev b k)[j]? = some x → holdsR b x = false) : fewest b = some r := by
  have hm : r ∈ lev b k := List.mem_of_getElem? h
  have hl : r.length = k := (mem_lev.mp hm).1
  refine fewest_is (valid_of (lev_lt hm) hr) fun l' v => ?_
  obtain ⟨m1, m2⟩ := of_valid v
  rcases Nat.lt_trichotomy l'.length k with q | q | q
  · rw [hk _ q _ m1] at m2
    cases m2
  · refine .inr ⟨by omega, ?_⟩
    rw [q] at m1
    obtain ⟨j, hj⟩ := List.getElem?_of_mem m1
    rcases Nat.lt_trichotomy j i with z | z | z
    · rw [hb j z _ hj] at m2
      cases m2
    · subst z
      rw [hj] at h
      cases h
      exact Lx.rfl' _
    · obtain ⟨h1, h2⟩ := List.getElem?_eq_some_iff.mp h
      obtain ⟨h3, h4⟩ := List.getElem?_eq_some_iff.mp hj
      have := List.pairwise_iff_getElem.mp (lev_order b k) i j h1 h3 z
      rw [h2, h4] at this
      exact this.lx
  · exact .inl (by omega)
theorem lev_nil {b : Bench} {k : Nat} (h : lev b k = []) : ∀ j, lev b (k + j) = []
  | 0 => h
  | j + 1 => by
    show ext b (lev b (k + j)) = []
    rw [lev_nil h j]
    rfl
theorem few_none {b : Bench} {k : Nat} (hk : ∀ j < k, ∀ x ∈ lev b j, holdsR b x = false) (h : lev b k = []) : fewest b = none := by
  refine fewest_not fun l v => ?_
  obtain ⟨m1, m2⟩ := of_valid v
  by_cases q : l.length < k
  · rw [hk _ q _ m1] at m2
    cases m2
  · have := lev_nil h (l.length - k)
    rw [show k + (l.length - k) = l.length by omega] at this
    rw [this] at m1
    cases m1
/-! ### what's put in its place is good -/
theorem few_good {b : Bench} (g : Good b) {l : List Nat} (h : fewest b = some l) : (∀ d ∈ l, d < b.dies.length) ∧ l.length ≤ 8 := by
  have v := (fewest_some h).1
  exact ⟨v.lt, Nat.le_trans (nd_le v.nd v.lt) g.dn⟩
/-! ### the greatest in common -/
theorem gcd_turn (x y : Nat) : Nat.gcd y (x % y) = Nat.gcd x y := by
  rw [Nat.gcd_comm x y, Nat.gcd_rec y x, Nat.gcd_comm]
/-! ### least -/
def lets (a m c : Nat) : Bool := decide (a * a * (1000 - m) ≤ 1000 * (c * c))
theorem lets_mono {a m c d : Nat} (h : c ≤ d) (hc : lets a m c = true) : lets a m d = true := by
  have h1 := of_decide_eq_true hc
  refine decide_eq_true (Nat.le_trans h1 ?_)
  exact Nat.mul_le_mul_left _ (Nat.mul_le_mul h h)
theorem lets_top (a m : Nat) : lets a m a = true := by
  refine decide_eq_true ?_
  rw [Nat.mul_comm 1000]
  exact Nat.mul_le_mul_left _ (by omega)
theorem least_by {b : Bench} {a c : Nat} (h1 : lets a b.most c = true) (h2 : c ≤ a) (h3 : ∀ j < c, lets a b.most j = false) : least b a = c :=
  least_is (of_decide_eq_true h1) h2 fun j hj => of_decide_eq_false (h3 j hj)
theorem step1_lets (m a c : Nat) : step1 m a c = (decide (c < a) && lets a m c) := rfl
/-! ### takes -/
theorem before_take {b : Bench} {k : Nat} (h : k < b.row.length) : lastW b.rod ((ws b).take k) = before b k := by
  rw [before_get h]
  have hl : (ws b).length = b.row.length := List.length_map ..
  cases k with
  | zero => rfl
  | succ k =>
    have hk : k < (ws b).length := by omega
    rw [List.take_succ_eq_append_getElem hk, lastW_snoc, List.getD_cons_succ, List.getD_eq_getElem?_getD, List.getElem?_eq_getElem hk]
    rfl
end Mm

end
section
set_option Elab.async false
set_option linter.all false
set_option maxRecDepth 100000
set_option maxHeartbeats 2000000
namespace My
open PySem PySem.Spec PyProof.Rows L2
def top (i : Nat) : Stmt := PySem.Challenge.pw_wiredies_s01_answers.main.body.getD i (.Pass ⟨0, 0, 0, 0⟩)
abbrev s_Die_init : Stmt := inClass (top 1) 0
abbrev s_Die_wide : Stmt := inClass (top 1) 1
abbrev s_Die_wide_after : Stmt := inClass (top 1) 2
abbrev s_Die_metres_left : Stmt := inClass (top 1) 3
abbrev s_Die_grind : Stmt := inClass (top 1) 4
abbrev s_Die_draw : Stmt := inClass (top 1) 5
abbrev s_Bench_init : Stmt := inClass (top 9) 0
abbrev s_Bench_begin : Stmt := inClass (top 9) 1
abbrev s_Bench_has_die : Stmt := inClass (top 9) 2
abbrev s_Bench_widths_of : Stmt := inClass (top 9) 3
abbrev s_Bench_widths : Stmt := inClass (top 9) 4
abbrev s_Bench_widths_after : Stmt := inClass (top 9) 5
abbrev s_Bench_wide_out : Stmt := inClass (top 9) 6
abbrev s_Bench_wide_ahead : Stmt := inClass (top 9) 7
abbrev s_Bench_reaches : Stmt := inClass (top 9) 8
abbrev s_Bench_wrong_place : Stmt := inClass (top 9) 9
abbrev s_Bench_holds : Stmt := inClass (top 9) 10
abbrev s_Bench_metres_out : Stmt := inClass (top 9) 11
abbrev s_Bench_draw : Stmt := inClass (top 9) 12
abbrev s_Bench_fewest_dies : Stmt := inClass (top 9) 13
abbrev s_Bench_rows_one_longer : Stmt := inClass (top 9) 14
abbrev s_most_lets : Stmt := top 2
abbrev s_goes : Stmt := top 3
abbrev s_least_width : Stmt := top 4
abbrev s_metres_through : Stmt := top 5
abbrev s_greatest_in_common : Stmt := top 6
abbrev s_part_taken : Stmt := top 7
abbrev s_is_width : Stmt := top 29
abbrev s_can_be_wanted : Stmt := top 30
abbrev s_begin : Stmt := top 31
abbrev s_add_die : Stmt := top 32
abbrev s_grind : Stmt := top 33
abbrev s_change_rod : Stmt := top 34
abbrev s_change_want : Stmt := top 35
abbrev s_put : Stmt := top 36
abbrev s_take : Stmt := top 37
abbrev s_empty_row : Stmt := top 38
abbrev s_tell_holds : Stmt := top 39
abbrev s_tell_wrong : Stmt := top 40
abbrev s_run_refusal : Stmt := top 41
abbrev s_run : Stmt := top 42
abbrev s_tell_may : Stmt := top 43
abbrev s_tell_out : Stmt := top 44
abbrev s_tell_longest : Stmt := top 45
abbrev s_tell_fewest : Stmt := top 46
abbrev s_set_row : Stmt := top 47
abbrev s_tell_takes : Stmt := top 48
abbrev s_tell_least : Stmt := top 49
abbrev s_tell_size : Stmt := top 50
abbrev s_tell_left : Stmt := top 51
abbrev s_tell_row : Stmt := top 52
abbrev s_tell_sums : Stmt := top 53
abbrev s_answer : Stmt := top 56
abbrev s_answers : Stmt := top 57
theorem sc_Die_init : FnScope ["self", "ground", "life"] ["self", "ground", "life"] (defScope s_Die_init) := ⟨rfl, rfl, rfl, by decide +kernel, rfl, by decide +kernel, by decide +kernel⟩
theorem sc_Die_wide : FnScope ["self"] ["self"] (defScope s_Die_wide) := ⟨rfl, rfl, rfl, by decide +kernel, rfl, by decide +kernel, by decide +kernel⟩
theorem sc_Die_wide_after : FnScope ["self", "metres"] ["self", "metres"] (defScope s_Die_wide_after) := ⟨rfl, rfl, rfl, by decide +kernel, rfl, by decide +kernel, by decide +kernel⟩
theorem sc_Die_metres_left : FnScope ["self"] ["self"] (defScope s_Die_metres_left) := ⟨rfl, rfl, rfl, by decide +kernel, rfl, by decide +kernel, by decide +kernel⟩
theorem sc_Die_grind : FnScope ["self", "width"] ["self", "width"] (defScope s_Die_grind) := ⟨rfl, rfl, rfl, by decide +kernel, rfl, by decide +kernel, by decide +kernel⟩
theorem sc_Die_draw : FnScope ["self", "metres"] ["self", "metres"] (defScope s_Die_draw) := ⟨rfl, rfl, rfl, by decide +kernel, rfl, by decide +kernel, by decide +kernel⟩
theorem sc_Bench_init : FnScope ["self"] ["self"] (defScope s_Bench_init) := ⟨rfl, rfl, rfl, by decide +kernel, rfl, by decide +kernel, by decide +kernel⟩
theorem sc_Bench_begin : FnScope ["self", "rod", "most", "want", "off"] ["self", "rod", "most", "want", "off"] (defScope s_Bench_begin) := ⟨rfl, rfl, rfl, by decide +kernel, rfl, by decide +kernel, by decide +kernel⟩
theorem sc_Bench_has_die : FnScope ["self", "number"] ["self", "number"] (defScope s_Bench_has_die) := ⟨rfl, rfl, rfl, by decide +kernel, rfl, by decide +kernel, by decide +kernel⟩
theorem sc_Bench_widths_of : FnScope ["self", "row", "number"] ["self", "row"] (defScope s_Bench_widths_of) := ⟨rfl, rfl, rfl, by decide +kernel, rfl, by decide +kernel, by decide +kernel⟩
theorem sc_Bench_widths : FnScope ["self"] ["self"] (defScope s_Bench_widths) := ⟨rfl, rfl, rfl, by decide +kernel, rfl, by decide +kernel, by decide +kernel⟩
theorem sc_Bench_widths_after : FnScope ["self", "metres", "found", "number", "die"] ["self", "metres"] (defScope s_Bench_widths_after) := ⟨rfl, rfl, rfl, by decide +kernel, rfl, by decide +kernel, by decide +kernel⟩
theorem sc_Bench_wide_out : FnScope ["self", "widths"] ["self", "widths"] (defScope s_Bench_wide_out) := ⟨rfl, rfl, rfl, by decide +kernel, rfl, by decide +kernel, by decide +kernel⟩
theorem sc_Bench_wide_ahead : FnScope ["self", "place"] ["self", "place"] (defScope s_Bench_wide_ahead) := ⟨rfl, rfl, rfl, by decide +kernel, rfl, by decide +kernel, by decide +kernel⟩
theorem sc_Bench_reaches : FnScope ["self", "width"] ["self", "width"] (defScope s_Bench_reaches) := ⟨rfl, rfl, rfl, by decide +kernel, rfl, by decide +kernel, by decide +kernel⟩
theorem sc_Bench_wrong_place : FnScope ["self", "widths", "before", "place", "width"] ["self", "widths"] (defScope s_Bench_wrong_place) := ⟨rfl, rfl, rfl, by decide +kernel, rfl, by decide +kernel, by decide +kernel⟩
theorem sc_Bench_holds : FnScope ["self", "widths"] ["self", "widths"] (defScope s_Bench_holds) := ⟨rfl, rfl, rfl, by decide +kernel, rfl, by decide +kernel, by decide +kernel⟩
theorem sc_Bench_metres_out : FnScope ["self", "metres"] ["self", "metres"] (defScope s_Bench_metres_out) := ⟨rfl, rfl, rfl, by decide +kernel, rfl, by decide +kernel, by decide +kernel⟩
theorem sc_Bench_draw : FnScope ["self", "metres", "number", "die"] ["self", "metres"] (defScope s_Bench_draw) := ⟨rfl, rfl, rfl, by decide +kernel, rfl, by decide +kernel, by decide +kernel⟩
theorem sc_Bench_fewest_dies : FnScope ["self", "rows", "row"] ["self"] (defScope s_Bench_fewest_dies) := ⟨rfl, rfl, rfl, by decide +kernel, rfl, by decide +kernel, by decide +kernel⟩
theorem sc_Bench_rows_one_longer : FnScope ["self", "rows", "longer", "row", "before", "number", "die"] ["self", "rows"] (defScope s_Bench_rows_one_longer) := ⟨rfl, rfl, rfl, by decide +kernel, rfl, by decide +kernel, by decide +kernel⟩
theorem sc_most_lets : FnScope ["wider", "narrower", "most"] ["wider", "narrower", "most"] (defScope s_most_lets) := ⟨rfl, rfl, rfl, by decide +kernel, rfl, by decide +kernel, by decide +kernel⟩
theorem sc_goes : FnScope ["wider", "narrower", "most"] ["wider", "narrower", "most"] (defScope s_goes) := ⟨rfl, rfl, rfl, by decide +kernel, rfl, by decide +kernel, by decide +kernel⟩
theorem sc_least_width : FnScope ["wider", "most", "too_narrow", "let", "middle"] ["wider", "most"] (defScope s_least_width) := ⟨rfl, rfl, rfl, by decide +kernel, rfl, by decide +kernel, by decide +kernel⟩
theorem sc_metres_through : FnScope ["metres", "rod", "width"] ["metres", "rod", "width"] (defScope s_metres_through) := ⟨rfl, rfl, rfl, by decide +kernel, rfl, by decide +kernel, by decide +kernel⟩
theorem sc_greatest_in_common : FnScope ["first", "second", "rest"] ["first", "second"] (defScope s_greatest_in_common) := ⟨rfl, rfl, rfl, by decide +kernel, rfl, by decide +kernel, by decide +kernel⟩
theorem sc_part_taken : FnScope ["wider", "narrower", "section", "taken", "common"] ["wider", "narrower"] (defScope s_part_taken) := ⟨rfl, rfl, rfl, by decide +kernel, rfl, by decide +kernel, by decide +kernel⟩
theorem sc_is_width : FnScope ["number"] ["number"] (defScope s_is_width) := ⟨rfl, rfl, rfl, by decide +kernel, rfl, by decide +kernel, by decide +kernel⟩
theorem sc_can_be_wanted : FnScope ["width", "off"] ["width", "off"] (defScope s_can_be_wanted) := ⟨rfl, rfl, rfl, by decide +kernel, rfl, by decide +kernel, by decide +kernel⟩
theorem sc_begin : FnScope ["bench", "given", "rod", "most", "want", "off"] ["bench", "given"] (defScope s_begin) := ⟨rfl, rfl, rfl, by decide +kernel, rfl, by decide +kernel, by decide +kernel⟩
theorem sc_add_die : FnScope ["bench", "given", "width", "life", "number"] ["bench", "given"] (defScope s_add_die) := ⟨rfl, rfl, rfl, by decide +kernel, rfl, by decide +kernel, by decide +kernel⟩
theorem sc_grind : FnScope ["bench", "given", "number", "width", "die", "before"] ["bench", "given"] (defScope s_grind) := ⟨rfl, rfl, rfl, by decide +kernel, rfl, by decide +kernel, by decide +kernel⟩
theorem sc_change_rod : FnScope ["bench", "given", "rod", "before"] ["bench", "given"] (defScope s_change_rod) := ⟨rfl, rfl, rfl, by decide +kernel, rfl, by decide +kernel, by decide +kernel⟩
theorem sc_change_want : FnScope ["bench", "given", "want", "off", "before"] ["bench", "given"] (defScope s_change_want) := ⟨rfl, rfl, rfl, by decide +kernel, rfl, by decide +kernel, by decide +kernel⟩
theorem sc_put : FnScope ["bench", "given", "number"] ["bench", "given"] (defScope s_put) := ⟨rfl, rfl, rfl, by decide +kernel, rfl, by decide +kernel, by decide +kernel⟩
theorem sc_take : FnScope ["bench", "given"] ["bench", "given"] (defScope s_take) := ⟨rfl, rfl, rfl, by decide +kernel, rfl, by decide +kernel, by decide +kernel⟩
theorem sc_empty_row : FnScope ["bench", "given", "before"] ["bench", "given"] (defScope s_empty_row) := ⟨rfl, rfl, rfl, by decide +kernel, rfl, by decide +kernel, by decide +kernel⟩
theorem sc_tell_holds : FnScope ["bench", "given"] ["bench", "given"] (defScope s_tell_holds) := ⟨rfl, rfl, rfl, by decide +kernel, rfl, by decide +kernel, by decide +kernel⟩
theorem sc_tell_wrong : FnScope ["bench", "given", "place"] ["bench", "given"] (defScope s_tell_wrong) := ⟨rfl, rfl, rfl, by decide +kernel, rfl, by decide +kernel, by decide +kernel⟩
theorem sc_run_refusal : FnScope ["bench", "metres"] ["bench", "metres"] (defScope s_run_refusal) := ⟨rfl, rfl, rfl, by decide +kernel, rfl, by decide +kernel, by decide +kernel⟩
theorem sc_run : FnScope ["bench", "given", "metres", "refusal", "out"] ["bench", "given"] (defScope s_run) := ⟨rfl, rfl, rfl, by decide +kernel, rfl, by decide +kernel, by decide +kernel⟩
theorem sc_tell_may : FnScope ["bench", "given", "refusal"] ["bench", "given"] (defScope s_tell_may) := ⟨rfl, rfl, rfl, by decide +kernel, rfl, by decide +kernel, by decide +kernel⟩
theorem sc_tell_out : FnScope ["bench", "given", "metres"] ["bench", "given"] (defScope s_tell_out) := ⟨rfl, rfl, rfl, by decide +kernel, rfl, by decide +kernel, by decide +kernel⟩
theorem sc_tell_longest : FnScope ["bench", "given", "metres"] ["bench", "given"] (defScope s_tell_longest) := ⟨rfl, rfl, rfl, by decide +kernel, rfl, by decide +kernel, by decide +kernel⟩
theorem sc_tell_fewest : FnScope ["bench", "given", "row"] ["bench", "given"] (defScope s_tell_fewest) := ⟨rfl, rfl, rfl, by decide +kernel, rfl, by decide +kernel, by decide +kernel⟩
theorem sc_set_row : FnScope ["bench", "given", "row"] ["bench", "given"] (defScope s_set_row) := ⟨rfl, rfl, rfl, by decide +kernel, rfl, by decide +kernel, by decide +kernel⟩
theorem sc_tell_takes : FnScope ["bench", "given", "place", "before", "width"] ["bench", "given"] (defScope s_tell_takes) := ⟨rfl, rfl, rfl, by decide +kernel, rfl, by decide +kernel, by decide +kernel⟩
theorem sc_tell_least : FnScope ["bench", "given", "width"] ["bench", "given"] (defScope s_tell_least) := ⟨rfl, rfl, rfl, by decide +kernel, rfl, by decide +kernel, by decide +kernel⟩
theorem sc_tell_size : FnScope ["bench", "given", "number", "die"] ["bench", "given"] (defScope s_tell_size) := ⟨rfl, rfl, rfl, by decide +kernel, rfl, by decide +kernel, by decide +kernel⟩
theorem sc_tell_left : FnScope ["bench", "given", "number"] ["bench", "given"] (defScope s_tell_left) := ⟨rfl, rfl, rfl, by decide +kernel, rfl, by decide +kernel, by decide +kernel⟩
theorem sc_tell_row : FnScope ["bench", "given"] ["bench", "given"] (defScope s_tell_row) := ⟨rfl, rfl, rfl, by decide +kernel, rfl, by decide +kernel, by decide +kernel⟩
theorem sc_tell_sums : FnScope ["bench", "given", "out"] ["bench", "given"] (defScope s_tell_sums) := ⟨rfl, rfl, rfl, by decide +kernel, rfl, by decide +kernel, by decide +kernel⟩
theorem sc_answer : FnScope ["bench", "call", "given"] ["bench", "call", "given"] (defScope s_answer) := ⟨rfl, rfl, rfl, by decide +kernel, rfl, by decide +kernel, by decide +kernel⟩
theorem sc_answers : FnScope ["calls", "bench", "told", "place", "call", "behind", "numbers"] ["calls"] (defScope s_answers) := ⟨rfl, rfl, rfl, by decide +kernel, rfl, by decide +kernel, by decide +kernel⟩
structure Adr where
  C_Die : Addr
  C_Bench : Addr
  f_Die_init : Addr
  fd_Die_init : FuncData
  f_Die_wide : Addr
  fd_Die_wide : FuncData
  f_Die_wide_after : Addr
  fd_Die_wide_after : FuncData
  f_Die_metres_left : Addr
  fd_Die_metres_left : FuncData
  f_Die_grind : Addr
  fd_Die_grind : FuncData
  f_Die_draw : Addr
  fd_Die_draw : FuncData
  f_Bench_init : Addr
  fd_Bench_init : FuncData
  f_Bench_begin : Addr
  fd_Bench_begin : FuncData
  f_Bench_has_die : Addr
  fd_Bench_has_die : FuncData
  f_Bench_widths_of : Addr
  fd_Bench_widths_of : FuncData
  f_Bench_widths : Addr
  fd_Bench_widths : FuncData
  f_Bench_widths_after : Addr
  fd_Bench_widths_after : FuncData
  f_Bench_wide_out : Addr
  fd_Bench_wide_out : FuncData
  f_Bench_wide_ahead : Addr
  fd_Bench_wide_ahead : FuncData
  f_Bench_reaches : Addr
  fd_Bench_reaches : FuncData
  f_Bench_wrong_place : Addr
  fd_Bench_wrong_place : FuncData
  f_Bench_holds : Addr
  fd_Bench_holds : FuncData
  f_Bench_metres_out : Addr
  fd_Bench_metres_out : FuncData
  f_Bench_draw : Addr
  fd_Bench_draw : FuncData
  f_Bench_fewest_dies : Addr
  fd_Bench_fewest_dies : FuncData
  f_Bench_rows_one_longer : Addr
  fd_Bench_rows_one_longer : FuncData
  f_most_lets : Addr
  fd_most_lets : FuncData
  f_goes : Addr
  fd_goes : FuncData
  f_least_width : Addr
  fd_least_width : FuncData
  f_metres_through : Addr
  fd_metres_through : FuncData
  f_greatest_in_common : Addr
  fd_greatest_in_common : FuncData
  f_part_taken : Addr
  fd_part_taken : FuncData
  f_is_width : Addr
  fd_is_width : FuncData
  f_can_be_wanted : Addr
  fd_can_be_wanted : FuncData
  f_begin : Addr
  fd_begin : FuncData
  f_add_die : Addr
  fd_add_die : FuncData
  f_grind : Addr
  fd_grind : FuncData
  f_change_rod : Addr
  fd_change_rod : FuncData
  f_change_want : Addr
  fd_change_want : FuncData
  f_put : Addr
  fd_put : FuncData
  f_take : Addr
  fd_take : FuncData
  f_empty_row : Addr
  fd_empty_row : FuncData
  f_tell_holds : Addr
  fd_tell_holds : FuncData
  f_tell_wrong : Addr
  fd_tell_wrong : FuncData
  f_run_refusal : Addr
  fd_run_refusal : FuncData
  f_run : Addr
  fd_run : FuncData
  f_tell_may : Addr
  fd_tell_may : FuncData
  f_tell_out : Addr
  fd_tell_out : FuncData
  f_tell_longest : Addr
  fd_tell_longest : FuncData
  f_tell_fewest : Addr
  fd_tell_fewest : FuncData
  f_set_row : Addr
  fd_set_row : FuncData
  f_tell_takes : Addr
  fd_tell_takes : FuncData
  f_tell_least : Addr
  fd_tell_least : FuncData
  f_tell_size : Addr
  fd_tell_size : FuncData
  f_tell_left : Addr
  fd_tell_left : FuncData
  f_tell_row : Addr
  fd_tell_row : FuncData
  f_tell_sums : Addr
  fd_tell_sums : FuncData
  f_answer : Addr
  fd_answer : FuncData
  f_answers : Addr
  fd_answers : FuncData
  k_BEGIN : Tok
  k_NO_SUCH_DIE : Tok
  k_ROW_EMPTY : Tok
  k_NOT_BEGUN : Tok
  k_DIE_IN_USE : Tok
  k_DIE_IN_ROW : Tok
  k_OUT_OF_BOUNDS : Tok
  k_NO_ROOM : Tok
  k_NOT_AS_IT_STANDS : Tok
  k_WOULD_NOT_HOLD : Tok
  k_LEAST_WIDTH : Tok
  k_GREATEST_WIDTH : Tok
  k_GREATEST_MOST : Tok
  k_GREATEST_OFF : Tok
  k_GREATEST_LIFE : Tok
  k_GREATEST_RUN : Tok
  k_STEP_OF_RUNS : Tok
  k_DIES_AT_MOST : Tok
  a_ANSWERED_BY : Addr
  a_FOLLOWED_BY : Addr
structure Txt (K : PySem.W.Frag) (mg : Str → Option Value) (t : Adr) : Prop where
  cl_Die : Cls K t.C_Die
  m_Die : mg "Die" = some (.ref t.C_Die)
  M_Die : Mk K t.C_Die t.f_Die_init
  n_Die_ground : NoAttr K t.C_Die "ground"
  n_Die_life : NoAttr K t.C_Die "life"
  n_Die_drawn : NoAttr K t.C_Die "drawn"
  me_Die_wide : Meth K t.C_Die "wide" t.f_Die_wide
  me_Die_wide_after : Meth K t.C_Die "wide_after" t.f_Die_wide_after
  me_Die_metres_left : Meth K t.C_Die "metres_left" t.f_Die_metres_left
  me_Die_grind : Meth K t.C_Die "grind" t.f_Die_grind
  me_Die_draw : Meth K t.C_Die "draw" t.f_Die_draw
  cl_Bench : Cls K t.C_Bench
  m_Bench : mg "Bench" = some (.ref t.C_Bench)
  M_Bench : Mk K t.C_Bench t.f_Bench_init
  n_Bench_begun : NoAttr K t.C_Bench "begun"
  n_Bench_rod : NoAttr K t.C_Bench "rod"
  n_Bench_most : NoAttr K t.C_Bench "most"
  n_Bench_want : NoAttr K t.C_Bench "want"
  n_Bench_off : NoAttr K t.C_Bench "off"
  n_Bench_dies : NoAttr K t.C_Bench "dies"
  n_Bench_row : NoAttr K t.C_Bench "row"
  n_Bench_metres_drawn : NoAttr K t.C_Bench "metres_drawn"
  me_Bench_begin : Meth K t.C_Bench "begin" t.f_Bench_begin
  me_Bench_has_die : Meth K t.C_Bench "has_die" t.f_Bench_has_die
  me_Bench_widths_of : Meth K t.C_Bench "widths_of" t.f_Bench_widths_of
  me_Bench_widths : Meth K t.C_Bench "widths" t.f_Bench_widths
  me_Bench_widths_after : Meth K t.C_Bench "widths_after" t.f_Bench_widths_after
  me_Bench_wide_out : Meth K t.C_Bench "wide_out" t.f_Bench_wide_out
  me_Bench_wide_ahead : Meth K t.C_Bench "wide_ahead" t.f_Bench_wide_ahead
  me_Bench_reaches : Meth K t.C_Bench "reaches" t.f_Bench_reaches
  me_Bench_wrong_place : Meth K t.C_Bench "wrong_place" t.f_Bench_wrong_place
  me_Bench_holds : Meth K t.C_Bench "holds" t.f_Bench_holds
  me_Bench_metres_out : Meth K t.C_Bench "metres_out" t.f_Bench_metres_out
  me_Bench_draw : Meth K t.C_Bench "draw" t.f_Bench_draw
  me_Bench_fewest_dies : Meth K t.C_Bench "fewest_dies" t.f_Bench_fewest_dies
  me_Bench_rows_one_longer : Meth K t.C_Bench "rows_one_longer" t.f_Bench_rows_one_longer
  F_Die_init : Fun K "__init__" "Die.__init__" s_Die_init t.f_Die_init t.fd_Die_init
  b_Die_init : Binds K t.fd_Die_init ["self", "ground", "life"] []
  F_Die_wide : Fun K "wide" "Die.wide" s_Die_wide t.f_Die_wide t.fd_Die_wide
  b_Die_wide : Binds K t.fd_Die_wide ["self"] []
  F_Die_wide_after : Fun K "wide_after" "Die.wide_after" s_Die_wide_after t.f_Die_wide_after t.fd_Die_wide_after
  b_Die_wide_after : Binds K t.fd_Die_wide_after ["self", "metres"] []
  F_Die_metres_left : Fun K "metres_left" "Die.metres_left" s_Die_metres_left t.f_Die_metres_left t.fd_Die_metres_left
  b_Die_metres_left : Binds K t.fd_Die_metres_left ["self"] []
  F_Die_grind : Fun K "grind" "Die.grind" s_Die_grind t.f_Die_grind t.fd_Die_grind
  b_Die_grind : Binds K t.fd_Die_grind ["self", "width"] []
  F_Die_draw : Fun K "draw" "Die.draw" s_Die_draw t.f_Die_draw t.fd_Die_draw
  b_Die_draw : Binds K t.fd_Die_draw ["self", "metres"] []
  F_Bench_init : Fun K "__init__" "Bench.__init__" s_Bench_init t.f_Bench_init t.fd_Bench_init
  b_Bench_init : Binds K t.fd_Bench_init ["self"] []
  F_Bench_begin : Fun K "begin" "Bench.begin" s_Bench_begin t.f_Bench_begin t.fd_Bench_begin
  b_Bench_begin : Binds K t.fd_Bench_begin ["self", "rod", "most", "want", "off"] []
  F_Bench_has_die : Fun K "has_die" "Bench.has_die" s_Bench_has_die t.f_Bench_has_die t.fd_Bench_has_die
  b_Bench_has_die : Binds K t.fd_Bench_has_die ["self", "number"] []
  F_Bench_widths_of : Fun K "widths_of" "Bench.widths_of" s_Bench_widths_of t.f_Bench_widths_of t.fd_Bench_widths_of
  b_Bench_widths_of : Binds K t.fd_Bench_widths_of ["self", "row"] []
  F_Bench_widths : Fun K "widths" "Bench.widths" s_Bench_widths t.f_Bench_widths t.fd_Bench_widths
  b_Bench_widths : Binds K t.fd_Bench_widths ["self"] []
  F_Bench_widths_after : Fun K "widths_after" "Bench.widths_after" s_Bench_widths_after t.f_Bench_widths_after t.fd_Bench_widths_after
  b_Bench_widths_after : Binds K t.fd_Bench_widths_after ["self", "metres"] []
  F_Bench_wide_out : Fun K "wide_out" "Bench.wide_out" s_Bench_wide_out t.f_Bench_wide_out t.fd_Bench_wide_out
  b_Bench_wide_out : Binds K t.fd_Bench_wide_out ["self", "widths"] []
  F_Bench_wide_ahead : Fun K "wide_ahead" "Bench.wide_ahead" s_Bench_wide_ahead t.f_Bench_wide_ahead t.fd_Bench_wide_ahead
  b_Bench_wide_ahead : Binds K t.fd_Bench_wide_ahead ["self", "place"] []
  F_Bench_reaches : Fun K "reaches" "Bench.reaches" s_Bench_reaches t.f_Bench_reaches t.fd_Bench_reaches
  b_Bench_reaches : Binds K t.fd_Bench_reaches ["self", "width"] []
  F_Bench_wrong_place : Fun K "wrong_place" "Bench.wrong_place" s_Bench_wrong_place t.f_Bench_wrong_place t.fd_Bench_wrong_place
  b_Bench_wrong_place : Binds K t.fd_Bench_wrong_place ["self", "widths"] []
  F_Bench_holds : Fun K "holds" "Bench.holds" s_Bench_holds t.f_Bench_holds t.fd_Bench_holds
  b_Bench_holds : Binds K t.fd_Bench_holds ["self", "widths"] []
  F_Bench_metres_out : Fun K "metres_out" "Bench.metres_out" s_Bench_metres_out t.f_Bench_metres_out t.fd_Bench_metres_out
  b_Bench_metres_out : Binds K t.fd_Bench_metres_out ["self", "metres"] []
  F_Bench_draw : Fun K "draw" "Bench.draw" s_Bench_draw t.f_Bench_draw t.fd_Bench_draw
  b_Bench_draw : Binds K t.fd_Bench_draw ["self", "metres"] []
  F_Bench_fewest_dies : Fun K "fewest_dies" "Bench.fewest_dies" s_Bench_fewest_dies t.f_Bench_fewest_dies t.fd_Bench_fewest_dies
  b_Bench_fewest_dies : Binds K t.fd_Bench_fewest_dies ["self"] []
  F_Bench_rows_one_longer : Fun K "rows_one_longer" "Bench.rows_one_longer" s_Bench_rows_one_longer t.f_Bench_rows_one_longer t.fd_Bench_rows_one_longer
  b_Bench_rows_one_longer : Binds K t.fd_Bench_rows_one_longer ["self", "rows"] []
  F_most_lets : Fun K "most_lets" "most_lets" s_most_lets t.f_most_lets t.fd_most_lets
  b_most_lets : Binds K t.fd_most_lets ["wider", "narrower", "most"] []
  m_most_lets : mg "most_lets" = some (.ref t.f_most_lets)
  F_goes : Fun K "goes" "goes" s_goes t.f_goes t.fd_goes
  b_goes : Binds K t.fd_goes ["wider", "narrower", "most"] []
  m_goes : mg "goes" = some (.ref t.f_goes)
  F_least_width : Fun K "least_width" "least_width" s_least_width t.f_least_width t.fd_least_width
  b_least_width : Binds K t.fd_least_width ["wider", "most"] []
  m_least_width : mg "least_width" = some (.ref t.f_least_width)
  F_metres_through : Fun K "metres_through" "metres_through" s_metres_through t.f_metres_through t.fd_metres_through
  b_metres_through : Binds K t.fd_metres_through ["metres", "rod", "width"] []
  m_metres_through : mg "metres_through" = some (.ref t.f_metres_through)
  F_greatest_in_common : Fun K "greatest_in_common" "greatest_in_common" s_greatest_in_common t.f_greatest_in_common t.fd_greatest_in_common
  b_greatest_in_common : Binds K t.fd_greatest_in_common ["first", "second"] []
  m_greatest_in_common : mg "greatest_in_common" = some (.ref t.f_greatest_in_common)
  F_part_taken : Fun K "part_taken" "part_taken" s_part_taken t.f_part_taken t.fd_part_taken
  b_part_taken : Binds K t.fd_part_taken ["wider", "narrower"] []
  m_part_taken : mg "part_taken" = some (.ref t.f_part_taken)
  F_is_width : Fun K "is_width" "is_width" s_is_width t.f_is_width t.fd_is_width
  b_is_width : Binds K t.fd_is_width ["number"] []
  m_is_width : mg "is_width" = some (.ref t.f_is_width)
  F_can_be_wanted : Fun K "can_be_wanted" "can_be_wanted" s_can_be_wanted t.f_can_be_wanted t.fd_can_be_wanted
  b_can_be_wanted : Binds K t.fd_can_be_wanted ["width", "off"] []
  m_can_be_wanted : mg "can_be_wanted" = some (.ref t.f_can_be_wanted)
  F_begin : Fun K "begin" "begin" s_begin t.f_begin t.fd_begin
  b_begin : Binds K t.fd_begin ["bench", "given"] []
  m_begin : mg "begin" = some (.ref t.f_begin)
  F_add_die : Fun K "add_die" "add_die" s_add_die t.f_add_die t.fd_add_die
  b_add_die : Binds K t.fd_add_die ["bench", "given"] []
  m_add_die : mg "add_die" = some (.ref t.f_add_die)
  F_grind : Fun K "grind" "grind" s_grind t.f_grind t.fd_grind
  b_grind : Binds K t.fd_grind ["bench", "given"] []
  m_grind : mg "grind" = some (.ref t.f_grind)
  F_change_rod : Fun K "change_rod" "change_rod" s_change_rod t.f_change_rod t.fd_change_rod
  b_change_rod : Binds K t.fd_change_rod ["bench", "given"] []
  m_change_rod : mg "change_rod" = some (.ref t.f_change_rod)
  F_change_want : Fun K "change_want" "change_want" s_change_want t.f_change_want t.fd_change_want
  b_change_want : Binds K t.fd_change_want ["bench", "given"] []
  m_change_want : mg "change_want" = some (.ref t.f_change_want)
  F_put : Fun K "put" "put" s_put t.f_put t.fd_put
  b_put : Binds K t.fd_put ["bench", "given"] []
  m_put : mg "put" = some (.ref t.f_put)
  F_take : Fun K "take" "take" s_take t.f_take t.fd_take
  b_take : Binds K t.fd_take ["bench", "given"] []
  m_take : mg "take" = some (.ref t.f_take)
  F_empty_row : Fun K "empty_row" "empty_row" s_empty_row t.f_empty_row t.fd_empty_row
  b_empty_row : Binds K t.fd_empty_row ["bench", "given"] []
  m_empty_row : mg "empty_row" = some (.ref t.f_empty_row)
  F_tell_holds : Fun K "tell_holds" "tell_holds" s_tell_holds t.f_tell_holds t.fd_tell_holds
  b_tell_holds : Binds K t.fd_tell_holds ["bench", "given"] []
  m_tell_holds : mg "tell_holds" = some (.ref t.f_tell_holds)
  F_tell_wrong : Fun K "tell_wrong" "tell_wrong" s_tell_wrong t.f_tell_wrong t.fd_tell_wrong
  b_tell_wrong : Binds K t.fd_tell_wrong ["bench", "given"] []
  m_tell_wrong : mg "tell_wrong" = some (.ref t.f_tell_wrong)
  F_run_refusal : Fun K "run_refusal" "run_refusal" s_run_refusal t.f_run_refusal t.fd_run_refusal
  b_run_refusal : Binds K t.fd_run_refusal ["bench", "metres"] []
  m_run_refusal : mg "run_refusal" = some (.ref t.f_run_refusal)
  F_run : Fun K "run" "run" s_run t.f_run t.fd_run
  b_run : Binds K t.fd_run ["bench", "given"] []
  m_run : mg "run" = some (.ref t.f_run)
  F_tell_may : Fun K "tell_may" "tell_may" s_tell_may t.f_tell_may t.fd_tell_may
  b_tell_may : Binds K t.fd_tell_may ["bench", "given"] []
  m_tell_may : mg "tell_may" = some (.ref t.f_tell_may)
  F_tell_out : Fun K "tell_out" "tell_out" s_tell_out t.f_tell_out t.fd_tell_out
  b_tell_out : Binds K t.fd_tell_out ["bench", "given"] []
  m_tell_out : mg "tell_out" = some (.ref t.f_tell_out)
  F_tell_longest : Fun K "tell_longest" "tell_longest" s_tell_longest t.f_tell_longest t.fd_tell_longest
  b_tell_longest : Binds K t.fd_tell_longest ["bench", "given"] []
  m_tell_longest : mg "tell_longest" = some (.ref t.f_tell_longest)
  F_tell_fewest : Fun K "tell_fewest" "tell_fewest" s_tell_fewest t.f_tell_fewest t.fd_tell_fewest
  b_tell_fewest : Binds K t.fd_tell_fewest ["bench", "given"] []
  m_tell_fewest : mg "tell_fewest" = some (.ref t.f_tell_fewest)
  F_set_row : Fun K "set_row" "set_row" s_set_row t.f_set_row t.fd_set_row
  b_set_row : Binds K t.fd_set_row ["bench", "given"] []
  m_set_row : mg "set_row" = some (.ref t.f_set_row)
  F_tell_takes : Fun K "tell_takes" "tell_takes" s_tell_takes t.f_tell_takes t.fd_tell_takes
  b_tell_takes : Binds K t.fd_tell_takes ["bench", "given"] []
  m_tell_takes : mg "tell_takes" = some (.ref t.f_tell_takes)
  F_tell_least : Fun K "tell_least" "tell_least" s_tell_least t.f_tell_least t.fd_tell_least
  b_tell_least : Binds K t.fd_tell_least ["bench", "given"] []
  m_tell_least : mg "tell_least" = some (.ref t.f_tell_least)
  F_tell_size : Fun K "tell_size" "tell_size" s_tell_size t.f_tell_size t.fd_tell_size
  b_tell_size : Binds K t.fd_tell_size ["bench", "given"] []
  m_tell_size : mg "tell_size" = some (.ref t.f_tell_size)
  F_tell_left : Fun K "tell_left" "tell_left" s_tell_left t.f_tell_left t.fd_tell_left
  b_tell_left : Binds K t.fd_tell_left ["bench", "given"] []
  m_tell_left : mg "tell_left" = some (.ref t.f_tell_left)
  F_tell_row : Fun K "tell_row" "tell_row" s_tell_row t.f_tell_row t.fd_tell_row
  b_tell_row : Binds K t.fd_tell_row ["bench", "given"] []
  m_tell_row : mg "tell_row" = some (.ref t.f_tell_row)
  F_tell_sums : Fun K "tell_sums" "tell_sums" s_tell_sums t.f_tell_sums t.fd_tell_sums
  b_tell_sums : Binds K t.fd_tell_sums ["bench", "given"] []
  m_tell_sums : mg "tell_sums" = some (.ref t.f_tell_sums)
  F_answer : Fun K "answer" "answer" s_answer t.f_answer t.fd_answer
  b_answer : Binds K t.fd_answer ["bench", "call", "given"] []
  m_answer : mg "answer" = some (.ref t.f_answer)
  F_answers : Fun K "answers" "answers" s_answers t.f_answers t.fd_answers
  b_answers : Binds K t.fd_answers ["calls"] []
  m_answers : mg "answers" = some (.ref t.f_answers)
  c_BEGIN : mg "BEGIN" = some (.int (0) t.k_BEGIN)
  c_NO_SUCH_DIE : mg "NO_SUCH_DIE" = some (.int (-2) t.k_NO_SUCH_DIE)
  c_ROW_EMPTY : mg "ROW_EMPTY" = some (.int (-6) t.k_ROW_EMPTY)
  c_NOT_BEGUN : mg "NOT_BEGUN" = some (.int (-11) t.k_NOT_BEGUN)
  c_DIE_IN_USE : mg "DIE_IN_USE" = some (.int (-16) t.k_DIE_IN_USE)
  c_DIE_IN_ROW : mg "DIE_IN_ROW" = some (.int (-17) t.k_DIE_IN_ROW)
  c_OUT_OF_BOUNDS : mg "OUT_OF_BOUNDS" = some (.int (-22) t.k_OUT_OF_BOUNDS)
  c_NO_ROOM : mg "NO_ROOM" = some (.int (-28) t.k_NO_ROOM)
  c_NOT_AS_IT_STANDS : mg "NOT_AS_IT_STANDS" = some (.int (-33) t.k_NOT_AS_IT_STANDS)
  c_WOULD_NOT_HOLD : mg "WOULD_NOT_HOLD" = some (.int (-61) t.k_WOULD_NOT_HOLD)
  c_LEAST_WIDTH : mg "LEAST_WIDTH" = some (.int (100) t.k_LEAST_WIDTH)
  c_GREATEST_WIDTH : mg "GREATEST_WIDTH" = some (.int (10000) t.k_GREATEST_WIDTH)
  c_GREATEST_MOST : mg "GREATEST_MOST" = some (.int (500) t.k_GREATEST_MOST)
  c_GREATEST_OFF : mg "GREATEST_OFF" = some (.int (1000) t.k_GREATEST_OFF)
  c_GREATEST_LIFE : mg "GREATEST_LIFE" = some (.int (100000) t.k_GREATEST_LIFE)
  c_GREATEST_RUN : mg "GREATEST_RUN" = some (.int (20000) t.k_GREATEST_RUN)
  c_STEP_OF_RUNS : mg "STEP_OF_RUNS" = some (.int (100) t.k_STEP_OF_RUNS)
  c_DIES_AT_MOST : mg "DIES_AT_MOST" = some (.int (8) t.k_DIES_AT_MOST)
  c_ANSWERED_BY : mg "ANSWERED_BY" = some (.ref t.a_ANSWERED_BY)
  q_ANSWERED_BY : ∀ H, SqT K H t.a_ANSWERED_BY [.ref t.f_begin, .ref t.f_add_die, .ref t.f_grind, .ref t.f_change_rod, .ref t.f_change_want, .ref t.f_put, .ref t.f_take, .ref t.f_empty_row, .ref t.f_tell_holds, .ref t.f_tell_wrong, .ref t.f_run, .ref t.f_tell_may, .ref t.f_tell_out, .ref t.f_tell_longest, .ref t.f_tell_fewest, .ref t.f_set_row, .ref t.f_tell_takes, .ref t.f_tell_least, .ref t.f_tell_size, .ref t.f_tell_left, .ref t.f_tell_row, .ref t.f_tell_sums]
  c_FOLLOWED_BY : mg "FOLLOWED_BY" = some (.ref t.a_FOLLOWED_BY)
  q_FOLLOWED_BY : ∀ H, SqT K H t.a_FOLLOWED_BY [.int (4), .int (2), .int (2), .int (1), .int (2), .int (1), .int (0), .int (0), .int (0), .int (0), .int (1), .int (1), .int (1), .int (0), .int (0), .int (0), .int (1), .int (1), .int (1), .int (1), .int (0), .int (0)]
  n_abs : mg "abs" = none
  n_enumerate : mg "enumerate" = none
  n_len : mg "len" = none
  n_range : mg "range" = none
/-- f(e, ..) where f is any expression that gives a def of the text -/
def tCallV (X : Cx) (tf : TE) (t : TA) : TE := fun σ H Q => tf σ H fun x H1 => ∃ f fd k ps sp, x = .ref f ∧ FnOk X.prog X.w X.K X.mg X.base CX0 k f fd ps sp ∧ Room k X.A ∧ PySem.W.keepIn X.K (.ref f) = true ∧ Binds X.K fd ps [] ∧
  t σ H1 fun vs H2 => sp vs H2 Q E0
theorem pe_callV {X : Cx} {fe e : Expr} {es : List Expr} {pos : Pos} {tf : TE} {t : TA} (hf : PE X fe tf) (ha : PA X (e :: es) t)
    (hev : eval (.Call fe (e :: es) [] pos) X.env = (do callWith pos (← eval fe X.env) [] (backTo pos (starEach (e :: es) X.env)) (backToKw pos (keywordEach [] X.env))) := by rfl)
    (he : starEach (e :: es) X.env = (false, eval e X.env) :: starEach es X.env := by rfl) (hpl : (backTo pos (starEach es X.env)).any (·.1) = false := by rfl) :
    PE X (.Call fe (e :: es) [] pos) (tCallV X tf t) := by
  intro pins s σ H Q I h
  refine Call_ (thn (hf pins s σ H _ I h) fun u s1 ⟨x, H1, I1, rx, f, fd, k, ps, sp, ex, F, hr, hk, hb, q⟩ => ?_) hev
  subst ex
  obtain rfl : u = Value.ref f := rx
  refine PySem.W.callWith_K (h₀ := X.base) I.ok.mod.kin hk (thn (ha pos pins s1 σ H1 _ I1 q) fun us s2 ⟨vs, H2, I2, r, q2⟩ => ⟨I2.kIn, ?_⟩) he hpl
  exact run_fn (dvs := []) (ds := []) (E := E0) F hr hb .nil pass0 I2 r (by rw [List.append_nil]; exact q2)
end My

end
section
set_option Elab.async false
set_option linter.all false
set_option maxRecDepth 100000
set_option maxHeartbeats 2000000
namespace My
open PySem PySem.Spec PyProof.Rows L2
theorem upd_upd {H : Hp} {a : Addr} {o o' : HO} : upd (upd H a o) a o' = upd H a o' := by
  funext b
  unfold upd
  by_cases h : b = a
  · rw [if_pos h, if_pos h]
  · rw [if_neg h, if_neg h, if_neg h]
theorem same_new {H : Hp} {q : Addr} {o : HO} (h : H q = none) : Same H (upd H q o) := fun b u e => by
  rw [upd_ne (ne_of_none e h)]
  exact e
theorem same_put {H H2 : Hp} {q : Addr} {o : HO} (s : Same H H2) (h : H q = none) : Same H (upd H2 q o) := fun b u e => by
  rw [upd_ne (ne_of_none e h)]
  exact s b u e
def nats (l : List Nat) : List V := l.map fun (n : Nat) => V.int (n : Int)
def numsV (l : List Int) : List V := l.map V.int
/-! ### a die -/
def df (d : Kp239.Die) : List (Str × V) := [("ground", .int d.ground), ("life", .int d.life), ("drawn", .int d.drawn)]
section
variable {P : Program} {w : World} {K : PySem.W.Frag} {mg : Str → Option Value} {base : Heap} {t : Adr}
def sp_Die_init (C : Addr) : Sp := fun vs H Q _ => ∃ (p dx : Addr) (g l : Nat), vs = [.ref p, .int g, .int l] ∧ H p = some (.ins C dx []) ∧ Q .non (upd H p (.ins C dx (df ⟨g, l, 0⟩)))
theorem ok_Die_init (T : Txt K mg t) : FnOk P w K mg base CX0 1 t.f_Die_init t.fd_Die_init ["self", "ground", "life"] (sp_Die_init t.C_Die) := by
  refine T.F_Die_init.ok sc_Die_init (fun vs H Q E h => ?_) (fun cdv A outer s H vs Q E hr h => ?_)
  · obtain ⟨p, dx, g, l, rfl, _⟩ := h
    rfl
  · obtain ⟨p, dx, g, l, rfl, hp, k⟩ := h
    refine ⟨_, (pss_cons (ps_fld (pv 0) (pv 1) rfl) (pss_cons (ps_fld (pv 0) (pv 2) rfl) (pss_one (ps_fld (pv 0) pe_int rfl)))), ?_⟩
    refine ⟨_, rfl, _, rfl, p, _, dx, _, rfl, hp, T.cl_Die, T.n_Die_ground, (by show 0 < 1000; decide), ?_⟩
    refine ⟨_, rfl, _, rfl, p, _, dx, _, rfl, upd_same, T.cl_Die, T.n_Die_life, (by show 1 < 1000; decide), ?_⟩
    refine ⟨_, rfl, p, _, dx, _, rfl, upd_same, T.cl_Die, T.n_Die_drawn, (by show 2 < 1000; decide), ?_⟩
    rw [upd_upd, upd_upd]
    exact k
def sp_Die_wide_after (C : Addr) : Sp := fun vs H Q _ => ∃ (p dx : Addr) (d : Kp239.Die) (m : Nat), vs = [.ref p, .int m] ∧ H p = some (.ins C dx (df d)) ∧ 0 < d.life ∧ d.life < 1073741824 ∧ Q (.int ((d.ground + (d.drawn + m) / d.life : Nat) : Int)) H
theorem ok_Die_wide_after (T : Txt K mg t) : FnOk P w K mg base CX0 1 t.f_Die_wide_after t.fd_Die_wide_after ["self", "metres"] (sp_Die_wide_after t.C_Die) := by
  refine T.F_Die_wide_after.ok sc_Die_wide_after (fun vs H Q E h => ?_) (fun cdv A outer s H vs Q E hr h => ?_)
  · obtain ⟨p, dx, d, m, rfl, _⟩ := h
    rfl
  · obtain ⟨p, dx, d, m, rfl, hp, h1, h2, k⟩ := h
    refine ⟨_, (pss_one (ps_ret (pe_op op_add (pe_fld (pv 0) rfl) (pe_op op_fdiv (pe_op op_add (pe_fld (pv 0) rfl) (pv 1)) (pe_fld (pv 0) rfl))))), ?_⟩
    refine ⟨_, rfl, p, _, dx, _, _, rfl, hp, T.cl_Die, T.n_Die_ground, rfl, _, rfl, p, _, dx, _, _, rfl, hp, T.cl_Die, T.n_Die_drawn, rfl, _, rfl, _, _, rfl, rfl, _, rfl, p, _, dx, _, _, rfl, hp, T.cl_Die, T.n_Die_life, rfl,
      _, _, rfl, rfl, ⟨by omega, by omega⟩, _, _, rfl, rfl, ?_⟩
    have e : (d.ground : Int) + ((d.drawn : Int) + (m : Int)) / (d.life : Int) = ((d.ground + (d.drawn + m) / d.life : Nat) : Int) := by
      rw [Int.natCast_add, Int.natCast_ediv, Int.natCast_add]
    rw [← e] at k
    exact k
def sp_Die_wide (C : Addr) : Sp := fun vs H Q _ => ∃ (p dx : Addr) (d : Kp239.Die), vs = [.ref p] ∧ H p = some (.ins C dx (df d)) ∧ 0 < d.life ∧ d.life < 1073741824 ∧ Q (.int (Kp239.wide d : Nat)) H
theorem ok_Die_wide (T : Txt K mg t) : FnOk P w K mg base CX0 2 t.f_Die_wide t.fd_Die_wide ["self"] (sp_Die_wide t.C_Die) := by
  have G_Die_wide_after := ok_Die_wide_after (P := P) (w := w) (base := base) T
  refine T.F_Die_wide.ok sc_Die_wide (fun vs H Q E h => ?_) (fun cdv A outer s H vs Q E hr h => ?_)
  · obtain ⟨p, dx, d, rfl, _⟩ := h
    rfl
  · obtain ⟨p, dx, d, rfl, hp, h1, h2, k⟩ := h
    refine ⟨_, (pss_one (ps_ret (pe_meth (pv 0) T.cl_Die T.me_Die_wide_after G_Die_wide_after (hr.mono (by decide)) T.b_Die_wide_after .nil pass0 (pa_cons pe_int pa_nil)))), ?_⟩
    refine ⟨_, rfl, p, dx, _, rfl, hp, rfl, p, dx, d, 0, rfl, hp, h1, h2, ?_⟩
    rw [Nat.add_zero]
    exact k
def sp_Die_grind (C : Addr) : Sp := fun vs H Q _ => ∃ (p dx : Addr) (d : Kp239.Die) (z : Nat), vs = [.ref p, .int z] ∧ H p = some (.ins C dx (df d)) ∧ Q .non (upd H p (.ins C dx (df { d with ground := z, drawn := 0 })))
theorem ok_Die_grind (T : Txt K mg t) : FnOk P w K mg base CX0 1 t.f_Die_grind t.fd_Die_grind ["self", "width"] (sp_Die_grind t.C_Die) := by
  refine T.F_Die_grind.ok sc_Die_grind (fun vs H Q E h => ?_) (fun cdv A outer s H vs Q E hr h => ?_)
  · obtain ⟨p, dx, d, z, rfl, _⟩ := h
    rfl
  · obtain ⟨p, dx, d, z, rfl, hp, k⟩ := h
    refine ⟨_, (pss_cons (ps_fld (pv 0) (pv 1) rfl) (pss_one (ps_fld (pv 0) pe_int rfl))), ?_⟩
    refine ⟨_, rfl, _, rfl, p, _, dx, _, rfl, hp, T.cl_Die, T.n_Die_ground, (by show 3 < 1000; decide), ?_⟩
    refine ⟨_, rfl, p, _, dx, _, rfl, upd_same, T.cl_Die, T.n_Die_drawn, (by show 3 < 1000; decide), ?_⟩
    rw [upd_upd]
    exact k
def sp_Die_draw (C : Addr) : Sp := fun vs H Q _ => ∃ (p dx : Addr) (d : Kp239.Die) (z : Nat), vs = [.ref p, .int z] ∧ H p = some (.ins C dx (df d)) ∧ Q .non (upd H p (.ins C dx (df { d with drawn := d.drawn + z })))
theorem ok_Die_draw (T : Txt K mg t) : FnOk P w K mg base CX0 1 t.f_Die_draw t.fd_Die_draw ["self", "metres"] (sp_Die_draw t.C_Die) := by
  refine T.F_Die_draw.ok sc_Die_draw (fun vs H Q E h => ?_) (fun cdv A outer s H vs Q E hr h => ?_)
  · obtain ⟨p, dx, d, z, rfl, _⟩ := h
    rfl
  · obtain ⟨p, dx, d, z, rfl, hp, k⟩ := h
    refine ⟨_, (pss_one (ps_fldaug (pv 0) (pv 1) in_add)), ?_⟩
    refine ⟨_, rfl, p, _, dx, _, _, rfl, hp, T.cl_Die, T.n_Die_drawn, rfl, _, rfl, _, _, rfl, rfl, dx, _, hp, (by show 3 < 1000; decide), ?_⟩
    exact k
theorem bfalse {x : Bool} (h : ¬ x = true) : x = false := by cases x <;> simp_all
theorem ifB {c : Bool} {A B : Prop} (h1 : c = true → A) (h2 : c = false → B) : if c = true then A else B := ite2 h1 fun h => h2 (bfalse h)
theorem ifN {c : Bool} {A B : Prop} (h1 : c = false → A) (h2 : c = true → B) : if (!c) = true then A else B := by
  cases c
  · exact iteT (h1 rfl)
  · exact iteF (h2 rfl)
theorem ifD {c A B : Prop} [Decidable c] (h1 : c → A) (h2 : ¬ c → B) : if decide c = true then A else B := by
  by_cases h : c
  · rw [decide_eq_true h]; exact iteT (h1 h)
  · rw [decide_eq_false h]; exact iteF (h2 h)
theorem ifND {c A B : Prop} [Decidable c] (h1 : ¬ c → A) (h2 : c → B) : if (!decide c) = true then A else B := by
  by_cases h : c
  · rw [decide_eq_true h]; exact iteF (h2 h)
  · rw [decide_eq_false h]; exact iteT (h1 h)
theorem ifI {y : Nat} {A B : Prop} (h1 : 0 < y → A) (h2 : y = 0 → B) : if ((y : Int) != 0) = true then A else B := by
  by_cases h : y = 0
  · subst h
    exact iteF (h2 rfl)
  · have e : ((y : Int) != 0) = true := by
      rw [bne_iff_ne]
      omega
    rw [e]
    exact iteT (h1 (by omega))
def sp_Die_metres_left (C : Addr) : Sp := fun vs H Q _ => ∃ (p dx : Addr) (d : Kp239.Die), vs = [.ref p] ∧ H p = some (.ins C dx (df d)) ∧ 0 < d.life ∧ Q (.int ((d.life - d.drawn % d.life : Nat) : Int)) H
theorem ok_Die_metres_left (T : Txt K mg t) : FnOk P w K mg base CX0 1 t.f_Die_metres_left t.fd_Die_metres_left ["self"] (sp_Die_metres_left t.C_Die) := by
  refine T.F_Die_metres_left.ok sc_Die_metres_left (fun vs H Q E h => ?_) (fun cdv A outer s H vs Q E hr h => ?_)
  · obtain ⟨p, dx, d, rfl, _⟩ := h
    rfl
  · obtain ⟨p, dx, d, rfl, hp, h1, k⟩ := h
    refine ⟨_, (pss_one (ps_ret (pe_op op_sub (pe_fld (pv 0) rfl) (pe_op op_mod (pe_fld (pv 0) rfl) (pe_fld (pv 0) rfl))))), ?_⟩
    refine ⟨_, rfl, p, _, dx, _, _, rfl, hp, T.cl_Die, T.n_Die_life, rfl, _, rfl, p, _, dx, _, _, rfl, hp, T.cl_Die, T.n_Die_drawn, rfl, _, rfl, p, _, dx, _, _, rfl, hp, T.cl_Die, T.n_Die_life, rfl,
      _, _, rfl, rfl, (by omega), _, _, rfl, rfl, ?_⟩
    have h2 : d.drawn % d.life < d.life := Nat.mod_lt _ h1
    have e : (d.life : Int) - (d.drawn : Int) % (d.life : Int) = ((d.life - d.drawn % d.life : Nat) : Int) := by
      rw [Int.natCast_sub (Nat.le_of_lt h2), Int.natCast_emod]
    rw [← e] at k
    exact k
/-! ### what wire does at one die -/
def sp_most_lets : Sp := fun vs H Q _ => ∃ (a c m : Nat), vs = [.int a, .int c, .int m] ∧ a ≤ 10000 ∧ c ≤ 10000 ∧ m ≤ 1000 ∧ Q (.bl (Mm.lets a m c)) H
theorem ok_most_lets (T : Txt K mg t) : FnOk P w K mg base CX0 1 t.f_most_lets t.fd_most_lets ["wider", "narrower", "most"] sp_most_lets := by
  refine T.F_most_lets.ok sc_most_lets (fun vs H Q E h => ?_) (fun cdv A outer s H vs Q E hr h => ?_)
  · obtain ⟨a, c, m, rfl, _⟩ := h
    rfl
  · obtain ⟨a, c, m, rfl, h1, h2, h3, k⟩ := h
    refine ⟨_, (pss_one (ps_ret (pe_cmpR op_le (pe_op op_mul (pe_op op_mul (pv 0) (pv 0)) (pe_op op_sub pe_int (pv 2))) (pe_op op_mul (pe_op op_mul pe_int (pv 1)) (pv 1)) (nomark _)))), ?_⟩
    refine ⟨_, rfl, _, rfl, _, _, rfl, rfl, .inl ⟨by omega, by omega⟩, _, rfl, _, _, rfl, rfl, _, _, rfl, rfl, .inr ⟨by omega, by omega⟩, _, rfl, _, _, rfl, rfl, .inl ⟨by omega, by omega⟩, _, rfl, _, _, rfl, rfl, .inr ⟨by omega, by omega⟩, _, _, rfl, rfl, ?_⟩
    have e : decide ((a : Int) * a * (1000 - m) ≤ 1000 * c * c) = Mm.lets a m c := by
      unfold Mm.lets
      have e1 : (a : Int) * a * (1000 - m) = ((a * a * (1000 - m) : Nat) : Int) := by
        rw [Int.natCast_mul, Int.natCast_mul, Int.natCast_sub h3]
        rfl
      have e2 : (1000 : Int) * c * c = ((1000 * (c * c) : Nat) : Int) := by
        rw [Int.natCast_mul, Int.natCast_mul, Int.mul_assoc]
        rfl
      rw [e1, e2]
      exact decide_eq_decide.mpr Int.ofNat_le
    rw [← e] at k
    exact k
def sp_goes : Sp := fun vs H Q _ => ∃ (a c m : Nat), vs = [.int a, .int c, .int m] ∧ a ≤ 10000 ∧ m ≤ 1000 ∧ Q (.bl (Kp239.step1 m a c)) H
theorem ok_goes (T : Txt K mg t) : FnOk P w K mg base CX0 2 t.f_goes t.fd_goes ["wider", "narrower", "most"] sp_goes := by
  have G_most_lets := ok_most_lets (P := P) (w := w) (base := base) T
  refine T.F_goes.ok sc_goes (fun vs H Q E h => ?_) (fun cdv A outer s H vs Q E hr h => ?_)
  · obtain ⟨a, c, m, rfl, _⟩ := h
    rfl
  · obtain ⟨a, c, m, rfl, h1, h3, k⟩ := h
    refine ⟨_, (pss_one (ps_ret (pe_and (pe_cmpR op_lt (pv 1) (pv 0) (nomark _)) (pe_one (pe_call G_most_lets (hr.mono (by decide)) rfl T.m_most_lets T.F_most_lets.kp T.b_most_lets .nil pass0 (pa_cons (pv 0) (pa_cons (pv 1) (pa_cons (pv 2) pa_nil)))))))), ?_⟩
    rw [Mm.step1_lets] at k
    refine ⟨_, rfl, _, rfl, _, _, rfl, rfl, _, rfl, ifD (fun q => ?_) fun q => ?_⟩
    · rw [decide_eq_true (show c < a by omega), Bool.true_and] at k
      exact ⟨_, rfl, _, rfl, _, rfl, a, c, m, rfl, h1, by omega, h3, k⟩
    · rw [decide_eq_false (show ¬ c < a by omega), Bool.false_and] at k
      exact k
def sp_least_width : Sp := fun vs H Q _ => ∃ (b : Kp239.Bench) (a : Nat), vs = [.int a, .int b.most] ∧ a ≤ 10000 ∧ b.most ≤ 1000 ∧ Q (.int (Kp239.least b a : Nat)) H
theorem ok_least_width (T : Txt K mg t) : FnOk P w K mg base CX0 2 t.f_least_width t.fd_least_width ["wider", "most"] sp_least_width := by
  have G_most_lets := ok_most_lets (P := P) (w := w) (base := base) T
  refine T.F_least_width.ok sc_least_width (fun vs H Q E h => ?_) (fun cdv A outer s H vs Q E hr h => ?_)
  · obtain ⟨b, a, rfl, _⟩ := h
    rfl
  · obtain ⟨b, a, rfl, h1, h2, k⟩ := h
    refine ⟨_, (pss_cons (ps_set (i := 2) sc_least_width.nd rfl (Or.inl rfl) (pe_un un_neg pe_int)) (pss_cons (ps_set (i := 3) sc_least_width.nd rfl (Or.inl rfl) (pv 0)) (pss_cons (ps_while PassesOwn.never (pt_cmpR op_gt (pe_op op_sub (pv 3) (pv 2)) pe_int (nomark _)) (pss_cons (ps_set (i := 4) sc_least_width.nd rfl (Or.inl rfl) (pe_op op_fdiv (pe_op op_add (pv 2) (pv 3)) pe_int)) (pss_one (ps_if (pt_truth (pe_call G_most_lets (hr.mono (by decide)) rfl T.m_most_lets T.F_most_lets.kp T.b_most_lets .nil pass0 (pa_cons (pv 0) (pa_cons (pv 4) (pa_cons (pv 1) pa_nil)))) (fun _ => rfl)) (pss_one (ps_set (i := 3) sc_least_width.nd rfl (Or.inl rfl) (pv 4))) (pss_one (ps_set (i := 2) sc_least_width.nd rfl (Or.inl rfl) (pv 4))))))) (pss_one (ps_ret (pv 3)))))), ?_⟩
    refine ⟨_, rfl, _, rfl, ?_⟩
    refine ⟨fun n σ H' => ∃ (x : Int) (y : Nat) (v : Option V), n = ((y : Int) - x).toNat ∧ σ = [some (.int a), some (.int b.most), some (.int x), some (.int y), v] ∧ H' = H ∧ -1 ≤ x ∧ x < y ∧ y ≤ a ∧ Mm.lets a b.most y = true ∧ ∀ j : Nat, (j : Int) ≤ x → Mm.lets a b.most j = false,
      ⟨_, -1, a, none, rfl, rfl, rfl, by omega, by omega, Nat.le_refl _, Mm.lets_top _ _, fun j hj => by omega⟩, ?_⟩
    rintro n σ H' ⟨x, y, v, rfl, rfl, rfl, hx, hxy, hya, hy, hj⟩
    refine ⟨_, rfl, _, rfl, _, _, rfl, rfl, _, _, rfl, rfl, _, rfl, ifD (fun q => ?_) fun q => ?_⟩
    · obtain ⟨z, hz⟩ : ∃ z : Nat, (x + (y : Int)) / 2 = (z : Int) := ⟨((x + (y : Int)) / 2).toNat, by omega⟩
      refine ⟨fun σ' H'' => ∃ (x' : Int) (y' : Nat) (v' : Option V), ((y' : Int) - x').toNat < ((y : Int) - x).toNat ∧ σ' = [some (.int a), some (.int b.most), some (.int x'), some (.int y'), v'] ∧ H'' = H' ∧ -1 ≤ x' ∧ x' < y' ∧ y' ≤ a ∧ Mm.lets a b.most y' = true ∧ ∀ j : Nat, (j : Int) ≤ x' → Mm.lets a b.most j = false,
        fun σ' H'' ⟨x', y', v', z1, z2, z3, z4, z5, z6, z7, z8⟩ => ⟨_, z1, x', y', v', rfl, z2, z3, z4, z5, z6, z7, z8⟩, ?_⟩
      refine ⟨_, rfl, _, rfl, _, _, rfl, rfl, _, _, rfl, rfl, ⟨by decide, by decide⟩, ?_⟩
      refine ⟨_, rfl, _, rfl, _, rfl, a, z, b.most, (by rw [← hz]; rfl), h1, by omega, h2, _, rfl, ifB (fun e => ?_) fun e => ?_⟩
      · exact ⟨_, rfl, x, z, _, by omega, (by rw [← hz]; rfl), rfl, hx, by omega, by omega, e, hj⟩
      · refine ⟨_, rfl, z, y, _, by omega, (by rw [← hz]; rfl), rfl, by omega, by omega, hya, hy, fun j hjz => ?_⟩
        cases e2 : Mm.lets a b.most j with
        | false => rfl
        | true => rw [Mm.lets_mono (by omega) e2] at e; cases e
    · refine ⟨_, rfl, ?_⟩
      rw [Mm.least_by hy hya fun j hjy => hj j (by omega)] at k
      exact k
def sp_metres_through : Sp := fun vs H Q _ => ∃ (m r c : Nat), vs = [.int m, .int r, .int c] ∧ r ≤ 10000 ∧ 0 < c ∧ c ≤ 10000 ∧ Q (.int ((m * (r * r) / (c * c) : Nat) : Int)) H
theorem ok_metres_through (T : Txt K mg t) : FnOk P w K mg base CX0 1 t.f_metres_through t.fd_metres_through ["metres", "rod", "width"] sp_metres_through := by
  refine T.F_metres_through.ok sc_metres_through (fun vs H Q E h => ?_) (fun cdv A outer s H vs Q E hr h => ?_)
  · obtain ⟨m, r, c, rfl, _⟩ := h
    rfl
  · obtain ⟨m, r, c, rfl, h1, h2, h3, k⟩ := h
    have hp : 0 < c * c := Nat.mul_pos h2 h2
    have hq : c * c ≤ 10000 * 10000 := Nat.mul_le_mul h3 h3
    have e0 : (c : Int) * c = ((c * c : Nat) : Int) := (Int.natCast_mul c c).symm
    refine ⟨_, (pss_one (ps_ret (pe_op op_fdiv (pe_op op_mul (pe_op op_mul (pv 0) (pv 1)) (pv 1)) (pe_op op_mul (pv 2) (pv 2))))), ?_⟩
    refine ⟨_, rfl, _, rfl, _, _, rfl, rfl, .inr ⟨by omega, by omega⟩, _, rfl, _, _, rfl, rfl, .inr ⟨by omega, by omega⟩, _, rfl, _, rfl, _, _, rfl, rfl, .inl ⟨by omega, by omega⟩, _, _, rfl, rfl, ⟨by rw [e0]; omega, by rw [e0]; omega⟩, ?_⟩
    have e : (m : Int) * r * r / (c * c) = ((m * (r * r) / (c * c) : Nat) : Int) := by
      rw [Int.natCast_ediv, Int.natCast_mul, Int.natCast_mul, Int.natCast_mul, Int.mul_assoc]
    rw [← e] at k
    exact k
def sp_greatest_in_common : Sp := fun vs H Q _ => ∃ (x y : Nat), vs = [.int x, .int y] ∧ Q (.int (Nat.gcd x y : Nat)) H
theorem ok_greatest_in_common (T : Txt K mg t) : FnOk P w K mg base CX0 1 t.f_greatest_in_common t.fd_greatest_in_common ["first", "second"] sp_greatest_in_common := by
  refine T.F_greatest_in_common.ok sc_greatest_in_common (fun vs H Q E h => ?_) (fun cdv A outer s H vs Q E hr h => ?_)
  · obtain ⟨x, y, rfl, _⟩ := h
    rfl
  · obtain ⟨x0, y0, rfl, k⟩ := h
    refine ⟨_, (pss_cons (ps_while PassesOwn.never (pt_truth (pv 1) (fun _ => rfl)) (pss_cons (ps_set (i := 2) sc_greatest_in_common.nd rfl (Or.inl rfl) (pe_op op_mod (pv 0) (pv 1))) (pss_cons (ps_set (i := 0) sc_greatest_in_common.nd rfl (Or.inl rfl) (pv 1)) (pss_one (ps_set (i := 1) sc_greatest_in_common.nd rfl (Or.inl rfl) (pv 2)))))) (pss_one (ps_ret (pv 0)))), ?_⟩
    refine ⟨fun n σ H' => ∃ (x y : Nat) (v : Option V), n = y ∧ σ = [some (.int x), some (.int y), v] ∧ H' = H ∧ Nat.gcd x y = Nat.gcd x0 y0, ⟨y0, x0, y0, none, rfl, rfl, rfl, rfl⟩, ?_⟩
    rintro n σ H' ⟨x, y, v, rfl, rfl, rfl, e⟩
    refine ⟨_, rfl, _, rfl, ifI (fun q => ?_) fun q => ?_⟩
    · refine ⟨fun σ' H'' => ∃ (v : Option V), σ' = [some (.int n), some (.int ((x : Int) % (n : Int))), v] ∧ H'' = H', fun σ' H'' ⟨v, z1, z2⟩ => ⟨x % n, Nat.mod_lt _ q, n, x % n, v, rfl, z1.trans (by rw [Int.natCast_emod]), z2, by rw [Mm.gcd_turn]; exact e⟩, ?_⟩
      exact ⟨_, rfl, _, rfl, _, _, rfl, rfl, (by omega), _, rfl, _, rfl, _, rfl, rfl⟩
    · refine ⟨_, rfl, ?_⟩
      subst q
      rw [Nat.gcd_zero_right] at e
      rw [← e] at k
      exact k
def sp_part_taken : Sp := fun vs H Q _ => ∃ (x y : Nat), vs = [.int x, .int y] ∧ x ≤ 10000 ∧ y < x ∧ ∀ H' q, Same H H' → H q = none → H' q = some (.lst (nats [(x * x - y * y) / Nat.gcd (x * x - y * y) (x * x), x * x / Nat.gcd (x * x - y * y) (x * x)])) → Q (.ref q) H'
theorem ok_part_taken (T : Txt K mg t) : FnOk P w K mg base CX0 2 t.f_part_taken t.fd_part_taken ["wider", "narrower"] sp_part_taken := by
  have G_greatest_in_common := ok_greatest_in_common (P := P) (w := w) (base := base) T
  refine T.F_part_taken.ok sc_part_taken (fun vs H Q E h => ?_) (fun cdv A outer s H vs Q E hr h => ?_)
  · obtain ⟨x, y, rfl, _⟩ := h
    rfl
  · obtain ⟨x, y, rfl, h1, h2, k⟩ := h
    have hp : 0 < x * x := Nat.mul_pos (by omega) (by omega)
    have hq : x * x ≤ 10000 * 10000 := Nat.mul_le_mul h1 h1
    have hr2 : y * y ≤ x * x := Nat.mul_le_mul (by omega) (by omega)
    have hg : 0 < Nat.gcd (x * x - y * y) (x * x) := Nat.gcd_pos_of_pos_right _ hp
    have hg2 : Nat.gcd (x * x - y * y) (x * x) ≤ x * x := Nat.gcd_le_right _ hp
    have e1 : (x : Int) * x = ((x * x : Nat) : Int) := (Int.natCast_mul x x).symm
    have e2 : (x : Int) * x - (y : Int) * y = ((x * x - y * y : Nat) : Int) := by
      rw [Int.natCast_sub hr2, Int.natCast_mul x x, Int.natCast_mul y y]
    refine ⟨_, (pss_cons (ps_set (i := 2) sc_part_taken.nd rfl (Or.inl rfl) (pe_op op_mul (pv 0) (pv 0))) (pss_cons (ps_set (i := 3) sc_part_taken.nd rfl (Or.inl rfl) (pe_op op_sub (pv 2) (pe_op op_mul (pv 1) (pv 1)))) (pss_cons (ps_set (i := 4) sc_part_taken.nd rfl (Or.inl rfl) (pe_call G_greatest_in_common (hr.mono (by decide)) rfl T.m_greatest_in_common T.F_greatest_in_common.kp T.b_greatest_in_common .nil pass0 (pa_cons (pv 3) (pa_cons (pv 2) pa_nil)))) (pss_one (ps_ret (pe_lst (pa_cons (pe_op op_fdiv (pv 3) (pv 4)) (pa_cons (pe_op op_fdiv (pv 2) (pv 4)) pa_nil)))))))), ?_⟩
    refine ⟨_, rfl, _, rfl, _, _, rfl, rfl, .inl ⟨by omega, by omega⟩, ?_⟩
    refine ⟨_, rfl, _, rfl, _, rfl, _, _, rfl, rfl, .inl ⟨by omega, by omega⟩, _, _, rfl, rfl, ?_⟩
    refine ⟨_, rfl, _, rfl, x * x - y * y, x * x, (by rw [← e1, ← e2]; rfl), ?_⟩
    generalize Nat.gcd (x * x - y * y) (x * x) = g at *
    refine ⟨_, rfl, _, rfl, _, _, rfl, rfl, ⟨by omega, by omega⟩, _, rfl, _, rfl, _, _, rfl, rfl, ⟨by omega, by omega⟩, (by show 2 ≤ sizeLine; decide), fun q hq => ?_⟩
    refine k _ q (same_new hq) hq ?_
    rw [upd_same]
    show some (HO.lst [V.int (((x : Int) * x - (y : Int) * y) / (g : Int)), V.int ((x : Int) * x / (g : Int))]) = _
    rw [e2, e1, ← Int.natCast_ediv, ← Int.natCast_ediv]
    rfl
end
end My


end
section
set_option Elab.async false
set_option linter.all false
set_option maxRecDepth 100000
set_option maxHeartbeats 2000000
namespace My
open PySem PySem.Spec PyProof.Rows L2
open Mm (ws wsA aft wp lastW holdsW Good)
/-! ### the bench -/
def bf (g : Bool) (b : Kp239.Bench) (ld lr : Addr) : List (Str × V) := [("begun", .bl g), ("rod", .int b.rod), ("most", .int b.most), ("want", .int b.want), ("off", .int b.off), ("dies", .ref ld), ("row", .ref lr), ("metres_drawn", .int b.metres)]
structure BenchAt (t : Adr) (H : Hp) (p ld lr : Addr) (as : List Addr) (g : Bool) (b : Kp239.Bench) : Prop where
  ob : ∃ dx, H p = some (.ins t.C_Bench dx (bf g b ld lr))
  dl : H ld = some (.lst (as.map V.ref))
  rl : H lr = some (.lst (nats b.row))
  ne : ld ≠ lr
  nd : as.Nodup
  len : as.length = b.dies.length
  at_ : ∀ (j : Nat) (a : Addr) (x : Kp239.Die), as[j]? = some a → b.dies[j]? = some x → ∃ dx, H a = some (.ins t.C_Die dx (df x))
section
variable {P : Program} {w : World} {K : PySem.W.Frag} {mg : Str → Option Value} {base : Heap} {t : Adr} {H H' : Hp} {p ld lr : Addr} {as : List Addr} {g : Bool} {b : Kp239.Bench}
theorem BenchAt.same (B : BenchAt t H p ld lr as g b) (s : Same H H') : BenchAt t H' p ld lr as g b := by
  obtain ⟨⟨dx, h⟩, h1, h2, h3, h4, h5, h6⟩ := B
  refine ⟨⟨dx, s _ _ h⟩, s _ _ h1, s _ _ h2, h3, h4, h5, fun j a x e1 e2 => ?_⟩
  obtain ⟨dy, q⟩ := h6 j a x e1 e2
  exact ⟨dy, s _ _ q⟩
theorem nats_get {l : List Nat} {i : Nat} {y : V} (h : (nats l)[i]? = some y) : ∃ n, l[i]? = some n ∧ y = V.int (n : Int) := by
  unfold nats at h
  rw [List.getElem?_map] at h
  cases e : l[i]? with
  | none =>
    rw [e] at h
    cases h
  | some n =>
    rw [e] at h
    exact ⟨n, rfl, (Option.some.inj h).symm⟩
theorem get_nats {l : List Nat} {i n : Nat} (h : l[i]? = some n) : (nats l)[i]? = some (V.int (n : Int)) := by
  unfold nats
  rw [List.getElem?_map, h]
  rfl
theorem nats_len (l : List Nat) : (nats l).length = l.length := List.length_map ..
theorem take_snoc {α : Type} : ∀ {l : List α} {i : Nat} {x : α}, l[i]? = some x → l.take (i + 1) = l.take i ++ [x]
  | [], i, x, h => by simp at h
  | a :: l, 0, x, h => by
    have e : a = x := Option.some.inj h
    subst e
    rfl
  | a :: l, i + 1, x, h => by
    have ih := take_snoc (l := l) (i := i) (x := x) h
    show a :: l.take (i + 1) = a :: l.take i ++ [x]
    rw [ih]
    rfl
theorem nats_snoc (l : List Nat) (n : Nat) : nats (l ++ [n]) = nats l ++ [V.int (n : Int)] := by
  unfold nats
  rw [List.map_append]
  rfl
/-- a die of the bench -/
theorem BenchAt.die (B : BenchAt t H p ld lr as g b) {d : Nat} (h : d < b.dies.length) : ∃ a dx, as[d]? = some a ∧ H a = some (.ins t.C_Die dx (df (Kp239.dieAt b d))) := by
  have h1 : d < as.length := by rw [B.len]; exact h
  obtain ⟨dx, q⟩ := B.at_ d _ _ (List.getElem?_eq_getElem h1) (List.getElem?_eq_getElem h)
  refine ⟨_, dx, List.getElem?_eq_getElem h1, ?_⟩
  rw [Mm.dieAt_get (List.getElem?_eq_getElem h)]
  exact q
theorem at_ref {as : List Addr} {d : Nat} {a : Addr} (h : as[d]? = some a) : atI (as.map V.ref) ((d : Nat) : Int) = some (V.ref a) := atI_nat (by rw [List.getElem?_map, h]; rfl)
/-! ### widths_after, widths -/
def sp_Bench_widths_after (t : Adr) : Sp := fun vs H Q _ => ∃ (p ld lr : Addr) (as : List Addr) (b : Kp239.Bench) (m : Nat), vs = [.ref p, .int m] ∧ BenchAt t H p ld lr as true b ∧ Good b ∧
  ∀ (H' : Hp) (q : Addr), Same H H' → H' q = some (.lst (nats (wsA b m))) → Q (.ref q) H'
theorem ok_Bench_widths_after (T : Txt K mg t) : FnOk P w K mg base CX0 3 t.f_Bench_widths_after t.fd_Bench_widths_after ["self", "metres"] (sp_Bench_widths_after t) := by
  have G_Die_wide_after := ok_Die_wide_after (P := P) (w := w) (base := base) T
  have G_Die_wide := ok_Die_wide (P := P) (w := w) (base := base) T
  have G_metres_through := ok_metres_through (P := P) (w := w) (base := base) T
  refine T.F_Bench_widths_after.ok sc_Bench_widths_after (fun vs H Q E h => ?_) (fun cdv A outer s H vs Q E hr h => ?_)
  · obtain ⟨p, ld, lr, as, b, m, rfl, _⟩ := h
    rfl
  · obtain ⟨p, ld, lr, as, b, m, rfl, B, gd, k⟩ := h
    refine ⟨_, (pss_cons (ps_set (i := 2) sc_Bench_widths_after.nd rfl (Or.inl rfl) (pe_lst pa_nil)) (pss_cons (ps_for PassesOwn.never rfl (pi_list (pe_fld (pv 0) rfl)) (pg_name (i := 3) sc_Bench_widths_after.nd rfl (Or.inl rfl)) (pss_cons (ps_set (i := 4) sc_Bench_widths_after.nd rfl (Or.inl rfl) (pe_ix ix_list (pe_fld (pv 0) rfl) (pv 3) (fun _ _ => rfl))) (pss_one (ps_expr (pe_bm PySem.F.plainAttrs_list PySem.F.slot_list_append PySem.F.type_list_append mt_append (pv 2) (pa_cons (pe_meth (pv 4) T.cl_Die T.me_Die_wide_after G_Die_wide_after (hr.mono (by decide)) T.b_Die_wide_after .nil pass0 (pa_cons (pe_call G_metres_through (hr.mono (by decide)) rfl T.m_metres_through T.F_metres_through.kp T.b_metres_through .nil pass0 (pa_cons (pv 1) (pa_cons (pe_fld (pv 0) rfl) (pa_cons (pe_meth0 (pv 4) T.cl_Die T.me_Die_wide G_Die_wide (hr.mono (by decide)) T.b_Die_wide .nil pass0) pa_nil)))) pa_nil)) pa_nil)))))) (pss_one (ps_ret (pv 2))))), ?_⟩
    refine ⟨Nat.zero_le _, fun q hq => ?_⟩
    have B1 := B.same (same_new (o := .lst []) hq)
    obtain ⟨dx, hob⟩ := B1.ob
    refine ⟨_, rfl, p, _, dx, _, _, rfl, hob, T.cl_Bench, T.n_Bench_row, rfl, lr, rfl, ⟨_, SqL.of B1.rl⟩, for_list (K := K) (a := lr) (xs := nats b.row) (fun i σ H' => ∃ v3 v4 : Option V, σ = [some (.ref p), some (.int m), some (.ref q), v3, v4] ∧ Same H H' ∧ H' q = some (.lst (nats ((wsA b m).take i))))
      ⟨none, none, rfl, same_new hq, upd_same⟩ (fun i σ H' _ ⟨_, _, _, s, _⟩ => SqL.of (B.same s).rl) ?_ ?_⟩
    · rintro i y σ H' hi ⟨v3, v4, rfl, s, hq'⟩
      obtain ⟨n, hn, rfl⟩ := nats_get hi
      have B2 := B.same s
      have hl : n < b.dies.length := gd.row n (List.mem_of_getElem? hn)
      obtain ⟨dy, hob2⟩ := B2.ob
      obtain ⟨a, da, ha, hA⟩ := B2.die hl
      have gn := gd.die hl
      have w1 : 100 ≤ Kp239.wide (Kp239.dieAt b n) := gd.slo hl
      have w2 : Kp239.wide (Kp239.dieAt b n) ≤ 10000 := gd.shi hl
      have r2 := gd.r2
      have l1 := gn.l1
      have l2 := gn.l2
      refine ⟨_, rfl, p, _, dy, _, _, rfl, hob2, T.cl_Bench, T.n_Bench_dies, rfl, _, rfl, ld, _, _, _, rfl, rfl, SqL.of B2.dl, at_ref ha, ?_⟩
      refine ⟨_, rfl, .inl ⟨rfl, _, SqL.of hq'⟩, _, rfl, a, da, _, rfl, hA, rfl, _, rfl, _, rfl, p, _, dy, _, _, rfl, hob2, T.cl_Bench, T.n_Bench_rod, rfl, _, rfl, a, da, _, rfl, hA, rfl, a, da, _, rfl, hA, by omega, by omega, ?_⟩
      refine ⟨m, b.rod, _, rfl, r2, by omega, w2, ?_⟩
      refine ⟨a, da, _, _, rfl, hA, by omega, by omega, ?_⟩
      have hw : (wsA b m)[i]? = some (aft b m n) := by
        unfold wsA
        rw [List.getElem?_map, hn]
        rfl
      refine ⟨q, _, _, rfl, rfl, hq', ?_, ?_⟩
      · rw [nats_len, List.length_take]
        have z1 : (wsA b m).length = b.row.length := List.length_map ..
        have z2 : i < b.row.length := (List.getElem?_eq_some_iff.mp hn).1
        have z3 : b.row.length ≤ 8 := Nat.le_trans (Mm.nd_le gd.nd gd.row) gd.dn
        exact Nat.lt_of_le_of_lt (Nat.le_trans (Nat.min_le_right _ _) (by rw [z1]; exact z3)) (by decide)
      · refine ⟨_, _, rfl, same_put s hq, ?_⟩
        rw [upd_same, take_snoc hw, nats_snoc]
        rfl
    · rintro σ H' ⟨v3, v4, rfl, s, hq'⟩
      refine ⟨_, rfl, ?_⟩
      refine k H' q s ?_
      rw [hq', nats_len]
      have z1 : (wsA b m).length = b.row.length := List.length_map ..
      rw [← z1, List.take_length]
/-! ### widths_of, widths -/
def sp_Bench_widths_of (t : Adr) : Sp := fun vs H Q _ => ∃ (p ld lr : Addr) (as : List Addr) (b : Kp239.Bench) (q : Addr) (l : List Nat), vs = [.ref p, .ref q] ∧ BenchAt t H p ld lr as true b ∧ Good b ∧ H q = some (.lst (nats l)) ∧ (∀ d ∈ l, d < b.dies.length) ∧ l.length ≤ 1000 ∧
  ∀ (H' : Hp) (q : Addr), Same H H' → H' q = some (.lst (nats (Mm.sizes b l))) → Q (.ref q) H'
theorem ok_Bench_widths_of (T : Txt K mg t) : FnOk P w K mg base CX0 3 t.f_Bench_widths_of t.fd_Bench_widths_of ["self", "row"] (sp_Bench_widths_of t) := by
  have G_Die_wide := ok_Die_wide (P := P) (w := w) (base := base) T
  refine T.F_Bench_widths_of.ok sc_Bench_widths_of (fun vs H Q E h => ?_) (fun cdv A outer s H vs Q E hr h => ?_)
  · obtain ⟨p, ld, lr, as, b, q, l, rfl, _⟩ := h
    rfl
  · obtain ⟨p, ld, lr, as, b, q, l, rfl, B, gd, hq, hlt, hlen, k⟩ := h
    refine ⟨_, (pss_one (ps_ret (pe_lc (own := [("number", 2)]) (te := (tMeth t.C_Die "wide" (sp_Die_wide t.C_Die) [] E0 (tOp (rIxL K) (tFld K (tVar 0) "dies") (tVar 2)) tNil)) rfl sc_Bench_widths_of.nd (pi_list (pv 1)) (blkOk_by (by show blkC ["self", "row", "number"] (defScope s_Bench_widths_of) _ _ = true; decide +kernel)) (fun _ _ _ _ _ => (pg_name (i := 2) sc_Bench_widths_of.nd rfl (Or.inl rfl))) (fun _ _ _ _ _ => pts_nil) (fun _ _ _ _ _ => (pe_meth0 (pe_ix ix_list (pe_fld (pv 0) rfl) (pv 2) (fun _ _ => rfl)) T.cl_Die T.me_Die_wide G_Die_wide (hr.mono (by decide)) T.b_Die_wide .nil pass0))))), ?_⟩
    refine ⟨_, rfl, q, rfl, ⟨_, SqL.of hq⟩, fun D hD => lc_list (K := K) (a := q) (xs := nats l) (fun i H' => Same H H' ∧ H' D = some (.lst (nats ((Mm.sizes b l).take i)))) ⟨same_new hD, upd_same⟩ (fun i H' _ ⟨s, _⟩ => SqL.of (s _ _ hq)) ?_ ?_⟩
    · rintro i y H' hi ⟨s, hD'⟩
      obtain ⟨n, hn, rfl⟩ := nats_get hi
      have B2 := B.same s
      have hl : n < b.dies.length := hlt n (List.mem_of_getElem? hn)
      obtain ⟨dy, hob2⟩ := B2.ob
      obtain ⟨a, da, ha, hA⟩ := B2.die hl
      have gn := gd.die hl
      have l1 := gn.l1
      have l2 := gn.l2
      refine ⟨rfl, ?_⟩
      unfold tYes
      refine iteT ?_
      refine ⟨_, rfl, p, _, dy, _, _, rfl, hob2, T.cl_Bench, T.n_Bench_dies, rfl, _, rfl, ld, _, _, _, rfl, rfl, SqL.of B2.dl, at_ref ha, a, da, _, rfl, hA, rfl, a, da, _, rfl, hA, by omega, by omega, ?_⟩
      have hw : (Mm.sizes b l)[i]? = some (Kp239.size b n) := by
        unfold Mm.sizes
        rw [List.getElem?_map, hn]
        rfl
      refine ⟨_, hD', ?_, same_put s hD, ?_⟩
      · rw [nats_len, List.length_take]
        have z1 : (Mm.sizes b l).length = l.length := List.length_map ..
        exact Nat.lt_of_le_of_lt (Nat.le_trans (Nat.min_le_right _ _) (by rw [z1]; exact hlen)) (by decide)
      · rw [upd_same, take_snoc hw, nats_snoc]
        rfl
    · rintro H' ⟨s, hD'⟩
      refine k H' D s ?_
      rw [hD', nats_len]
      have z1 : (Mm.sizes b l).length = l.length := List.length_map ..
      rw [← z1, List.take_length]
def sp_Bench_widths (t : Adr) : Sp := fun vs H Q _ => ∃ (p ld lr : Addr) (as : List Addr) (b : Kp239.Bench), vs = [.ref p] ∧ BenchAt t H p ld lr as true b ∧ Good b ∧
  ∀ (H' : Hp) (q : Addr), Same H H' → H' q = some (.lst (nats (ws b))) → Q (.ref q) H'
theorem row_le (gd : Good b) : b.row.length ≤ 8 := Nat.le_trans (Mm.nd_le gd.nd gd.row) gd.dn
theorem ok_Bench_widths (T : Txt K mg t) : FnOk P w K mg base CX0 4 t.f_Bench_widths t.fd_Bench_widths ["self"] (sp_Bench_widths t) := by
  have G_Bench_widths_of := ok_Bench_widths_of (P := P) (w := w) (base := base) T
  refine T.F_Bench_widths.ok sc_Bench_widths (fun vs H Q E h => ?_) (fun cdv A outer s H vs Q E hr h => ?_)
  · obtain ⟨p, ld, lr, as, b, rfl, _⟩ := h
    rfl
  · obtain ⟨p, ld, lr, as, b, rfl, B, gd, k⟩ := h
    refine ⟨_, (pss_one (ps_ret (pe_meth (pv 0) T.cl_Bench T.me_Bench_widths_of G_Bench_widths_of (hr.mono (by decide)) T.b_Bench_widths_of .nil pass0 (pa_cons (pe_fld (pv 0) rfl) pa_nil)))), ?_⟩
    obtain ⟨dx, hob⟩ := B.ob
    refine ⟨_, rfl, p, dx, _, rfl, hob, rfl, _, rfl, p, _, dx, _, _, rfl, hob, T.cl_Bench, T.n_Bench_row, rfl, p, ld, lr, as, b, lr, _, rfl, B, gd, B.rl, gd.row, ?_, fun H' q s hq => k H' q s hq⟩
    have := row_le gd
    omega
def sp_Bench_has_die (t : Adr) : Sp := fun vs H Q _ => ∃ (p ld lr : Addr) (as : List Addr) (b : Kp239.Bench) (d : Nat), vs = [.ref p, .int d] ∧ BenchAt t H p ld lr as true b ∧ Q (.bl (Kp239.isDie b d)) H
theorem ok_Bench_has_die (T : Txt K mg t) : FnOk P w K mg base CX0 1 t.f_Bench_has_die t.fd_Bench_has_die ["self", "number"] (sp_Bench_has_die t) := by
  refine T.F_Bench_has_die.ok sc_Bench_has_die (fun vs H Q E h => ?_) (fun cdv A outer s H vs Q E hr h => ?_)
  · obtain ⟨p, ld, lr, as, b, d, rfl, _⟩ := h
    rfl
  · obtain ⟨p, ld, lr, as, b, d, rfl, B, k⟩ := h
    refine ⟨_, (pss_one (ps_ret (pe_cmpR op_lt (pv 1) (pe_callB call_len_seq (by rfl) T.n_len boot_len (pa_cons (pe_fld (pv 0) rfl) pa_nil)) (nomark _)))), ?_⟩
    obtain ⟨dx, hob⟩ := B.ob
    refine ⟨_, rfl, _, rfl, p, _, dx, _, _, rfl, hob, T.cl_Bench, T.n_Bench_dies, rfl, ld, _, rfl, .inl (SqL.of B.dl), _, _, rfl, rfl, ?_⟩
    have e : decide ((d : Int) < ((as.map V.ref).length : Nat)) = Kp239.isDie b d := by
      unfold Kp239.isDie
      rw [List.length_map, B.len]
      exact decide_eq_decide.mpr Int.ofNat_lt
    rw [← e] at k
    exact k
end
end My


end
section
set_option Elab.async false
set_option linter.all false
set_option maxRecDepth 100000
set_option maxHeartbeats 2000000
namespace My
open PySem PySem.Spec PyProof.Rows L2
open Mm (ws wsA aft wp lastW holdsW Good)
/-- over enumerate(a list that the body leaves as it is) -/
theorem for_enum {K : PySem.W.Frag} {a : Addr} {xs : List V} {g : TG} {tb : TS} {D : Ends} {σ : L2.St} {H : Hp} (Pv : Nat → L2.St → Hp → Prop) (h0 : Pv 0 σ H) (hl : ∀ i σ H, i ≤ xs.length → Pv i σ H → SqL K H a xs)
    (hs : ∀ i x σ H T, xs[i]? = some x → Pv i σ H → H T = none → g (.ref T) σ (upd H T (.tup [.int (i : Nat), x])) fun σ2 H2 => tb { D with nx := Pv (i + 1), ct := Pv (i + 1), bk := D.nx } σ2 H2) (hd : ∀ σ H, Pv xs.length σ H → D.nx σ H) :
    ∃ W : Nat → Nat → L2.St → Hp → Prop, (∃ m, W 0 m σ H) ∧ ∀ i m σ H, W i m σ H →
      ((Ite K a).stop i H ∧ D.nx σ H) ∨ ((Ite K a).go i H ∧ ∃ N : L2.St → Hp → Prop, (∀ σ' H', N σ' H' → ∃ m', m' < m ∧ W (i + 1) m' σ' H') ∧ ∀ x H', (Ite K a).yld i H x H' → g x σ H' fun σ2 H2 => tb { D with nx := N, ct := N, bk := D.nx } σ2 H2) := by
  refine ⟨fun i m σ H => m = xs.length - i ∧ i ≤ xs.length ∧ Pv i σ H, ⟨xs.length, by simp, Nat.zero_le _, h0⟩, ?_⟩
  rintro i m σ H ⟨rfl, hi, p⟩
  have q := hl i σ H hi p
  by_cases hlt : i < xs.length
  · refine .inr ⟨⟨xs, xs[i], q, by simp [hlt]⟩, Pv (i + 1), fun σ' H' p' => ⟨xs.length - (i + 1), by omega, rfl, hlt, p'⟩, fun v H' y => ?_⟩
    obtain ⟨T, x, e, hT, e2, y⟩ := y
    subst e e2
    exact hs i x σ H T (y xs q) p hT
  · have e : i = xs.length := by omega
    subst e
    exact .inl ⟨⟨xs, q, Nat.le_refl _⟩, hd σ H p⟩
def optV : Option Nat → V
  | none => .non
  | some k => .int (k : Int)
section
variable {P : Program} {w : World} {K : PySem.W.Frag} {mg : Str → Option Value} {base : Heap} {t : Adr} {H H' : Hp} {p ld lr : Addr} {as : List Addr} {g : Bool} {b : Kp239.Bench}
def sp_Bench_wide_out (t : Adr) : Sp := fun vs H Q _ => ∃ (p ld lr : Addr) (as : List Addr) (b : Kp239.Bench) (q : Addr) (l : List Nat), vs = [.ref p, .ref q] ∧ BenchAt t H p ld lr as true b ∧ H q = some (.lst (nats l)) ∧ Q (.int (lastW b.rod l : Nat)) H
theorem ok_Bench_wide_out (T : Txt K mg t) : FnOk P w K mg base CX0 1 t.f_Bench_wide_out t.fd_Bench_wide_out ["self", "widths"] (sp_Bench_wide_out t) := by
  refine T.F_Bench_wide_out.ok sc_Bench_wide_out (fun vs H Q E h => ?_) (fun cdv A outer s H vs Q E hr h => ?_)
  · obtain ⟨p, ld, lr, as, b, q, l, rfl, _⟩ := h
    rfl
  · obtain ⟨p, ld, lr, as, b, q, l, rfl, B, hq, k⟩ := h
    obtain ⟨dx, hob⟩ := B.ob
    refine ⟨_, (pss_one (ps_ret (pe_ifExp (pt_truth (pv 1) (fun _ => rfl)) (pe_ix ix_list (pv 1) (pe_un un_neg pe_int) (fun _ _ => rfl)) (pe_fld (pv 0) rfl)))), ?_⟩
    refine ⟨_, rfl, _, .inl ⟨_, SqL.of hq, rfl⟩, ?_⟩
    rcases List.eq_nil_or_concat l with rfl | ⟨l', x, rfl⟩
    · refine iteF ?_
      exact ⟨_, rfl, p, _, dx, _, _, rfl, hob, T.cl_Bench, T.n_Bench_rod, rfl, k⟩
    · rw [List.concat_eq_append] at hq k ⊢
      rw [nats_snoc] at hq ⊢
      have e : (!(nats l' ++ [V.int (x : Int)]).isEmpty) = true := by simp
      rw [e]
      refine iteT ?_
      rw [Mm.lastW_snoc] at k
      exact ⟨_, rfl, _, rfl, q, _, _, _, rfl, rfl, SqL.of hq, atI_last _ _, k⟩
def sp_Bench_wrong_place (t : Adr) : Sp := fun vs H Q _ => ∃ (p ld lr : Addr) (as : List Addr) (b : Kp239.Bench) (q : Addr) (l : List Nat), vs = [.ref p, .ref q] ∧ BenchAt t H p ld lr as true b ∧ Good b ∧ H q = some (.lst (nats l)) ∧
  ∀ H', Same H H' → Q (optV (wp b.most b.rod l)) H'
theorem wp_drop {most a : Nat} {l : List Nat} {i c : Nat} (h : l[i]? = some c) : wp most a (l.drop i) = if Kp239.step1 most a c then (wp most c (l.drop (i + 1))).map (· + 1) else some 0 := by
  obtain ⟨h1, h2⟩ := List.getElem?_eq_some_iff.mp h
  rw [List.drop_eq_getElem_cons h1, h2]
  rfl
theorem ok_Bench_wrong_place (T : Txt K mg t) : FnOk P w K mg base CX0 3 t.f_Bench_wrong_place t.fd_Bench_wrong_place ["self", "widths"] (sp_Bench_wrong_place t) := by
  have G_goes := ok_goes (P := P) (w := w) (base := base) T
  refine T.F_Bench_wrong_place.ok sc_Bench_wrong_place (fun vs H Q E h => ?_) (fun cdv A outer s H vs Q E hr h => ?_)
  · obtain ⟨p, ld, lr, as, b, q, l, rfl, _⟩ := h
    rfl
  · obtain ⟨p, ld, lr, as, b, q, l, rfl, B, gd, hq, k⟩ := h
    obtain ⟨dx, hob⟩ := B.ob
    refine ⟨_, (pss_cons (ps_set (i := 2) sc_Bench_wrong_place.nd rfl (Or.inl rfl) (pe_fld (pv 0) rfl)) (pss_cons (ps_for PassesOwn.never rfl (pi_enum rfl T.n_enumerate (pa_cons (pv 1) pa_nil)) (pg_tup rfl (pgs_cons (pg_name (i := 3) sc_Bench_wrong_place.nd rfl (Or.inl rfl)) (pgs_cons (pg_name (i := 4) sc_Bench_wrong_place.nd rfl (Or.inl rfl)) pgs_nil))) (pss_cons (ps_if (pt_not (pt_truth (pe_call G_goes (hr.mono (by decide)) rfl T.m_goes T.F_goes.kp T.b_goes .nil pass0 (pa_cons (pv 2) (pa_cons (pv 4) (pa_cons (pe_fld (pv 0) rfl) pa_nil)))) (fun _ => rfl))) (pss_one (ps_ret (pv 3))) pss_nil) (pss_one (ps_set (i := 2) sc_Bench_wrong_place.nd rfl (Or.inl rfl) (pv 4))))) (pss_one (ps_ret pe_non)))), ?_⟩
    refine ⟨_, rfl, p, _, dx, _, _, rfl, hob, T.cl_Bench, T.n_Bench_rod, rfl, ?_⟩
    refine ⟨_, rfl, q, _, rfl, SqL.of hq, for_enum (K := K) (a := q) (xs := nats l) (fun i σ H' => ∃ (a : Nat) (v3 v4 : Option V), σ = [some (.ref p), some (.ref q), some (.int a), v3, v4] ∧ Same H H' ∧ a ≤ 10000 ∧ wp b.most b.rod l = (wp b.most a (l.drop i)).map (· + i))
      ⟨b.rod, none, none, rfl, fun _ _ e => e, gd.r2, ?_⟩ (fun i σ H' _ ⟨_, _, _, _, s, _⟩ => SqL.of (s _ _ hq)) ?_ ?_⟩
    · rw [List.drop_zero]
      cases wp b.most b.rod l <;> rfl
    · rintro i y σ H' U hi ⟨a, v3, v4, rfl, s, ha, hw⟩ hU
      obtain ⟨c, hc, rfl⟩ := nats_get hi
      have s2 : Same H (upd H' U (.tup [.int (i : Nat), .int (c : Nat)])) := s.trans (same_new hU)
      have m2 := gd.m2
      refine ⟨U, _, rfl, SqT.of upd_same, rfl, _, _, rfl, _, _, rfl, rfl, ?_⟩
      refine ⟨_, rfl, _, rfl, _, rfl, p, _, dx, _, _, rfl, s2 _ _ hob, T.cl_Bench, T.n_Bench_most, rfl, a, c, b.most, rfl, ha, by omega, _, rfl, ?_⟩
      rw [wp_drop hc] at hw
      cases e : Kp239.step1 b.most a c with
      | false =>
        rw [e] at hw
        refine iteT ?_
        refine ⟨_, rfl, ?_⟩
        have k2 := k _ s2
        rw [hw] at k2
        have e3 : optV ((if false = true then (wp b.most c (l.drop (i + 1))).map (· + 1) else some 0).map (· + i)) = V.int ((i : Nat) : Int) := by
          show V.int ((0 + i : Nat) : Int) = _
          rw [Nat.zero_add]
        rw [e3] at k2
        exact k2
      | true =>
        rw [e, if_pos rfl] at hw
        refine iteF ?_
        have hlt : c < a := by
          unfold Kp239.step1 at e
          rw [Bool.and_eq_true] at e
          exact of_decide_eq_true e.1
        refine ⟨_, rfl, c, _, _, rfl, s2, by omega, ?_⟩
        rw [hw]
        cases wp b.most c (l.drop (i + 1)) with
        | none => rfl
        | some z =>
          show some (z + 1 + i) = some (z + (i + 1))
          congr 1
          omega
    · rintro σ H' ⟨a, v3, v4, rfl, s, ha, hw⟩
      have e : l.drop (nats l).length = [] := by rw [nats_len]; exact List.drop_length
      rw [e] at hw
      have k2 := k H' s
      rw [hw] at k2
      exact k2
def sp_Bench_holds (t : Adr) : Sp := fun vs H Q _ => ∃ (p ld lr : Addr) (as : List Addr) (b : Kp239.Bench) (q : Addr) (l : List Nat), vs = [.ref p, .ref q] ∧ BenchAt t H p ld lr as true b ∧ Good b ∧ H q = some (.lst (nats l)) ∧
  ∀ H', Same H H' → Q (.bl (holdsW b l)) H'
theorem near_abs (b : Kp239.Bench) (s : Nat) : decide ((if (s : Int) - b.want < 0 then -((s : Int) - b.want) else (s : Int) - b.want) ≤ b.off) = Kp239.near b s := by
  unfold Kp239.near
  rw [← Bool.decide_and]
  refine decide_eq_decide.mpr ?_
  split <;> omega
theorem ok_Bench_holds (T : Txt K mg t) : FnOk P w K mg base CX0 4 t.f_Bench_holds t.fd_Bench_holds ["self", "widths"] (sp_Bench_holds t) := by
  have G_Bench_wrong_place := ok_Bench_wrong_place (P := P) (w := w) (base := base) T
  have G_Bench_wide_out := ok_Bench_wide_out (P := P) (w := w) (base := base) T
  refine T.F_Bench_holds.ok sc_Bench_holds (fun vs H Q E h => ?_) (fun cdv A outer s H vs Q E hr h => ?_)
  · obtain ⟨p, ld, lr, as, b, q, l, rfl, _⟩ := h
    rfl
  · obtain ⟨p, ld, lr, as, b, q, l, rfl, B, gd, hq, k⟩ := h
    obtain ⟨dx, hob⟩ := B.ob
    refine ⟨_, (pss_cons (ps_if (pt_cmpR op_notN (pe_meth (pv 0) T.cl_Bench T.me_Bench_wrong_place G_Bench_wrong_place (hr.mono (by decide)) T.b_Bench_wrong_place .nil pass0 (pa_cons (pv 1) pa_nil)) pe_non (nomark _)) (pss_one (ps_ret pe_bl)) pss_nil) (pss_one (ps_ret (pe_cmpR op_le (pe_callB call_abs (by rfl) T.n_abs boot_abs (pa_cons (pe_op op_sub (pe_meth (pv 0) T.cl_Bench T.me_Bench_wide_out G_Bench_wide_out (hr.mono (by decide)) T.b_Bench_wide_out .nil pass0 (pa_cons (pv 1) pa_nil)) (pe_fld (pv 0) rfl)) pa_nil)) (pe_fld (pv 0) rfl) (nomark _))))), ?_⟩
    refine ⟨_, rfl, p, dx, _, rfl, hob, rfl, _, rfl, p, ld, lr, as, b, q, l, rfl, B, gd, hq, fun H' s => ?_⟩
    have k2 := k H' s
    unfold holdsW at k2
    cases e : wp b.most b.rod l with
    | some z =>
      rw [e] at k2
      refine ⟨rfl, _, rfl, iteT ?_⟩
      exact k2
    | none =>
      rw [e] at k2
      refine ⟨rfl, _, rfl, iteF ?_⟩
      have B2 := B.same s
      obtain ⟨dy, hob2⟩ := B2.ob
      refine ⟨_, rfl, p, dy, _, rfl, hob2, rfl, _, rfl, p, ld, lr, as, b, q, l, rfl, B2, s _ _ hq, ?_⟩
      refine ⟨_, rfl, p, _, dy, _, _, rfl, hob2, T.cl_Bench, T.n_Bench_want, rfl, _, _, rfl, rfl, _, rfl, _, rfl, p, _, dy, _, _, rfl, hob2, T.cl_Bench, T.n_Bench_off, rfl, _, _, rfl, rfl, ?_⟩
      rw [← near_abs] at k2
      exact k2
theorem last_lo (gd : Good b) : 100 ≤ lastW b.rod (ws b) ∧ lastW b.rod (ws b) ≤ 10000 := by
  rcases List.eq_nil_or_concat (ws b) with e | ⟨l', x, e⟩
  · rw [e]
    exact ⟨gd.r1, gd.r2⟩
  · rw [e, List.concat_eq_append, Mm.lastW_snoc]
    have hm : x ∈ ws b := by rw [e, List.concat_eq_append]; simp
    obtain ⟨d, hd, rfl⟩ := List.mem_map.mp hm
    exact ⟨gd.slo (gd.row d hd), gd.shi (gd.row d hd)⟩
def sp_Bench_metres_out (t : Adr) : Sp := fun vs H Q _ => ∃ (p ld lr : Addr) (as : List Addr) (b : Kp239.Bench) (m : Nat), vs = [.ref p, .int m] ∧ BenchAt t H p ld lr as true b ∧ Good b ∧
  ∀ H', Same H H' → Q (.int (Kp239.out b m : Nat)) H'
theorem ok_Bench_metres_out (T : Txt K mg t) : FnOk P w K mg base CX0 5 t.f_Bench_metres_out t.fd_Bench_metres_out ["self", "metres"] (sp_Bench_metres_out t) := by
  have G_metres_through := ok_metres_through (P := P) (w := w) (base := base) T
  have G_Bench_wide_out := ok_Bench_wide_out (P := P) (w := w) (base := base) T
  have G_Bench_widths := ok_Bench_widths (P := P) (w := w) (base := base) T
  refine T.F_Bench_metres_out.ok sc_Bench_metres_out (fun vs H Q E h => ?_) (fun cdv A outer s H vs Q E hr h => ?_)
  · obtain ⟨p, ld, lr, as, b, m, rfl, _⟩ := h
    rfl
  · obtain ⟨p, ld, lr, as, b, m, rfl, B, gd, k⟩ := h
    obtain ⟨dx, hob⟩ := B.ob
    refine ⟨_, (pss_one (ps_ret (pe_call G_metres_through (hr.mono (by decide)) rfl T.m_metres_through T.F_metres_through.kp T.b_metres_through .nil pass0 (pa_cons (pv 1) (pa_cons (pe_fld (pv 0) rfl) (pa_cons (pe_meth (pv 0) T.cl_Bench T.me_Bench_wide_out G_Bench_wide_out (hr.mono (by decide)) T.b_Bench_wide_out .nil pass0 (pa_cons (pe_meth0 (pv 0) T.cl_Bench T.me_Bench_widths G_Bench_widths (hr.mono (by decide)) T.b_Bench_widths .nil pass0) pa_nil)) pa_nil)))))), ?_⟩
    refine ⟨_, rfl, _, rfl, p, _, dx, _, _, rfl, hob, T.cl_Bench, T.n_Bench_rod, rfl, _, rfl, p, dx, _, rfl, hob, rfl, _, rfl, p, dx, _, rfl, hob, rfl, p, ld, lr, as, b, rfl, B, gd, fun H' q s hq => ?_⟩
    have B2 := B.same s
    have hl := last_lo gd
    refine ⟨p, ld, lr, as, b, q, _, rfl, B2, hq, m, b.rod, _, rfl, gd.r2, by omega, by omega, ?_⟩
    have k2 := k H' s
    rw [Mm.out_eq gd] at k2
    exact k2
def sp_Bench_reaches (t : Adr) : Sp := fun vs H Q _ => ∃ (p ld lr : Addr) (as : List Addr) (b : Kp239.Bench) (c : Nat), vs = [.ref p, .int c] ∧ BenchAt t H p ld lr as true b ∧ Good b ∧
  ∀ H', Same H H' → Q (.bl (Kp239.step1 b.most (Kp239.lastSize b b.row) c)) H'
theorem ok_Bench_reaches (T : Txt K mg t) : FnOk P w K mg base CX0 5 t.f_Bench_reaches t.fd_Bench_reaches ["self", "width"] (sp_Bench_reaches t) := by
  have G_goes := ok_goes (P := P) (w := w) (base := base) T
  have G_Bench_wide_out := ok_Bench_wide_out (P := P) (w := w) (base := base) T
  have G_Bench_widths := ok_Bench_widths (P := P) (w := w) (base := base) T
  refine T.F_Bench_reaches.ok sc_Bench_reaches (fun vs H Q E h => ?_) (fun cdv A outer s H vs Q E hr h => ?_)
  · obtain ⟨p, ld, lr, as, b, c, rfl, _⟩ := h
    rfl
  · obtain ⟨p, ld, lr, as, b, c, rfl, B, gd, k⟩ := h
    obtain ⟨dx, hob⟩ := B.ob
    refine ⟨_, (pss_one (ps_ret (pe_call G_goes (hr.mono (by decide)) rfl T.m_goes T.F_goes.kp T.b_goes .nil pass0 (pa_cons (pe_meth (pv 0) T.cl_Bench T.me_Bench_wide_out G_Bench_wide_out (hr.mono (by decide)) T.b_Bench_wide_out .nil pass0 (pa_cons (pe_meth0 (pv 0) T.cl_Bench T.me_Bench_widths G_Bench_widths (hr.mono (by decide)) T.b_Bench_widths .nil pass0) pa_nil)) (pa_cons (pv 1) (pa_cons (pe_fld (pv 0) rfl) pa_nil)))))), ?_⟩
    refine ⟨_, rfl, p, dx, _, rfl, hob, rfl, _, rfl, p, dx, _, rfl, hob, rfl, p, ld, lr, as, b, rfl, B, gd, fun H' q s hq => ?_⟩
    have B2 := B.same s
    have hl := last_lo gd
    have m2 := gd.m2
    refine ⟨p, ld, lr, as, b, q, _, rfl, B2, hq, _, rfl, _, rfl, p, _, dx, _, _, rfl, s _ _ hob, T.cl_Bench, T.n_Bench_most, rfl, _, c, b.most, rfl, by omega, by omega, ?_⟩
    have k2 := k H' s
    rw [Mm.lastSize_W] at k2
    exact k2
theorem cut_to (l : List Nat) (k : Nat) : cutV (nats l) none (some (k : Int)) = nats (l.take k) := by
  unfold cutV
  rw [HT.sIx_nat, show HT.sIx (nats l).length 0 none = 0 from rfl, List.drop_zero, Nat.sub_zero]
  unfold nats
  rw [List.length_map, ← List.map_take]
  congr 1
  rcases Nat.le_total k l.length with h | h
  · rw [Nat.min_eq_left h]
  · rw [Nat.min_eq_right h, List.take_length, List.take_of_length_le h]
def sp_Bench_wide_ahead (t : Adr) : Sp := fun vs H Q _ => ∃ (p ld lr : Addr) (as : List Addr) (b : Kp239.Bench) (k : Nat), vs = [.ref p, .int k] ∧ BenchAt t H p ld lr as true b ∧ Good b ∧ k < b.row.length ∧
  ∀ H', Same H H' → Q (.int (Kp239.before b k : Nat)) H'
theorem ok_Bench_wide_ahead (T : Txt K mg t) : FnOk P w K mg base CX0 5 t.f_Bench_wide_ahead t.fd_Bench_wide_ahead ["self", "place"] (sp_Bench_wide_ahead t) := by
  have G_Bench_wide_out := ok_Bench_wide_out (P := P) (w := w) (base := base) T
  have G_Bench_widths := ok_Bench_widths (P := P) (w := w) (base := base) T
  refine T.F_Bench_wide_ahead.ok sc_Bench_wide_ahead (fun vs H Q E h => ?_) (fun cdv A outer s H vs Q E hr h => ?_)
  · obtain ⟨p, ld, lr, as, b, j, rfl, _⟩ := h
    rfl
  · obtain ⟨p, ld, lr, as, b, j, rfl, B, gd, hj, k⟩ := h
    obtain ⟨dx, hob⟩ := B.ob
    refine ⟨_, (pss_one (ps_ret (pe_meth (pv 0) T.cl_Bench T.me_Bench_wide_out G_Bench_wide_out (hr.mono (by decide)) T.b_Bench_wide_out .nil pass0 (pa_cons (pe_slice sl_list (pe_meth0 (pv 0) T.cl_Bench T.me_Bench_widths G_Bench_widths (hr.mono (by decide)) T.b_Bench_widths .nil pass0) po_none (po_some (pv 1))) pa_nil)))), ?_⟩
    refine ⟨_, rfl, p, dx, _, rfl, hob, rfl, _, rfl, p, dx, _, rfl, hob, rfl, p, ld, lr, as, b, rfl, B, gd, fun H' q s hq => ?_⟩
    refine ⟨_, rfl, _, rfl, q, _, rfl, SqL.of hq, fun z hz => ?_⟩
    rw [cut_to]
    have s2 := s.trans (same_new (o := .lst (nats ((ws b).take j))) hz)
    refine ⟨p, ld, lr, as, b, z, _, rfl, B.same s2, upd_same, ?_⟩
    have k2 := k _ s2
    rw [← Mm.before_take hj] at k2
    exact k2
end
end My


end
section
set_option Elab.async false
set_option linter.all false
set_option maxRecDepth 100000
set_option maxHeartbeats 2000000
namespace My
open PySem PySem.Spec PyProof.Rows L2
open Mm (ws wsA aft wp lastW holdsW Good)
section
variable {P : Program} {w : World} {K : PySem.W.Frag} {mg : Str → Option Value} {base : Heap} {t : Adr} {H H' : Hp} {p ld lr : Addr} {as : List Addr} {g : Bool} {b : Kp239.Bench}
/-- a bench is none of its dies -/
theorem BenchAt.np (B : BenchAt t H p ld lr as g b) {j : Nat} {a : Addr} (h : as[j]? = some a) : p ≠ a := by
  obtain ⟨dx, hob⟩ := B.ob
  have hj : j < b.dies.length := by rw [← B.len]; exact (List.getElem?_eq_some_iff.mp h).1
  obtain ⟨dy, ha⟩ := B.at_ j a _ h (List.getElem?_eq_getElem hj)
  refine ne_of hob ha ?_
  intro q
  injection q with _ _ q3
  have q4 : (8 : Nat) = 3 := congrArg List.length q3
  exact absurd q4 (by decide)
theorem BenchAt.nl (B : BenchAt t H p ld lr as g b) {j : Nat} {a q : Addr} {xs : List V} (h : as[j]? = some a) (hq : H q = some (.lst xs)) : q ≠ a := by
  have hj : j < b.dies.length := by rw [← B.len]; exact (List.getElem?_eq_some_iff.mp h).1
  obtain ⟨dy, ha⟩ := B.at_ j a _ h (List.getElem?_eq_getElem hj)
  exact ne_of hq ha (by intro z; cases z)
theorem BenchAt.npl (B : BenchAt t H p ld lr as g b) {q : Addr} {xs : List V} (hq : H q = some (.lst xs)) : p ≠ q := by
  obtain ⟨dx, hob⟩ := B.ob
  exact ne_of hob hq (by intro z; cases z)
/-- one die is another now -/
theorem BenchAt.setDie (B : BenchAt t H p ld lr as g b) {n : Nat} {a dx : Addr} {x : Kp239.Die} (ha : as[n]? = some a) {b' : Kp239.Bench} (hb : bf g b' ld lr = bf g b ld lr) (hr : b'.row = b.row) (hd : b'.dies = b.dies.set n x) :
    BenchAt t (upd H a (.ins t.C_Die dx (df x))) p ld lr as g b' := by
  obtain ⟨dy, hob⟩ := B.ob
  refine ⟨⟨dy, by rw [upd_ne (B.np ha), hb]; exact hob⟩, by rw [upd_ne (B.nl ha B.dl)]; exact B.dl, by rw [upd_ne (B.nl ha B.rl), hr]; exact B.rl, B.ne, B.nd, by rw [hd, List.length_set]; exact B.len, fun j c y e1 e2 => ?_⟩
  rw [hd] at e2
  by_cases hj : j = n
  · subst hj
    rw [e1] at ha
    cases ha
    have hl : j < b.dies.length := by rw [← B.len]; exact (List.getElem?_eq_some_iff.mp e1).1
    rw [List.getElem?_set_self hl] at e2
    cases e2
    exact ⟨dx, upd_same⟩
  · rw [List.getElem?_set_ne (fun z => hj z.symm)] at e2
    obtain ⟨dz, q⟩ := B.at_ j c y e1 e2
    have nac : c ≠ a := fun z => hj (nd_ix B.nd e1 (by rw [z]; exact ha))
    exact ⟨dz, by rw [upd_ne nac]; exact q⟩
theorem BenchAt.setOb (B : BenchAt t H p ld lr as g b) {dx : Addr} {b' : Kp239.Bench} (hr : b'.row = b.row) (hd : b'.dies = b.dies) : BenchAt t (upd H p (.ins t.C_Bench dx (bf g b' ld lr))) p ld lr as g b' := by
  refine ⟨⟨dx, upd_same⟩, by rw [upd_ne (B.npl B.dl).symm]; exact B.dl, by rw [upd_ne (B.npl B.rl).symm, hr]; exact B.rl, B.ne, B.nd, by rw [hd]; exact B.len, fun j a x e1 e2 => ?_⟩
  rw [hd] at e2
  obtain ⟨dy, q⟩ := B.at_ j a x e1 e2
  exact ⟨dy, by rw [upd_ne (B.np e1).symm]; exact q⟩
/-! ### draw -/
def sp_Bench_draw (t : Adr) : Sp := fun vs H Q _ => ∃ (p ld lr : Addr) (as : List Addr) (b : Kp239.Bench) (m : Nat), vs = [.ref p, .int m] ∧ BenchAt t H p ld lr as true b ∧ Good b ∧
  ∀ H', BenchAt t H' p ld lr as true (Kp239.worn b m) → (∀ c o, H c = some o → ¬ c ∈ p :: as → H' c = some o) → Q .non H'
theorem ok_Bench_draw (T : Txt K mg t) : FnOk P w K mg base CX0 3 t.f_Bench_draw t.fd_Bench_draw ["self", "metres"] (sp_Bench_draw t) := by
  have G_Die_draw := ok_Die_draw (P := P) (w := w) (base := base) T
  have G_Die_wide := ok_Die_wide (P := P) (w := w) (base := base) T
  have G_metres_through := ok_metres_through (P := P) (w := w) (base := base) T
  refine T.F_Bench_draw.ok sc_Bench_draw (fun vs H Q E h => ?_) (fun cdv A outer s H vs Q E hr h => ?_)
  · obtain ⟨p, ld, lr, as, b, m, rfl, _⟩ := h
    rfl
  · obtain ⟨p, ld, lr, as, b, m, rfl, B, gd, k⟩ := h
    obtain ⟨dx, hob⟩ := B.ob
    refine ⟨_, (pss_cons (ps_for PassesOwn.never rfl (pi_list (pe_fld (pv 0) rfl)) (pg_name (i := 2) sc_Bench_draw.nd rfl (Or.inl rfl)) (pss_cons (ps_set (i := 3) sc_Bench_draw.nd rfl (Or.inl rfl) (pe_ix ix_list (pe_fld (pv 0) rfl) (pv 2) (fun _ _ => rfl))) (pss_one (ps_expr (pe_meth (pv 3) T.cl_Die T.me_Die_draw G_Die_draw (hr.mono (by decide)) T.b_Die_draw .nil pass0 (pa_cons (pe_call G_metres_through (hr.mono (by decide)) rfl T.m_metres_through T.F_metres_through.kp T.b_metres_through .nil pass0 (pa_cons (pv 1) (pa_cons (pe_fld (pv 0) rfl) (pa_cons (pe_meth0 (pv 3) T.cl_Die T.me_Die_wide G_Die_wide (hr.mono (by decide)) T.b_Die_wide .nil pass0) pa_nil)))) pa_nil)))))) (pss_one (ps_fldaug (pv 0) (pv 1) in_add))), ?_⟩
    have B0 : BenchAt t H p ld lr as true (Mm.wornL b m (b.row.take 0)) := by
      refine ⟨B.ob, B.dl, B.rl, B.ne, B.nd, by rw [Mm.wornL_len]; exact B.len, fun j a x e1 e2 => B.at_ j a x e1 ?_⟩
      rw [List.take_zero, Mm.wornL_nil] at e2
      exact e2
    refine ⟨_, rfl, p, _, dx, _, _, rfl, hob, T.cl_Bench, T.n_Bench_row, rfl, lr, rfl, ⟨_, SqL.of B.rl⟩, for_list (K := K) (a := lr) (xs := nats b.row) (fun i σ H' => ∃ v2 v3 : Option V, σ = [some (.ref p), some (.int m), v2, v3] ∧ BenchAt t H' p ld lr as true (Mm.wornL b m (b.row.take i)) ∧ ∀ c o, H c = some o → ¬ c ∈ as → H' c = some o)
      ⟨none, none, rfl, B0, fun _ _ e _ => e⟩ (fun i σ H' _ ⟨_, _, _, s, _⟩ => SqL.of s.rl) ?_ ?_⟩
    · rintro i y σ H' hi ⟨v2, v3, rfl, B2, kp⟩
      obtain ⟨n, hn, rfl⟩ := nats_get hi
      have hl : n < b.dies.length := gd.row n (List.mem_of_getElem? hn)
      have hl2 : n < (Mm.wornL b m (b.row.take i)).dies.length := by rw [Mm.wornL_len]; exact hl
      obtain ⟨dy, hob2⟩ := B2.ob
      obtain ⟨a, da, ha, hA⟩ := B2.die hl2
      rw [Mm.wornL_at hl (Mm.nd_take gd.nd hn)] at hA
      have gn := gd.die hl
      have w1 : 100 ≤ Kp239.wide (Kp239.dieAt b n) := gd.slo hl
      have w2 : Kp239.wide (Kp239.dieAt b n) ≤ 10000 := gd.shi hl
      have r2 := gd.r2
      have l1 := gn.l1
      have l2 := gn.l2
      refine ⟨_, rfl, p, _, dy, _, _, rfl, hob2, T.cl_Bench, T.n_Bench_dies, rfl, _, rfl, ld, _, _, _, rfl, rfl, SqL.of B2.dl, at_ref ha, ?_⟩
      refine ⟨_, rfl, a, da, _, rfl, hA, rfl, _, rfl, _, rfl, p, _, dy, _, _, rfl, hob2, T.cl_Bench, T.n_Bench_rod, rfl, _, rfl, a, da, _, rfl, hA, rfl, a, da, _, rfl, hA, by omega, by omega, ?_⟩
      refine ⟨m, b.rod, _, rfl, r2, by omega, w2, a, da, _, _, rfl, hA, ?_⟩
      refine ⟨_, _, rfl, ?_, fun c o e hc => ?_⟩
      · exact B2.setDie ha rfl rfl (by rw [take_snoc hn, Mm.wornL_snoc hl]; rfl)
      · rw [upd_ne (fun z => hc (by rw [z]; exact List.mem_of_getElem? ha))]
        exact kp c o e hc
    · rintro σ H' ⟨v2, v3, rfl, B2, kp⟩
      rw [nats_len, List.take_length] at B2
      obtain ⟨dz, hob2⟩ := B2.ob
      refine ⟨_, rfl, p, _, dz, _, _, rfl, hob2, T.cl_Bench, T.n_Bench_metres_drawn, rfl, _, rfl, _, _, rfl, rfl, dz, _, hob2, (by show 8 < 1000; decide), ?_⟩
      refine k _ (B2.setOb (dx := dz) (b' := Kp239.worn b m) rfl rfl) fun c o e hc => ?_
      rw [upd_ne (fun z => hc (by rw [z]; exact List.mem_cons_self ..))]
      exact kp c o e fun hm => hc (List.mem_cons_of_mem _ hm)
/-! ### __init__, begin -/
def b0 : Kp239.Bench := ⟨0, 0, [], [], 0, 0, 0⟩
theorem BenchAt.fresh {ld lr : Addr} {dx : Addr} (hob : H p = some (.ins t.C_Bench dx (bf g b ld lr))) (hd : H ld = some (.lst [])) (hr : H lr = some (.lst [])) (hn : ld ≠ lr) (e1 : b.dies = []) (e2 : b.row = []) : BenchAt t H p ld lr [] g b :=
  ⟨⟨dx, hob⟩, hd, by rw [e2]; exact hr, hn, List.nodup_nil, by rw [e1]; rfl, fun j a x h => by simp at h⟩
def sp_Bench_init (t : Adr) : Sp := fun vs H Q _ => ∃ (p dx : Addr), vs = [.ref p] ∧ H p = some (.ins t.C_Bench dx []) ∧
  ∀ (H' : Hp) (ld lr : Addr), BenchAt t H' p ld lr [] false b0 → H ld = none → H lr = none → (∀ c o, H c = some o → ¬ c = p → H' c = some o) → Q .non H'
theorem ok_Bench_init (T : Txt K mg t) : FnOk P w K mg base CX0 1 t.f_Bench_init t.fd_Bench_init ["self"] (sp_Bench_init t) := by
  refine T.F_Bench_init.ok sc_Bench_init (fun vs H Q E h => ?_) (fun cdv A outer s H vs Q E hr h => ?_)
  · obtain ⟨p, dx, rfl, _⟩ := h
    rfl
  · obtain ⟨p, dx, rfl, hp, k⟩ := h
    refine ⟨_, (pss_cons (ps_fld (pv 0) pe_bl rfl) (pss_cons (ps_fld (pv 0) pe_int rfl) (pss_cons (ps_fld (pv 0) pe_int rfl) (pss_cons (ps_fld (pv 0) pe_int rfl) (pss_cons (ps_fld (pv 0) pe_int rfl) (pss_cons (ps_fld (pv 0) (pe_lst pa_nil) rfl) (pss_cons (ps_fld (pv 0) (pe_lst pa_nil) rfl) (pss_one (ps_fld (pv 0) pe_int rfl))))))))), ?_⟩
    refine ⟨_, rfl, p, _, dx, _, rfl, hp, T.cl_Bench, T.n_Bench_begun, (by show 0 < 1000; decide), ?_⟩
    refine ⟨_, rfl, p, _, dx, _, rfl, upd_same, T.cl_Bench, T.n_Bench_rod, (by show 1 < 1000; decide), ?_⟩
    refine ⟨_, rfl, p, _, dx, _, rfl, upd_same, T.cl_Bench, T.n_Bench_most, (by show 2 < 1000; decide), ?_⟩
    refine ⟨_, rfl, p, _, dx, _, rfl, upd_same, T.cl_Bench, T.n_Bench_want, (by show 3 < 1000; decide), ?_⟩
    refine ⟨_, rfl, p, _, dx, _, rfl, upd_same, T.cl_Bench, T.n_Bench_off, (by show 4 < 1000; decide), ?_⟩
    rw [upd_upd, upd_upd, upd_upd, upd_upd]
    refine ⟨Nat.zero_le _, fun ld hd => ?_⟩
    have n1 : p ≠ ld := fun z => by rw [← z, upd_same] at hd; cases hd
    rw [upd_ne n1.symm] at hd
    refine ⟨_, rfl, p, _, dx, _, rfl, (by rw [upd_ne n1]; exact upd_same), T.cl_Bench, T.n_Bench_dies, (by show 5 < 1000; decide), ?_⟩
    refine ⟨Nat.zero_le _, fun lr hl => ?_⟩
    have n2 : p ≠ lr := fun z => by rw [← z, upd_same] at hl; cases hl
    rw [upd_ne n2.symm] at hl
    have n3 : ld ≠ lr := fun z => by rw [← z, upd_same] at hl; cases hl
    rw [upd_ne n3.symm, upd_ne n2.symm] at hl
    refine ⟨_, rfl, p, _, dx, _, rfl, (by rw [upd_ne n2]; exact upd_same), T.cl_Bench, T.n_Bench_row, (by show 6 < 1000; decide), ?_⟩
    refine ⟨_, rfl, p, _, dx, _, rfl, upd_same, T.cl_Bench, T.n_Bench_metres_drawn, (by show 7 < 1000; decide), ?_⟩
    rw [upd_upd]
    refine k _ ld lr (BenchAt.fresh (dx := dx) upd_same ?_ ?_ n3 rfl rfl) hd hl fun c o e hc => ?_
    · rw [upd_ne n1.symm, upd_ne n3, upd_ne n1.symm, upd_same]
    · rw [upd_ne n2.symm, upd_same]
    · rw [upd_ne hc, upd_ne (ne_of_none e hl), upd_ne hc, upd_ne (ne_of_none e hd), upd_ne hc]
      exact e
def sp_Bench_begin (t : Adr) : Sp := fun vs H Q _ => ∃ (p dx ld lr : Addr) (g : Bool) (b : Kp239.Bench) (r m w o : Nat), vs = [.ref p, .int r, .int m, .int w, .int o] ∧ H p = some (.ins t.C_Bench dx (bf g b ld lr)) ∧
  ∀ (H' : Hp) (ld lr : Addr), BenchAt t H' p ld lr [] true ⟨r, m, [], [], w, o, 0⟩ → H ld = none → H lr = none → (∀ c o, H c = some o → ¬ c = p → H' c = some o) → Q .non H'
theorem ok_Bench_begin (T : Txt K mg t) : FnOk P w K mg base CX0 1 t.f_Bench_begin t.fd_Bench_begin ["self", "rod", "most", "want", "off"] (sp_Bench_begin t) := by
  refine T.F_Bench_begin.ok sc_Bench_begin (fun vs H Q E h => ?_) (fun cdv A outer s H vs Q E hr h => ?_)
  · obtain ⟨p, dx, ld, lr, g, b, r, m, w, o, rfl, _⟩ := h
    rfl
  · obtain ⟨p, dx, ld0, lr0, g, b, r, m, w, o, rfl, hp, k⟩ := h
    refine ⟨_, (pss_cons (ps_fld (pv 0) pe_bl rfl) (pss_cons (ps_fld (pv 0) (pv 1) rfl) (pss_cons (ps_fld (pv 0) (pv 2) rfl) (pss_cons (ps_fld (pv 0) (pv 3) rfl) (pss_cons (ps_fld (pv 0) (pv 4) rfl) (pss_cons (ps_fld (pv 0) (pe_lst pa_nil) rfl) (pss_cons (ps_fld (pv 0) (pe_lst pa_nil) rfl) (pss_one (ps_fld (pv 0) pe_int rfl))))))))), ?_⟩
    refine ⟨_, rfl, p, _, dx, _, rfl, hp, T.cl_Bench, T.n_Bench_begun, (by show 8 < 1000; decide), ?_⟩
    refine ⟨_, rfl, _, rfl, p, _, dx, _, rfl, upd_same, T.cl_Bench, T.n_Bench_rod, (by show 8 < 1000; decide), ?_⟩
    refine ⟨_, rfl, _, rfl, p, _, dx, _, rfl, upd_same, T.cl_Bench, T.n_Bench_most, (by show 8 < 1000; decide), ?_⟩
    refine ⟨_, rfl, _, rfl, p, _, dx, _, rfl, upd_same, T.cl_Bench, T.n_Bench_want, (by show 8 < 1000; decide), ?_⟩
    refine ⟨_, rfl, _, rfl, p, _, dx, _, rfl, upd_same, T.cl_Bench, T.n_Bench_off, (by show 8 < 1000; decide), ?_⟩
    rw [upd_upd, upd_upd, upd_upd, upd_upd]
    refine ⟨Nat.zero_le _, fun ld hd => ?_⟩
    have n1 : p ≠ ld := fun z => by rw [← z, upd_same] at hd; cases hd
    rw [upd_ne n1.symm] at hd
    refine ⟨_, rfl, p, _, dx, _, rfl, (by rw [upd_ne n1]; exact upd_same), T.cl_Bench, T.n_Bench_dies, (by show 8 < 1000; decide), ?_⟩
    refine ⟨Nat.zero_le _, fun lr hl => ?_⟩
    have n2 : p ≠ lr := fun z => by rw [← z, upd_same] at hl; cases hl
    rw [upd_ne n2.symm] at hl
    have n3 : ld ≠ lr := fun z => by rw [← z, upd_same] at hl; cases hl
    rw [upd_ne n3.symm, upd_ne n2.symm] at hl
    refine ⟨_, rfl, p, _, dx, _, rfl, (by rw [upd_ne n2]; exact upd_same), T.cl_Bench, T.n_Bench_row, (by show 8 < 1000; decide), ?_⟩
    refine ⟨_, rfl, p, _, dx, _, rfl, upd_same, T.cl_Bench, T.n_Bench_metres_drawn, (by show 8 < 1000; decide), ?_⟩
    rw [upd_upd]
    refine k _ ld lr (BenchAt.fresh (dx := dx) upd_same ?_ ?_ n3 rfl rfl) hd hl fun c o e hc => ?_
    · rw [upd_ne n1.symm, upd_ne n3, upd_ne n1.symm, upd_same]
    · rw [upd_ne n2.symm, upd_same]
    · rw [upd_ne hc, upd_ne (ne_of_none e hl), upd_ne hc, upd_ne (ne_of_none e hd), upd_ne hc]
      exact e
/-! ### is_width, can_be_wanted -/
def sp_is_width : Sp := fun vs H Q _ => ∃ n : Nat, vs = [.int n] ∧ Q (.bl (Kp239.okSize n)) H
theorem ok_is_width (T : Txt K mg t) : FnOk P w K mg base CX0 1 t.f_is_width t.fd_is_width ["number"] sp_is_width := by
  refine T.F_is_width.ok sc_is_width (fun vs H Q E h => ?_) (fun cdv A outer s H vs Q E hr h => ?_)
  · obtain ⟨n, rfl, _⟩ := h
    rfl
  · obtain ⟨n, rfl, k⟩ := h
    refine ⟨_, (pss_one (ps_ret (pe_chain op_le op_le (pe_glob (v := .int (100)) rfl T.c_LEAST_WIDTH ⟨_, rfl⟩) (pv 0) (pe_glob (v := .int (10000)) rfl T.c_GREATEST_WIDTH ⟨_, rfl⟩)))), ?_⟩
    refine ⟨_, rfl, _, _, rfl, rfl, _, rfl, ite2 (fun q => ?_) fun q => ?_⟩
    · have q' : (100 : Int) ≤ n := of_decide_eq_true q
      refine ⟨_, _, rfl, rfl, ?_⟩
      have e : Kp239.okSize n = decide ((n : Int) ≤ 10000) := by
        unfold Kp239.okSize Kp239.SIZE
        rw [decide_eq_true (show 100 ≤ n by omega), Bool.true_and]
        exact decide_eq_decide.mpr (by omega)
      rw [e] at k
      exact k
    · have q' : ¬ (100 : Int) ≤ n := fun z => q (decide_eq_true z)
      have e : Kp239.okSize n = false := by
        unfold Kp239.okSize
        rw [decide_eq_false (show ¬ 100 ≤ n by omega), Bool.false_and]
      rw [e] at k
      exact k
def sp_can_be_wanted : Sp := fun vs H Q _ => ∃ n o : Nat, vs = [.int n, .int o] ∧ Q (.bl (Kp239.okSize n && decide (o ≤ 1000))) H
theorem ok_can_be_wanted (T : Txt K mg t) : FnOk P w K mg base CX0 2 t.f_can_be_wanted t.fd_can_be_wanted ["width", "off"] sp_can_be_wanted := by
  have G_is_width := ok_is_width (P := P) (w := w) (base := base) T
  refine T.F_can_be_wanted.ok sc_can_be_wanted (fun vs H Q E h => ?_) (fun cdv A outer s H vs Q E hr h => ?_)
  · obtain ⟨n, o, rfl, _⟩ := h
    rfl
  · obtain ⟨n, o, rfl, k⟩ := h
    refine ⟨_, (pss_one (ps_ret (pe_and (pe_call G_is_width (hr.mono (by decide)) rfl T.m_is_width T.F_is_width.kp T.b_is_width .nil pass0 (pa_cons (pv 0) pa_nil)) (pe_one (pe_cmpR op_le (pv 1) (pe_glob (v := .int (1000)) rfl T.c_GREATEST_OFF ⟨_, rfl⟩) (nomark _)))))), ?_⟩
    refine ⟨_, rfl, n, rfl, _, rfl, ite2 (fun q => ?_) fun q => ?_⟩
    · rw [q, Bool.true_and] at k
      refine ⟨_, rfl, _, _, rfl, rfl, ?_⟩
      have e : decide (o ≤ 1000) = decide ((o : Int) ≤ 1000) := decide_eq_decide.mpr (by omega)
      rw [e] at k
      exact k
    · have q' : Kp239.okSize n = false := by cases z : Kp239.okSize n <;> simp_all
      rw [q', Bool.false_and] at k
      exact k
end
end My


end
section
set_option Elab.async false
set_option linter.all false
set_option maxRecDepth 100000
set_option maxHeartbeats 2000000
namespace My
open PySem PySem.Spec PyProof.Rows L2
open Mm (ws wsA aft wp lastW holdsW Good)
/-- a state of the specification, on the heap; fp: all that is its own -/
def StAt (t : Adr) (H : Hp) (p : Addr) (fp : List Addr) : Kp239.State → Prop
  | none => ∃ ld lr, fp = [p, ld, lr] ∧ BenchAt t H p ld lr [] false b0
  | some b => ∃ ld lr as, fp = p :: ld :: lr :: as ∧ BenchAt t H p ld lr as true b
def ansL (a : Kp239.Ans) : List Int := a.num :: a.nums
/-- what is wanted behind a call -/
def After (t : Adr) (H : Hp) (p : Addr) (fp : List Addr) (r : Kp239.State × Kp239.Ans) (Q : VK) : Prop :=
  ∀ (H' : Hp) (q : Addr) (fp' : List Addr), StAt t H' p fp' r.1 → H' q = some (.lst (numsV (ansL r.2))) → (∀ c o, H c = some o → ¬ c ∈ fp → H' c = some o ∧ c ≠ q) → (∀ c ∈ fp', c ∈ fp ∨ H c = none) → Q (.ref q) H'
section
variable {P : Program} {w : World} {K : PySem.W.Frag} {mg : Str → Option Value} {base : Heap} {t : Adr} {H H' H1 : Hp} {p ld lr : Addr} {as fp : List Addr} {g : Bool} {b : Kp239.Bench} {s : Kp239.State} {Q : VK}
theorem StAt.same (B : StAt t H p fp s) (sm : Same H H') : StAt t H' p fp s := by
  cases s with
  | none =>
    obtain ⟨ld, lr, e, B⟩ := B
    exact ⟨ld, lr, e, B.same sm⟩
  | some b =>
    obtain ⟨ld, lr, as, e, B⟩ := B
    exact ⟨ld, lr, as, e, B.same sm⟩
theorem BenchAt.frame (B : BenchAt t H p ld lr as g b) (k : ∀ c o, H c = some o → c ∈ p :: ld :: lr :: as → H' c = some o) : BenchAt t H' p ld lr as g b := by
  obtain ⟨⟨dx, h⟩, h1, h2, h3, h4, h5, h6⟩ := B
  refine ⟨⟨dx, k _ _ h (by simp)⟩, k _ _ h1 (by simp), k _ _ h2 (by simp), h3, h4, h5, fun j a x e1 e2 => ?_⟩
  obtain ⟨dy, q⟩ := h6 j a x e1 e2
  exact ⟨dy, k _ _ q (by simp [List.mem_of_getElem? e1])⟩
theorem StAt.frame (B : StAt t H p fp s) (k : ∀ c o, H c = some o → c ∈ fp → H' c = some o) : StAt t H' p fp s := by
  cases s with
  | none =>
    obtain ⟨ld, lr, e, B⟩ := B
    subst e
    exact ⟨ld, lr, rfl, B.frame k⟩
  | some b =>
    obtain ⟨ld, lr, as, e, B⟩ := B
    subst e
    exact ⟨ld, lr, as, rfl, B.frame k⟩
/-- an answer that changes nothing -/
theorem After.tell {a : Kp239.Ans} {l : List V} (B : StAt t H p fp s) (k : After t H p fp (s, a) Q) (sm : Same H H1) {q : Addr} (hq : H1 q = none) (el : l = numsV (ansL a)) : Q (.ref q) (upd H1 q (.lst l)) := by
  have s2 : Same H (upd H1 q (.lst l)) := sm.trans (same_new hq)
  exact k _ q fp (B.same s2) (by rw [upd_same, el]) (fun c o e _ => ⟨s2 c o e, ne_of_none (sm c o e) hq⟩) fun c hc => .inl hc
/-- an answer behind a change -/
theorem After.done {s' : Kp239.State} {a : Kp239.Ans} {l : List V} {fp' : List Addr} (k : After t H p fp (s', a) Q) (B : StAt t H1 p fp' s') (kp : ∀ c o, H c = some o → ¬ c ∈ fp → H1 c = some o) (hf : ∀ c ∈ fp', c ∈ fp ∨ H c = none)
    {q : Addr} (hq : H1 q = none) (el : l = numsV (ansL a)) : Q (.ref q) (upd H1 q (.lst l)) := by
  refine k _ q fp' (B.same (same_new hq)) (by rw [upd_same, el]) (fun c o e hc => ?_) hf
  have e1 := kp c o e hc
  exact ⟨by rw [upd_ne (ne_of_none e1 hq)]; exact e1, ne_of_none e1 hq⟩
theorem at0 {a : Nat} {l : List Nat} : atI (nats (a :: l)) (0 : Int) = some (V.int (a : Int)) := atI_nat (j := 0) rfl
theorem at1 {a c : Nat} {l : List Nat} : atI (nats (a :: c :: l)) (1 : Int) = some (V.int (c : Int)) := atI_nat (j := 1) rfl
theorem at2 {a c d : Nat} {l : List Nat} : atI (nats (a :: c :: d :: l)) (2 : Int) = some (V.int (d : Int)) := atI_nat (j := 2) rfl
theorem at3 {a c d e : Nat} {l : List Nat} : atI (nats (a :: c :: d :: e :: l)) (3 : Int) = some (V.int (e : Int)) := atI_nat (j := 3) rfl
theorem one_le : (1 : Nat) ≤ sizeLine := by decide
/-! ### begin -/
def sp_begin (t : Adr) : Sp := fun vs H Q _ => ∃ (p q : Addr) (fp : List Addr) (s : Kp239.State) (r m w o : Nat), vs = [.ref p, .ref q] ∧ StAt t H p fp s ∧ H q = some (.lst (nats [r, m, w, o])) ∧ After t H p fp (Kp239.step s (.begin_ r m w o)) Q
theorem StAt.ob (B : StAt t H p fp s) : ∃ dx g b ld lr, H p = some (.ins t.C_Bench dx (bf g b ld lr)) ∧ p ∈ fp := by
  cases s with
  | none =>
    obtain ⟨ld, lr, e, B⟩ := B
    obtain ⟨dx, h⟩ := B.ob
    exact ⟨dx, _, _, ld, lr, h, by rw [e]; exact List.mem_cons_self ..⟩
  | some b =>
    obtain ⟨ld, lr, as, e, B⟩ := B
    obtain ⟨dx, h⟩ := B.ob
    exact ⟨dx, _, _, ld, lr, h, by rw [e]; exact List.mem_cons_self ..⟩
theorem ok_begin (T : Txt K mg t) : FnOk P w K mg base CX0 3 t.f_begin t.fd_begin ["bench", "given"] (sp_begin t) := by
  have G_is_width := ok_is_width (P := P) (w := w) (base := base) T
  have G_can_be_wanted := ok_can_be_wanted (P := P) (w := w) (base := base) T
  have G_Bench_begin := ok_Bench_begin (P := P) (w := w) (base := base) T
  refine T.F_begin.ok sc_begin (fun vs H Q E h => ?_) (fun cdv A outer s H vs Q E hr h => ?_)
  · obtain ⟨p, q, fp, s, r, m, w, o, rfl, _⟩ := h
    rfl
  · obtain ⟨p, q, fp, s, r, m, w, o, rfl, B, hq, k⟩ := h
    refine ⟨_, (pss_cons (ps_set (i := 2) sc_begin.nd rfl (Or.inl rfl) (pe_ix ix_list (pv 1) pe_int (fun _ _ => rfl))) (pss_cons (ps_set (i := 3) sc_begin.nd rfl (Or.inl rfl) (pe_ix ix_list (pv 1) pe_int (fun _ _ => rfl))) (pss_cons (ps_set (i := 4) sc_begin.nd rfl (Or.inl rfl) (pe_ix ix_list (pv 1) pe_int (fun _ _ => rfl))) (pss_cons (ps_set (i := 5) sc_begin.nd rfl (Or.inl rfl) (pe_ix ix_list (pv 1) pe_int (fun _ _ => rfl))) (pss_cons (ps_if (PW.pt (pw_or (pt_not (pt_truth (pe_call G_is_width (hr.mono (by decide)) rfl T.m_is_width T.F_is_width.kp T.b_is_width .nil pass0 (pa_cons (pv 2) pa_nil)) (fun _ => rfl))) (pw_or (pt_not (pt_chain op_le op_le pe_int (pv 3) (pe_glob (v := .int (500)) rfl T.c_GREATEST_MOST ⟨_, rfl⟩))) (pw_or1 (pt_not (pt_truth (pe_call G_can_be_wanted (hr.mono (by decide)) rfl T.m_can_be_wanted T.F_can_be_wanted.kp T.b_can_be_wanted .nil pass0 (pa_cons (pv 4) (pa_cons (pv 5) pa_nil))) (fun _ => rfl))))))) (pss_one (ps_ret (pe_lst (pa_cons (pe_glob (v := .int (-22)) rfl T.c_OUT_OF_BOUNDS ⟨_, rfl⟩) pa_nil)))) pss_nil) (pss_cons (ps_expr (pe_meth (pv 0) T.cl_Bench T.me_Bench_begin G_Bench_begin (hr.mono (by decide)) T.b_Bench_begin .nil pass0 (pa_cons (pv 2) (pa_cons (pv 3) (pa_cons (pv 4) (pa_cons (pv 5) pa_nil)))))) (pss_one (ps_ret (pe_lst (pa_cons pe_int pa_nil)))))))))), ?_⟩
    refine ⟨_, rfl, q, _, _, _, rfl, rfl, SqL.of hq, at0, ?_⟩
    refine ⟨_, rfl, q, _, _, _, rfl, rfl, SqL.of hq, at1, ?_⟩
    refine ⟨_, rfl, q, _, _, _, rfl, rfl, SqL.of hq, at2, ?_⟩
    refine ⟨_, rfl, q, _, _, _, rfl, rfl, SqL.of hq, at3, ?_⟩
    have bad : (Kp239.okSize r = false ∨ m = 0 ∨ 500 < m ∨ Kp239.okSize w = false ∨ 1000 < o) → ∀ z, H z = none → Q (.ref z) (upd H z (.lst [.int (-22)])) := fun hb z hz => by
      rw [Mm.step_begin, if_pos hb] at k
      exact After.tell B k (Same.refl H) hz rfl
    have good : ¬ (Kp239.okSize r = false ∨ m = 0 ∨ 500 < m ∨ Kp239.okSize w = false ∨ 1000 < o) → ∀ (H' : Hp) (ld lr : Addr), BenchAt t H' p ld lr [] true ⟨r, m, [], [], w, o, 0⟩ → H ld = none → H lr = none → (∀ c o, H c = some o → ¬ c = p → H' c = some o) →
        ∀ z, H' z = none → Q (.ref z) (upd H' z (.lst [.int 0])) := fun hb H' ld lr B' hd hl kp z hz => by
      rw [Mm.step_begin, if_neg hb] at k
      obtain ⟨_, _, _, _, _, _, hp⟩ := B.ob
      refine After.done (fp' := [p, ld, lr]) k ⟨ld, lr, [], rfl, B'⟩ (fun c o e hc => kp c o e fun z => hc (by rw [z]; exact hp)) (fun c hc => ?_) hz rfl
      rcases List.mem_cons.mp hc with e | hc
      · exact .inl (by rw [e]; exact hp)
      · rcases List.mem_cons.mp hc with e | hc
        · exact .inr (by rw [e]; exact hd)
        · rw [List.mem_singleton.mp hc]
          exact .inr hl
    obtain ⟨dx, g0, bb, ld0, lr0, hob, _⟩ := B.ob
    refine ⟨_, rfl, r, rfl, _, rfl, ?_⟩
    refine ifN (fun e1 => iteT ⟨one_le, fun z hz => bad (.inl e1) z hz⟩) fun e1 => ?_
    refine ⟨_, rfl, _, _, rfl, rfl, _, rfl, ifD (fun e2 => ?_) fun e2 => ⟨_, rfl, iteT (iteT ⟨one_le, fun z hz => bad (.inr (.inl (by omega))) z hz⟩)⟩⟩
    refine ⟨_, _, rfl, rfl, _, rfl, ?_⟩
    refine ifND (fun e3 => iteT ⟨one_le, fun z hz => bad (.inr (.inr (.inl (by omega)))) z hz⟩) fun e3 => ?_
    refine ⟨_, rfl, _, rfl, w, o, rfl, _, rfl, ?_⟩
    refine ifN (fun e4 => ⟨one_le, fun z hz => bad ?_ z hz⟩) fun e4 => ?_
    · rw [Bool.and_eq_false_iff] at e4
      rcases e4 with e4 | e4
      · exact .inr (.inr (.inr (.inl e4)))
      · have := of_decide_eq_false e4
        exact .inr (.inr (.inr (.inr (by omega))))
    · rw [Bool.and_eq_true] at e4
      have e5 := of_decide_eq_true e4.2
      refine ⟨_, rfl, p, dx, _, rfl, hob, rfl, _, rfl, _, rfl, _, rfl, _, rfl, p, dx, _, _, _, _, r, m, w, o, rfl, hob, fun H' ld lr B' hd hl kp => ?_⟩
      refine ⟨one_le, fun z hz => good ?_ H' ld lr B' hd hl kp z hz⟩
      rw [e1, e4.1]
      simp
      omega
end
end My


end
section
set_option Elab.async false
set_option linter.all false
set_option maxRecDepth 100000
set_option maxHeartbeats 2000000
namespace My
open PySem PySem.Spec PyProof.Rows L2
open Mm (ws wsA aft wp lastW holdsW Good)
section
variable {P : Program} {w : World} {K : PySem.W.Frag} {mg : Str → Option Value} {base : Heap} {t : Adr} {H H' H1 : Hp} {p ld lr : Addr} {as fp : List Addr} {g : Bool} {b : Kp239.Bench} {s : Kp239.State} {Q : VK}
/-! ### changes of a bench -/
theorem BenchAt.setRow (B : BenchAt t H p ld lr as g b) {l : List Nat} : BenchAt t (upd H lr (.lst (nats l))) p ld lr as g { b with row := l } := by
  obtain ⟨dx, hob⟩ := B.ob
  refine ⟨⟨dx, by rw [upd_ne (B.npl B.rl)]; exact hob⟩, by rw [upd_ne B.ne]; exact B.dl, upd_same, B.ne, B.nd, B.len, fun j a x e1 e2 => ?_⟩
  obtain ⟨dy, q⟩ := B.at_ j a x e1 e2
  exact ⟨dy, by rw [upd_ne (B.nl e1 B.rl).symm]; exact q⟩
/-- the row is another list -/
theorem BenchAt.newRow (B : BenchAt t H p ld lr as g b) {lr' dx : Addr} {l : List Nat} (hn : H lr' = none) : BenchAt t (upd (upd H lr' (.lst (nats l))) p (.ins t.C_Bench dx (bf g { b with row := l } ld lr'))) p ld lr' as g { b with row := l } := by
  have n1 : ld ≠ lr' := ne_of_none B.dl hn
  obtain ⟨dy, hob⟩ := B.ob
  have n2 : p ≠ lr' := ne_of_none hob hn
  refine ⟨⟨dx, upd_same⟩, by rw [upd_ne (B.npl B.dl).symm, upd_ne n1]; exact B.dl, by rw [upd_ne n2.symm, upd_same], n1, B.nd, B.len, fun j a x e1 e2 => ?_⟩
  obtain ⟨dz, q⟩ := B.at_ j a x e1 e2
  exact ⟨dz, by rw [upd_ne (B.np e1).symm, upd_ne (ne_of_none q hn)]; exact q⟩
/-- one die more -/
theorem BenchAt.addDie (B : BenchAt t H p ld lr as g b) {x dx : Addr} {d : Kp239.Die} (hx : H x = none) (s2 : Same H H1) (h1 : H1 x = some (.ins t.C_Die dx (df d))) : BenchAt t (upd H1 ld (.lst (as.map V.ref ++ [V.ref x]))) p ld lr (as ++ [x]) g { b with dies := b.dies ++ [d] } := by
  have B1 := B.same s2
  obtain ⟨dy, hob⟩ := B1.ob
  refine ⟨⟨dy, by rw [upd_ne (B1.npl B1.dl)]; exact hob⟩, by rw [upd_same, List.map_append]; rfl, by rw [upd_ne B.ne.symm]; exact B1.rl, B.ne, ?_, ?_, fun j a y e1 e2 => ?_⟩
  · refine L2.nd_snoc B.nd fun hm => ?_
    obtain ⟨j, hj⟩ := List.getElem?_of_mem hm
    have hl : j < b.dies.length := by rw [← B.len]; exact (List.getElem?_eq_some_iff.mp hj).1
    obtain ⟨dz, q⟩ := B.at_ j x _ hj (List.getElem?_eq_getElem hl)
    rw [hx] at q
    cases q
  · show (as ++ [x]).length = (b.dies ++ [d]).length
    rw [List.length_append, List.length_append, B.len]
    rfl
  · have e2' : (b.dies ++ [d])[j]? = some y := e2
    by_cases hj : j < as.length
    · rw [List.getElem?_append_left hj] at e1
      rw [List.getElem?_append_left (by rw [← B.len]; exact hj)] at e2'
      obtain ⟨dz, q⟩ := B1.at_ j a y e1 e2'
      exact ⟨dz, by rw [upd_ne (B1.nl e1 B1.dl).symm]; exact q⟩
    · have hj2 : j = as.length := by
        have h3 := (List.getElem?_eq_some_iff.mp e1).1
        rw [List.length_append, List.length_singleton] at h3
        omega
      subst hj2
      rw [List.getElem?_append_right (Nat.le_refl _), Nat.sub_self] at e1
      rw [B.len, List.getElem?_append_right (Nat.le_refl _), Nat.sub_self] at e2'
      have ea : x = a := Option.some.inj e1
      have ey : d = y := Option.some.inj e2'
      subst ea ey
      have n : ld ≠ x := ne_of B1.dl h1 (by intro z; cases z)
      exact ⟨dx, by rw [upd_ne n.symm]; exact h1⟩
/-! ### die -/
def sp_add_die (t : Adr) : Sp := fun vs H Q _ => ∃ (p q : Addr) (fp : List Addr) (b : Kp239.Bench) (z l : Nat), vs = [.ref p, .ref q] ∧ StAt t H p fp (some b) ∧ Good b ∧ H q = some (.lst (nats [z, l])) ∧ After t H p fp (Kp239.step (some b) (.die z l)) Q
theorem ok_add_die (T : Txt K mg t) : FnOk P w K mg base CX0 3 t.f_add_die t.fd_add_die ["bench", "given"] (sp_add_die t) := by
  have G_is_width := ok_is_width (P := P) (w := w) (base := base) T
  have G_Die_init := ok_Die_init (P := P) (w := w) (base := base) T
  refine T.F_add_die.ok sc_add_die (fun vs H Q E h => ?_) (fun cdv A outer s H vs Q E hr h => ?_)
  · obtain ⟨p, q, fp, b, z, l, rfl, _⟩ := h
    rfl
  · obtain ⟨p, q, fp, b, z, l, rfl, S, gd, hq, k⟩ := h
    obtain ⟨ld, lr, as, ef, B⟩ := id S
    obtain ⟨dx, hob⟩ := B.ob
    refine ⟨_, (pss_cons (ps_set (i := 2) sc_add_die.nd rfl (Or.inl rfl) (pe_ix ix_list (pv 1) pe_int (fun _ _ => rfl))) (pss_cons (ps_set (i := 3) sc_add_die.nd rfl (Or.inl rfl) (pe_ix ix_list (pv 1) pe_int (fun _ _ => rfl))) (pss_cons (ps_if (PW.pt (pw_or (pt_not (pt_truth (pe_call G_is_width (hr.mono (by decide)) rfl T.m_is_width T.F_is_width.kp T.b_is_width .nil pass0 (pa_cons (pv 2) pa_nil)) (fun _ => rfl))) (pw_or1 (pt_not (pt_chain op_le op_le pe_int (pv 3) (pe_glob (v := .int (100000)) rfl T.c_GREATEST_LIFE ⟨_, rfl⟩)))))) (pss_one (ps_ret (pe_lst (pa_cons (pe_glob (v := .int (-22)) rfl T.c_OUT_OF_BOUNDS ⟨_, rfl⟩) pa_nil)))) pss_nil) (pss_cons (ps_set (i := 4) sc_add_die.nd rfl (Or.inl rfl) (pe_callB call_len_seq (by rfl) T.n_len boot_len (pa_cons (pe_fld (pv 0) rfl) pa_nil))) (pss_cons (ps_if (pt_cmpR op_eq (pv 4) (pe_glob (v := .int (8)) rfl T.c_DIES_AT_MOST ⟨_, rfl⟩) (nomark _)) (pss_one (ps_ret (pe_lst (pa_cons (pe_glob (v := .int (-28)) rfl T.c_NO_ROOM ⟨_, rfl⟩) pa_nil)))) pss_nil) (pss_cons (ps_expr (pe_bm PySem.F.plainAttrs_list PySem.F.slot_list_append PySem.F.type_list_append mt_append (pe_fld (pv 0) rfl) (pa_cons (pe_make T.M_Die G_Die_init (hr.mono (by decide)) rfl T.m_Die T.b_Die_init .nil pass0 (pa_cons (pv 2) (pa_cons (pv 3) pa_nil))) pa_nil))) (pss_one (ps_ret (pe_lst (pa_cons (pv 4) pa_nil)))))))))), ?_⟩
    refine ⟨_, rfl, q, _, _, _, rfl, rfl, SqL.of hq, at0, ?_⟩
    refine ⟨_, rfl, q, _, _, _, rfl, rfl, SqL.of hq, at1, ?_⟩
    rw [Mm.step_die] at k
    have bad : (Kp239.okSize z = false ∨ l = 0 ∨ 100000 < l) → ∀ c, H c = none → Q (.ref c) (upd H c (.lst [.int (-22)])) := fun hb c hc => by
      rw [if_pos hb] at k
      exact After.tell S k (Same.refl H) hc rfl
    refine ⟨_, rfl, z, rfl, _, rfl, ?_⟩
    refine ifN (fun e1 => iteT ⟨one_le, fun z hz => bad (.inl e1) z hz⟩) fun e1 => ?_
    refine ⟨_, rfl, _, _, rfl, rfl, _, rfl, ifD (fun e2 => ?_) fun e2 => ⟨_, rfl, (iteT ⟨one_le, fun z hz => bad (.inr (.inl (by omega))) z hz⟩)⟩⟩
    refine ⟨_, _, rfl, rfl, _, rfl, ?_⟩
    refine ifND (fun e3 => ⟨one_le, fun z hz => bad (.inr (.inr (by omega))) z hz⟩) fun e3 => ?_
    rw [if_neg (by rw [e1]; simp; omega)] at k
    refine ⟨_, rfl, p, _, dx, _, _, rfl, hob, T.cl_Bench, T.n_Bench_dies, rfl, ld, _, rfl, .inl (SqL.of B.dl), ?_⟩
    refine ⟨_, rfl, rfl, _, rfl, ?_⟩
    have el : (as.map V.ref).length = b.dies.length := by rw [List.length_map, B.len]
    rw [el]
    refine ifD (fun e4 => ?_) fun e4 => ?_
    · have e5 : ((b.dies.length : Nat) : Int) = 8 := by injection e4
      rw [if_pos (by show 8 ≤ _; omega)] at k
      exact ⟨one_le, fun c hc => After.tell S k (Same.refl H) hc rfl⟩
    · have e5 : ¬ b.dies.length = 8 := fun e => e4 (by rw [e]; rfl)
      have dn := gd.dn
      rw [if_neg (by show ¬ 8 ≤ _; omega)] at k
      refine ⟨_, rfl, p, _, dx, _, _, rfl, hob, T.cl_Bench, T.n_Bench_dies, rfl, .inl ⟨rfl, _, SqL.of B.dl⟩, _, rfl, _, rfl, fun x dy hx hy hn => ?_⟩
      refine ⟨x, dy, z, l, rfl, upd_same, rfl, ?_⟩
      rw [upd_upd]
      have s2 : Same H (upd (upd H dy (.own x)) x (.ins t.C_Die dy (df ⟨z, l, 0⟩))) := same_put (same_new hy) hx
      refine ⟨ld, _, _, rfl, rfl, s2 _ _ B.dl, by rw [el]; exact Nat.lt_of_le_of_lt dn (by decide), ?_⟩
      refine ⟨_, rfl, one_le, fun c hc => ?_⟩
      refine After.done (fp' := p :: ld :: lr :: (as ++ [x])) k ⟨ld, lr, as ++ [x], rfl, B.addDie hx s2 upd_same⟩ (fun c o e hc => ?_) (fun c hc => ?_) hc (by rw [← el]; rfl)
      · rw [ef] at hc
        rw [upd_ne (fun z => hc (by rw [z]; simp))]
        exact s2 c o e
      · rw [ef]
        simp at hc
        rcases hc with rfl | rfl | rfl | hc | rfl
        · exact .inl (by simp)
        · exact .inl (by simp)
        · exact .inl (by simp)
        · exact .inl (by simp [hc])
        · exact .inr hx
end
end My


end
section
set_option Elab.async false
set_option linter.all false
set_option maxRecDepth 100000
set_option maxHeartbeats 2000000
namespace My
open PySem PySem.Spec PyProof.Rows L2
open Mm (ws wsA aft wp lastW holdsW Good)
section
variable {P : Program} {w : World} {K : PySem.W.Frag} {mg : Str → Option Value} {base : Heap} {t : Adr} {H H' H1 : Hp} {p ld lr : Addr} {as fp : List Addr} {g : Bool} {b : Kp239.Bench} {s : Kp239.State} {Q : VK}
theorem flat_nats (l : List Nat) : (nats l).all flatV = true := by
  rw [List.all_eq_true]
  intro x hx
  obtain ⟨n, _, rfl⟩ := List.mem_map.mp hx
  rfl
theorem in_nats (d : Nat) : ∀ l : List Nat, inV (V.int (d : Int)) (nats l) = l.contains d
  | [] => rfl
  | a :: l => by
    show (((a : Int) == (d : Int)) || inV (V.int (d : Int)) (nats l)) = ((d == a) || l.contains d)
    rw [in_nats d l]
    congr 1
    rw [Bool.eq_iff_iff, beq_iff_eq, beq_iff_eq]
    omega
theorem isDie_f (h : b.dies.length ≤ d) : Kp239.isDie b d = false := decide_eq_false (by omega)
theorem isDie_t (h : d < b.dies.length) : ¬ Kp239.isDie b d = false := by
  unfold Kp239.isDie
  rw [decide_eq_true h]
  exact Bool.noConfusion
theorem lenV (as : List Addr) : (as.map V.ref).length = as.length := List.length_map ..
/-! ### grind -/
def sp_grind (t : Adr) : Sp := fun vs H Q _ => ∃ (p q : Addr) (fp : List Addr) (b : Kp239.Bench) (d z : Nat), vs = [.ref p, .ref q] ∧ StAt t H p fp (some b) ∧ Good b ∧ H q = some (.lst (nats [d, z])) ∧ After t H p fp (Kp239.step (some b) (.grind d z)) Q
theorem ok_grind (T : Txt K mg t) : FnOk P w K mg base CX0 3 t.f_grind t.fd_grind ["bench", "given"] (sp_grind t) := by
  have G_is_width := ok_is_width (P := P) (w := w) (base := base) T
  have G_Bench_has_die := ok_Bench_has_die (P := P) (w := w) (base := base) T
  have G_Die_wide := ok_Die_wide (P := P) (w := w) (base := base) T
  have G_Die_grind := ok_Die_grind (P := P) (w := w) (base := base) T
  refine T.F_grind.ok sc_grind (fun vs H Q E h => ?_) (fun cdv A outer s H vs Q E hr h => ?_)
  · obtain ⟨p, q, fp, b, d, z, rfl, _⟩ := h
    rfl
  · obtain ⟨p, q, fp, b, d, z, rfl, S, gd, hq, k⟩ := h
    obtain ⟨ld, lr, as, ef, B⟩ := id S
    obtain ⟨dx, hob⟩ := B.ob
    rw [Mm.step_grind] at k
    refine ⟨_, (pss_cons (ps_set (i := 2) sc_grind.nd rfl (Or.inl rfl) (pe_ix ix_list (pv 1) pe_int (fun _ _ => rfl))) (pss_cons (ps_set (i := 3) sc_grind.nd rfl (Or.inl rfl) (pe_ix ix_list (pv 1) pe_int (fun _ _ => rfl))) (pss_cons (ps_if (pt_not (pt_truth (pe_meth (pv 0) T.cl_Bench T.me_Bench_has_die G_Bench_has_die (hr.mono (by decide)) T.b_Bench_has_die .nil pass0 (pa_cons (pv 2) pa_nil)) (fun _ => rfl))) (pss_one (ps_ret (pe_lst (pa_cons (pe_glob (v := .int (-2)) rfl T.c_NO_SUCH_DIE ⟨_, rfl⟩) pa_nil)))) pss_nil) (pss_cons (ps_if (pt_not (pt_truth (pe_call G_is_width (hr.mono (by decide)) rfl T.m_is_width T.F_is_width.kp T.b_is_width .nil pass0 (pa_cons (pv 3) pa_nil)) (fun _ => rfl))) (pss_one (ps_ret (pe_lst (pa_cons (pe_glob (v := .int (-22)) rfl T.c_OUT_OF_BOUNDS ⟨_, rfl⟩) pa_nil)))) pss_nil) (pss_cons (ps_if (pt_cmpR op_in_seq (pv 2) (pe_fld (pv 0) rfl) (by with_unfolding_all rfl)) (pss_one (ps_ret (pe_lst (pa_cons (pe_glob (v := .int (-16)) rfl T.c_DIE_IN_USE ⟨_, rfl⟩) pa_nil)))) pss_nil) (pss_cons (ps_set (i := 4) sc_grind.nd rfl (Or.inl rfl) (pe_ix ix_list (pe_fld (pv 0) rfl) (pv 2) (fun _ _ => rfl))) (pss_cons (ps_set (i := 5) sc_grind.nd rfl (Or.inl rfl) (pe_meth0 (pv 4) T.cl_Die T.me_Die_wide G_Die_wide (hr.mono (by decide)) T.b_Die_wide .nil pass0)) (pss_cons (ps_if (pt_cmpR op_gt (pv 5) (pv 3) (nomark _)) (pss_one (ps_ret (pe_lst (pa_cons (pe_glob (v := .int (-33)) rfl T.c_NOT_AS_IT_STANDS ⟨_, rfl⟩) pa_nil)))) pss_nil) (pss_cons (ps_expr (pe_meth (pv 4) T.cl_Die T.me_Die_grind G_Die_grind (hr.mono (by decide)) T.b_Die_grind .nil pass0 (pa_cons (pv 3) pa_nil))) (pss_one (ps_ret (pe_lst (pa_cons (pv 5) pa_nil))))))))))))), ?_⟩
    refine ⟨_, rfl, q, _, _, _, rfl, rfl, SqL.of hq, at0, ?_⟩
    refine ⟨_, rfl, q, _, _, _, rfl, rfl, SqL.of hq, at1, ?_⟩
    refine ⟨_, rfl, p, dx, _, rfl, hob, rfl, _, rfl, p, ld, lr, as, b, d, rfl, B, _, rfl, ?_⟩
    refine ifN (fun e1 => ?_) fun e1 => ?_
    · rw [if_pos e1] at k
      exact ⟨one_le, fun c hc => After.tell S k (Same.refl H) hc rfl⟩
    have hd : d < b.dies.length := of_decide_eq_true e1
    rw [if_neg (isDie_t hd)] at k
    refine ⟨_, rfl, z, rfl, _, rfl, ?_⟩
    refine ifN (fun e2 => ?_) fun e2 => ?_
    · rw [if_pos e2] at k
      exact ⟨one_le, fun c hc => After.tell S k (Same.refl H) hc rfl⟩
    rw [if_neg (by rw [e2]; exact Bool.noConfusion)] at k
    refine ⟨_, rfl, _, rfl, p, _, dx, _, _, rfl, hob, T.cl_Bench, T.n_Bench_row, rfl, lr, _, rfl, .inl (SqL.of B.rl), rfl, flat_nats _, _, rfl, ?_⟩
    rw [if_neg Bool.false_ne_true, in_nats]
    refine ifB (fun e3 => ?_) fun e3 => ?_
    · rw [if_pos e3] at k
      exact ⟨one_le, fun c hc => After.tell S k (Same.refl H) hc rfl⟩
    rw [if_neg (by rw [e3]; exact Bool.noConfusion)] at k
    obtain ⟨a, da, ha, hA⟩ := B.die hd
    have gn := gd.die hd
    have l1 := gn.l1
    have l2 := gn.l2
    refine ⟨_, rfl, p, _, dx, _, _, rfl, hob, T.cl_Bench, T.n_Bench_dies, rfl, _, rfl, ld, _, _, _, rfl, rfl, SqL.of B.dl, at_ref ha, ?_⟩
    refine ⟨_, rfl, a, da, _, rfl, hA, rfl, a, da, _, rfl, hA, by omega, by omega, ?_⟩
    refine ⟨_, rfl, _, rfl, _, _, rfl, rfl, _, rfl, ?_⟩
    have es : Kp239.wide (Kp239.dieAt b d) = Kp239.size b d := rfl
    rw [es]
    refine ifD (fun e4 => ?_) fun e4 => ?_
    · rw [if_pos (by omega)] at k
      exact ⟨one_le, fun c hc => After.tell S k (Same.refl H) hc rfl⟩
    rw [if_neg (by omega)] at k
    refine ⟨_, rfl, a, da, _, rfl, hA, rfl, _, rfl, a, da, _, z, rfl, hA, ?_⟩
    refine ⟨_, rfl, one_le, fun c hc => ?_⟩
    refine After.done k ⟨ld, lr, as, ef, B.setDie ha rfl rfl rfl⟩ (fun c o e hc => ?_) (fun c hc => .inl hc) hc rfl
    rw [ef] at hc
    rw [upd_ne (fun z => hc (by rw [z]; simp [List.mem_of_getElem? ha]))]
    exact e
/-! ### rod, want -/
def sp_change_rod (t : Adr) : Sp := fun vs H Q _ => ∃ (p q : Addr) (fp : List Addr) (b : Kp239.Bench) (r : Nat), vs = [.ref p, .ref q] ∧ StAt t H p fp (some b) ∧ Good b ∧ H q = some (.lst (nats [r])) ∧ After t H p fp (Kp239.step (some b) (.rod r)) Q
theorem ok_change_rod (T : Txt K mg t) : FnOk P w K mg base CX0 2 t.f_change_rod t.fd_change_rod ["bench", "given"] (sp_change_rod t) := by
  have G_is_width := ok_is_width (P := P) (w := w) (base := base) T
  refine T.F_change_rod.ok sc_change_rod (fun vs H Q E h => ?_) (fun cdv A outer s H vs Q E hr h => ?_)
  · obtain ⟨p, q, fp, b, r, rfl, _⟩ := h
    rfl
  · obtain ⟨p, q, fp, b, r, rfl, S, gd, hq, k⟩ := h
    obtain ⟨ld, lr, as, ef, B⟩ := id S
    obtain ⟨dx, hob⟩ := B.ob
    rw [Mm.step_rod] at k
    refine ⟨_, (pss_cons (ps_set (i := 2) sc_change_rod.nd rfl (Or.inl rfl) (pe_ix ix_list (pv 1) pe_int (fun _ _ => rfl))) (pss_cons (ps_if (pt_not (pt_truth (pe_call G_is_width (hr.mono (by decide)) rfl T.m_is_width T.F_is_width.kp T.b_is_width .nil pass0 (pa_cons (pv 2) pa_nil)) (fun _ => rfl))) (pss_one (ps_ret (pe_lst (pa_cons (pe_glob (v := .int (-22)) rfl T.c_OUT_OF_BOUNDS ⟨_, rfl⟩) pa_nil)))) pss_nil) (pss_cons (ps_set (i := 3) sc_change_rod.nd rfl (Or.inl rfl) (pe_fld (pv 0) rfl)) (pss_cons (ps_fld (pv 0) (pv 2) rfl) (pss_one (ps_ret (pe_lst (pa_cons (pv 3) pa_nil)))))))), ?_⟩
    refine ⟨_, rfl, q, _, _, _, rfl, rfl, SqL.of hq, at0, ?_⟩
    refine ⟨_, rfl, r, rfl, _, rfl, ?_⟩
    refine ifN (fun e1 => ?_) fun e1 => ?_
    · rw [if_pos e1] at k
      exact ⟨one_le, fun c hc => After.tell S k (Same.refl H) hc rfl⟩
    rw [if_neg (by rw [e1]; exact Bool.noConfusion)] at k
    refine ⟨_, rfl, p, _, dx, _, _, rfl, hob, T.cl_Bench, T.n_Bench_rod, rfl, ?_⟩
    refine ⟨_, rfl, _, rfl, p, _, dx, _, rfl, hob, T.cl_Bench, T.n_Bench_rod, (by show 8 < 1000; decide), ?_⟩
    refine ⟨_, rfl, one_le, fun c hc => ?_⟩
    refine After.done k ⟨ld, lr, as, ef, B.setOb (b' := { b with rod := r }) rfl rfl⟩ (fun c o e hc => ?_) (fun c hc => .inl hc) hc rfl
    rw [ef] at hc
    rw [upd_ne (fun z => hc (by rw [z]; simp))]
    exact e
def sp_change_want (t : Adr) : Sp := fun vs H Q _ => ∃ (p q : Addr) (fp : List Addr) (b : Kp239.Bench) (v o : Nat), vs = [.ref p, .ref q] ∧ StAt t H p fp (some b) ∧ Good b ∧ H q = some (.lst (nats [v, o])) ∧ After t H p fp (Kp239.step (some b) (.want v o)) Q
theorem ok_change_want (T : Txt K mg t) : FnOk P w K mg base CX0 3 t.f_change_want t.fd_change_want ["bench", "given"] (sp_change_want t) := by
  have G_can_be_wanted := ok_can_be_wanted (P := P) (w := w) (base := base) T
  refine T.F_change_want.ok sc_change_want (fun vs H Q E h => ?_) (fun cdv A outer s H vs Q E hr h => ?_)
  · obtain ⟨p, q, fp, b, v, o, rfl, _⟩ := h
    rfl
  · obtain ⟨p, q, fp, b, v, o, rfl, S, gd, hq, k⟩ := h
    obtain ⟨ld, lr, as, ef, B⟩ := id S
    obtain ⟨dx, hob⟩ := B.ob
    rw [Mm.step_want] at k
    refine ⟨_, (pss_cons (ps_set (i := 2) sc_change_want.nd rfl (Or.inl rfl) (pe_ix ix_list (pv 1) pe_int (fun _ _ => rfl))) (pss_cons (ps_set (i := 3) sc_change_want.nd rfl (Or.inl rfl) (pe_ix ix_list (pv 1) pe_int (fun _ _ => rfl))) (pss_cons (ps_if (pt_not (pt_truth (pe_call G_can_be_wanted (hr.mono (by decide)) rfl T.m_can_be_wanted T.F_can_be_wanted.kp T.b_can_be_wanted .nil pass0 (pa_cons (pv 2) (pa_cons (pv 3) pa_nil))) (fun _ => rfl))) (pss_one (ps_ret (pe_lst (pa_cons (pe_glob (v := .int (-22)) rfl T.c_OUT_OF_BOUNDS ⟨_, rfl⟩) pa_nil)))) pss_nil) (pss_cons (ps_set (i := 4) sc_change_want.nd rfl (Or.inl rfl) (pe_fld (pv 0) rfl)) (pss_cons (ps_fld (pv 0) (pv 2) rfl) (pss_cons (ps_fld (pv 0) (pv 3) rfl) (pss_one (ps_ret (pe_lst (pa_cons (pv 4) pa_nil)))))))))), ?_⟩
    refine ⟨_, rfl, q, _, _, _, rfl, rfl, SqL.of hq, at0, ?_⟩
    refine ⟨_, rfl, q, _, _, _, rfl, rfl, SqL.of hq, at1, ?_⟩
    refine ⟨_, rfl, _, rfl, v, o, rfl, _, rfl, ?_⟩
    refine ifN (fun e1 => ?_) fun e1 => ?_
    · have h1 : Kp239.okSize v = false ∨ 1000 < o := by
        rw [Bool.and_eq_false_iff] at e1
        rcases e1 with e | e
        · exact .inl e
        · have := of_decide_eq_false e
          exact .inr (by omega)
      rw [if_pos h1] at k
      exact ⟨one_le, fun c hc => After.tell S k (Same.refl H) hc rfl⟩
    rw [Bool.and_eq_true] at e1
    have e2 := of_decide_eq_true e1.2
    rw [if_neg (by rw [e1.1]; simp; omega)] at k
    refine ⟨_, rfl, p, _, dx, _, _, rfl, hob, T.cl_Bench, T.n_Bench_want, rfl, ?_⟩
    refine ⟨_, rfl, _, rfl, p, _, dx, _, rfl, hob, T.cl_Bench, T.n_Bench_want, (by show 8 < 1000; decide), ?_⟩
    refine ⟨_, rfl, _, rfl, p, _, dx, _, rfl, upd_same, T.cl_Bench, T.n_Bench_off, (by show 8 < 1000; decide), ?_⟩
    rw [upd_upd]
    refine ⟨_, rfl, one_le, fun c hc => ?_⟩
    refine After.done k ⟨ld, lr, as, ef, B.setOb (b' := { b with want := v, off := o }) rfl rfl⟩ (fun c o e hc => ?_) (fun c hc => .inl hc) hc rfl
    rw [ef] at hc
    rw [upd_ne (fun z => hc (by rw [z]; simp))]
    exact e
/-! ### put, take, clear -/
def sp_put (t : Adr) : Sp := fun vs H Q _ => ∃ (p q : Addr) (fp : List Addr) (b : Kp239.Bench) (d : Nat), vs = [.ref p, .ref q] ∧ StAt t H p fp (some b) ∧ Good b ∧ H q = some (.lst (nats [d])) ∧ After t H p fp (Kp239.step (some b) (.put d)) Q
theorem ok_put (T : Txt K mg t) : FnOk P w K mg base CX0 6 t.f_put t.fd_put ["bench", "given"] (sp_put t) := by
  have G_Bench_has_die := ok_Bench_has_die (P := P) (w := w) (base := base) T
  have G_Die_wide := ok_Die_wide (P := P) (w := w) (base := base) T
  have G_Bench_reaches := ok_Bench_reaches (P := P) (w := w) (base := base) T
  refine T.F_put.ok sc_put (fun vs H Q E h => ?_) (fun cdv A outer s H vs Q E hr h => ?_)
  · obtain ⟨p, q, fp, b, d, rfl, _⟩ := h
    rfl
  · obtain ⟨p, q, fp, b, d, rfl, S, gd, hq, k⟩ := h
    obtain ⟨ld, lr, as, ef, B⟩ := id S
    obtain ⟨dx, hob⟩ := B.ob
    rw [Mm.step_put] at k
    refine ⟨_, (pss_cons (ps_set (i := 2) sc_put.nd rfl (Or.inl rfl) (pe_ix ix_list (pv 1) pe_int (fun _ _ => rfl))) (pss_cons (ps_if (pt_not (pt_truth (pe_meth (pv 0) T.cl_Bench T.me_Bench_has_die G_Bench_has_die (hr.mono (by decide)) T.b_Bench_has_die .nil pass0 (pa_cons (pv 2) pa_nil)) (fun _ => rfl))) (pss_one (ps_ret (pe_lst (pa_cons (pe_glob (v := .int (-2)) rfl T.c_NO_SUCH_DIE ⟨_, rfl⟩) pa_nil)))) pss_nil) (pss_cons (ps_if (pt_cmpR op_in_seq (pv 2) (pe_fld (pv 0) rfl) (by with_unfolding_all rfl)) (pss_one (ps_ret (pe_lst (pa_cons (pe_glob (v := .int (-17)) rfl T.c_DIE_IN_ROW ⟨_, rfl⟩) pa_nil)))) pss_nil) (pss_cons (ps_if (pt_not (pt_truth (pe_meth (pv 0) T.cl_Bench T.me_Bench_reaches G_Bench_reaches (hr.mono (by decide)) T.b_Bench_reaches .nil pass0 (pa_cons (pe_meth0 (pe_ix ix_list (pe_fld (pv 0) rfl) (pv 2) (fun _ _ => rfl)) T.cl_Die T.me_Die_wide G_Die_wide (hr.mono (by decide)) T.b_Die_wide .nil pass0) pa_nil)) (fun _ => rfl))) (pss_one (ps_ret (pe_lst (pa_cons (pe_glob (v := .int (-33)) rfl T.c_NOT_AS_IT_STANDS ⟨_, rfl⟩) pa_nil)))) pss_nil) (pss_cons (ps_expr (pe_bm PySem.F.plainAttrs_list PySem.F.slot_list_append PySem.F.type_list_append mt_append (pe_fld (pv 0) rfl) (pa_cons (pv 2) pa_nil))) (pss_one (ps_ret (pe_lst (pa_cons (pe_callB call_len_seq (by rfl) T.n_len boot_len (pa_cons (pe_fld (pv 0) rfl) pa_nil)) pa_nil))))))))), ?_⟩
    refine ⟨_, rfl, q, _, _, _, rfl, rfl, SqL.of hq, at0, ?_⟩
    refine ⟨_, rfl, p, dx, _, rfl, hob, rfl, _, rfl, p, ld, lr, as, b, d, rfl, B, _, rfl, ?_⟩
    refine ifN (fun e1 => ?_) fun e1 => ?_
    · rw [if_pos e1] at k
      exact ⟨one_le, fun c hc => After.tell S k (Same.refl H) hc rfl⟩
    have hd : d < b.dies.length := of_decide_eq_true e1
    rw [if_neg (isDie_t hd)] at k
    refine ⟨_, rfl, _, rfl, p, _, dx, _, _, rfl, hob, T.cl_Bench, T.n_Bench_row, rfl, lr, _, rfl, .inl (SqL.of B.rl), rfl, flat_nats _, _, rfl, ?_⟩
    rw [if_neg Bool.false_ne_true, in_nats]
    refine ifB (fun e3 => ?_) fun e3 => ?_
    · rw [if_pos e3] at k
      exact ⟨one_le, fun c hc => After.tell S k (Same.refl H) hc rfl⟩
    rw [if_neg (by rw [e3]; exact Bool.noConfusion)] at k
    obtain ⟨a, da, ha, hA⟩ := B.die hd
    have gn := gd.die hd
    have l1 := gn.l1
    have l2 := gn.l2
    refine ⟨_, rfl, p, dx, _, rfl, hob, rfl, _, rfl, p, _, dx, _, _, rfl, hob, T.cl_Bench, T.n_Bench_dies, rfl, _, rfl, ld, _, _, _, rfl, rfl, SqL.of B.dl, at_ref ha, a, da, _, rfl, hA, rfl, a, da, _, rfl, hA, by omega, by omega, ?_⟩
    refine ⟨p, ld, lr, as, b, _, rfl, B, gd, fun H' sm => ⟨_, rfl, ?_⟩⟩
    have es : Kp239.wide (Kp239.dieAt b d) = Kp239.size b d := rfl
    rw [es]
    refine ifN (fun e4 => ?_) fun e4 => ?_
    · rw [if_pos e4] at k
      exact ⟨one_le, fun c hc => After.tell S k sm hc rfl⟩
    rw [if_neg (by rw [e4]; exact Bool.noConfusion)] at k
    have B2 := B.same sm
    have hob2 := sm _ _ hob
    refine ⟨_, rfl, p, _, dx, _, _, rfl, hob2, T.cl_Bench, T.n_Bench_row, rfl, .inl ⟨rfl, _, SqL.of B2.rl⟩, _, rfl, lr, _, _, rfl, rfl, B2.rl, by rw [nats_len]; exact Nat.lt_of_le_of_lt (row_le gd) (by decide), ?_⟩
    have B3 : BenchAt t (upd H' lr (.lst (nats (b.row ++ [d])))) p ld lr as true { b with row := b.row ++ [d] } := B2.setRow
    rw [← nats_snoc]
    refine ⟨_, rfl, p, _, dx, _, _, rfl, (by rw [upd_ne (B2.npl B2.rl)]; exact hob2), T.cl_Bench, T.n_Bench_row, rfl, lr, _, rfl, .inl (SqL.of upd_same), one_le, fun c hc => ?_⟩
    refine After.done k ⟨ld, lr, as, ef, B3⟩ (fun c o e hc => ?_) (fun c hc => .inl hc) hc ?_
    · rw [ef] at hc
      rw [upd_ne (fun z => hc (by rw [z]; simp))]
      exact sm c o e
    · rw [nats_len, List.length_append, List.length_singleton]
      rfl
def sp_take (t : Adr) : Sp := fun vs H Q _ => ∃ (p q : Addr) (fp : List Addr) (b : Kp239.Bench), vs = [.ref p, .ref q] ∧ StAt t H p fp (some b) ∧ Good b ∧ After t H p fp (Kp239.step (some b) .take) Q
theorem ok_take (T : Txt K mg t) : FnOk P w K mg base CX0 1 t.f_take t.fd_take ["bench", "given"] (sp_take t) := by
  refine T.F_take.ok sc_take (fun vs H Q E h => ?_) (fun cdv A outer s H vs Q E hr h => ?_)
  · obtain ⟨p, q, fp, b, rfl, _⟩ := h
    rfl
  · obtain ⟨p, q, fp, b, rfl, S, gd, k⟩ := h
    obtain ⟨ld, lr, as, ef, B⟩ := id S
    obtain ⟨dx, hob⟩ := B.ob
    refine ⟨_, (pss_cons (ps_if (pt_not (pt_truth (pe_fld (pv 0) rfl) (fun _ => rfl))) (pss_one (ps_ret (pe_lst (pa_cons (pe_glob (v := .int (-6)) rfl T.c_ROW_EMPTY ⟨_, rfl⟩) pa_nil)))) pss_nil) (pss_one (ps_ret (pe_lst (pa_cons (pe_bm0 PySem.F.plainAttrs_list PySem.F.slot_list_pop PySem.F.type_list_pop mt_pop (pe_fld (pv 0) rfl)) pa_nil))))), ?_⟩
    refine ⟨_, rfl, p, _, dx, _, _, rfl, hob, T.cl_Bench, T.n_Bench_row, rfl, _, .inl ⟨_, SqL.of B.rl, rfl⟩, ?_⟩
    rcases List.eq_nil_or_concat b.row with e | ⟨l', x, e⟩
    · rw [Mm.step_take_nil b e] at k
      rw [e]
      refine iteT ?_
      exact ⟨one_le, fun c hc => After.tell S k (Same.refl H) hc rfl⟩
    · rw [List.concat_eq_append] at e
      rw [Mm.step_take_snoc b e] at k
      have hl : H lr = some (.lst (nats l' ++ [V.int (x : Int)])) := by rw [B.rl, e, nats_snoc]
      rw [e, nats_snoc]
      have e2 : (!!(nats l' ++ [V.int (x : Int)]).isEmpty) = false := by simp
      rw [e2]
      refine iteF ?_
      refine ⟨_, rfl, p, _, dx, _, _, rfl, hob, T.cl_Bench, T.n_Bench_row, rfl, .inl ⟨rfl, _, SqL.of hl⟩, lr, _, V.int (x : Int), rfl, rfl, hl, by simp, ?_⟩
      rw [List.dropLast_concat]
      refine ⟨one_le, fun c hc => ?_⟩
      refine After.done k ⟨ld, lr, as, ef, B.setRow⟩ (fun c o e hc => ?_) (fun c hc => .inl hc) hc rfl
      rw [ef] at hc
      rw [upd_ne (fun z => hc (by rw [z]; simp))]
      exact e
def sp_empty_row (t : Adr) : Sp := fun vs H Q _ => ∃ (p q : Addr) (fp : List Addr) (b : Kp239.Bench), vs = [.ref p, .ref q] ∧ StAt t H p fp (some b) ∧ Good b ∧ After t H p fp (Kp239.step (some b) .clear) Q
theorem ok_empty_row (T : Txt K mg t) : FnOk P w K mg base CX0 1 t.f_empty_row t.fd_empty_row ["bench", "given"] (sp_empty_row t) := by
  refine T.F_empty_row.ok sc_empty_row (fun vs H Q E h => ?_) (fun cdv A outer s H vs Q E hr h => ?_)
  · obtain ⟨p, q, fp, b, rfl, _⟩ := h
    rfl
  · obtain ⟨p, q, fp, b, rfl, S, gd, k⟩ := h
    obtain ⟨ld, lr, as, ef, B⟩ := id S
    obtain ⟨dx, hob⟩ := B.ob
    rw [Mm.step_clear] at k
    refine ⟨_, (pss_cons (ps_set (i := 2) sc_empty_row.nd rfl (Or.inl rfl) (pe_callB call_len_seq (by rfl) T.n_len boot_len (pa_cons (pe_fld (pv 0) rfl) pa_nil))) (pss_cons (ps_fld (pv 0) (pe_lst pa_nil) rfl) (pss_one (ps_ret (pe_lst (pa_cons (pv 2) pa_nil)))))), ?_⟩
    refine ⟨_, rfl, p, _, dx, _, _, rfl, hob, T.cl_Bench, T.n_Bench_row, rfl, lr, _, rfl, .inl (SqL.of B.rl), ?_⟩
    refine ⟨Nat.zero_le _, fun l2 hl2 => ?_⟩
    refine ⟨_, rfl, p, _, dx, _, rfl, (by rw [upd_ne (ne_of_none hob hl2)]; exact hob), T.cl_Bench, T.n_Bench_row, (by show 8 < 1000; decide), ?_⟩
    refine ⟨_, rfl, one_le, fun c hc => ?_⟩
    refine After.done (fp' := p :: ld :: l2 :: as) k ⟨ld, l2, as, rfl, B.newRow (dx := dx) (l := []) hl2⟩ (fun c o e hc => ?_) (fun c hc => ?_) hc (by rw [nats_len]; rfl)
    · rw [ef] at hc
      rw [upd_ne (fun z => hc (by rw [z]; simp)), upd_ne (ne_of_none e hl2)]
      exact e
    · rw [ef]
      simp at hc
      rcases hc with rfl | rfl | rfl | hc
      · exact .inl (by simp)
      · exact .inl (by simp)
      · exact .inr hl2
      · exact .inl (by simp [hc])
/-! ### holds, wrong, run -/
def sp_tell_holds (t : Adr) : Sp := fun vs H Q _ => ∃ (p q : Addr) (fp : List Addr) (b : Kp239.Bench), vs = [.ref p, .ref q] ∧ StAt t H p fp (some b) ∧ Good b ∧ After t H p fp (Kp239.step (some b) .holds) Q
theorem ok_tell_holds (T : Txt K mg t) : FnOk P w K mg base CX0 5 t.f_tell_holds t.fd_tell_holds ["bench", "given"] (sp_tell_holds t) := by
  have G_Bench_holds := ok_Bench_holds (P := P) (w := w) (base := base) T
  have G_Bench_widths := ok_Bench_widths (P := P) (w := w) (base := base) T
  refine T.F_tell_holds.ok sc_tell_holds (fun vs H Q E h => ?_) (fun cdv A outer s H vs Q E hr h => ?_)
  · obtain ⟨p, q, fp, b, rfl, _⟩ := h
    rfl
  · obtain ⟨p, q, fp, b, rfl, S, gd, k⟩ := h
    obtain ⟨ld, lr, as, ef, B⟩ := id S
    obtain ⟨dx, hob⟩ := B.ob
    rw [Mm.step_holds, Mm.holds_W] at k
    refine ⟨_, (pss_one (ps_ret (pe_lst (pa_cons (pe_ifExp (pt_truth (pe_meth (pv 0) T.cl_Bench T.me_Bench_holds G_Bench_holds (hr.mono (by decide)) T.b_Bench_holds .nil pass0 (pa_cons (pe_meth0 (pv 0) T.cl_Bench T.me_Bench_widths G_Bench_widths (hr.mono (by decide)) T.b_Bench_widths .nil pass0) pa_nil)) (fun _ => rfl)) pe_int pe_int) pa_nil)))), ?_⟩
    refine ⟨_, rfl, p, dx, _, rfl, hob, rfl, _, rfl, p, dx, _, rfl, hob, rfl, p, ld, lr, as, b, rfl, B, gd, fun H1 q1 s1 hq1 => ?_⟩
    refine ⟨p, ld, lr, as, b, q1, _, rfl, B.same s1, gd, hq1, fun H2 s2 => ⟨_, rfl, ?_⟩⟩
    have s3 := s1.trans s2
    refine ifB (fun e => ?_) fun e => ?_
    · rw [e] at k
      exact ⟨one_le, fun c hc => After.tell S k s3 hc rfl⟩
    · rw [e] at k
      exact ⟨one_le, fun c hc => After.tell S k s3 hc rfl⟩
def sp_tell_wrong (t : Adr) : Sp := fun vs H Q _ => ∃ (p q : Addr) (fp : List Addr) (b : Kp239.Bench), vs = [.ref p, .ref q] ∧ StAt t H p fp (some b) ∧ Good b ∧ After t H p fp (Kp239.step (some b) .wrong) Q
theorem ok_tell_wrong (T : Txt K mg t) : FnOk P w K mg base CX0 5 t.f_tell_wrong t.fd_tell_wrong ["bench", "given"] (sp_tell_wrong t) := by
  have G_Bench_wrong_place := ok_Bench_wrong_place (P := P) (w := w) (base := base) T
  have G_Bench_widths := ok_Bench_widths (P := P) (w := w) (base := base) T
  refine T.F_tell_wrong.ok sc_tell_wrong (fun vs H Q E h => ?_) (fun cdv A outer s H vs Q E hr h => ?_)
  · obtain ⟨p, q, fp, b, rfl, _⟩ := h
    rfl
  · obtain ⟨p, q, fp, b, rfl, S, gd, k⟩ := h
    obtain ⟨ld, lr, as, ef, B⟩ := id S
    obtain ⟨dx, hob⟩ := B.ob
    rw [Mm.step_wrong, Mm.wrong_wp] at k
    refine ⟨_, (pss_cons (ps_set (i := 2) sc_tell_wrong.nd rfl (Or.inl rfl) (pe_meth (pv 0) T.cl_Bench T.me_Bench_wrong_place G_Bench_wrong_place (hr.mono (by decide)) T.b_Bench_wrong_place .nil pass0 (pa_cons (pe_meth0 (pv 0) T.cl_Bench T.me_Bench_widths G_Bench_widths (hr.mono (by decide)) T.b_Bench_widths .nil pass0) pa_nil))) (pss_one (ps_ret (pe_lst (pa_cons (pe_ifExp (pt_cmpR op_isN (pv 2) pe_non (nomark _)) (pe_glob (v := .int (-33)) rfl T.c_NOT_AS_IT_STANDS ⟨_, rfl⟩) (pv 2)) pa_nil))))), ?_⟩
    refine ⟨_, rfl, p, dx, _, rfl, hob, rfl, _, rfl, p, dx, _, rfl, hob, rfl, p, ld, lr, as, b, rfl, B, gd, fun H1 q1 s1 hq1 => ?_⟩
    refine ⟨p, ld, lr, as, b, q1, _, rfl, B.same s1, gd, hq1, fun H2 s2 => ?_⟩
    have s3 := s1.trans s2
    cases e : wp b.most b.rod (ws b) with
    | none =>
      rw [e] at k
      refine ⟨_, rfl, rfl, _, rfl, iteT ?_⟩
      exact ⟨one_le, fun c hc => After.tell S k s3 hc rfl⟩
    | some z =>
      rw [e] at k
      refine ⟨_, rfl, rfl, _, rfl, iteF ?_⟩
      exact ⟨_, rfl, one_le, fun c hc => After.tell S k s3 hc rfl⟩
/-- with what a run is refused -/
def refV (b : Kp239.Bench) (m : Nat) : V := if m = 0 ∨ Kp239.RUN < m then .int (-22) else if Kp239.holds b = false then .int (-33) else if Kp239.holds (Kp239.worn b m) = false then .int (-61) else .non
def sp_run_refusal (t : Adr) : Sp := fun vs H Q _ => ∃ (p ld lr : Addr) (as : List Addr) (b : Kp239.Bench) (m : Nat), vs = [.ref p, .int m] ∧ BenchAt t H p ld lr as true b ∧ Good b ∧ ∀ H', Same H H' → Q (refV b m) H'
theorem ok_run_refusal (T : Txt K mg t) : FnOk P w K mg base CX0 6 t.f_run_refusal t.fd_run_refusal ["bench", "metres"] (sp_run_refusal t) := by
  have G_Bench_holds := ok_Bench_holds (P := P) (w := w) (base := base) T
  have G_Bench_widths := ok_Bench_widths (P := P) (w := w) (base := base) T
  have G_Bench_widths_after := ok_Bench_widths_after (P := P) (w := w) (base := base) T
  refine T.F_run_refusal.ok sc_run_refusal (fun vs H Q E h => ?_) (fun cdv A outer s H vs Q E hr h => ?_)
  · obtain ⟨p, ld, lr, as, b, m, rfl, _⟩ := h
    rfl
  · obtain ⟨p, ld, lr, as, b, m, rfl, B, gd, k⟩ := h
    obtain ⟨dx, hob⟩ := B.ob
    unfold refV at k
    rw [Mm.holds_W, Mm.holds_worn gd] at k
    refine ⟨_, (pss_cons (ps_if (pt_not (pt_chain op_le op_le pe_int (pv 1) (pe_glob (v := .int (20000)) rfl T.c_GREATEST_RUN ⟨_, rfl⟩))) (pss_one (ps_ret (pe_glob (v := .int (-22)) rfl T.c_OUT_OF_BOUNDS ⟨_, rfl⟩))) pss_nil) (pss_cons (ps_if (pt_not (pt_truth (pe_meth (pv 0) T.cl_Bench T.me_Bench_holds G_Bench_holds (hr.mono (by decide)) T.b_Bench_holds .nil pass0 (pa_cons (pe_meth0 (pv 0) T.cl_Bench T.me_Bench_widths G_Bench_widths (hr.mono (by decide)) T.b_Bench_widths .nil pass0) pa_nil)) (fun _ => rfl))) (pss_one (ps_ret (pe_glob (v := .int (-33)) rfl T.c_NOT_AS_IT_STANDS ⟨_, rfl⟩))) pss_nil) (pss_cons (ps_if (pt_not (pt_truth (pe_meth (pv 0) T.cl_Bench T.me_Bench_holds G_Bench_holds (hr.mono (by decide)) T.b_Bench_holds .nil pass0 (pa_cons (pe_meth (pv 0) T.cl_Bench T.me_Bench_widths_after G_Bench_widths_after (hr.mono (by decide)) T.b_Bench_widths_after .nil pass0 (pa_cons (pv 1) pa_nil)) pa_nil)) (fun _ => rfl))) (pss_one (ps_ret (pe_glob (v := .int (-61)) rfl T.c_WOULD_NOT_HOLD ⟨_, rfl⟩))) pss_nil) (pss_one (ps_ret pe_non))))), ?_⟩
    refine ⟨_, rfl, _, _, rfl, rfl, _, rfl, ifD (fun e2 => ?_) fun e2 => ⟨_, rfl, iteT ?_⟩⟩
    · refine ⟨_, _, rfl, rfl, _, rfl, ?_⟩
      refine ifND (fun e3 => ?_) fun e3 => ?_
      · rw [if_pos (.inr (by unfold Kp239.RUN; omega))] at k
        exact k H (Same.refl H)
      rw [if_neg (by unfold Kp239.RUN; omega)] at k
      refine ⟨_, rfl, p, dx, _, rfl, hob, rfl, _, rfl, p, dx, _, rfl, hob, rfl, p, ld, lr, as, b, rfl, B, gd, fun H1 q1 s1 hq1 => ?_⟩
      refine ⟨p, ld, lr, as, b, q1, _, rfl, B.same s1, gd, hq1, fun H2 s2 => ⟨_, rfl, ?_⟩⟩
      have s3 := s1.trans s2
      refine ifN (fun e => ?_) fun e => ?_
      · rw [if_pos e] at k
        exact k H2 s3
      rw [if_neg (by rw [e]; exact Bool.noConfusion)] at k
      refine ⟨_, rfl, p, dx, _, rfl, s3 _ _ hob, rfl, _, rfl, p, dx, _, rfl, s3 _ _ hob, rfl, _, rfl, p, ld, lr, as, b, m, rfl, B.same s3, gd, fun H4 q4 s4 hq4 => ?_⟩
      have s5 := s3.trans s4
      refine ⟨p, ld, lr, as, b, q4, _, rfl, B.same s5, gd, hq4, fun H6 s6 => ⟨_, rfl, ?_⟩⟩
      have s7 := s5.trans s6
      refine ifN (fun e4 => ?_) fun e4 => ?_
      · rw [if_pos e4] at k
        exact k H6 s7
      rw [if_neg (by rw [e4]; exact Bool.noConfusion)] at k
      exact k H6 s7
    · rw [if_pos (.inl (by omega))] at k
      exact k H (Same.refl H)
def sp_run (t : Adr) : Sp := fun vs H Q _ => ∃ (p q : Addr) (fp : List Addr) (b : Kp239.Bench) (m : Nat), vs = [.ref p, .ref q] ∧ StAt t H p fp (some b) ∧ Good b ∧ H q = some (.lst (nats [m])) ∧ After t H p fp (Kp239.step (some b) (.run m)) Q
theorem ok_run (T : Txt K mg t) : FnOk P w K mg base CX0 7 t.f_run t.fd_run ["bench", "given"] (sp_run t) := by
  have G_run_refusal := ok_run_refusal (P := P) (w := w) (base := base) T
  have G_Bench_metres_out := ok_Bench_metres_out (P := P) (w := w) (base := base) T
  have G_Bench_draw := ok_Bench_draw (P := P) (w := w) (base := base) T
  refine T.F_run.ok sc_run (fun vs H Q E h => ?_) (fun cdv A outer s H vs Q E hr h => ?_)
  · obtain ⟨p, q, fp, b, m, rfl, _⟩ := h
    rfl
  · obtain ⟨p, q, fp, b, m, rfl, S, gd, hq, k⟩ := h
    obtain ⟨ld, lr, as, ef, B⟩ := id S
    obtain ⟨dx, hob⟩ := B.ob
    rw [Mm.step_run] at k
    refine ⟨_, (pss_cons (ps_set (i := 2) sc_run.nd rfl (Or.inl rfl) (pe_ix ix_list (pv 1) pe_int (fun _ _ => rfl))) (pss_cons (ps_set (i := 3) sc_run.nd rfl (Or.inl rfl) (pe_call G_run_refusal (hr.mono (by decide)) rfl T.m_run_refusal T.F_run_refusal.kp T.b_run_refusal .nil pass0 (pa_cons (pv 0) (pa_cons (pv 2) pa_nil)))) (pss_cons (ps_if (pt_cmpR op_notN (pv 3) pe_non (nomark _)) (pss_one (ps_ret (pe_lst (pa_cons (pv 3) pa_nil)))) pss_nil) (pss_cons (ps_set (i := 4) sc_run.nd rfl (Or.inl rfl) (pe_meth (pv 0) T.cl_Bench T.me_Bench_metres_out G_Bench_metres_out (hr.mono (by decide)) T.b_Bench_metres_out .nil pass0 (pa_cons (pv 2) pa_nil))) (pss_cons (ps_expr (pe_meth (pv 0) T.cl_Bench T.me_Bench_draw G_Bench_draw (hr.mono (by decide)) T.b_Bench_draw .nil pass0 (pa_cons (pv 2) pa_nil))) (pss_one (ps_ret (pe_lst (pa_cons (pv 4) pa_nil))))))))), ?_⟩
    refine ⟨_, rfl, q, _, _, _, rfl, rfl, SqL.of hq, at0, ?_⟩
    refine ⟨_, rfl, _, rfl, p, ld, lr, as, b, m, rfl, B, gd, fun H1 s1 => ?_⟩
    unfold refV
    by_cases h1 : m = 0 ∨ Kp239.RUN < m
    · rw [if_pos h1] at k ⊢
      exact ⟨_, rfl, rfl, _, rfl, iteT ⟨_, rfl, one_le, fun c hc => After.tell S k s1 hc rfl⟩⟩
    rw [if_neg h1] at k ⊢
    by_cases h2 : Kp239.holds b = false
    · rw [if_pos h2] at k ⊢
      exact ⟨_, rfl, rfl, _, rfl, iteT ⟨_, rfl, one_le, fun c hc => After.tell S k s1 hc rfl⟩⟩
    rw [if_neg h2] at k ⊢
    by_cases h3 : Kp239.holds (Kp239.worn b m) = false
    · rw [if_pos h3] at k ⊢
      exact ⟨_, rfl, rfl, _, rfl, iteT ⟨_, rfl, one_le, fun c hc => After.tell S k s1 hc rfl⟩⟩
    rw [if_neg h3] at k ⊢
    refine ⟨_, rfl, rfl, _, rfl, iteF ?_⟩
    refine ⟨_, rfl, p, dx, _, rfl, s1 _ _ hob, rfl, _, rfl, p, ld, lr, as, b, m, rfl, B.same s1, gd, fun H8 s8 => ?_⟩
    have s9 := s1.trans s8
    refine ⟨_, rfl, p, dx, _, rfl, s9 _ _ hob, rfl, _, rfl, p, ld, lr, as, b, m, rfl, B.same s9, gd, fun H10 B10 kp => ?_⟩
    refine ⟨_, rfl, one_le, fun c hc => ?_⟩
    refine After.done k ⟨ld, lr, as, ef, B10⟩ (fun c o e hc => ?_) (fun c hc => .inl hc) hc rfl
    rw [ef] at hc
    exact kp c o (s9 c o e) fun z => hc (by
      rcases List.mem_cons.mp z with z | z
      · simp [z]
      · simp [z])
end
end My


end
section
set_option Elab.async false
set_option linter.all false
set_option maxRecDepth 100000
set_option maxHeartbeats 2000000
namespace My
open PySem PySem.Spec PyProof.Rows L2
open Mm (ws wsA aft wp lastW holdsW Good)
section
variable {P : Program} {w : World} {K : PySem.W.Frag} {mg : Str → Option Value} {base : Heap} {t : Adr} {H H' H1 : Hp} {p ld lr : Addr} {as fp : List Addr} {g : Bool} {b : Kp239.Bench} {s : Kp239.State} {Q : VK}
theorem numsV_ints (l : List Nat) : numsV (Kp239.«ints» l) = nats l := by
  unfold numsV Kp239.«ints» nats
  rw [List.map_map]
  rfl
theorem ans_all (l : List Nat) : [V.int (((nats l).length : Nat) : Int)] ++ nats l = numsV (ansL (Kp239.tellAll l)) := by
  unfold Kp239.tellAll ansL
  show _ = V.int (l.length : Int) :: numsV (Kp239.«ints» l)
  rw [numsV_ints, nats_len]
  rfl
/-! ### may, out, longest -/
def sp_tell_may (t : Adr) : Sp := fun vs H Q _ => ∃ (p q : Addr) (fp : List Addr) (b : Kp239.Bench) (m : Nat), vs = [.ref p, .ref q] ∧ StAt t H p fp (some b) ∧ Good b ∧ H q = some (.lst (nats [m])) ∧ After t H p fp (Kp239.step (some b) (.may m)) Q
theorem ok_tell_may (T : Txt K mg t) : FnOk P w K mg base CX0 7 t.f_tell_may t.fd_tell_may ["bench", "given"] (sp_tell_may t) := by
  have G_run_refusal := ok_run_refusal (P := P) (w := w) (base := base) T
  refine T.F_tell_may.ok sc_tell_may (fun vs H Q E h => ?_) (fun cdv A outer s H vs Q E hr h => ?_)
  · obtain ⟨p, q, fp, b, m, rfl, _⟩ := h
    rfl
  · obtain ⟨p, q, fp, b, m, rfl, S, gd, hq, k⟩ := h
    obtain ⟨ld, lr, as, ef, B⟩ := id S
    obtain ⟨dx, hob⟩ := B.ob
    rw [Mm.step_may] at k
    unfold Kp239.mayRun at k
    refine ⟨_, (pss_cons (ps_set (i := 2) sc_tell_may.nd rfl (Or.inl rfl) (pe_call G_run_refusal (hr.mono (by decide)) rfl T.m_run_refusal T.F_run_refusal.kp T.b_run_refusal .nil pass0 (pa_cons (pv 0) (pa_cons (pe_ix ix_list (pv 1) pe_int (fun _ _ => rfl)) pa_nil)))) (pss_cons (ps_if (pt_cmpR op_eq (pv 2) (pe_glob (v := .int (-22)) rfl T.c_OUT_OF_BOUNDS ⟨_, rfl⟩) (nomark _)) (pss_one (ps_ret (pe_lst (pa_cons (pv 2) pa_nil)))) pss_nil) (pss_one (ps_ret (pe_lst (pa_cons (pe_ifExp (pt_cmpR op_isN (pv 2) pe_non (nomark _)) pe_int pe_int) pa_nil)))))), ?_⟩
    refine ⟨_, rfl, _, rfl, q, _, _, _, rfl, rfl, SqL.of hq, at0, p, ld, lr, as, b, m, rfl, B, gd, fun H1 s1 => ?_⟩
    unfold refV
    by_cases h1 : m = 0 ∨ Kp239.RUN < m
    · rw [if_pos h1] at k ⊢
      exact ⟨_, rfl, rfl, _, rfl, ifD (fun _ => ⟨_, rfl, one_le, fun c hc => After.tell S k s1 hc rfl⟩) fun z => absurd rfl z⟩
    rw [if_neg h1] at k ⊢
    by_cases h2 : Kp239.holds b = false
    · rw [if_pos h2]
      rw [h2] at k
      exact ⟨_, rfl, rfl, _, rfl, ifD (fun z => absurd z (by decide)) fun _ => ⟨_, rfl, rfl, _, rfl, iteF ⟨one_le, fun c hc => After.tell S k s1 hc rfl⟩⟩⟩
    rw [if_neg h2]
    have h2' : Kp239.holds b = true := by cases z : Kp239.holds b <;> simp_all
    rw [h2'] at k
    by_cases h3 : Kp239.holds (Kp239.worn b m) = false
    · rw [if_pos h3]
      rw [h3] at k
      exact ⟨_, rfl, rfl, _, rfl, ifD (fun z => absurd z (by decide)) fun _ => ⟨_, rfl, rfl, _, rfl, iteF ⟨one_le, fun c hc => After.tell S k s1 hc rfl⟩⟩⟩
    rw [if_neg h3]
    have h3' : Kp239.holds (Kp239.worn b m) = true := by cases z : Kp239.holds (Kp239.worn b m) <;> simp_all
    rw [h3'] at k
    exact ⟨_, rfl, rfl, _, rfl, ifD (fun z => absurd z (by decide)) fun _ => ⟨_, rfl, rfl, _, rfl, iteT ⟨one_le, fun c hc => After.tell S k s1 hc rfl⟩⟩⟩
def sp_tell_out (t : Adr) : Sp := fun vs H Q _ => ∃ (p q : Addr) (fp : List Addr) (b : Kp239.Bench) (m : Nat), vs = [.ref p, .ref q] ∧ StAt t H p fp (some b) ∧ Good b ∧ H q = some (.lst (nats [m])) ∧ After t H p fp (Kp239.step (some b) (.out m)) Q
theorem ok_tell_out (T : Txt K mg t) : FnOk P w K mg base CX0 6 t.f_tell_out t.fd_tell_out ["bench", "given"] (sp_tell_out t) := by
  have G_Bench_metres_out := ok_Bench_metres_out (P := P) (w := w) (base := base) T
  refine T.F_tell_out.ok sc_tell_out (fun vs H Q E h => ?_) (fun cdv A outer s H vs Q E hr h => ?_)
  · obtain ⟨p, q, fp, b, m, rfl, _⟩ := h
    rfl
  · obtain ⟨p, q, fp, b, m, rfl, S, gd, hq, k⟩ := h
    obtain ⟨ld, lr, as, ef, B⟩ := id S
    obtain ⟨dx, hob⟩ := B.ob
    rw [Mm.step_out] at k
    refine ⟨_, (pss_cons (ps_set (i := 2) sc_tell_out.nd rfl (Or.inl rfl) (pe_ix ix_list (pv 1) pe_int (fun _ _ => rfl))) (pss_cons (ps_if (pt_cmpR op_gt (pv 2) (pe_glob (v := .int (20000)) rfl T.c_GREATEST_RUN ⟨_, rfl⟩) (nomark _)) (pss_one (ps_ret (pe_lst (pa_cons (pe_glob (v := .int (-22)) rfl T.c_OUT_OF_BOUNDS ⟨_, rfl⟩) pa_nil)))) pss_nil) (pss_one (ps_ret (pe_lst (pa_cons (pe_meth (pv 0) T.cl_Bench T.me_Bench_metres_out G_Bench_metres_out (hr.mono (by decide)) T.b_Bench_metres_out .nil pass0 (pa_cons (pv 2) pa_nil)) pa_nil)))))), ?_⟩
    refine ⟨_, rfl, q, _, _, _, rfl, rfl, SqL.of hq, at0, ?_⟩
    refine ⟨_, rfl, _, _, rfl, rfl, _, rfl, ifD (fun e => ?_) fun e => ?_⟩
    · rw [if_pos (by unfold Kp239.RUN; omega)] at k
      exact ⟨one_le, fun c hc => After.tell S k (Same.refl H) hc rfl⟩
    · rw [if_neg (by unfold Kp239.RUN; omega)] at k
      exact ⟨_, rfl, p, dx, _, rfl, hob, rfl, _, rfl, p, ld, lr, as, b, m, rfl, B, gd, fun H1 s1 => ⟨one_le, fun c hc => After.tell S k s1 hc rfl⟩⟩
def sp_tell_longest (t : Adr) : Sp := fun vs H Q _ => ∃ (p q : Addr) (fp : List Addr) (b : Kp239.Bench), vs = [.ref p, .ref q] ∧ StAt t H p fp (some b) ∧ Good b ∧ After t H p fp (Kp239.step (some b) .longest) Q
theorem ok_tell_longest (T : Txt K mg t) : FnOk P w K mg base CX0 6 t.f_tell_longest t.fd_tell_longest ["bench", "given"] (sp_tell_longest t) := by
  have G_Bench_holds := ok_Bench_holds (P := P) (w := w) (base := base) T
  have G_Bench_widths := ok_Bench_widths (P := P) (w := w) (base := base) T
  have G_Bench_widths_after := ok_Bench_widths_after (P := P) (w := w) (base := base) T
  refine T.F_tell_longest.ok sc_tell_longest (fun vs H Q E h => ?_) (fun cdv A outer s H vs Q E hr h => ?_)
  · obtain ⟨p, q, fp, b, rfl, _⟩ := h
    rfl
  · obtain ⟨p, q, fp, b, rfl, S, gd, k⟩ := h
    obtain ⟨ld, lr, as, ef, B⟩ := id S
    obtain ⟨dx, hob⟩ := B.ob
    rw [Mm.step_longest] at k
    refine ⟨_, (pss_cons (ps_if (pt_not (pt_truth (pe_meth (pv 0) T.cl_Bench T.me_Bench_holds G_Bench_holds (hr.mono (by decide)) T.b_Bench_holds .nil pass0 (pa_cons (pe_meth0 (pv 0) T.cl_Bench T.me_Bench_widths G_Bench_widths (hr.mono (by decide)) T.b_Bench_widths .nil pass0) pa_nil)) (fun _ => rfl))) (pss_one (ps_ret (pe_lst (pa_cons (pe_glob (v := .int (-33)) rfl T.c_NOT_AS_IT_STANDS ⟨_, rfl⟩) pa_nil)))) pss_nil) (pss_cons (ps_for PassesOwn.never rfl (pi_range3 rfl T.n_range (pa_cons (pe_glob (v := .int (20000)) rfl T.c_GREATEST_RUN ⟨_, rfl⟩) (pa_cons pe_int (pa_cons (pe_un un_neg (pe_glob (v := .int (100)) rfl T.c_STEP_OF_RUNS ⟨_, rfl⟩)) pa_nil)))) (pg_name (i := 2) sc_tell_longest.nd rfl (Or.inl rfl)) (pss_one (ps_if (pt_truth (pe_meth (pv 0) T.cl_Bench T.me_Bench_holds G_Bench_holds (hr.mono (by decide)) T.b_Bench_holds .nil pass0 (pa_cons (pe_meth (pv 0) T.cl_Bench T.me_Bench_widths_after G_Bench_widths_after (hr.mono (by decide)) T.b_Bench_widths_after .nil pass0 (pa_cons (pv 2) pa_nil)) pa_nil)) (fun _ => rfl)) (pss_one (ps_ret (pe_lst (pa_cons (pv 2) pa_nil)))) pss_nil))) (pss_one (ps_ret (pe_lst (pa_cons pe_int pa_nil)))))), ?_⟩
    refine ⟨_, rfl, p, dx, _, rfl, hob, rfl, _, rfl, p, dx, _, rfl, hob, rfl, p, ld, lr, as, b, rfl, B, gd, fun H1 q1 s1 hq1 => ?_⟩
    refine ⟨p, ld, lr, as, b, q1, _, rfl, B.same s1, gd, hq1, fun H2 s2 => ⟨_, rfl, ?_⟩⟩
    have s3 := s1.trans s2
    refine ifN (fun e => ?_) fun e => ?_
    · rw [Mm.longest_no (by rw [Mm.holds_W]; exact e)] at k
      exact ⟨one_le, fun c hc => After.tell S k s3 hc rfl⟩
    have hb : Kp239.holds b = true := by rw [Mm.holds_W]; exact e
    refine ⟨_, rfl, 20000, 0, -100, 200, rfl, ⟨by decide, by decide, by decide, by decide⟩, for_rangeC (lo := 20000) (c := -100) (n := 200) (fun i σ H' => ∃ v : Option V, σ = [some (.ref p), some (.ref q), v] ∧ Same H H' ∧ ∀ j < i, Kp239.holds (Kp239.worn b (20000 - 100 * j)) = false) ⟨none, rfl, s3, fun j hj => by omega⟩ ?_ ?_⟩
    · rintro i σ H' hi ⟨v, rfl, s4, hj⟩
      have e1 : (20000 : Int) + ((i : Nat) : Int) * (-100) = ((20000 - 100 * i : Nat) : Int) := by omega
      rw [e1]
      refine ⟨_, rfl, p, dx, _, rfl, s4 _ _ hob, rfl, _, rfl, p, dx, _, rfl, s4 _ _ hob, rfl, _, rfl, p, ld, lr, as, b, _, rfl, B.same s4, gd, fun H5 q5 s5 hq5 => ?_⟩
      have s6 := s4.trans s5
      refine ⟨p, ld, lr, as, b, q5, _, rfl, B.same s6, gd, hq5, fun H7 s7 => ⟨_, rfl, ?_⟩⟩
      have s8 := s6.trans s7
      refine ifB (fun e2 => ?_) fun e2 => ?_
      · have e3 : 20000 - 100 * i = 100 * (200 - i) := by omega
        rw [← Mm.holds_worn gd, e3] at e2
        rw [Mm.longest_is hb e2 (by omega) fun j h1 h2 => by
          have := hj (200 - j) (by omega)
          rw [show 20000 - 100 * (200 - j) = 100 * j by omega] at this
          exact this] at k
        exact ⟨_, rfl, one_le, fun c hc => After.tell S k s8 hc (by rw [e3]; rfl)⟩
      · rw [← Mm.holds_worn gd] at e2
        refine ⟨_, rfl, s8, fun j h1 => ?_⟩
        by_cases h2 : j = i
        · rw [h2]; exact e2
        · exact hj j (by omega)
    · rintro σ H' ⟨v, rfl, s4, hj⟩
      rw [Mm.longest_is hb (k := 0) (by rw [Nat.mul_zero, Mm.worn_zero gd]; exact hb) (by omega) fun j h1 h2 => by
        have := hj (200 - j) (by omega)
        rw [show 20000 - 100 * (200 - j) = 100 * j by omega] at this
        exact this] at k
      exact ⟨one_le, fun c hc => After.tell S k s4 hc rfl⟩
/-! ### takes, least, size, left, row, sums -/
def sp_tell_takes (t : Adr) : Sp := fun vs H Q _ => ∃ (p q : Addr) (fp : List Addr) (b : Kp239.Bench) (j : Nat), vs = [.ref p, .ref q] ∧ StAt t H p fp (some b) ∧ Good b ∧ H q = some (.lst (nats [j])) ∧ After t H p fp (Kp239.step (some b) (.takes j)) Q
theorem before_le (gd : Good b) {j : Nat} (hj : j < b.row.length) : Kp239.before b j ≤ 10000 := by
  unfold Kp239.before
  split
  · exact gd.r2
  · have h : j - 1 < b.row.length := by omega
    rw [List.getD_eq_getElem?_getD, List.getElem?_eq_getElem h]
    exact gd.shi (gd.row _ (List.getElem_mem h))
theorem ok_tell_takes (T : Txt K mg t) : FnOk P w K mg base CX0 6 t.f_tell_takes t.fd_tell_takes ["bench", "given"] (sp_tell_takes t) := by
  have G_Bench_wide_ahead := ok_Bench_wide_ahead (P := P) (w := w) (base := base) T
  have G_Bench_widths := ok_Bench_widths (P := P) (w := w) (base := base) T
  have G_part_taken := ok_part_taken (P := P) (w := w) (base := base) T
  refine T.F_tell_takes.ok sc_tell_takes (fun vs H Q E h => ?_) (fun cdv A outer s H vs Q E hr h => ?_)
  · obtain ⟨p, q, fp, b, j, rfl, _⟩ := h
    rfl
  · obtain ⟨p, q, fp, b, j, rfl, S, gd, hq, k⟩ := h
    obtain ⟨ld, lr, as, ef, B⟩ := id S
    obtain ⟨dx, hob⟩ := B.ob
    rw [Mm.step_takes, Mm.takes_eq] at k
    refine ⟨_, (pss_cons (ps_set (i := 2) sc_tell_takes.nd rfl (Or.inl rfl) (pe_ix ix_list (pv 1) pe_int (fun _ _ => rfl))) (pss_cons (ps_if (pt_cmpR op_ge (pv 2) (pe_callB call_len_seq (by rfl) T.n_len boot_len (pa_cons (pe_fld (pv 0) rfl) pa_nil)) (nomark _)) (pss_one (ps_ret (pe_lst (pa_cons (pe_glob (v := .int (-2)) rfl T.c_NO_SUCH_DIE ⟨_, rfl⟩) pa_nil)))) pss_nil) (pss_cons (ps_set (i := 3) sc_tell_takes.nd rfl (Or.inl rfl) (pe_meth (pv 0) T.cl_Bench T.me_Bench_wide_ahead G_Bench_wide_ahead (hr.mono (by decide)) T.b_Bench_wide_ahead .nil pass0 (pa_cons (pv 2) pa_nil))) (pss_cons (ps_set (i := 4) sc_tell_takes.nd rfl (Or.inl rfl) (pe_ix ix_list (pe_meth0 (pv 0) T.cl_Bench T.me_Bench_widths G_Bench_widths (hr.mono (by decide)) T.b_Bench_widths .nil pass0) (pv 2) (fun _ _ => rfl))) (pss_cons (ps_if (pt_cmpR op_le (pv 3) (pv 4) (nomark _)) (pss_one (ps_ret (pe_lst (pa_cons (pe_glob (v := .int (-33)) rfl T.c_NOT_AS_IT_STANDS ⟨_, rfl⟩) pa_nil)))) pss_nil) (pss_one (ps_ret (pe_op op_cat (pe_lst (pa_cons pe_int pa_nil)) (pe_call G_part_taken (hr.mono (by decide)) rfl T.m_part_taken T.F_part_taken.kp T.b_part_taken .nil pass0 (pa_cons (pv 3) (pa_cons (pv 4) pa_nil))))))))))), ?_⟩
    refine ⟨_, rfl, q, _, _, _, rfl, rfl, SqL.of hq, at0, ?_⟩
    refine ⟨_, rfl, _, rfl, p, _, dx, _, _, rfl, hob, T.cl_Bench, T.n_Bench_row, rfl, lr, _, rfl, .inl (SqL.of B.rl), _, _, rfl, rfl, _, rfl, ?_⟩
    rw [nats_len]
    refine ifD (fun e => ?_) fun e => ?_
    · rw [if_pos (by omega)] at k
      exact ⟨one_le, fun c hc => After.tell S k (Same.refl H) hc rfl⟩
    have hj : j < b.row.length := by omega
    rw [if_neg (by omega)] at k
    refine ⟨_, rfl, p, dx, _, rfl, hob, rfl, _, rfl, p, ld, lr, as, b, j, rfl, B, gd, hj, fun H1 s1 => ?_⟩
    refine ⟨_, rfl, p, dx, _, rfl, s1 _ _ hob, rfl, p, ld, lr, as, b, rfl, B.same s1, gd, fun H2 q2 s2 hq2 => ?_⟩
    have s3 := s1.trans s2
    have hw : (ws b)[j]? = some (Kp239.size b (b.row.getD j 0)) := by
      have hl : j < (ws b).length := by unfold Mm.ws; rw [List.length_map]; exact hj
      rw [Mm.ws_get hj, List.getD_eq_getElem?_getD, List.getElem?_eq_getElem hl]
      rfl
    refine ⟨_, rfl, q2, _, _, _, rfl, rfl, SqL.of hq2, atI_nat (get_nats hw), ?_⟩
    have hbl := before_le gd hj
    generalize Kp239.before b j = x at *
    generalize Kp239.size b (b.row.getD j 0) = y at *
    refine ⟨_, rfl, _, rfl, _, _, rfl, rfl, _, rfl, ifD (fun e2 => ?_) fun e2 => ?_⟩
    · rw [if_neg (by omega)] at k
      exact ⟨one_le, fun c hc => After.tell S k s3 hc rfl⟩
    have e3 : y < x := by omega
    rw [if_pos e3, Mm.frac_pos (Nat.mul_pos (by omega) (by omega))] at k
    refine ⟨one_le, fun z hz => ?_⟩
    have s4 := s3.trans (same_new (o := .lst [.int 0]) hz)
    refine ⟨_, rfl, _, rfl, x, y, rfl, hbl, e3, fun H5 q5 s5 hn5 hq5 => ?_⟩
    refine ⟨z, q5, _, _, rfl, rfl, s5 _ _ upd_same, hq5, (by show 1 + 2 ≤ sizeLine; decide), fun c hc => ?_⟩
    refine After.tell S k (s4.trans s5) hc ?_
    rfl
def sp_tell_least (t : Adr) : Sp := fun vs H Q _ => ∃ (p q : Addr) (fp : List Addr) (b : Kp239.Bench) (a : Nat), vs = [.ref p, .ref q] ∧ StAt t H p fp (some b) ∧ Good b ∧ H q = some (.lst (nats [a])) ∧ After t H p fp (Kp239.step (some b) (.least a)) Q
theorem ok_tell_least (T : Txt K mg t) : FnOk P w K mg base CX0 3 t.f_tell_least t.fd_tell_least ["bench", "given"] (sp_tell_least t) := by
  have G_is_width := ok_is_width (P := P) (w := w) (base := base) T
  have G_least_width := ok_least_width (P := P) (w := w) (base := base) T
  refine T.F_tell_least.ok sc_tell_least (fun vs H Q E h => ?_) (fun cdv A outer s H vs Q E hr h => ?_)
  · obtain ⟨p, q, fp, b, a, rfl, _⟩ := h
    rfl
  · obtain ⟨p, q, fp, b, a, rfl, S, gd, hq, k⟩ := h
    obtain ⟨ld, lr, as, ef, B⟩ := id S
    obtain ⟨dx, hob⟩ := B.ob
    rw [Mm.step_least] at k
    refine ⟨_, (pss_cons (ps_set (i := 2) sc_tell_least.nd rfl (Or.inl rfl) (pe_ix ix_list (pv 1) pe_int (fun _ _ => rfl))) (pss_cons (ps_if (pt_not (pt_truth (pe_call G_is_width (hr.mono (by decide)) rfl T.m_is_width T.F_is_width.kp T.b_is_width .nil pass0 (pa_cons (pv 2) pa_nil)) (fun _ => rfl))) (pss_one (ps_ret (pe_lst (pa_cons (pe_glob (v := .int (-22)) rfl T.c_OUT_OF_BOUNDS ⟨_, rfl⟩) pa_nil)))) pss_nil) (pss_one (ps_ret (pe_lst (pa_cons (pe_call G_least_width (hr.mono (by decide)) rfl T.m_least_width T.F_least_width.kp T.b_least_width .nil pass0 (pa_cons (pv 2) (pa_cons (pe_fld (pv 0) rfl) pa_nil))) pa_nil)))))), ?_⟩
    refine ⟨_, rfl, q, _, _, _, rfl, rfl, SqL.of hq, at0, ?_⟩
    refine ⟨_, rfl, a, rfl, _, rfl, ifN (fun e => ?_) fun e => ?_⟩
    · rw [if_pos e] at k
      exact ⟨one_le, fun c hc => After.tell S k (Same.refl H) hc rfl⟩
    rw [if_neg (by rw [e]; exact Bool.noConfusion)] at k
    have h2 := (Mm.okSize_iff.mp e).2
    have m2 := gd.m2
    exact ⟨_, rfl, _, rfl, p, _, dx, _, _, rfl, hob, T.cl_Bench, T.n_Bench_most, rfl, b, a, rfl, h2, by omega, one_le, fun c hc => After.tell S k (Same.refl H) hc rfl⟩
def sp_tell_size (t : Adr) : Sp := fun vs H Q _ => ∃ (p q : Addr) (fp : List Addr) (b : Kp239.Bench) (d : Nat), vs = [.ref p, .ref q] ∧ StAt t H p fp (some b) ∧ Good b ∧ H q = some (.lst (nats [d])) ∧ After t H p fp (Kp239.step (some b) (.size d)) Q
theorem ok_tell_size (T : Txt K mg t) : FnOk P w K mg base CX0 3 t.f_tell_size t.fd_tell_size ["bench", "given"] (sp_tell_size t) := by
  have G_Bench_has_die := ok_Bench_has_die (P := P) (w := w) (base := base) T
  have G_Die_wide := ok_Die_wide (P := P) (w := w) (base := base) T
  refine T.F_tell_size.ok sc_tell_size (fun vs H Q E h => ?_) (fun cdv A outer s H vs Q E hr h => ?_)
  · obtain ⟨p, q, fp, b, d, rfl, _⟩ := h
    rfl
  · obtain ⟨p, q, fp, b, d, rfl, S, gd, hq, k⟩ := h
    obtain ⟨ld, lr, as, ef, B⟩ := id S
    obtain ⟨dx, hob⟩ := B.ob
    rw [Mm.step_size] at k
    refine ⟨_, (pss_cons (ps_set (i := 2) sc_tell_size.nd rfl (Or.inl rfl) (pe_ix ix_list (pv 1) pe_int (fun _ _ => rfl))) (pss_cons (ps_if (pt_not (pt_truth (pe_meth (pv 0) T.cl_Bench T.me_Bench_has_die G_Bench_has_die (hr.mono (by decide)) T.b_Bench_has_die .nil pass0 (pa_cons (pv 2) pa_nil)) (fun _ => rfl))) (pss_one (ps_ret (pe_lst (pa_cons (pe_glob (v := .int (-2)) rfl T.c_NO_SUCH_DIE ⟨_, rfl⟩) pa_nil)))) pss_nil) (pss_cons (ps_set (i := 3) sc_tell_size.nd rfl (Or.inl rfl) (pe_ix ix_list (pe_fld (pv 0) rfl) (pv 2) (fun _ _ => rfl))) (pss_one (ps_ret (pe_lst (pa_cons (pe_meth0 (pv 3) T.cl_Die T.me_Die_wide G_Die_wide (hr.mono (by decide)) T.b_Die_wide .nil pass0) (pa_cons (pe_fld (pv 3) rfl) (pa_cons (pe_fld (pv 3) rfl) (pa_cons (pe_fld (pv 3) rfl) pa_nil)))))))))), ?_⟩
    refine ⟨_, rfl, q, _, _, _, rfl, rfl, SqL.of hq, at0, ?_⟩
    refine ⟨_, rfl, p, dx, _, rfl, hob, rfl, _, rfl, p, ld, lr, as, b, d, rfl, B, _, rfl, ifN (fun e1 => ?_) fun e1 => ?_⟩
    · rw [if_pos e1] at k
      exact ⟨one_le, fun c hc => After.tell S k (Same.refl H) hc rfl⟩
    have hd : d < b.dies.length := of_decide_eq_true e1
    rw [if_neg (isDie_t hd)] at k
    obtain ⟨a, da, ha, hA⟩ := B.die hd
    have gn := gd.die hd
    have l1 := gn.l1
    have l2 := gn.l2
    refine ⟨_, rfl, p, _, dx, _, _, rfl, hob, T.cl_Bench, T.n_Bench_dies, rfl, _, rfl, ld, _, _, _, rfl, rfl, SqL.of B.dl, at_ref ha, ?_⟩
    exact ⟨_, rfl, a, da, _, rfl, hA, rfl, a, da, _, rfl, hA, by omega, by omega, _, rfl, a, _, da, _, _, rfl, hA, T.cl_Die, T.n_Die_ground, rfl, _, rfl, a, _, da, _, _, rfl, hA, T.cl_Die, T.n_Die_life, rfl, _, rfl, a, _, da, _, _, rfl, hA, T.cl_Die, T.n_Die_drawn, rfl,
      (by show 4 ≤ sizeLine; decide), fun c hc => After.tell S k (Same.refl H) hc rfl⟩
def sp_tell_left (t : Adr) : Sp := fun vs H Q _ => ∃ (p q : Addr) (fp : List Addr) (b : Kp239.Bench) (d : Nat), vs = [.ref p, .ref q] ∧ StAt t H p fp (some b) ∧ Good b ∧ H q = some (.lst (nats [d])) ∧ After t H p fp (Kp239.step (some b) (.left d)) Q
theorem ok_tell_left (T : Txt K mg t) : FnOk P w K mg base CX0 3 t.f_tell_left t.fd_tell_left ["bench", "given"] (sp_tell_left t) := by
  have G_Bench_has_die := ok_Bench_has_die (P := P) (w := w) (base := base) T
  have G_Die_metres_left := ok_Die_metres_left (P := P) (w := w) (base := base) T
  refine T.F_tell_left.ok sc_tell_left (fun vs H Q E h => ?_) (fun cdv A outer s H vs Q E hr h => ?_)
  · obtain ⟨p, q, fp, b, d, rfl, _⟩ := h
    rfl
  · obtain ⟨p, q, fp, b, d, rfl, S, gd, hq, k⟩ := h
    obtain ⟨ld, lr, as, ef, B⟩ := id S
    obtain ⟨dx, hob⟩ := B.ob
    rw [Mm.step_left] at k
    refine ⟨_, (pss_cons (ps_set (i := 2) sc_tell_left.nd rfl (Or.inl rfl) (pe_ix ix_list (pv 1) pe_int (fun _ _ => rfl))) (pss_cons (ps_if (pt_not (pt_truth (pe_meth (pv 0) T.cl_Bench T.me_Bench_has_die G_Bench_has_die (hr.mono (by decide)) T.b_Bench_has_die .nil pass0 (pa_cons (pv 2) pa_nil)) (fun _ => rfl))) (pss_one (ps_ret (pe_lst (pa_cons (pe_glob (v := .int (-2)) rfl T.c_NO_SUCH_DIE ⟨_, rfl⟩) pa_nil)))) pss_nil) (pss_one (ps_ret (pe_lst (pa_cons (pe_meth0 (pe_ix ix_list (pe_fld (pv 0) rfl) (pv 2) (fun _ _ => rfl)) T.cl_Die T.me_Die_metres_left G_Die_metres_left (hr.mono (by decide)) T.b_Die_metres_left .nil pass0) pa_nil)))))), ?_⟩
    refine ⟨_, rfl, q, _, _, _, rfl, rfl, SqL.of hq, at0, ?_⟩
    refine ⟨_, rfl, p, dx, _, rfl, hob, rfl, _, rfl, p, ld, lr, as, b, d, rfl, B, _, rfl, ifN (fun e1 => ?_) fun e1 => ?_⟩
    · rw [if_pos e1] at k
      exact ⟨one_le, fun c hc => After.tell S k (Same.refl H) hc rfl⟩
    have hd : d < b.dies.length := of_decide_eq_true e1
    rw [if_neg (isDie_t hd)] at k
    obtain ⟨a, da, ha, hA⟩ := B.die hd
    have l1 := (gd.die hd).l1
    exact ⟨_, rfl, p, _, dx, _, _, rfl, hob, T.cl_Bench, T.n_Bench_dies, rfl, _, rfl, ld, _, _, _, rfl, rfl, SqL.of B.dl, at_ref ha, a, da, _, rfl, hA, rfl, a, da, _, rfl, hA, by omega, one_le, fun c hc => After.tell S k (Same.refl H) hc rfl⟩
def sp_tell_row (t : Adr) : Sp := fun vs H Q _ => ∃ (p q : Addr) (fp : List Addr) (b : Kp239.Bench), vs = [.ref p, .ref q] ∧ StAt t H p fp (some b) ∧ Good b ∧ After t H p fp (Kp239.step (some b) .row) Q
theorem ok_tell_row (T : Txt K mg t) : FnOk P w K mg base CX0 1 t.f_tell_row t.fd_tell_row ["bench", "given"] (sp_tell_row t) := by
  refine T.F_tell_row.ok sc_tell_row (fun vs H Q E h => ?_) (fun cdv A outer s H vs Q E hr h => ?_)
  · obtain ⟨p, q, fp, b, rfl, _⟩ := h
    rfl
  · obtain ⟨p, q, fp, b, rfl, S, gd, k⟩ := h
    obtain ⟨ld, lr, as, ef, B⟩ := id S
    obtain ⟨dx, hob⟩ := B.ob
    rw [Mm.step_row] at k
    refine ⟨_, (pss_one (ps_ret (pe_op op_cat (pe_lst (pa_cons (pe_callB call_len_seq (by rfl) T.n_len boot_len (pa_cons (pe_fld (pv 0) rfl) pa_nil)) pa_nil)) (pe_fld (pv 0) rfl)))), ?_⟩
    refine ⟨_, rfl, p, _, dx, _, _, rfl, hob, T.cl_Bench, T.n_Bench_row, rfl, lr, _, rfl, .inl (SqL.of B.rl), one_le, fun z hz => ?_⟩
    have s1 : Same H (upd H z (.lst [V.int (((nats b.row).length : Nat) : Int)])) := same_new hz
    refine ⟨_, rfl, p, _, dx, _, _, rfl, s1 _ _ hob, T.cl_Bench, T.n_Bench_row, rfl, z, lr, _, _, rfl, rfl, upd_same, s1 _ _ B.rl, ?_, fun c hc => After.tell S k s1 hc (ans_all b.row)⟩
    rw [nats_len]
    have := row_le gd
    show 1 + b.row.length ≤ 16777216
    omega
def sp_tell_sums (t : Adr) : Sp := fun vs H Q _ => ∃ (p q : Addr) (fp : List Addr) (b : Kp239.Bench), vs = [.ref p, .ref q] ∧ StAt t H p fp (some b) ∧ Good b ∧ After t H p fp (Kp239.step (some b) .sums) Q
theorem ok_tell_sums (T : Txt K mg t) : FnOk P w K mg base CX0 5 t.f_tell_sums t.fd_tell_sums ["bench", "given"] (sp_tell_sums t) := by
  have G_Bench_wide_out := ok_Bench_wide_out (P := P) (w := w) (base := base) T
  have G_Bench_widths := ok_Bench_widths (P := P) (w := w) (base := base) T
  refine T.F_tell_sums.ok sc_tell_sums (fun vs H Q E h => ?_) (fun cdv A outer s H vs Q E hr h => ?_)
  · obtain ⟨p, q, fp, b, rfl, _⟩ := h
    rfl
  · obtain ⟨p, q, fp, b, rfl, S, gd, k⟩ := h
    obtain ⟨ld, lr, as, ef, B⟩ := id S
    obtain ⟨dx, hob⟩ := B.ob
    rw [Mm.step_sums, Mm.lastSize_W] at k
    refine ⟨_, (pss_cons (ps_set (i := 2) sc_tell_sums.nd rfl (Or.inl rfl) (pe_meth (pv 0) T.cl_Bench T.me_Bench_wide_out G_Bench_wide_out (hr.mono (by decide)) T.b_Bench_wide_out .nil pass0 (pa_cons (pe_meth0 (pv 0) T.cl_Bench T.me_Bench_widths G_Bench_widths (hr.mono (by decide)) T.b_Bench_widths .nil pass0) pa_nil))) (pss_one (ps_ret (pe_lst (pa_cons (pe_fld (pv 0) rfl) (pa_cons (pe_fld (pv 0) rfl) (pa_cons (pe_fld (pv 0) rfl) (pa_cons (pe_fld (pv 0) rfl) (pa_cons (pe_callB call_len_seq (by rfl) T.n_len boot_len (pa_cons (pe_fld (pv 0) rfl) pa_nil)) (pa_cons (pe_fld (pv 0) rfl) (pa_cons (pv 2) pa_nil))))))))))), ?_⟩
    refine ⟨_, rfl, p, dx, _, rfl, hob, rfl, _, rfl, p, dx, _, rfl, hob, rfl, p, ld, lr, as, b, rfl, B, gd, fun H1 q1 s1 hq1 => ?_⟩
    have B1 := B.same s1
    have hob1 := s1 _ _ hob
    refine ⟨p, ld, lr, as, b, q1, _, rfl, B1, hq1, ?_⟩
    refine ⟨_, rfl, p, _, dx, _, _, rfl, hob1, T.cl_Bench, T.n_Bench_rod, rfl, _, rfl, p, _, dx, _, _, rfl, hob1, T.cl_Bench, T.n_Bench_most, rfl, _, rfl, p, _, dx, _, _, rfl, hob1, T.cl_Bench, T.n_Bench_want, rfl, _, rfl, p, _, dx, _, _, rfl, hob1, T.cl_Bench, T.n_Bench_off, rfl,
      _, rfl, p, _, dx, _, _, rfl, hob1, T.cl_Bench, T.n_Bench_dies, rfl, ld, _, rfl, .inl (SqL.of B1.dl), _, rfl, p, _, dx, _, _, rfl, hob1, T.cl_Bench, T.n_Bench_metres_drawn, rfl, _, rfl, (by show 7 ≤ sizeLine; decide), fun c hc => ?_⟩
    refine After.tell S k s1 hc ?_
    rw [lenV, B.len]
    rfl
end
end My


end
section
set_option Elab.async false
set_option linter.all false
set_option maxRecDepth 100000
set_option maxHeartbeats 2000000
namespace My
open PySem PySem.Spec PyProof.Rows L2
open Mm (ws wsA aft wp lastW holdsW Good)
/-- a list of rows -/
structure RowsAt (H : Hp) (q : Addr) (ps : List Addr) (rs : List (List Nat)) : Prop where
  lst : H q = some (.lst (ps.map V.ref))
  len : ps.length = rs.length
  at_ : ∀ (i : Nat) (p : Addr) (r : List Nat), ps[i]? = some p → rs[i]? = some r → H p = some (.lst (nats r))
section
variable {P : Program} {w : World} {K : PySem.W.Frag} {mg : Str → Option Value} {base : Heap} {t : Adr} {H H' H1 : Hp} {p ld lr : Addr} {as fp : List Addr} {g : Bool} {b : Kp239.Bench} {s : Kp239.State} {Q : VK} {ps : List Addr} {rs : List (List Nat)} {q : Addr}
theorem RowsAt.same (R : RowsAt H q ps rs) (s : Same H H') : RowsAt H' q ps rs := ⟨s _ _ R.lst, R.len, fun i p r e1 e2 => s _ _ (R.at_ i p r e1 e2)⟩
theorem RowsAt.nq (R : RowsAt H q ps rs) {i : Nat} {x : Addr} (h : ps[i]? = some x) : x ≠ q := by
  intro e
  subst e
  have hl : i < rs.length := by rw [← R.len]; exact (List.getElem?_eq_some_iff.mp h).1
  have h1 := R.at_ i x _ h (List.getElem?_eq_getElem hl)
  rw [R.lst] at h1
  injection h1 with h1
  injection h1 with h1
  have h2 : (ps.map V.ref)[i]? = some (V.ref x) := by rw [List.getElem?_map, h]; rfl
  rw [h1] at h2
  obtain ⟨n, _, e⟩ := nats_get h2
  cases e
theorem RowsAt.snoc (R : RowsAt H q ps rs) (s : Same H H1) {z : Addr} {r : List Nat} (hz : H z = none) (h1 : H1 z = some (.lst (nats r))) : RowsAt (upd H1 q (.lst (ps.map V.ref ++ [V.ref z]))) q (ps ++ [z]) (rs ++ [r]) := by
  refine ⟨by rw [upd_same, List.map_append]; rfl, by rw [List.length_append, List.length_append, R.len]; rfl, fun i p x e1 e2 => ?_⟩
  by_cases hi : i < ps.length
  · rw [List.getElem?_append_left hi] at e1
    rw [List.getElem?_append_left (by rw [← R.len]; exact hi)] at e2
    rw [upd_ne (R.nq e1)]
    exact s _ _ (R.at_ i p x e1 e2)
  · have hi2 : i = ps.length := by
      have h3 := (List.getElem?_eq_some_iff.mp e1).1
      rw [List.length_append, List.length_singleton] at h3
      omega
    subst hi2
    rw [List.getElem?_append_right (Nat.le_refl _), Nat.sub_self] at e1
    rw [R.len, List.getElem?_append_right (Nat.le_refl _), Nat.sub_self] at e2
    have ea : z = p := Option.some.inj e1
    have ey : r = x := Option.some.inj e2
    subst ea ey
    rw [upd_ne (ne_of_none R.lst hz).symm]
    exact h1
/-! ### rows_one_longer -/
def sp_Bench_rows_one_longer (t : Adr) : Sp := fun vs H Q _ => ∃ (p ld lr : Addr) (as : List Addr) (b : Kp239.Bench) (q : Addr) (ps : List Addr) (rs : List (List Nat)), vs = [.ref p, .ref q] ∧ BenchAt t H p ld lr as true b ∧ Good b ∧ RowsAt H q ps rs ∧
  (∀ r ∈ rs, (∀ d ∈ r, d < b.dies.length) ∧ r.length ≤ 8) ∧ (Mm.ext b rs).length ≤ 16777216 ∧
  ∀ (H' : Hp) (q' : Addr) (ps' : List Addr), Same H H' → RowsAt H' q' ps' (Mm.ext b rs) → (∀ x ∈ ps', H x = none) → Q (.ref q') H'
theorem last_le (gd : Good b) {l : List Nat} (h : ∀ d ∈ l, d < b.dies.length) : lastW b.rod (Mm.sizes b l) ≤ 10000 := by
  rcases List.eq_nil_or_concat l with e | ⟨l', x, e⟩
  · rw [e]
    exact gd.r2
  · rw [List.concat_eq_append] at e
    subst e
    unfold Mm.sizes
    rw [List.map_append, List.map_singleton, Mm.lastW_snoc]
    exact gd.shi (h x (by simp))
theorem ok_Bench_rows_one_longer (T : Txt K mg t) : FnOk P w K mg base CX0 4 t.f_Bench_rows_one_longer t.fd_Bench_rows_one_longer ["self", "rows"] (sp_Bench_rows_one_longer t) := by
  have G_Bench_wide_out := ok_Bench_wide_out (P := P) (w := w) (base := base) T
  have G_Bench_widths_of := ok_Bench_widths_of (P := P) (w := w) (base := base) T
  have G_goes := ok_goes (P := P) (w := w) (base := base) T
  have G_Die_wide := ok_Die_wide (P := P) (w := w) (base := base) T
  refine T.F_Bench_rows_one_longer.ok sc_Bench_rows_one_longer (fun vs H Q E h => ?_) (fun cdv A outer s H vs Q E hr h => ?_)
  · obtain ⟨p, ld, lr, as, b, q, ps, rs, rfl, _⟩ := h
    rfl
  · obtain ⟨p, ld, lr, as, b, q, ps, rs, rfl, B, gd, R, hrs, hsz, k⟩ := h
    obtain ⟨dx, hob⟩ := B.ob
    refine ⟨_, (pss_cons (ps_set (i := 2) sc_Bench_rows_one_longer.nd rfl (Or.inl rfl) (pe_lst pa_nil)) (pss_cons (ps_for PassesOwn.never rfl (pi_list (pv 1)) (pg_name (i := 3) sc_Bench_rows_one_longer.nd rfl (Or.inl rfl)) (pss_cons (ps_set (i := 4) sc_Bench_rows_one_longer.nd rfl (Or.inl rfl) (pe_meth (pv 0) T.cl_Bench T.me_Bench_wide_out G_Bench_wide_out (hr.mono (by decide)) T.b_Bench_wide_out .nil pass0 (pa_cons (pe_meth (pv 0) T.cl_Bench T.me_Bench_widths_of G_Bench_widths_of (hr.mono (by decide)) T.b_Bench_widths_of .nil pass0 (pa_cons (pv 3) pa_nil)) pa_nil))) (pss_one (ps_for PassesOwn.never rfl (pi_enum rfl T.n_enumerate (pa_cons (pe_fld (pv 0) rfl) pa_nil)) (pg_tup rfl (pgs_cons (pg_name (i := 5) sc_Bench_rows_one_longer.nd rfl (Or.inl rfl)) (pgs_cons (pg_name (i := 6) sc_Bench_rows_one_longer.nd rfl (Or.inl rfl)) pgs_nil))) (pss_one (ps_if (pt_truth (pe_call G_goes (hr.mono (by decide)) rfl T.m_goes T.F_goes.kp T.b_goes .nil pass0 (pa_cons (pv 4) (pa_cons (pe_meth0 (pv 6) T.cl_Die T.me_Die_wide G_Die_wide (hr.mono (by decide)) T.b_Die_wide .nil pass0) (pa_cons (pe_fld (pv 0) rfl) pa_nil)))) (fun _ => rfl)) (pss_one (ps_expr (pe_bm PySem.F.plainAttrs_list PySem.F.slot_list_append PySem.F.type_list_append mt_append (pv 2) (pa_cons (pe_op op_cat (pv 3) (pe_lst (pa_cons (pv 5) pa_nil))) pa_nil)))) pss_nil)))))) (pss_one (ps_ret (pv 2))))), ?_⟩
    refine ⟨Nat.zero_le _, fun q2 hq2 => ?_⟩
    have s0 : Same H (upd H q2 (.lst [])) := same_new hq2
    refine ⟨_, rfl, q, rfl, ⟨_, SqL.of (s0 _ _ R.lst)⟩, for_list (K := K) (a := q) (xs := ps.map V.ref) (fun i σ H' => ∃ (v3 v4 v5 v6 : Option V) (ps' : List Addr), σ = [some (.ref p), some (.ref q), some (.ref q2), v3, v4, v5, v6] ∧ Same H H' ∧ RowsAt H' q2 ps' (Mm.ext b (rs.take i)) ∧ ∀ x ∈ ps', H x = none)
      ⟨none, none, none, none, [], rfl, s0, ⟨upd_same, rfl, fun i x r e => by simp at e⟩, fun x hx => by cases hx⟩ (fun i σ H' _ ⟨_, _, _, _, _, _, s, _⟩ => SqL.of (s _ _ R.lst)) ?_ ?_⟩
    · rintro i y σ H' hi ⟨v3, v4, v5, v6, ps1, rfl, s1, R1, f1⟩
      obtain ⟨pr, hpr, rfl⟩ : ∃ pr, ps[i]? = some pr ∧ y = V.ref pr := by
        rw [List.getElem?_map] at hi
        cases e : ps[i]? with
        | none => rw [e] at hi; cases hi
        | some x => rw [e] at hi; exact ⟨x, rfl, (Option.some.inj hi).symm⟩
      have hil : i < rs.length := by rw [← R.len]; exact (List.getElem?_eq_some_iff.mp hpr).1
      obtain ⟨r, hr⟩ : ∃ r, rs[i]? = some r := ⟨_, List.getElem?_eq_getElem hil⟩
      obtain ⟨hrl, hr8⟩ := hrs r (List.mem_of_getElem? hr)
      have hR := R.at_ i pr r hpr hr
      have hle := last_le gd hrl
      refine ⟨_, rfl, p, dx, _, rfl, s1 _ _ hob, rfl, _, rfl, p, dx, _, rfl, s1 _ _ hob, rfl, _, rfl, p, ld, lr, as, b, pr, r, rfl, B.same s1, gd, s1 _ _ hR, hrl, by omega, fun H2 qw s2 hqw => ?_⟩
      have s3 := s1.trans s2
      refine ⟨p, ld, lr, as, b, qw, _, rfl, B.same s3, hqw, ?_⟩
      have R2 := R1.same s2
      refine ⟨_, rfl, p, _, dx, _, _, rfl, s3 _ _ hob, T.cl_Bench, T.n_Bench_dies, rfl, ld, _, rfl, SqL.of (B.same s3).dl, for_enum (K := K) (a := ld) (xs := as.map V.ref) (fun j σ H' => ∃ (v5 v6 : Option V) (ps' : List Addr), σ = [some (.ref p), some (.ref q), some (.ref q2), some (.ref pr), some (.int (lastW b.rod (Mm.sizes b r) : Nat)), v5, v6] ∧ Same H H' ∧ RowsAt H' q2 ps' (Mm.ext b (rs.take i) ++ Mm.growTo b r j) ∧ ∀ x ∈ ps', H x = none)
        ⟨_, _, ps1, rfl, s3, by rw [Mm.growTo_zero, List.append_nil]; exact R2, f1⟩ (fun j σ H' _ ⟨_, _, _, _, s, _⟩ => SqL.of (B.same s).dl) ?_ ?_⟩
      · rintro j y σ H4 U hj ⟨v5, v6, ps4, rfl, s4, R4, f4⟩ hU
        obtain ⟨a, ha, rfl⟩ : ∃ a, as[j]? = some a ∧ y = V.ref a := by
          rw [List.getElem?_map] at hj
          cases e : as[j]? with
          | none => rw [e] at hj; cases hj
          | some x => rw [e] at hj; exact ⟨x, rfl, (Option.some.inj hj).symm⟩
        have hjl : j < b.dies.length := by rw [← B.len]; exact (List.getElem?_eq_some_iff.mp ha).1
        have s5 : Same H (upd H4 U (.tup [.int (j : Nat), .ref a])) := s4.trans (same_new hU)
        have R5 := R4.same (same_new (o := .tup [.int (j : Nat), .ref a]) hU)
        have B5 := B.same s5
        obtain ⟨a', da, ha', hA⟩ := B5.die hjl
        rw [ha] at ha'
        cases ha'
        have gn := gd.die hjl
        have l1 := gn.l1
        have l2 := gn.l2
        have m2 := gd.m2
        have hob5 := s5 _ _ hob
        have hUt : (upd H4 U (.tup [.int (j : Nat), .ref a])) U = some (.tup [.int (j : Nat), .ref a]) := upd_same
        generalize upd H4 U (.tup [.int (j : Nat), .ref a]) = H5 at *
        refine ⟨U, _, rfl, SqT.of hUt, rfl, _, _, rfl, _, _, rfl, rfl, ?_⟩
        refine ⟨_, rfl, _, rfl, a, da, _, rfl, hA, rfl, a, da, _, rfl, hA, by omega, by omega, _, rfl, p, _, dx, _, _, rfl, hob5, T.cl_Bench, T.n_Bench_most, rfl, _, _, b.most, rfl, hle, by omega, _, rfl, ?_⟩
        refine ifB (fun e => ?_) fun e => ?_
        · have e' : Kp239.step1 b.most (lastW b.rod (Mm.sizes b r)) (Kp239.size b j) = true := e
          have hlt := Mm.ext_part hr hjl e'
          have hR5 := s5 _ _ hR
          refine ⟨_, rfl, .inl ⟨rfl, _, SqL.of R5.lst⟩, _, rfl, _, rfl, one_le, fun z hz => ?_⟩
          have s6 : Same H5 (upd H5 z (.lst [.int (j : Nat)])) := same_new hz
          refine ⟨pr, z, _, _, rfl, rfl, s6 _ _ hR5, upd_same, ?_, fun x hx => ?_⟩
          · rw [nats_len]
            show r.length + 1 ≤ 16777216
            omega
          rw [← nats_snoc]
          have s7 := s6.trans (same_new (o := .lst (nats (r ++ [j]))) hx)
          refine ⟨q2, _, _, rfl, rfl, s7 _ _ R5.lst, ?_, ?_⟩
          · rw [List.length_map, R5.len]
            exact Nat.lt_of_lt_of_le hlt hsz
          · refine ⟨_, _, ps4 ++ [x], rfl, ?_, ?_, ?_⟩
            · exact same_put (s5.trans s7) hq2
            · rw [Mm.growTo_yes e', ← List.append_assoc]
              exact R5.snoc s7 (s6.free hx) upd_same
            · intro y hy
              rcases List.mem_append.mp hy with h | h
              · exact f4 y h
              · rw [List.mem_singleton.mp h]
                exact s5.free (s6.free hx)
        · refine ⟨_, _, ps4, rfl, s5, ?_, f4⟩
          rw [Mm.growTo_no e]
          exact R5
      · rintro σ H4 ⟨v5, v6, ps4, rfl, s4, R4, f4⟩
        refine ⟨_, _, _, _, ps4, rfl, s4, ?_, f4⟩
        rw [List.length_map, B.len] at R4
        rw [take_snoc hr, Mm.ext_app, Mm.ext_cons, Mm.ext_nil, List.append_nil]
        exact R4
    · rintro σ H' ⟨v3, v4, v5, v6, ps1, rfl, s1, R1, f1⟩
      refine ⟨_, rfl, ?_⟩
      rw [List.length_map, R.len, List.take_length] at R1
      exact k H' q2 ps1 s1 R1 f1
/-! ### fewest_dies -/
def sp_Bench_fewest_dies (t : Adr) : Sp := fun vs H Q _ => ∃ (p ld lr : Addr) (as : List Addr) (b : Kp239.Bench), vs = [.ref p] ∧ BenchAt t H p ld lr as true b ∧ Good b ∧
  (Kp239.fewest b = none → ∀ H', Same H H' → Q .non H') ∧ (∀ l, Kp239.fewest b = some l → ∀ (H' : Hp) (q : Addr), Same H H' → H q = none → H' q = some (.lst (nats l)) → Q (.ref q) H')
theorem ok_Bench_fewest_dies (T : Txt K mg t) : FnOk P w K mg base CX0 5 t.f_Bench_fewest_dies t.fd_Bench_fewest_dies ["self"] (sp_Bench_fewest_dies t) := by
  have G_Bench_holds := ok_Bench_holds (P := P) (w := w) (base := base) T
  have G_Bench_widths_of := ok_Bench_widths_of (P := P) (w := w) (base := base) T
  have G_Bench_rows_one_longer := ok_Bench_rows_one_longer (P := P) (w := w) (base := base) T
  refine T.F_Bench_fewest_dies.ok sc_Bench_fewest_dies (fun vs H Q E h => ?_) (fun cdv A outer s H vs Q E hr h => ?_)
  · obtain ⟨p, ld, lr, as, b, rfl, _⟩ := h
    rfl
  · obtain ⟨p, ld, lr, as, b, rfl, B, gd, kN, kS⟩ := h
    obtain ⟨dx, hob⟩ := B.ob
    refine ⟨_, (pss_cons (ps_set (i := 1) sc_Bench_fewest_dies.nd rfl (Or.inl rfl) (pe_lst (pa_cons (pe_lst pa_nil) pa_nil))) (pss_cons (ps_while PassesOwn.never (pt_truth (pv 1) (fun _ => rfl)) (pss_cons (ps_for PassesOwn.never rfl (pi_list (pv 1)) (pg_name (i := 2) sc_Bench_fewest_dies.nd rfl (Or.inl rfl)) (pss_one (ps_if (pt_truth (pe_meth (pv 0) T.cl_Bench T.me_Bench_holds G_Bench_holds (hr.mono (by decide)) T.b_Bench_holds .nil pass0 (pa_cons (pe_meth (pv 0) T.cl_Bench T.me_Bench_widths_of G_Bench_widths_of (hr.mono (by decide)) T.b_Bench_widths_of .nil pass0 (pa_cons (pv 2) pa_nil)) pa_nil)) (fun _ => rfl)) (pss_one (ps_ret (pv 2))) pss_nil))) (pss_one (ps_set (i := 1) sc_Bench_fewest_dies.nd rfl (Or.inl rfl) (pe_meth (pv 0) T.cl_Bench T.me_Bench_rows_one_longer G_Bench_rows_one_longer (hr.mono (by decide)) T.b_Bench_rows_one_longer .nil pass0 (pa_cons (pv 1) pa_nil)))))) (pss_one (ps_ret pe_non)))), ?_⟩
    refine ⟨Nat.zero_le _, fun z hz => ⟨one_le, fun q hq => ?_⟩⟩
    have sz : Same H (upd H z (.lst [])) := same_new hz
    refine ⟨fun n σ H' => ∃ (i : Nat) (q : Addr) (ps : List Addr) (v : Option V), n = b.dies.length + 2 - i ∧ σ = [some (.ref p), some (.ref q), v] ∧ Same H H' ∧ RowsAt H' q ps (Mm.lev b i) ∧ (∀ x ∈ ps, H x = none) ∧ ∀ j < i, ∀ x ∈ Mm.lev b j, Mm.holdsR b x = false,
      ⟨_, 0, q, [z], none, rfl, rfl, sz.trans (same_new hq), ⟨upd_same, rfl, fun i x r e1 e2 => ?_⟩, fun x hx => by rw [List.mem_singleton.mp hx]; exact hz, fun j hj => by omega⟩, ?_⟩
    · cases i with
      | zero =>
        cases e1
        cases e2
        rw [upd_ne (fun e => by rw [e, upd_same] at hq; cases hq)]
        exact upd_same
      | succ i => cases e1
    rintro n σ H' ⟨i, q, ps, v, rfl, rfl, s1, R, fr, hno⟩
    refine ⟨_, rfl, _, .inl ⟨_, SqL.of R.lst, rfl⟩, ?_⟩
    cases hps : ps with
    | nil =>
      rw [hps] at R
      refine iteF ?_
      have e : Mm.lev b i = [] := List.length_eq_zero_iff.mp R.len.symm
      exact kN (Mm.few_none hno e) H' s1
    | cons p0 ps0 =>
      refine iteT ?_
      have hi : i ≤ b.dies.length := by
        cases e : Mm.lev b i with
        | nil =>
          have := R.len
          rw [e, hps] at this
          cases this
        | cons r0 rs0 => exact Mm.lev_le (l := r0) (by rw [e]; exact List.mem_cons_self ..)
      have hrs : ∀ r ∈ Mm.lev b i, (∀ d ∈ r, d < b.dies.length) ∧ r.length ≤ 8 := fun r hr => by
        have dn := gd.dn
        have hl := (Mm.mem_lev.mp hr).1
        exact ⟨Mm.lev_lt hr, by omega⟩
      refine ⟨fun σ' H'' => ∃ (q : Addr) (ps : List Addr) (v : Option V), σ' = [some (.ref p), some (.ref q), v] ∧ Same H H'' ∧ RowsAt H'' q ps (Mm.lev b (i + 1)) ∧ (∀ x ∈ ps, H x = none) ∧ ∀ j < i + 1, ∀ x ∈ Mm.lev b j, Mm.holdsR b x = false,
        fun σ' H'' ⟨q, ps, v, z1, z2, z3, z4, z5⟩ => ⟨b.dies.length + 2 - (i + 1), by omega, i + 1, q, ps, v, rfl, z1, z2, z3, z4, z5⟩, ?_⟩
      refine ⟨_, rfl, q, rfl, ⟨_, SqL.of R.lst⟩, for_list (K := K) (a := q) (xs := ps.map V.ref) (fun m σ H'' => ∃ v : Option V, σ = [some (.ref p), some (.ref q), v] ∧ Same H' H'' ∧ ∀ j < m, ∀ x, (Mm.lev b i)[j]? = some x → Mm.holdsR b x = false)
        ⟨v, rfl, Same.refl _, fun j hj => by omega⟩ (fun i σ H' _ ⟨_, _, s, _⟩ => SqL.of (s _ _ R.lst)) ?_ ?_⟩
      · rintro m y σ H2 hm ⟨v, rfl, s2, hb⟩
        obtain ⟨pr, hpr, rfl⟩ : ∃ pr, ps[m]? = some pr ∧ y = V.ref pr := by
          rw [List.getElem?_map] at hm
          cases e : ps[m]? with
          | none => rw [e] at hm; cases hm
          | some x => rw [e] at hm; exact ⟨x, rfl, (Option.some.inj hm).symm⟩
        have hil : m < (Mm.lev b i).length := by rw [← R.len]; exact (List.getElem?_eq_some_iff.mp hpr).1
        obtain ⟨r, hr⟩ : ∃ r, (Mm.lev b i)[m]? = some r := ⟨_, List.getElem?_eq_getElem hil⟩
        obtain ⟨hrl, hr8⟩ := hrs r (List.mem_of_getElem? hr)
        have hR := R.at_ m pr r hpr hr
        have s3 := s1.trans s2
        refine ⟨_, rfl, p, dx, _, rfl, s3 _ _ hob, rfl, _, rfl, p, dx, _, rfl, s3 _ _ hob, rfl, _, rfl, p, ld, lr, as, b, pr, r, rfl, B.same s3, gd, s2 _ _ hR, hrl, by omega, fun H4 qw s4 hqw => ?_⟩
        have s5 := s3.trans s4
        refine ⟨p, ld, lr, as, b, qw, _, rfl, B.same s5, gd, hqw, fun H6 s6 => ⟨_, rfl, ?_⟩⟩
        have s7 := s4.trans s6
        refine ifB (fun e => ?_) fun e => ?_
        · exact ⟨_, rfl, kS r (Mm.few_some hno hr e hb) H6 pr (s3.trans s7) (fr pr (List.mem_of_getElem? hpr)) (s7 _ _ (s2 _ _ hR))⟩
        · refine ⟨_, rfl, s2.trans s7, fun j hj x hx => ?_⟩
          by_cases ej : j = m
          · subst ej
            rw [hr] at hx
            cases hx
            exact e
          · exact hb j (by omega) x hx
      · rintro σ H2 ⟨v, rfl, s2, hb⟩
        rw [List.length_map, R.len] at hb
        have s3 := s1.trans s2
        refine ⟨_, rfl, p, dx, _, rfl, s3 _ _ hob, rfl, _, rfl, p, ld, lr, as, b, q, ps, _, rfl, B.same s3, gd, R.same s2, hrs, Mm.lev_size gd.dn (i + 1), fun H4 q4 ps4 s4 R4 f4 => ?_⟩
        refine ⟨q4, ps4, _, rfl, s3.trans s4, R4, fun x hx => s3.free (f4 x hx), fun j hj x hx => ?_⟩
        by_cases ej : j = i
        · subst ej
          obtain ⟨n, hn⟩ := List.getElem?_of_mem hx
          exact hb n (List.getElem?_eq_some_iff.mp hn).1 x hn
        · exact hno j (by omega) x hx
/-! ### fewest, set -/
def sp_tell_fewest (t : Adr) : Sp := fun vs H Q _ => ∃ (p q : Addr) (fp : List Addr) (b : Kp239.Bench), vs = [.ref p, .ref q] ∧ StAt t H p fp (some b) ∧ Good b ∧ After t H p fp (Kp239.step (some b) .fewest) Q
theorem ok_tell_fewest (T : Txt K mg t) : FnOk P w K mg base CX0 6 t.f_tell_fewest t.fd_tell_fewest ["bench", "given"] (sp_tell_fewest t) := by
  have G_Bench_fewest_dies := ok_Bench_fewest_dies (P := P) (w := w) (base := base) T
  refine T.F_tell_fewest.ok sc_tell_fewest (fun vs H Q E h => ?_) (fun cdv A outer s H vs Q E hr h => ?_)
  · obtain ⟨p, q, fp, b, rfl, _⟩ := h
    rfl
  · obtain ⟨p, q, fp, b, rfl, S, gd, k⟩ := h
    obtain ⟨ld, lr, as, ef, B⟩ := id S
    obtain ⟨dx, hob⟩ := B.ob
    rw [Mm.step_fewest] at k
    refine ⟨_, (pss_cons (ps_set (i := 2) sc_tell_fewest.nd rfl (Or.inl rfl) (pe_meth0 (pv 0) T.cl_Bench T.me_Bench_fewest_dies G_Bench_fewest_dies (hr.mono (by decide)) T.b_Bench_fewest_dies .nil pass0)) (pss_cons (ps_if (pt_cmpR op_isN (pv 2) pe_non (nomark _)) (pss_one (ps_ret (pe_lst (pa_cons (pe_glob (v := .int (-33)) rfl T.c_NOT_AS_IT_STANDS ⟨_, rfl⟩) pa_nil)))) pss_nil) (pss_one (ps_ret (pe_op op_cat (pe_lst (pa_cons (pe_callB call_len_seq (by rfl) T.n_len boot_len (pa_cons (pv 2) pa_nil)) pa_nil)) (pv 2)))))), ?_⟩
    refine ⟨_, rfl, p, dx, _, rfl, hob, rfl, p, ld, lr, as, b, rfl, B, gd, fun e H1 s1 => ?_, fun l e H1 q1 s1 hn hq1 => ?_⟩
    · rw [e] at k
      exact ⟨_, rfl, rfl, _, rfl, iteT ⟨one_le, fun c hc => After.tell S k s1 hc rfl⟩⟩
    · rw [e] at k
      obtain ⟨_, hl8⟩ := Mm.few_good gd e
      refine ⟨_, rfl, rfl, _, rfl, iteF ?_⟩
      refine ⟨_, rfl, q1, _, rfl, .inl (SqL.of hq1), one_le, fun z hz => ?_⟩
      have s2 := s1.trans (same_new (o := .lst [V.int (((nats l).length : Nat) : Int)]) hz)
      refine ⟨_, rfl, z, q1, _, _, rfl, rfl, upd_same, (by rw [upd_ne (ne_of_none hq1 hz)]; exact hq1), ?_, fun c hc => After.tell S k s2 hc (ans_all l)⟩
      rw [nats_len]
      show 1 + l.length ≤ 16777216
      omega
theorem BenchAt.useRow (B : BenchAt t H p ld lr as g b) (s : Same H H1) {lr' dx : Addr} {l : List Nat} (hn : H lr' = none) (hl : H1 lr' = some (.lst (nats l))) : BenchAt t (upd H1 p (.ins t.C_Bench dx (bf g { b with row := l } ld lr'))) p ld lr' as g { b with row := l } := by
  have B1 := B.same s
  have n1 : ld ≠ lr' := ne_of_none B.dl hn
  have n2 : p ≠ lr' := B1.npl hl
  refine ⟨⟨dx, upd_same⟩, by rw [upd_ne (B1.npl B1.dl).symm]; exact B1.dl, by rw [upd_ne n2.symm]; exact hl, n1, B.nd, B.len, fun j a x e1 e2 => ?_⟩
  obtain ⟨dz, q⟩ := B1.at_ j a x e1 e2
  exact ⟨dz, by rw [upd_ne (B1.np e1).symm]; exact q⟩
def sp_set_row (t : Adr) : Sp := fun vs H Q _ => ∃ (p q : Addr) (fp : List Addr) (b : Kp239.Bench), vs = [.ref p, .ref q] ∧ StAt t H p fp (some b) ∧ Good b ∧ After t H p fp (Kp239.step (some b) .set) Q
theorem ok_set_row (T : Txt K mg t) : FnOk P w K mg base CX0 6 t.f_set_row t.fd_set_row ["bench", "given"] (sp_set_row t) := by
  have G_Bench_fewest_dies := ok_Bench_fewest_dies (P := P) (w := w) (base := base) T
  refine T.F_set_row.ok sc_set_row (fun vs H Q E h => ?_) (fun cdv A outer s H vs Q E hr h => ?_)
  · obtain ⟨p, q, fp, b, rfl, _⟩ := h
    rfl
  · obtain ⟨p, q, fp, b, rfl, S, gd, k⟩ := h
    obtain ⟨ld, lr, as, ef, B⟩ := id S
    obtain ⟨dx, hob⟩ := B.ob
    refine ⟨_, (pss_cons (ps_set (i := 2) sc_set_row.nd rfl (Or.inl rfl) (pe_meth0 (pv 0) T.cl_Bench T.me_Bench_fewest_dies G_Bench_fewest_dies (hr.mono (by decide)) T.b_Bench_fewest_dies .nil pass0)) (pss_cons (ps_if (pt_cmpR op_isN (pv 2) pe_non (nomark _)) (pss_one (ps_ret (pe_lst (pa_cons (pe_glob (v := .int (-33)) rfl T.c_NOT_AS_IT_STANDS ⟨_, rfl⟩) pa_nil)))) pss_nil) (pss_cons (ps_fld (pv 0) (pv 2) rfl) (pss_one (ps_ret (pe_lst (pa_cons (pe_callB call_len_seq (by rfl) T.n_len boot_len (pa_cons (pv 2) pa_nil)) pa_nil))))))), ?_⟩
    refine ⟨_, rfl, p, dx, _, rfl, hob, rfl, p, ld, lr, as, b, rfl, B, gd, fun e H1 s1 => ?_, fun l e H1 q1 s1 hn hq1 => ?_⟩
    · rw [Mm.step_set_none e] at k
      exact ⟨_, rfl, rfl, _, rfl, iteT ⟨one_le, fun c hc => After.tell S k s1 hc rfl⟩⟩
    · rw [Mm.step_set_some e] at k
      refine ⟨_, rfl, rfl, _, rfl, iteF ?_⟩
      refine ⟨_, rfl, _, rfl, p, _, dx, _, rfl, s1 _ _ hob, T.cl_Bench, T.n_Bench_row, (by show 8 < 1000; decide), ?_⟩
      have n2 : p ≠ q1 := (B.same s1).npl hq1
      refine ⟨_, rfl, q1, _, rfl, .inl (SqL.of (by rw [upd_ne n2.symm]; exact hq1)), one_le, fun c hc => ?_⟩
      refine After.done (fp' := p :: ld :: q1 :: as) k ⟨ld, q1, as, rfl, B.useRow (dx := dx) s1 hn hq1⟩ (fun c o e hc => ?_) (fun c hc => ?_) hc (by rw [nats_len]; rfl)
      · rw [ef] at hc
        rw [upd_ne (fun z => hc (by rw [z]; simp))]
        exact s1 c o e
      · rw [ef]
        simp at hc
        rcases hc with rfl | rfl | rfl | hc
        · exact .inl (by simp)
        · exact .inl (by simp)
        · exact .inr hn
        · exact .inl (by simp [hc])
end
end My


end
section
set_option Elab.async false
set_option linter.all false
set_option maxRecDepth 100000
set_option maxHeartbeats 2000000
namespace My
open PySem PySem.Spec PyProof.Rows L2
open Mm (ws wsA aft wp lastW holdsW Good)
section
variable {P : Program} {w : World} {K : PySem.W.Frag} {mg : Str → Option Value} {base : Heap} {t : Adr} {H H' H1 : Hp} {p ld lr : Addr} {as fp : List Addr} {g : Bool} {b : Kp239.Bench} {s : Kp239.State} {Q : VK}
/-! ### one call -/
def sp_answer (t : Adr) : Sp := fun vs H Q _ => ∃ (p q : Addr) (fp : List Addr) (s : Kp239.State) (n : Nat) (as : List Nat) (c : Kp239.Call), vs = [.ref p, .int (n : Int), .ref q] ∧ StAt t H p fp s ∧ Mm.GoodS s ∧ H q = some (.lst (nats as)) ∧ Mm.MkC n as c ∧ After t H p fp (Kp239.step s c) Q
/-! ### the whole line -/
def sp_answers (K : PySem.W.Frag) : Sp := fun vs H Q _ => ∃ (a : Addr) (l : List Int), vs = [.ref a] ∧ SqL K H a (numsV l) ∧ PyKp239.answers_asked l = true ∧ ∀ (H' : Hp) (q : Addr), H' q = some (.lst (numsV (PyKp239.answers l))) → Q (.ref q) H'
theorem numsV_len (l : List Int) : (numsV l).length = l.length := List.length_map ..
theorem numsV_app (l m : List Int) : numsV (l ++ m) = numsV l ++ numsV m := List.map_append ..
theorem numsV_nats (l : List Nat) : numsV (Mm.natsI l) = nats l := by
  unfold numsV Mm.natsI nats
  rw [List.map_map]
  rfl
theorem cut_nums {l : List Int} {i n : Nat} (hi : i < l.length) (hn : n ≤ (l.drop (i + 1)).length) : cutV (numsV l) (some ((i : Int) + 1)) (some ((i : Int) + 1 + (n : Int))) = numsV ((l.drop (i + 1)).take n) := by
  have e1 : ((i : Int) + 1) = ((i + 1 : Nat) : Int) := by omega
  have e2 : ((i : Int) + 1 + (n : Int)) = ((i + 1 + n : Nat) : Int) := by omega
  rw [List.length_drop] at hn
  unfold cutV
  rw [e1] at *
  rw [show ((i + 1 : Nat) : Int) + (n : Int) = ((i + 1 + n : Nat) : Int) by omega, HT.sIx_nat, HT.sIx_nat, numsV_len, Nat.min_eq_left (by omega), Nat.min_eq_left (by omega), show i + 1 + n - (i + 1) = n by omega]
  unfold numsV
  rw [List.map_take, List.map_drop]
theorem followed {n : Nat} {as : List Nat} {c : Kp239.Call} (h : Mm.MkC n as c) : atI ([.int 4, .int 2, .int 2, .int 1, .int 2, .int 1, .int 0, .int 0, .int 0, .int 0, .int 1, .int 1, .int 1, .int 0, .int 0, .int 0, .int 1, .int 1, .int 1, .int 1, .int 0, .int 0] : List V) (n : Int) = some (.int (as.length : Int)) := by
  cases h <;> exact atI_nat rfl
theorem ok_answers (T : Txt K mg t) (G_answer : FnOk P w K mg base CX0 40 t.f_answer t.fd_answer ["bench", "call", "given"] (sp_answer t)) : FnOk P w K mg base CX0 41 t.f_answers t.fd_answers ["calls"] (sp_answers K) := by
  have G_Bench_init := ok_Bench_init (P := P) (w := w) (base := base) T
  refine T.F_answers.ok sc_answers (fun vs H Q E h => ?_) (fun cdv A outer s H vs Q E hr h => ?_)
  · obtain ⟨a, l, rfl, _⟩ := h
    rfl
  · obtain ⟨a, l, rfl, hS, hask, k⟩ := h
    obtain ⟨cs0, hcs0, hans, hlen, hall⟩ := Mm.asked_calls hask
    refine ⟨_, (pss_cons (ps_set (i := 1) sc_answers.nd rfl (Or.inl rfl) (pe_make0 T.M_Bench G_Bench_init (hr.mono (by decide)) rfl T.m_Bench T.b_Bench_init .nil pass0)) (pss_cons (ps_set (i := 2) sc_answers.nd rfl (Or.inl rfl) (pe_lst pa_nil)) (pss_cons (ps_set (i := 3) sc_answers.nd rfl (Or.inl rfl) pe_int) (pss_cons (ps_while PassesOwn.never (pt_cmpR op_lt (pv 3) (pe_callB call_len_seq (by rfl) T.n_len boot_len (pa_cons (pv 0) pa_nil)) (nomark _)) (pss_cons (ps_set (i := 4) sc_answers.nd rfl (Or.inl rfl) (pe_ix ix_list (pv 0) (pv 3) (fun _ _ => rfl))) (pss_cons (ps_set (i := 5) sc_answers.nd rfl (Or.inl rfl) (pe_op op_add (pe_op op_add (pv 3) pe_int) (pe_ix ix_tup (pe_glob (v := .ref t.a_FOLLOWED_BY) rfl T.c_FOLLOWED_BY rfl) (pv 4) (fun _ _ => rfl)))) (pss_cons (ps_set (i := 6) sc_answers.nd rfl (Or.inl rfl) (pe_call G_answer (hr.mono (by decide)) rfl T.m_answer T.F_answer.kp T.b_answer .nil pass0 (pa_cons (pv 1) (pa_cons (pv 4) (pa_cons (pe_slice sl_list (pv 0) (po_some (pe_op op_add (pv 3) pe_int)) (po_some (pv 5))) pa_nil))))) (pss_cons (ps_expr (pe_bm PySem.F.plainAttrs_list PySem.F.slot_list_append PySem.F.type_list_append mt_append (pv 2) (pa_cons (pe_callB call_len_seq (by rfl) T.n_len boot_len (pa_cons (pv 6) pa_nil)) pa_nil))) (pss_cons (ps_expr (pe_bm PySem.F.plainAttrs_list PySem.F.slot_list_extend PySem.F.type_list_extend mt_extend (pv 2) (pa_cons (pv 6) pa_nil))) (pss_one (ps_set (i := 3) sc_answers.nd rfl (Or.inl rfl) (pv 5))))))))) (pss_one (ps_ret (pv 2))))))), ?_⟩
    intro x dx nx ndx nex
    refine ⟨x, dx, rfl, upd_same, fun H1 ld lr B hd hl kp => ⟨rfl, ?_⟩⟩
    have s0 : Same H (upd (upd H dx (.own x)) x (.ins t.C_Bench dx [])) := same_put (same_new ndx) nx
    have s1 : Same H H1 := fun c o e => kp c o (s0 c o e) (ne_of_none e nx)
    refine ⟨Nat.zero_le _, fun q hq => ?_⟩
    have hqH : H q = none := s1.free hq
    have fr : ∀ c ∈ [x, ld, lr], H c = none := fun c hc => by
      simp at hc
      rcases hc with rfl | rfl | rfl
      · exact nx
      · exact s0.free hd
      · exact s0.free hl
    have hqf : ¬ q ∈ [x, ld, lr] := fun hm => by
      obtain ⟨dy, hob⟩ := B.ob
      simp at hm
      rcases hm with rfl | rfl | rfl
      · rw [hob] at hq; cases hq
      · rw [B.dl] at hq; cases hq
      · rw [B.rl] at hq; cases hq
    refine ⟨fun m σ H' => ∃ (i f : Nat) (s : Kp239.State) (cs : List (List (List Int))) (dn : List Int) (fp : List Addr) (v4 v5 v6 : Option V), m = l.length - i ∧ i ≤ l.length ∧ σ = [some (.ref a), some (.ref x), some (.ref q), some (.int (i : Nat)), v4, v5, v6] ∧
        Same H H' ∧ StAt t H' x fp s ∧ Mm.GoodS s ∧ (∀ c ∈ fp, H c = none) ∧ ¬ q ∈ fp ∧ H' q = some (.lst (numsV dn)) ∧ PyFlat.calls PyKp239.shape f (l.drop i) = some cs ∧ (∀ c ∈ cs, Kp239Neutral.asked1 c = true) ∧ PyKp239.answers l = dn ++ Mm.rest s cs,
      ⟨l.length - 0, 0, l.length, none, cs0, [], [x, ld, lr], none, none, none, rfl, Nat.zero_le _, rfl, same_put s1 hqH, ?_, fun b e => (by cases e), fr, hqf, upd_same, hcs0, hall, hans⟩, ?_⟩
    · exact ⟨ld, lr, rfl, B.same (same_new hq)⟩
    · rintro m σ H' ⟨i, f, s, cs, dn, fp, v4, v5, v6, rfl, hi, rfl, sm, S, gs, ffr, hqn, hq', hcs, hak, han⟩
      refine ⟨_, rfl, _, rfl, a, _, rfl, .inl (sm.seq hS), _, _, rfl, rfl, _, rfl, ?_⟩
      rw [numsV_len]
      refine ifD (fun hlt => ?_) fun hlt => ?_
      · have hi2 : i < l.length := by omega
        have ed : l.drop i = l[i] :: l.drop (i + 1) := List.drop_eq_getElem_cons hi2
        rw [ed] at hcs
        obtain ⟨f', n, cs', hf', hsh, hn, ecs, hcs'⟩ := Mm.calls_cons hcs
        subst ecs
        have hsh2 : PyKp239.shape l[i] = some (((l.drop (i + 1)).take n).length, 0) := by rw [List.length_take, Nat.min_eq_left hn]; exact hsh
        obtain ⟨nn, as, c, e1, e2, e3, e4⟩ := Mm.asked_call hsh2 (hak _ (List.mem_cons_self ..))
        have e5 := Mm.shape_mk e3
        rw [← e1, hsh] at e5
        have e6 : n = as.length := by injection e5 with e5; injection e5
        have hst := Mm.step_of (s := s) e4
        rw [Mm.rest_cons, hst] at han
        have hal : ((PyKp239.answers l).length : Nat) ≤ 10000000 := hlen
        refine ⟨fun σ' H'' => ∃ (s' : Kp239.State) (fp' : List Addr) (v4 v5 v6 : Option V), σ' = [some (.ref a), some (.ref x), some (.ref q), some (.int ((i + 1 + n : Nat) : Int)), v4, v5, v6] ∧ Same H H'' ∧ StAt t H'' x fp' s' ∧ Mm.GoodS s' ∧ (∀ c ∈ fp', H c = none) ∧ ¬ q ∈ fp' ∧
            H'' q = some (.lst (numsV (dn ++ (((ansL (Kp239.step s c).2).length : Int) :: ansL (Kp239.step s c).2)))) ∧ s' = (Kp239.step s c).1, ?_, ?_⟩
        · rintro σ' H'' ⟨s', fp', v4, v5, v6, rfl, sm2, S2, gs2, ffr2, hqn2, hq2, rfl⟩
          have hn2 : n ≤ l.length - (i + 1) := by rw [List.length_drop] at hn; exact hn
          refine ⟨l.length - (i + 1 + n), by omega, i + 1 + n, f', _, cs', _, fp', v4, v5, v6, rfl, by omega, rfl, sm2, S2, gs2, ffr2, hqn2, hq2, ?_, fun c hc => hak c (List.mem_cons_of_mem _ hc), ?_⟩
          · rw [List.drop_drop] at hcs'
            exact hcs'
          · rw [han, List.append_assoc]
            rfl
        · refine ⟨_, rfl, _, rfl, a, _, _, _, rfl, rfl, sm.seq hS, atI_nat (j := i) (v := V.int l[i]) (by unfold numsV; rw [List.getElem?_map, List.getElem?_eq_getElem hi2]; rfl), ?_⟩
          rw [e1]
          refine ⟨_, rfl, _, _, rfl, rfl, _, rfl, t.a_FOLLOWED_BY, _, _, _, rfl, rfl, T.q_FOLLOWED_BY _, followed e3, _, _, rfl, rfl, ?_⟩
          refine ⟨_, rfl, _, rfl, _, rfl, _, rfl, _, _, rfl, rfl, _, rfl, _, rfl, _, rfl, a, _, rfl, sm.seq hS, fun z hz => ?_⟩
          have ecut : cutV (numsV l) (some ((i : Int) + 1)) (some ((i : Int) + 1 + (as.length : Int))) = nats as := by
            rw [← e6, cut_nums hi2 hn, e2, numsV_nats]
          rw [ecut]
          have s3 : Same H' (upd H' z (.lst (nats as))) := same_new hz
          refine ⟨x, z, fp, s, nn, as, c, rfl, S.same s3, gs, upd_same, e3, fun H2 r fp' S2 hr2 kp2 hf2 => ?_⟩
          have hq1 : (upd H' z (.lst (nats as))) q = some (.lst (numsV dn)) := s3 _ _ hq'
          obtain ⟨hq2, nqr⟩ := kp2 q _ hq1 hqn
          have sH : Same H (upd H' z (.lst (nats as))) := sm.trans s3
          have sm2 : Same H H2 := fun y o e => (kp2 y o (sH y o e) fun hm => (by rw [ffr y hm] at e; cases e)).1
          have ffr2 : ∀ y ∈ fp', H y = none := fun y hy => by
            rcases hf2 y hy with h | h
            · exact ffr y h
            · exact sH.free h
          have hqn2 : ¬ q ∈ fp' := fun hm => by
            rcases hf2 q hm with h | h
            · exact hqn h
            · rw [hq1] at h; cases h
          have lall : (dn ++ (((ansL (Kp239.step s c).2).length : Int) :: ansL (Kp239.step s c).2)).length ≤ 10000000 := by
            refine Nat.le_trans ?_ hal
            rw [han, ← List.append_assoc, List.length_append (as := dn ++ _)]
            exact Nat.le_add_right _ _
          have hsz : (10000000 : Nat) < sizeLine := by decide
          rw [List.length_append, List.length_cons] at lall
          refine ⟨_, rfl, .inl ⟨rfl, _, SqL.of hq2⟩, _, rfl, r, _, rfl, .inl (SqL.of hr2), q, _, _, rfl, rfl, hq2, by rw [numsV_len]; omega, ?_⟩
          rw [numsV_len]
          refine ⟨_, rfl, .inl ⟨rfl, _, SqL.of upd_same⟩, _, rfl, q, r, _, _, rfl, rfl, upd_same, (by rw [upd_ne nqr.symm]; exact hr2), by rw [List.length_append, List.length_singleton, numsV_len, numsV_len]; omega, ?_⟩
          rw [upd_upd]
          have S3 : StAt t (upd H2 q (.lst (numsV dn ++ [V.int ((ansL (Kp239.step s c).2).length : Nat)] ++ numsV (ansL (Kp239.step s c).2)))) x fp' (Kp239.step s c).1 := StAt.frame S2 fun y o e hm => by
            rw [upd_ne fun z => hqn2 (by rw [← z]; exact hm)]
            exact e
          refine ⟨_, rfl, _, fp', some (.int (nn : Int)), some (.int ((i : Int) + 1 + (as.length : Int))), some (.ref r), ?_, same_put sm2 hqH, S3, Mm.good_step gs c, ffr2, hqn2, ?_, rfl⟩
          · have e7 : ((i + 1 + n : Nat) : Int) = (i : Int) + 1 + (as.length : Int) := by omega
            rw [e7]
            rfl
          · rw [upd_same, numsV_app]
            show some (HO.lst (numsV dn ++ [V.int _] ++ numsV _)) = some (HO.lst (numsV dn ++ (V.int _ :: numsV _)))
            rw [List.append_assoc]
            rfl
      · have ei : i = l.length := by omega
        subst ei
        rw [List.drop_length] at hcs
        have := Mm.calls_nil hcs
        subst this
        refine ⟨_, rfl, ?_⟩
        rw [Mm.rest_nil, List.append_nil] at han
        exact k H' q (by rw [han]; exact hq')
end
end My


end
section
set_option Elab.async false
set_option linter.all false
set_option maxRecDepth 100000
set_option maxHeartbeats 2000000
namespace My
open PySem PySem.Spec PyProof.Rows L2
open Mm (ws wsA aft wp lastW holdsW Good)
section
variable {P : Program} {w : World} {K : PySem.W.Frag} {mg : Str → Option Value} {base : Heap} {t : Adr} {H H' H1 : Hp} {p ld lr : Addr} {as fp : List Addr} {g : Bool} {b : Kp239.Bench} {s : Kp239.State} {Q : VK}
theorem step_none {n : Nat} {as : List Nat} {c : Kp239.Call} (h : Mm.MkC n as c) (h0 : ¬ n = 0) : Kp239.step none c = (none, Kp239.say (-11)) := by
  cases h
  · exact absurd rfl h0
  all_goals rfl
theorem mk0 {n : Nat} {as : List Nat} {c : Kp239.Call} (h : Mm.MkC n as c) (h0 : n = 0) : ∃ x y z v, as = [x, y, z, v] ∧ c = .begin_ x y z v := by
  cases h
  · exact ⟨_, _, _, _, rfl, rfl⟩
  all_goals exact Nat.noConfusion h0
theorem StAt.begun (B : StAt t H p fp s) : ∃ dx b ld lr, H p = some (.ins t.C_Bench dx (bf s.isSome b ld lr)) := by
  cases s with
  | none =>
    obtain ⟨ld, lr, e, B⟩ := B
    obtain ⟨dx, h⟩ := B.ob
    exact ⟨dx, _, ld, lr, h⟩
  | some b =>
    obtain ⟨ld, lr, as, e, B⟩ := B
    obtain ⟨dx, h⟩ := B.ob
    exact ⟨dx, _, ld, lr, h⟩
theorem ok_answer (T : Txt K mg t) : FnOk P w K mg base CX0 40 t.f_answer t.fd_answer ["bench", "call", "given"] (sp_answer t) := by
  refine T.F_answer.ok sc_answer (fun vs H Q E h => ?_) (fun cdv A outer s H vs Q E hr h => ?_)
  · obtain ⟨p, q, fp, s, n, as, c, rfl, _⟩ := h
    rfl
  · obtain ⟨p, q, fp, s, n, as, c, rfl, S, gs, hq, hc, k⟩ := h
    obtain ⟨dx, b0, ld0, lr0, hob⟩ := S.begun
    refine ⟨_, (pss_cons (ps_if (PW.pt (pw_and (pt_cmpR op_ne (pv 1) (pe_glob (v := .int (0)) rfl T.c_BEGIN ⟨_, rfl⟩) (nomark _)) (pw_and1 (pt_not (pt_truth (pe_fld (pv 0) rfl) (fun _ => rfl)))))) (pss_one (ps_ret (pe_lst (pa_cons (pe_glob (v := .int (-11)) rfl T.c_NOT_BEGUN ⟨_, rfl⟩) pa_nil)))) pss_nil) (pss_one (ps_ret (pe_callV (pe_ix ix_tup (pe_glob (v := .ref t.a_ANSWERED_BY) rfl T.c_ANSWERED_BY rfl) (pv 1) (fun _ _ => rfl)) (pa_cons (pv 0) (pa_cons (pv 2) pa_nil)))))), ?_⟩
    refine ⟨_, rfl, rfl, _, rfl, ?_⟩
    by_cases h0 : n = 0
    · obtain ⟨_, _, _, _, rfl, rfl⟩ := mk0 hc h0
      subst h0
      refine ifND (fun z => absurd rfl z) fun _ => iteF ?_
      exact ⟨_, rfl, t.a_ANSWERED_BY, _, _, _, rfl, rfl, T.q_ANSWERED_BY _, atI_nat (j := 0) rfl, t.f_begin, t.fd_begin, _, _, _, rfl, ok_begin T, hr.mono (by decide), T.F_begin.kp, T.b_begin, _, rfl, _, rfl, p, q, fp, s, _, _, _, _, rfl, S, hq, k⟩
    · refine ifND (fun _ => ?_) fun z => absurd (by injection z with z; omega) h0
      refine ⟨_, rfl, p, _, dx, _, _, rfl, hob, T.cl_Bench, T.n_Bench_begun, rfl, _, rfl, ?_⟩
      cases s with
      | none =>
        rw [step_none hc h0] at k
        exact iteT ⟨one_le, fun c hc => After.tell S k (Same.refl H) hc rfl⟩
      | some b =>
        have gd := gs b rfl
        refine iteF ?_
        cases hc
        · exact absurd rfl h0
        · exact ⟨_, rfl, t.a_ANSWERED_BY, _, _, _, rfl, rfl, T.q_ANSWERED_BY _, atI_nat (j := 1) rfl, t.f_add_die, t.fd_add_die, _, _, _, rfl, ok_add_die T, hr.mono (by decide), T.F_add_die.kp, T.b_add_die, _, rfl, _, rfl, p, q, fp, b, _, _, rfl, S, gd, hq, k⟩
        · exact ⟨_, rfl, t.a_ANSWERED_BY, _, _, _, rfl, rfl, T.q_ANSWERED_BY _, atI_nat (j := 2) rfl, t.f_grind, t.fd_grind, _, _, _, rfl, ok_grind T, hr.mono (by decide), T.F_grind.kp, T.b_grind, _, rfl, _, rfl, p, q, fp, b, _, _, rfl, S, gd, hq, k⟩
        · exact ⟨_, rfl, t.a_ANSWERED_BY, _, _, _, rfl, rfl, T.q_ANSWERED_BY _, atI_nat (j := 3) rfl, t.f_change_rod, t.fd_change_rod, _, _, _, rfl, ok_change_rod T, hr.mono (by decide), T.F_change_rod.kp, T.b_change_rod, _, rfl, _, rfl, p, q, fp, b, _, rfl, S, gd, hq, k⟩
        · exact ⟨_, rfl, t.a_ANSWERED_BY, _, _, _, rfl, rfl, T.q_ANSWERED_BY _, atI_nat (j := 4) rfl, t.f_change_want, t.fd_change_want, _, _, _, rfl, ok_change_want T, hr.mono (by decide), T.F_change_want.kp, T.b_change_want, _, rfl, _, rfl, p, q, fp, b, _, _, rfl, S, gd, hq, k⟩
        · exact ⟨_, rfl, t.a_ANSWERED_BY, _, _, _, rfl, rfl, T.q_ANSWERED_BY _, atI_nat (j := 5) rfl, t.f_put, t.fd_put, _, _, _, rfl, ok_put T, hr.mono (by decide), T.F_put.kp, T.b_put, _, rfl, _, rfl, p, q, fp, b, _, rfl, S, gd, hq, k⟩
        · exact ⟨_, rfl, t.a_ANSWERED_BY, _, _, _, rfl, rfl, T.q_ANSWERED_BY _, atI_nat (j := 6) rfl, t.f_take, t.fd_take, _, _, _, rfl, ok_take T, hr.mono (by decide), T.F_take.kp, T.b_take, _, rfl, _, rfl, p, q, fp, b, rfl, S, gd, k⟩
        · exact ⟨_, rfl, t.a_ANSWERED_BY, _, _, _, rfl, rfl, T.q_ANSWERED_BY _, atI_nat (j := 7) rfl, t.f_empty_row, t.fd_empty_row, _, _, _, rfl, ok_empty_row T, hr.mono (by decide), T.F_empty_row.kp, T.b_empty_row, _, rfl, _, rfl, p, q, fp, b, rfl, S, gd, k⟩
        · exact ⟨_, rfl, t.a_ANSWERED_BY, _, _, _, rfl, rfl, T.q_ANSWERED_BY _, atI_nat (j := 8) rfl, t.f_tell_holds, t.fd_tell_holds, _, _, _, rfl, ok_tell_holds T, hr.mono (by decide), T.F_tell_holds.kp, T.b_tell_holds, _, rfl, _, rfl, p, q, fp, b, rfl, S, gd, k⟩
        · exact ⟨_, rfl, t.a_ANSWERED_BY, _, _, _, rfl, rfl, T.q_ANSWERED_BY _, atI_nat (j := 9) rfl, t.f_tell_wrong, t.fd_tell_wrong, _, _, _, rfl, ok_tell_wrong T, hr.mono (by decide), T.F_tell_wrong.kp, T.b_tell_wrong, _, rfl, _, rfl, p, q, fp, b, rfl, S, gd, k⟩
        · exact ⟨_, rfl, t.a_ANSWERED_BY, _, _, _, rfl, rfl, T.q_ANSWERED_BY _, atI_nat (j := 10) rfl, t.f_run, t.fd_run, _, _, _, rfl, ok_run T, hr.mono (by decide), T.F_run.kp, T.b_run, _, rfl, _, rfl, p, q, fp, b, _, rfl, S, gd, hq, k⟩
        · exact ⟨_, rfl, t.a_ANSWERED_BY, _, _, _, rfl, rfl, T.q_ANSWERED_BY _, atI_nat (j := 11) rfl, t.f_tell_may, t.fd_tell_may, _, _, _, rfl, ok_tell_may T, hr.mono (by decide), T.F_tell_may.kp, T.b_tell_may, _, rfl, _, rfl, p, q, fp, b, _, rfl, S, gd, hq, k⟩
        · exact ⟨_, rfl, t.a_ANSWERED_BY, _, _, _, rfl, rfl, T.q_ANSWERED_BY _, atI_nat (j := 12) rfl, t.f_tell_out, t.fd_tell_out, _, _, _, rfl, ok_tell_out T, hr.mono (by decide), T.F_tell_out.kp, T.b_tell_out, _, rfl, _, rfl, p, q, fp, b, _, rfl, S, gd, hq, k⟩
        · exact ⟨_, rfl, t.a_ANSWERED_BY, _, _, _, rfl, rfl, T.q_ANSWERED_BY _, atI_nat (j := 13) rfl, t.f_tell_longest, t.fd_tell_longest, _, _, _, rfl, ok_tell_longest T, hr.mono (by decide), T.F_tell_longest.kp, T.b_tell_longest, _, rfl, _, rfl, p, q, fp, b, rfl, S, gd, k⟩
        · exact ⟨_, rfl, t.a_ANSWERED_BY, _, _, _, rfl, rfl, T.q_ANSWERED_BY _, atI_nat (j := 14) rfl, t.f_tell_fewest, t.fd_tell_fewest, _, _, _, rfl, ok_tell_fewest T, hr.mono (by decide), T.F_tell_fewest.kp, T.b_tell_fewest, _, rfl, _, rfl, p, q, fp, b, rfl, S, gd, k⟩
        · exact ⟨_, rfl, t.a_ANSWERED_BY, _, _, _, rfl, rfl, T.q_ANSWERED_BY _, atI_nat (j := 15) rfl, t.f_set_row, t.fd_set_row, _, _, _, rfl, ok_set_row T, hr.mono (by decide), T.F_set_row.kp, T.b_set_row, _, rfl, _, rfl, p, q, fp, b, rfl, S, gd, k⟩
        · exact ⟨_, rfl, t.a_ANSWERED_BY, _, _, _, rfl, rfl, T.q_ANSWERED_BY _, atI_nat (j := 16) rfl, t.f_tell_takes, t.fd_tell_takes, _, _, _, rfl, ok_tell_takes T, hr.mono (by decide), T.F_tell_takes.kp, T.b_tell_takes, _, rfl, _, rfl, p, q, fp, b, _, rfl, S, gd, hq, k⟩
        · exact ⟨_, rfl, t.a_ANSWERED_BY, _, _, _, rfl, rfl, T.q_ANSWERED_BY _, atI_nat (j := 17) rfl, t.f_tell_least, t.fd_tell_least, _, _, _, rfl, ok_tell_least T, hr.mono (by decide), T.F_tell_least.kp, T.b_tell_least, _, rfl, _, rfl, p, q, fp, b, _, rfl, S, gd, hq, k⟩
        · exact ⟨_, rfl, t.a_ANSWERED_BY, _, _, _, rfl, rfl, T.q_ANSWERED_BY _, atI_nat (j := 18) rfl, t.f_tell_size, t.fd_tell_size, _, _, _, rfl, ok_tell_size T, hr.mono (by decide), T.F_tell_size.kp, T.b_tell_size, _, rfl, _, rfl, p, q, fp, b, _, rfl, S, gd, hq, k⟩
        · exact ⟨_, rfl, t.a_ANSWERED_BY, _, _, _, rfl, rfl, T.q_ANSWERED_BY _, atI_nat (j := 19) rfl, t.f_tell_left, t.fd_tell_left, _, _, _, rfl, ok_tell_left T, hr.mono (by decide), T.F_tell_left.kp, T.b_tell_left, _, rfl, _, rfl, p, q, fp, b, _, rfl, S, gd, hq, k⟩
        · exact ⟨_, rfl, t.a_ANSWERED_BY, _, _, _, rfl, rfl, T.q_ANSWERED_BY _, atI_nat (j := 20) rfl, t.f_tell_row, t.fd_tell_row, _, _, _, rfl, ok_tell_row T, hr.mono (by decide), T.F_tell_row.kp, T.b_tell_row, _, rfl, _, rfl, p, q, fp, b, rfl, S, gd, k⟩
        · exact ⟨_, rfl, t.a_ANSWERED_BY, _, _, _, rfl, rfl, T.q_ANSWERED_BY _, atI_nat (j := 21) rfl, t.f_tell_sums, t.fd_tell_sums, _, _, _, rfl, ok_tell_sums T, hr.mono (by decide), T.F_tell_sums.kp, T.b_tell_sums, _, rfl, _, rfl, p, q, fp, b, rfl, S, gd, k⟩
end
end My


end
section
set_option Elab.async false
set_option linter.all false
set_option maxRecDepth 100000
set_option maxHeartbeats 2000000
namespace My
open PySem PySem.Spec PyProof.Rows L2
theorem txt_mk {K : PySem.W.Frag} {h : Heap} {mg : Str → Option Value} (X : K.In h) (G : h.Ns mainGlobals mg)
    {C_Die : Addr} {C_Bench : Addr} {f_Die_init : Addr} {od_Die_init an_Die_init : Option Addr} {sl_Die_init : Array (Option Value)} {oc_Die_init kV_Die_init dc_Die_init pm_Die_init cd_Die_init ct_Die_init : Value} {f_Die_wide : Addr} {od_Die_wide an_Die_wide : Option Addr} {sl_Die_wide : Array (Option Value)} {oc_Die_wide kV_Die_wide dc_Die_wide pm_Die_wide cd_Die_wide ct_Die_wide : Value} {f_Die_wide_after : Addr} {od_Die_wide_after an_Die_wide_after : Option Addr} {sl_Die_wide_after : Array (Option Value)} {oc_Die_wide_after kV_Die_wide_after dc_Die_wide_after pm_Die_wide_after cd_Die_wide_after ct_Die_wide_after : Value} {f_Die_metres_left : Addr} {od_Die_metres_left an_Die_metres_left : Option Addr} {sl_Die_metres_left : Array (Option Value)} {oc_Die_metres_left kV_Die_metres_left dc_Die_metres_left pm_Die_metres_left cd_Die_metres_left ct_Die_metres_left : Value} {f_Die_grind : Addr} {od_Die_grind an_Die_grind : Option Addr} {sl_Die_grind : Array (Option Value)} {oc_Die_grind kV_Die_grind dc_Die_grind pm_Die_grind cd_Die_grind ct_Die_grind : Value} {f_Die_draw : Addr} {od_Die_draw an_Die_draw : Option Addr} {sl_Die_draw : Array (Option Value)} {oc_Die_draw kV_Die_draw dc_Die_draw pm_Die_draw cd_Die_draw ct_Die_draw : Value} {f_Bench_init : Addr} {od_Bench_init an_Bench_init : Option Addr} {sl_Bench_init : Array (Option Value)} {oc_Bench_init kV_Bench_init dc_Bench_init pm_Bench_init cd_Bench_init ct_Bench_init : Value} {f_Bench_begin : Addr} {od_Bench_begin an_Bench_begin : Option Addr} {sl_Bench_begin : Array (Option Value)} {oc_Bench_begin kV_Bench_begin dc_Bench_begin pm_Bench_begin cd_Bench_begin ct_Bench_begin : Value} {f_Bench_has_die : Addr} {od_Bench_has_die an_Bench_has_die : Option Addr} {sl_Bench_has_die : Array (Option Value)} {oc_Bench_has_die kV_Bench_has_die dc_Bench_has_die pm_Bench_has_die cd_Bench_has_die ct_Bench_has_die : Value} {f_Bench_widths_of : Addr} {od_Bench_widths_of an_Bench_widths_of : Option Addr} {sl_Bench_widths_of : Array (Option Value)} {oc_Bench_widths_of kV_Bench_widths_of dc_Bench_widths_of pm_Bench_widths_of cd_Bench_widths_of ct_Bench_widths_of : Value} {f_Bench_widths : Addr} {od_Bench_widths an_Bench_widths : Option Addr} {sl_Bench_widths : Array (Option Value)} {oc_Bench_widths kV_Bench_widths dc_Bench_widths pm_Bench_widths cd_Bench_widths ct_Bench_widths : Value} {f_Bench_widths_after : Addr} {od_Bench_widths_after an_Bench_widths_after : Option Addr} {sl_Bench_widths_after : Array (Option Value)} {oc_Bench_widths_after kV_Bench_widths_after dc_Bench_widths_after pm_Bench_widths_after cd_Bench_widths_after ct_Bench_widths_after : Value} {f_Bench_wide_out : Addr} {od_Bench_wide_out an_Bench_wide_out : Option Addr} {sl_Bench_wide_out : Array (Option Value)} {oc_Bench_wide_out kV_Bench_wide_out dc_Bench_wide_out pm_Bench_wide_out cd_Bench_wide_out ct_Bench_wide_out : Value} {f_Bench_wide_ahead : Addr} {od_Bench_wide_ahead an_Bench_wide_ahead : Option Addr} {sl_Bench_wide_ahead : Array (Option Value)} {oc_Bench_wide_ahead kV_Bench_wide_ahead dc_Bench_wide_ahead pm_Bench_wide_ahead cd_Bench_wide_ahead ct_Bench_wide_ahead : Value} {f_Bench_reaches : Addr} {od_Bench_reaches an_Bench_reaches : Option Addr} {sl_Bench_reaches : Array (Option Value)} {oc_Bench_reaches kV_Bench_reaches dc_Bench_reaches pm_Bench_reaches cd_Bench_reaches ct_Bench_reaches : Value} {f_Bench_wrong_place : Addr} {od_Bench_wrong_place an_Bench_wrong_place : Option Addr} {sl_Bench_wrong_place : Array (Option Value)} {oc_Bench_wrong_place kV_Bench_wrong_place dc_Bench_wrong_place pm_Bench_wrong_place cd_Bench_wrong_place ct_Bench_wrong_place : Value} {f_Bench_holds : Addr} {od_Bench_holds an_Bench_holds : Option Addr} {sl_Bench_holds : Array (Option Value)} {oc_Bench_holds kV_Bench_holds dc_Bench_holds pm_Bench_holds cd_Bench_holds ct_Bench_holds : Value} {f_Bench_metres_out : Addr} {od_Bench_metres_out an_Bench_metres_out : Option Addr} {sl_Bench_metres_out : Array (Option Value)} {oc_Bench_metres_out kV_Bench_metres_out dc_Bench_metres_out pm_Bench_metres_out cd_Bench_metres_out ct_Bench_metres_out : Value} {f_Bench_draw : Addr} {od_Bench_draw an_Bench_draw : Option Addr} {sl_Bench_draw : Array (Option Value)} {oc_Bench_draw kV_Bench_draw dc_Bench_draw pm_Bench_draw cd_Bench_draw ct_Bench_draw : Value} {f_Bench_fewest_dies : Addr} {od_Bench_fewest_dies an_Bench_fewest_dies : Option Addr} {sl_Bench_fewest_dies : Array (Option Value)} {oc_Bench_fewest_dies kV_Bench_fewest_dies dc_Bench_fewest_dies pm_Bench_fewest_dies cd_Bench_fewest_dies ct_Bench_fewest_dies : Value} {f_Bench_rows_one_longer : Addr} {od_Bench_rows_one_longer an_Bench_rows_one_longer : Option Addr} {sl_Bench_rows_one_longer : Array (Option Value)} {oc_Bench_rows_one_longer kV_Bench_rows_one_longer dc_Bench_rows_one_longer pm_Bench_rows_one_longer cd_Bench_rows_one_longer ct_Bench_rows_one_longer : Value} {f_most_lets : Addr} {od_most_lets an_most_lets : Option Addr} {sl_most_lets : Array (Option Value)} {oc_most_lets kV_most_lets dc_most_lets pm_most_lets cd_most_lets ct_most_lets : Value} {f_goes : Addr} {od_goes an_goes : Option Addr} {sl_goes : Array (Option Value)} {oc_goes kV_goes dc_goes pm_goes cd_goes ct_goes : Value} {f_least_width : Addr} {od_least_width an_least_width : Option Addr} {sl_least_width : Array (Option Value)} {oc_least_width kV_least_width dc_least_width pm_least_width cd_least_width ct_least_width : Value} {f_metres_through : Addr} {od_metres_through an_metres_through : Option Addr} {sl_metres_through : Array (Option Value)} {oc_metres_through kV_metres_through dc_metres_through pm_metres_through cd_metres_through ct_metres_through : Value} {f_greatest_in_common : Addr} {od_greatest_in_common an_greatest_in_common : Option Addr} {sl_greatest_in_common : Array (Option Value)} {oc_greatest_in_common kV_greatest_in_common dc_greatest_in_common pm_greatest_in_common cd_greatest_in_common ct_greatest_in_common : Value} {f_part_taken : Addr} {od_part_taken an_part_taken : Option Addr} {sl_part_taken : Array (Option Value)} {oc_part_taken kV_part_taken dc_part_taken pm_part_taken cd_part_taken ct_part_taken : Value} {f_is_width : Addr} {od_is_width an_is_width : Option Addr} {sl_is_width : Array (Option Value)} {oc_is_width kV_is_width dc_is_width pm_is_width cd_is_width ct_is_width : Value} {f_can_be_wanted : Addr} {od_can_be_wanted an_can_be_wanted : Option Addr} {sl_can_be_wanted : Array (Option Value)} {oc_can_be_wanted kV_can_be_wanted dc_can_be_wanted pm_can_be_wanted cd_can_be_wanted ct_can_be_wanted : Value} {f_begin : Addr} {od_begin an_begin : Option Addr} {sl_begin : Array (Option Value)} {oc_begin kV_begin dc_begin pm_begin cd_begin ct_begin : Value} {f_add_die : Addr} {od_add_die an_add_die : Option Addr} {sl_add_die : Array (Option Value)} {oc_add_die kV_add_die dc_add_die pm_add_die cd_add_die ct_add_die : Value} {f_grind : Addr} {od_grind an_grind : Option Addr} {sl_grind : Array (Option Value)} {oc_grind kV_grind dc_grind pm_grind cd_grind ct_grind : Value} {f_change_rod : Addr} {od_change_rod an_change_rod : Option Addr} {sl_change_rod : Array (Option Value)} {oc_change_rod kV_change_rod dc_change_rod pm_change_rod cd_change_rod ct_change_rod : Value} {f_change_want : Addr} {od_change_want an_change_want : Option Addr} {sl_change_want : Array (Option Value)} {oc_change_want kV_change_want dc_change_want pm_change_want cd_change_want ct_change_want : Value} {f_put : Addr} {od_put an_put : Option Addr} {sl_put : Array (Option Value)} {oc_put kV_put dc_put pm_put cd_put ct_put : Value} {f_take : Addr} {od_take an_take : Option Addr} {sl_take : Array (Option Value)} {oc_take kV_take dc_take pm_take cd_take ct_take : Value} {f_empty_row : Addr} {od_empty_row an_empty_row : Option Addr} {sl_empty_row : Array (Option Value)} {oc_empty_row kV_empty_row dc_empty_row pm_empty_row cd_empty_row ct_empty_row : Value} {f_tell_holds : Addr} {od_tell_holds an_tell_holds : Option Addr} {sl_tell_holds : Array (Option Value)} {oc_tell_holds kV_tell_holds dc_tell_holds pm_tell_holds cd_tell_holds ct_tell_holds : Value} {f_tell_wrong : Addr} {od_tell_wrong an_tell_wrong : Option Addr} {sl_tell_wrong : Array (Option Value)} {oc_tell_wrong kV_tell_wrong dc_tell_wrong pm_tell_wrong cd_tell_wrong ct_tell_wrong : Value} {f_run_refusal : Addr} {od_run_refusal an_run_refusal : Option Addr} {sl_run_refusal : Array (Option Value)} {oc_run_refusal kV_run_refusal dc_run_refusal pm_run_refusal cd_run_refusal ct_run_refusal : Value} {f_run : Addr} {od_run an_run : Option Addr} {sl_run : Array (Option Value)} {oc_run kV_run dc_run pm_run cd_run ct_run : Value} {f_tell_may : Addr} {od_tell_may an_tell_may : Option Addr} {sl_tell_may : Array (Option Value)} {oc_tell_may kV_tell_may dc_tell_may pm_tell_may cd_tell_may ct_tell_may : Value} {f_tell_out : Addr} {od_tell_out an_tell_out : Option Addr} {sl_tell_out : Array (Option Value)} {oc_tell_out kV_tell_out dc_tell_out pm_tell_out cd_tell_out ct_tell_out : Value} {f_tell_longest : Addr} {od_tell_longest an_tell_longest : Option Addr} {sl_tell_longest : Array (Option Value)} {oc_tell_longest kV_tell_longest dc_tell_longest pm_tell_longest cd_tell_longest ct_tell_longest : Value} {f_tell_fewest : Addr} {od_tell_fewest an_tell_fewest : Option Addr} {sl_tell_fewest : Array (Option Value)} {oc_tell_fewest kV_tell_fewest dc_tell_fewest pm_tell_fewest cd_tell_fewest ct_tell_fewest : Value} {f_set_row : Addr} {od_set_row an_set_row : Option Addr} {sl_set_row : Array (Option Value)} {oc_set_row kV_set_row dc_set_row pm_set_row cd_set_row ct_set_row : Value} {f_tell_takes : Addr} {od_tell_takes an_tell_takes : Option Addr} {sl_tell_takes : Array (Option Value)} {oc_tell_takes kV_tell_takes dc_tell_takes pm_tell_takes cd_tell_takes ct_tell_takes : Value} {f_tell_least : Addr} {od_tell_least an_tell_least : Option Addr} {sl_tell_least : Array (Option Value)} {oc_tell_least kV_tell_least dc_tell_least pm_tell_least cd_tell_least ct_tell_least : Value} {f_tell_size : Addr} {od_tell_size an_tell_size : Option Addr} {sl_tell_size : Array (Option Value)} {oc_tell_size kV_tell_size dc_tell_size pm_tell_size cd_tell_size ct_tell_size : Value} {f_tell_left : Addr} {od_tell_left an_tell_left : Option Addr} {sl_tell_left : Array (Option Value)} {oc_tell_left kV_tell_left dc_tell_left pm_tell_left cd_tell_left ct_tell_left : Value} {f_tell_row : Addr} {od_tell_row an_tell_row : Option Addr} {sl_tell_row : Array (Option Value)} {oc_tell_row kV_tell_row dc_tell_row pm_tell_row cd_tell_row ct_tell_row : Value} {f_tell_sums : Addr} {od_tell_sums an_tell_sums : Option Addr} {sl_tell_sums : Array (Option Value)} {oc_tell_sums kV_tell_sums dc_tell_sums pm_tell_sums cd_tell_sums ct_tell_sums : Value} {f_answer : Addr} {od_answer an_answer : Option Addr} {sl_answer : Array (Option Value)} {oc_answer kV_answer dc_answer pm_answer cd_answer ct_answer : Value} {f_answers : Addr} {od_answers an_answers : Option Addr} {sl_answers : Array (Option Value)} {oc_answers kV_answers dc_answers pm_answers cd_answers ct_answers : Value} {k_BEGIN : Tok} {k_NO_SUCH_DIE : Tok} {k_ROW_EMPTY : Tok} {k_NOT_BEGUN : Tok} {k_DIE_IN_USE : Tok} {k_DIE_IN_ROW : Tok} {k_OUT_OF_BOUNDS : Tok} {k_NO_ROOM : Tok} {k_NOT_AS_IT_STANDS : Tok} {k_WOULD_NOT_HOLD : Tok} {k_LEAST_WIDTH : Tok} {k_GREATEST_WIDTH : Tok} {k_GREATEST_MOST : Tok} {k_GREATEST_OFF : Tok} {k_GREATEST_LIFE : Tok} {k_GREATEST_RUN : Tok} {k_STEP_OF_RUNS : Tok} {k_DIES_AT_MOST : Tok} {a_ANSWERED_BY : Addr} {sl_ANSWERED_BY : Array (Option Value)} {sz_ANSWERED_BY : Nat} {a_FOLLOWED_BY : Addr} {sl_FOLLOWED_BY : Array (Option Value)} {sz_FOLLOWED_BY : Nat} {t_FOLLOWED_BY_0 : Tok} {t_FOLLOWED_BY_1 : Tok} {t_FOLLOWED_BY_2 : Tok} {t_FOLLOWED_BY_3 : Tok} {t_FOLLOWED_BY_4 : Tok} {t_FOLLOWED_BY_5 : Tok} {t_FOLLOWED_BY_6 : Tok} {t_FOLLOWED_BY_7 : Tok} {t_FOLLOWED_BY_8 : Tok} {t_FOLLOWED_BY_9 : Tok} {t_FOLLOWED_BY_10 : Tok} {t_FOLLOWED_BY_11 : Tok} {t_FOLLOWED_BY_12 : Tok} {t_FOLLOWED_BY_13 : Tok} {t_FOLLOWED_BY_14 : Tok} {t_FOLLOWED_BY_15 : Tok} {t_FOLLOWED_BY_16 : Tok} {t_FOLLOWED_BY_17 : Tok} {t_FOLLOWED_BY_18 : Tok} {t_FOLLOWED_BY_19 : Tok} {t_FOLLOWED_BY_20 : Tok} {t_FOLLOWED_BY_21 : Tok}
    (aC_Die : PySem.W.nsIn K mainGlobals "Die" = some (some (.ref C_Die)))
    (aC_Bench : PySem.W.nsIn K mainGlobals "Bench" = some (some (.ref C_Bench)))
    (a_Die_init : PySem.W.findIn K (.ref C_Die) "__init__" = some (some (.ref f_Die_init)))
    (i_Die_init : PySem.W.isFn K (.ref f_Die_init) = true)
    (l_Die_init : K.lookup f_Die_init = some ⟨oc_Die_init, od_Die_init, .func (PySem.W.fnOf "__init__" "Die.__init__" (defArgs s_Die_init) (defBody s_Die_init) (defScope s_Die_init) .none kV_Die_init dc_Die_init pm_Die_init an_Die_init cd_Die_init ct_Die_init), sl_Die_init⟩)
    (c_Die_init : PySem.W.codeIn K cd_Die_init "Die.__init__" = true)
    (k_Die_init : PySem.W.keepIn K (.ref f_Die_init) = true)
    (a_Die_wide : PySem.W.findIn K (.ref C_Die) "wide" = some (some (.ref f_Die_wide)))
    (i_Die_wide : PySem.W.isFn K (.ref f_Die_wide) = true)
    (l_Die_wide : K.lookup f_Die_wide = some ⟨oc_Die_wide, od_Die_wide, .func (PySem.W.fnOf "wide" "Die.wide" (defArgs s_Die_wide) (defBody s_Die_wide) (defScope s_Die_wide) .none kV_Die_wide dc_Die_wide pm_Die_wide an_Die_wide cd_Die_wide ct_Die_wide), sl_Die_wide⟩)
    (c_Die_wide : PySem.W.codeIn K cd_Die_wide "Die.wide" = true)
    (k_Die_wide : PySem.W.keepIn K (.ref f_Die_wide) = true)
    (a_Die_wide_after : PySem.W.findIn K (.ref C_Die) "wide_after" = some (some (.ref f_Die_wide_after)))
    (i_Die_wide_after : PySem.W.isFn K (.ref f_Die_wide_after) = true)
    (l_Die_wide_after : K.lookup f_Die_wide_after = some ⟨oc_Die_wide_after, od_Die_wide_after, .func (PySem.W.fnOf "wide_after" "Die.wide_after" (defArgs s_Die_wide_after) (defBody s_Die_wide_after) (defScope s_Die_wide_after) .none kV_Die_wide_after dc_Die_wide_after pm_Die_wide_after an_Die_wide_after cd_Die_wide_after ct_Die_wide_after), sl_Die_wide_after⟩)
    (c_Die_wide_after : PySem.W.codeIn K cd_Die_wide_after "Die.wide_after" = true)
    (k_Die_wide_after : PySem.W.keepIn K (.ref f_Die_wide_after) = true)
    (a_Die_metres_left : PySem.W.findIn K (.ref C_Die) "metres_left" = some (some (.ref f_Die_metres_left)))
    (i_Die_metres_left : PySem.W.isFn K (.ref f_Die_metres_left) = true)
    (l_Die_metres_left : K.lookup f_Die_metres_left = some ⟨oc_Die_metres_left, od_Die_metres_left, .func (PySem.W.fnOf "metres_left" "Die.metres_left" (defArgs s_Die_metres_left) (defBody s_Die_metres_left) (defScope s_Die_metres_left) .none kV_Die_metres_left dc_Die_metres_left pm_Die_metres_left an_Die_metres_left cd_Die_metres_left ct_Die_metres_left), sl_Die_metres_left⟩)
    (c_Die_metres_left : PySem.W.codeIn K cd_Die_metres_left "Die.metres_left" = true)
    (k_Die_metres_left : PySem.W.keepIn K (.ref f_Die_metres_left) = true)
    (a_Die_grind : PySem.W.findIn K (.ref C_Die) "grind" = some (some (.ref f_Die_grind)))
    (i_Die_grind : PySem.W.isFn K (.ref f_Die_grind) = true)
    (l_Die_grind : K.lookup f_Die_grind = some ⟨oc_Die_grind, od_Die_grind, .func (PySem.W.fnOf "grind" "Die.grind" (defArgs s_Die_grind) (defBody s_Die_grind) (defScope s_Die_grind) .none kV_Die_grind dc_Die_grind pm_Die_grind an_Die_grind cd_Die_grind ct_Die_grind), sl_Die_grind⟩)
    (c_Die_grind : PySem.W.codeIn K cd_Die_grind "Die.grind" = true)
    (k_Die_grind : PySem.W.keepIn K (.ref f_Die_grind) = true)
    (a_Die_draw : PySem.W.findIn K (.ref C_Die) "draw" = some (some (.ref f_Die_draw)))
    (i_Die_draw : PySem.W.isFn K (.ref f_Die_draw) = true)
    (l_Die_draw : K.lookup f_Die_draw = some ⟨oc_Die_draw, od_Die_draw, .func (PySem.W.fnOf "draw" "Die.draw" (defArgs s_Die_draw) (defBody s_Die_draw) (defScope s_Die_draw) .none kV_Die_draw dc_Die_draw pm_Die_draw an_Die_draw cd_Die_draw ct_Die_draw), sl_Die_draw⟩)
    (c_Die_draw : PySem.W.codeIn K cd_Die_draw "Die.draw" = true)
    (k_Die_draw : PySem.W.keepIn K (.ref f_Die_draw) = true)
    (a_Bench_init : PySem.W.findIn K (.ref C_Bench) "__init__" = some (some (.ref f_Bench_init)))
    (i_Bench_init : PySem.W.isFn K (.ref f_Bench_init) = true)
    (l_Bench_init : K.lookup f_Bench_init = some ⟨oc_Bench_init, od_Bench_init, .func (PySem.W.fnOf "__init__" "Bench.__init__" (defArgs s_Bench_init) (defBody s_Bench_init) (defScope s_Bench_init) .none kV_Bench_init dc_Bench_init pm_Bench_init an_Bench_init cd_Bench_init ct_Bench_init), sl_Bench_init⟩)
    (c_Bench_init : PySem.W.codeIn K cd_Bench_init "Bench.__init__" = true)
    (k_Bench_init : PySem.W.keepIn K (.ref f_Bench_init) = true)
    (a_Bench_begin : PySem.W.findIn K (.ref C_Bench) "begin" = some (some (.ref f_Bench_begin)))
    (i_Bench_begin : PySem.W.isFn K (.ref f_Bench_begin) = true)
    (l_Bench_begin : K.lookup f_Bench_begin = some ⟨oc_Bench_begin, od_Bench_begin, .func (PySem.W.fnOf "begin" "Bench.begin" (defArgs s_Bench_begin) (defBody s_Bench_begin) (defScope s_Bench_begin) .none kV_Bench_begin dc_Bench_begin pm_Bench_begin an_Bench_begin cd_Bench_begin ct_Bench_begin), sl_Bench_begin⟩)
    (c_Bench_begin : PySem.W.codeIn K cd_Bench_begin "Bench.begin" = true)
    (k_Bench_begin : PySem.W.keepIn K (.ref f_Bench_begin) = true)
    (a_Bench_has_die : PySem.W.findIn K (.ref C_Bench) "has_die" = some (some (.ref f_Bench_has_die)))
    (i_Bench_has_die : PySem.W.isFn K (.ref f_Bench_has_die) = true)
    (l_Bench_has_die : K.lookup f_Bench_has_die = some ⟨oc_Bench_has_die, od_Bench_has_die, .func (PySem.W.fnOf "has_die" "Bench.has_die" (defArgs s_Bench_has_die) (defBody s_Bench_has_die) (defScope s_Bench_has_die) .none kV_Bench_has_die dc_Bench_has_die pm_Bench_has_die an_Bench_has_die cd_Bench_has_die ct_Bench_has_die), sl_Bench_has_die⟩)
    (c_Bench_has_die : PySem.W.codeIn K cd_Bench_has_die "Bench.has_die" = true)
    (k_Bench_has_die : PySem.W.keepIn K (.ref f_Bench_has_die) = true)
    (a_Bench_widths_of : PySem.W.findIn K (.ref C_Bench) "widths_of" = some (some (.ref f_Bench_widths_of)))
    (i_Bench_widths_of : PySem.W.isFn K (.ref f_Bench_widths_of) = true)
    (l_Bench_widths_of : K.lookup f_Bench_widths_of = some ⟨oc_Bench_widths_of, od_Bench_widths_of, .func (PySem.W.fnOf "widths_of" "Bench.widths_of" (defArgs s_Bench_widths_of) (defBody s_Bench_widths_of) (defScope s_Bench_widths_of) .none kV_Bench_widths_of dc_Bench_widths_of pm_Bench_widths_of an_Bench_widths_of cd_Bench_widths_of ct_Bench_widths_of), sl_Bench_widths_of⟩)
    (c_Bench_widths_of : PySem.W.codeIn K cd_Bench_widths_of "Bench.widths_of" = true)
    (k_Bench_widths_of : PySem.W.keepIn K (.ref f_Bench_widths_of) = true)
    (a_Bench_widths : PySem.W.findIn K (.ref C_Bench) "widths" = some (some (.ref f_Bench_widths)))
    (i_Bench_widths : PySem.W.isFn K (.ref f_Bench_widths) = true)
    (l_Bench_widths : K.lookup f_Bench_widths = some ⟨oc_Bench_widths, od_Bench_widths, .func (PySem.W.fnOf "widths" "Bench.widths" (defArgs s_Bench_widths) (defBody s_Bench_widths) (defScope s_Bench_widths) .none kV_Bench_widths dc_Bench_widths pm_Bench_widths an_Bench_widths cd_Bench_widths ct_Bench_widths), sl_Bench_widths⟩)
    (c_Bench_widths : PySem.W.codeIn K cd_Bench_widths "Bench.widths" = true)
    (k_Bench_widths : PySem.W.keepIn K (.ref f_Bench_widths) = true)
    (a_Bench_widths_after : PySem.W.findIn K (.ref C_Bench) "widths_after" = some (some (.ref f_Bench_widths_after)))
    (i_Bench_widths_after : PySem.W.isFn K (.ref f_Bench_widths_after) = true)
    (l_Bench_widths_after : K.lookup f_Bench_widths_after = some ⟨oc_Bench_widths_after, od_Bench_widths_after, .func (PySem.W.fnOf "widths_after" "Bench.widths_after" (defArgs s_Bench_widths_after) (defBody s_Bench_widths_after) (defScope s_Bench_widths_after) .none kV_Bench_widths_after dc_Bench_widths_after pm_Bench_widths_after an_Bench_widths_after cd_Bench_widths_after ct_Bench_widths_after), sl_Bench_widths_after⟩)
    (c_Bench_widths_after : PySem.W.codeIn K cd_Bench_widths_after "Bench.widths_after" = true)
    (k_Bench_widths_after : PySem.W.keepIn K (.ref f_Bench_widths_after) = true)
    (a_Bench_wide_out : PySem.W.findIn K (.ref C_Bench) "wide_out" = some (some (.ref f_Bench_wide_out)))
    (i_Bench_wide_out : PySem.W.isFn K (.ref f_Bench_wide_out) = true)
    (l_Bench_wide_out : K.lookup f_Bench_wide_out = some ⟨oc_Bench_wide_out, od_Bench_wide_out, .func (PySem.W.fnOf "wide_out" "Bench.wide_out" (defArgs s_Bench_wide_out) (defBody s_Bench_wide_out) (defScope s_Bench_wide_out) .none kV_Bench_wide_out dc_Bench_wide_out pm_Bench_wide_out an_Bench_wide_out cd_Bench_wide_out ct_Bench_wide_out), sl_Bench_wide_out⟩)
    (c_Bench_wide_out : PySem.W.codeIn K cd_Bench_wide_out "Bench.wide_out" = true)
    (k_Bench_wide_out : PySem.W.keepIn K (.ref f_Bench_wide_out) = true)
    (a_Bench_wide_ahead : PySem.W.findIn K (.ref C_Bench) "wide_ahead" = some (some (.ref f_Bench_wide_ahead)))
    (i_Bench_wide_ahead : PySem.W.isFn K (.ref f_Bench_wide_ahead) = true)
    (l_Bench_wide_ahead : K.lookup f_Bench_wide_ahead = some ⟨oc_Bench_wide_ahead, od_Bench_wide_ahead, .func (PySem.W.fnOf "wide_ahead" "Bench.wide_ahead" (defArgs s_Bench_wide_ahead) (defBody s_Bench_wide_ahead) (defScope s_Bench_wide_ahead) .none kV_Bench_wide_ahead dc_Bench_wide_ahead pm_Bench_wide_ahead an_Bench_wide_ahead cd_Bench_wide_ahead ct_Bench_wide_ahead), sl_Bench_wide_ahead⟩)
    (c_Bench_wide_ahead : PySem.W.codeIn K cd_Bench_wide_ahead "Bench.wide_ahead" = true)
    (k_Bench_wide_ahead : PySem.W.keepIn K (.ref f_Bench_wide_ahead) = true)
    (a_Bench_reaches : PySem.W.findIn K (.ref C_Bench) "reaches" = some (some (.ref f_Bench_reaches)))
    (i_Bench_reaches : PySem.W.isFn K (.ref f_Bench_reaches) = true)
    (l_Bench_reaches : K.lookup f_Bench_reaches = some ⟨oc_Bench_reaches, od_Bench_reaches, .func (PySem.W.fnOf "reaches" "Bench.reaches" (defArgs s_Bench_reaches) (defBody s_Bench_reaches) (defScope s_Bench_reaches) .none kV_Bench_reaches dc_Bench_reaches pm_Bench_reaches an_Bench_reaches cd_Bench_reaches ct_Bench_reaches), sl_Bench_reaches⟩)
    (c_Bench_reaches : PySem.W.codeIn K cd_Bench_reaches "Bench.reaches" = true)
    (k_Bench_reaches : PySem.W.keepIn K (.ref f_Bench_reaches) = true)
    (a_Bench_wrong_place : PySem.W.findIn K (.ref C_Bench) "wrong_place" = some (some (.ref f_Bench_wrong_place)))
    (i_Bench_wrong_place : PySem.W.isFn K (.ref f_Bench_wrong_place) = true)
    (l_Bench_wrong_place : K.lookup f_Bench_wrong_place = some ⟨oc_Bench_wrong_place, od_Bench_wrong_place, .func (PySem.W.fnOf "wrong_place" "Bench.wrong_place" (defArgs s_Bench_wrong_place) (defBody s_Bench_wrong_place) (defScope s_Bench_wrong_place) .none kV_Bench_wrong_place dc_Bench_wrong_place pm_Bench_wrong_place an_Bench_wrong_place cd_Bench_wrong_place ct_Bench_wrong_place), sl_Bench_wrong_place⟩)
    (c_Bench_wrong_place : PySem.W.codeIn K cd_Bench_wrong_place "Bench.wrong_place" = true)
    (k_Bench_wrong_place : PySem.W.keepIn K (.ref f_Bench_wrong_place) = true)
    (a_Bench_holds : PySem.W.findIn K (.ref C_Bench) "holds" = some (some (.ref f_Bench_holds)))
    (i_Bench_holds : PySem.W.isFn K (.ref f_Bench_holds) = true)
    (l_Bench_holds : K.lookup f_Bench_holds = some ⟨oc_Bench_holds, od_Bench_holds, .func (PySem.W.fnOf "holds" "Bench.holds" (defArgs s_Bench_holds) (defBody s_Bench_holds) (defScope s_Bench_holds) .none kV_Bench_holds dc_Bench_holds pm_Bench_holds an_Bench_holds cd_Bench_holds ct_Bench_holds), sl_Bench_holds⟩)
    (c_Bench_holds : PySem.W.codeIn K cd_Bench_holds "Bench.holds" = true)
    (k_Bench_holds : PySem.W.keepIn K (.ref f_Bench_holds) = true)
    (a_Bench_metres_out : PySem.W.findIn K (.ref C_Bench) "metres_out" = some (some (.ref f_Bench_metres_out)))
    (i_Bench_metres_out : PySem.W.isFn K (.ref f_Bench_metres_out) = true)
    (l_Bench_metres_out : K.lookup f_Bench_metres_out = some ⟨oc_Bench_metres_out, od_Bench_metres_out, .func (PySem.W.fnOf "metres_out" "Bench.metres_out" (defArgs s_Bench_metres_out) (defBody s_Bench_metres_out) (defScope s_Bench_metres_out) .none kV_Bench_metres_out dc_Bench_metres_out pm_Bench_metres_out an_Bench_metres_out cd_Bench_metres_out ct_Bench_metres_out), sl_Bench_metres_out⟩)
    (c_Bench_metres_out : PySem.W.codeIn K cd_Bench_metres_out "Bench.metres_out" = true)
    (k_Bench_metres_out : PySem.W.keepIn K (.ref f_Bench_metres_out) = true)
    (a_Bench_draw : PySem.W.findIn K (.ref C_Bench) "draw" = some (some (.ref f_Bench_draw)))
    (i_Bench_draw : PySem.W.isFn K (.ref f_Bench_draw) = true)
    (l_Bench_draw : K.lookup f_Bench_draw = some ⟨oc_Bench_draw, od_Bench_draw, .func (PySem.W.fnOf "draw" "Bench.draw" (defArgs s_Bench_draw) (defBody s_Bench_draw) (defScope s_Bench_draw) .none kV_Bench_draw dc_Bench_draw pm_Bench_draw an_Bench_draw cd_Bench_draw ct_Bench_draw), sl_Bench_draw⟩)
    (c_Bench_draw : PySem.W.codeIn K cd_Bench_draw "Bench.draw" = true)
    (k_Bench_draw : PySem.W.keepIn K (.ref f_Bench_draw) = true)
    (a_Bench_fewest_dies : PySem.W.findIn K (.ref C_Bench) "fewest_dies" = some (some (.ref f_Bench_fewest_dies)))
    (i_Bench_fewest_dies : PySem.W.isFn K (.ref f_Bench_fewest_dies) = true)
    (l_Bench_fewest_dies : K.lookup f_Bench_fewest_dies = some ⟨oc_Bench_fewest_dies, od_Bench_fewest_dies, .func (PySem.W.fnOf "fewest_dies" "Bench.fewest_dies" (defArgs s_Bench_fewest_dies) (defBody s_Bench_fewest_dies) (defScope s_Bench_fewest_dies) .none kV_Bench_fewest_dies dc_Bench_fewest_dies pm_Bench_fewest_dies an_Bench_fewest_dies cd_Bench_fewest_dies ct_Bench_fewest_dies), sl_Bench_fewest_dies⟩)
    (c_Bench_fewest_dies : PySem.W.codeIn K cd_Bench_fewest_dies "Bench.fewest_dies" = true)
    (k_Bench_fewest_dies : PySem.W.keepIn K (.ref f_Bench_fewest_dies) = true)
    (a_Bench_rows_one_longer : PySem.W.findIn K (.ref C_Bench) "rows_one_longer" = some (some (.ref f_Bench_rows_one_longer)))
    (i_Bench_rows_one_longer : PySem.W.isFn K (.ref f_Bench_rows_one_longer) = true)
    (l_Bench_rows_one_longer : K.lookup f_Bench_rows_one_longer = some ⟨oc_Bench_rows_one_longer, od_Bench_rows_one_longer, .func (PySem.W.fnOf "rows_one_longer" "Bench.rows_one_longer" (defArgs s_Bench_rows_one_longer) (defBody s_Bench_rows_one_longer) (defScope s_Bench_rows_one_longer) .none kV_Bench_rows_one_longer dc_Bench_rows_one_longer pm_Bench_rows_one_longer an_Bench_rows_one_longer cd_Bench_rows_one_longer ct_Bench_rows_one_longer), sl_Bench_rows_one_longer⟩)
    (c_Bench_rows_one_longer : PySem.W.codeIn K cd_Bench_rows_one_longer "Bench.rows_one_longer" = true)
    (k_Bench_rows_one_longer : PySem.W.keepIn K (.ref f_Bench_rows_one_longer) = true)
    (a_most_lets : PySem.W.nsIn K mainGlobals "most_lets" = some (some (.ref f_most_lets)))
    (l_most_lets : K.lookup f_most_lets = some ⟨oc_most_lets, od_most_lets, .func (PySem.W.fnOf "most_lets" "most_lets" (defArgs s_most_lets) (defBody s_most_lets) (defScope s_most_lets) .none kV_most_lets dc_most_lets pm_most_lets an_most_lets cd_most_lets ct_most_lets), sl_most_lets⟩)
    (c_most_lets : PySem.W.codeIn K cd_most_lets "most_lets" = true)
    (k_most_lets : PySem.W.keepIn K (.ref f_most_lets) = true)
    (a_goes : PySem.W.nsIn K mainGlobals "goes" = some (some (.ref f_goes)))
    (l_goes : K.lookup f_goes = some ⟨oc_goes, od_goes, .func (PySem.W.fnOf "goes" "goes" (defArgs s_goes) (defBody s_goes) (defScope s_goes) .none kV_goes dc_goes pm_goes an_goes cd_goes ct_goes), sl_goes⟩)
    (c_goes : PySem.W.codeIn K cd_goes "goes" = true)
    (k_goes : PySem.W.keepIn K (.ref f_goes) = true)
    (a_least_width : PySem.W.nsIn K mainGlobals "least_width" = some (some (.ref f_least_width)))
    (l_least_width : K.lookup f_least_width = some ⟨oc_least_width, od_least_width, .func (PySem.W.fnOf "least_width" "least_width" (defArgs s_least_width) (defBody s_least_width) (defScope s_least_width) .none kV_least_width dc_least_width pm_least_width an_least_width cd_least_width ct_least_width), sl_least_width⟩)
    (c_least_width : PySem.W.codeIn K cd_least_width "least_width" = true)
    (k_least_width : PySem.W.keepIn K (.ref f_least_width) = true)
    (a_metres_through : PySem.W.nsIn K mainGlobals "metres_through" = some (some (.ref f_metres_through)))
    (l_metres_through : K.lookup f_metres_through = some ⟨oc_metres_through, od_metres_through, .func (PySem.W.fnOf "metres_through" "metres_through" (defArgs s_metres_through) (defBody s_metres_through) (defScope s_metres_through) .none kV_metres_through dc_metres_through pm_metres_through an_metres_through cd_metres_through ct_metres_through), sl_metres_through⟩)
    (c_metres_through : PySem.W.codeIn K cd_metres_through "metres_through" = true)
    (k_metres_through : PySem.W.keepIn K (.ref f_metres_through) = true)
    (a_greatest_in_common : PySem.W.nsIn K mainGlobals "greatest_in_common" = some (some (.ref f_greatest_in_common)))
    (l_greatest_in_common : K.lookup f_greatest_in_common = some ⟨oc_greatest_in_common, od_greatest_in_common, .func (PySem.W.fnOf "greatest_in_common" "greatest_in_common" (defArgs s_greatest_in_common) (defBody s_greatest_in_common) (defScope s_greatest_in_common) .none kV_greatest_in_common dc_greatest_in_common pm_greatest_in_common an_greatest_in_common cd_greatest_in_common ct_greatest_in_common), sl_greatest_in_common⟩)
    (c_greatest_in_common : PySem.W.codeIn K cd_greatest_in_common "greatest_in_common" = true)
    (k_greatest_in_common : PySem.W.keepIn K (.ref f_greatest_in_common) = true)
    (a_part_taken : PySem.W.nsIn K mainGlobals "part_taken" = some (some (.ref f_part_taken)))
    (l_part_taken : K.lookup f_part_taken = some ⟨oc_part_taken, od_part_taken, .func (PySem.W.fnOf "part_taken" "part_taken" (defArgs s_part_taken) (defBody s_part_taken) (defScope s_part_taken) .none kV_part_taken dc_part_taken pm_part_taken an_part_taken cd_part_taken ct_part_taken), sl_part_taken⟩)
    (c_part_taken : PySem.W.codeIn K cd_part_taken "part_taken" = true)
    (k_part_taken : PySem.W.keepIn K (.ref f_part_taken) = true)
    (a_is_width : PySem.W.nsIn K mainGlobals "is_width" = some (some (.ref f_is_width)))
    (l_is_width : K.lookup f_is_width = some ⟨oc_is_width, od_is_width, .func (PySem.W.fnOf "is_width" "is_width" (defArgs s_is_width) (defBody s_is_width) (defScope s_is_width) .none kV_is_width dc_is_width pm_is_width an_is_width cd_is_width ct_is_width), sl_is_width⟩)
    (c_is_width : PySem.W.codeIn K cd_is_width "is_width" = true)
    (k_is_width : PySem.W.keepIn K (.ref f_is_width) = true)
    (a_can_be_wanted : PySem.W.nsIn K mainGlobals "can_be_wanted" = some (some (.ref f_can_be_wanted)))
    (l_can_be_wanted : K.lookup f_can_be_wanted = some ⟨oc_can_be_wanted, od_can_be_wanted, .func (PySem.W.fnOf "can_be_wanted" "can_be_wanted" (defArgs s_can_be_wanted) (defBody s_can_be_wanted) (defScope s_can_be_wanted) .none kV_can_be_wanted dc_can_be_wanted pm_can_be_wanted an_can_be_wanted cd_can_be_wanted ct_can_be_wanted), sl_can_be_wanted⟩)
    (c_can_be_wanted : PySem.W.codeIn K cd_can_be_wanted "can_be_wanted" = true)
    (k_can_be_wanted : PySem.W.keepIn K (.ref f_can_be_wanted) = true)
    (a_begin : PySem.W.nsIn K mainGlobals "begin" = some (some (.ref f_begin)))
    (l_begin : K.lookup f_begin = some ⟨oc_begin, od_begin, .func (PySem.W.fnOf "begin" "begin" (defArgs s_begin) (defBody s_begin) (defScope s_begin) .none kV_begin dc_begin pm_begin an_begin cd_begin ct_begin), sl_begin⟩)
    (c_begin : PySem.W.codeIn K cd_begin "begin" = true)
    (k_begin : PySem.W.keepIn K (.ref f_begin) = true)
    (a_add_die : PySem.W.nsIn K mainGlobals "add_die" = some (some (.ref f_add_die)))
    (l_add_die : K.lookup f_add_die = some ⟨oc_add_die, od_add_die, .func (PySem.W.fnOf "add_die" "add_die" (defArgs s_add_die) (defBody s_add_die) (defScope s_add_die) .none kV_add_die dc_add_die pm_add_die an_add_die cd_add_die ct_add_die), sl_add_die⟩)
    (c_add_die : PySem.W.codeIn K cd_add_die "add_die" = true)
    (k_add_die : PySem.W.keepIn K (.ref f_add_die) = true)
    (a_grind : PySem.W.nsIn K mainGlobals "grind" = some (some (.ref f_grind)))
    (l_grind : K.lookup f_grind = some ⟨oc_grind, od_grind, .func (PySem.W.fnOf "grind" "grind" (defArgs s_grind) (defBody s_grind) (defScope s_grind) .none kV_grind dc_grind pm_grind an_grind cd_grind ct_grind), sl_grind⟩)
    (c_grind : PySem.W.codeIn K cd_grind "grind" = true)
    (k_grind : PySem.W.keepIn K (.ref f_grind) = true)
    (a_change_rod : PySem.W.nsIn K mainGlobals "change_rod" = some (some (.ref f_change_rod)))
    (l_change_rod : K.lookup f_change_rod = some ⟨oc_change_rod, od_change_rod, .func (PySem.W.fnOf "change_rod" "change_rod" (defArgs s_change_rod) (defBody s_change_rod) (defScope s_change_rod) .none kV_change_rod dc_change_rod pm_change_rod an_change_rod cd_change_rod ct_change_rod), sl_change_rod⟩)
    (c_change_rod : PySem.W.codeIn K cd_change_rod "change_rod" = true)
    (k_change_rod : PySem.W.keepIn K (.ref f_change_rod) = true)
    (a_change_want : PySem.W.nsIn K mainGlobals "change_want" = some (some (.ref f_change_want)))
    (l_change_want : K.lookup f_change_want = some ⟨oc_change_want, od_change_want, .func (PySem.W.fnOf "change_want" "change_want" (defArgs s_change_want) (defBody s_change_want) (defScope s_change_want) .none kV_change_want dc_change_want pm_change_want an_change_want cd_change_want ct_change_want), sl_change_want⟩)
    (c_change_want : PySem.W.codeIn K cd_change_want "change_want" = true)
    (k_change_want : PySem.W.keepIn K (.ref f_change_want) = true)
    (a_put : PySem.W.nsIn K mainGlobals "put" = some (some (.ref f_put)))
    (l_put : K.lookup f_put = some ⟨oc_put, od_put, .func (PySem.W.fnOf "put" "put" (defArgs s_put) (defBody s_put) (defScope s_put) .none kV_put dc_put pm_put an_put cd_put ct_put), sl_put⟩)
    (c_put : PySem.W.codeIn K cd_put "put" = true)
    (k_put : PySem.W.keepIn K (.ref f_put) = true)
    (a_take : PySem.W.nsIn K mainGlobals "take" = some (some (.ref f_take)))
    (l_take : K.lookup f_take = some ⟨oc_take, od_take, .func (PySem.W.fnOf "take" "take" (defArgs s_take) (defBody s_take) (defScope s_take) .none kV_take dc_take pm_take an_take cd_take ct_take), sl_take⟩)
    (c_take : PySem.W.codeIn K cd_take "take" = true)
    (k_take : PySem.W.keepIn K (.ref f_take) = true)
    (a_empty_row : PySem.W.nsIn K mainGlobals "empty_row" = some (some (.ref f_empty_row)))
    (l_empty_row : K.lookup f_empty_row = some ⟨oc_empty_row, od_empty_row, .func (PySem.W.fnOf "empty_row" "empty_row" (defArgs s_empty_row) (defBody s_empty_row) (defScope s_empty_row) .none kV_empty_row dc_empty_row pm_empty_row an_empty_row cd_empty_row ct_empty_row), sl_empty_row⟩)
    (c_empty_row : PySem.W.codeIn K cd_empty_row "empty_row" = true)
    (k_empty_row : PySem.W.keepIn K (.ref f_empty_row) = true)
    (a_tell_holds : PySem.W.nsIn K mainGlobals "tell_holds" = some (some (.ref f_tell_holds)))
    (l_tell_holds : K.lookup f_tell_holds = some ⟨oc_tell_holds, od_tell_holds, .func (PySem.W.fnOf "tell_holds" "tell_holds" (defArgs s_tell_holds) (defBody s_tell_holds) (defScope s_tell_holds) .none kV_tell_holds dc_tell_holds pm_tell_holds an_tell_holds cd_tell_holds ct_tell_holds), sl_tell_holds⟩)
    (c_tell_holds : PySem.W.codeIn K cd_tell_holds "tell_holds" = true)
    (k_tell_holds : PySem.W.keepIn K (.ref f_tell_holds) = true)
    (a_tell_wrong : PySem.W.nsIn K mainGlobals "tell_wrong" = some (some (.ref f_tell_wrong)))
    (l_tell_wrong : K.lookup f_tell_wrong = some ⟨oc_tell_wrong, od_tell_wrong, .func (PySem.W.fnOf "tell_wrong" "tell_wrong" (defArgs s_tell_wrong) (defBody s_tell_wrong) (defScope s_tell_wrong) .none kV_tell_wrong dc_tell_wrong pm_tell_wrong an_tell_wrong cd_tell_wrong ct_tell_wrong), sl_tell_wrong⟩)
    (c_tell_wrong : PySem.W.codeIn K cd_tell_wrong "tell_wrong" = true)
    (k_tell_wrong : PySem.W.keepIn K (.ref f_tell_wrong) = true)
    (a_run_refusal : PySem.W.nsIn K mainGlobals "run_refusal" = some (some (.ref f_run_refusal)))
    (l_run_refusal : K.lookup f_run_refusal = some ⟨oc_run_refusal, od_run_refusal, .func (PySem.W.fnOf "run_refusal" "run_refusal" (defArgs s_run_refusal) (defBody s_run_refusal) (defScope s_run_refusal) .none kV_run_refusal dc_run_refusal pm_run_refusal an_run_refusal cd_run_refusal ct_run_refusal), sl_run_refusal⟩)
    (c_run_refusal : PySem.W.codeIn K cd_run_refusal "run_refusal" = true)
    (k_run_refusal : PySem.W.keepIn K (.ref f_run_refusal) = true)
    (a_run : PySem.W.nsIn K mainGlobals "run" = some (some (.ref f_run)))
    (l_run : K.lookup f_run = some ⟨oc_run, od_run, .func (PySem.W.fnOf "run" "run" (defArgs s_run) (defBody s_run) (defScope s_run) .none kV_run dc_run pm_run an_run cd_run ct_run), sl_run⟩)
    (c_run : PySem.W.codeIn K cd_run "run" = true)
    (k_run : PySem.W.keepIn K (.ref f_run) = true)
    (a_tell_may : PySem.W.nsIn K mainGlobals "tell_may" = some (some (.ref f_tell_may)))
    (l_tell_may : K.lookup f_tell_may = some ⟨oc_tell_may, od_tell_may, .func (PySem.W.fnOf "tell_may" "tell_may" (defArgs s_tell_may) (defBody s_tell_may) (defScope s_tell_may) .none kV_tell_may dc_tell_may pm_tell_may an_tell_may cd_tell_may ct_tell_may), sl_tell_may⟩)
    (c_tell_may : PySem.W.codeIn K cd_tell_may "tell_may" = true)
    (k_tell_may : PySem.W.keepIn K (.ref f_tell_may) = true)
    (a_tell_out : PySem.W.nsIn K mainGlobals "tell_out" = some (some (.ref f_tell_out)))
    (l_tell_out : K.lookup f_tell_out = some ⟨oc_tell_out, od_tell_out, .func (PySem.W.fnOf "tell_out" "tell_out" (defArgs s_tell_out) (defBody s_tell_out) (defScope s_tell_out) .none kV_tell_out dc_tell_out pm_tell_out an_tell_out cd_tell_out ct_tell_out), sl_tell_out⟩)
    (c_tell_out : PySem.W.codeIn K cd_tell_out "tell_out" = true)
    (k_tell_out : PySem.W.keepIn K (.ref f_tell_out) = true)
    (a_tell_longest : PySem.W.nsIn K mainGlobals "tell_longest" = some (some (.ref f_tell_longest)))
    (l_tell_longest : K.lookup f_tell_longest = some ⟨oc_tell_longest, od_tell_longest, .func (PySem.W.fnOf "tell_longest" "tell_longest" (defArgs s_tell_longest) (defBody s_tell_longest) (defScope s_tell_longest) .none kV_tell_longest dc_tell_longest pm_tell_longest an_tell_longest cd_tell_longest ct_tell_longest), sl_tell_longest⟩)
    (c_tell_longest : PySem.W.codeIn K cd_tell_longest "tell_longest" = true)
    (k_tell_longest : PySem.W.keepIn K (.ref f_tell_longest) = true)
    (a_tell_fewest : PySem.W.nsIn K mainGlobals "tell_fewest" = some (some (.ref f_tell_fewest)))
    (l_tell_fewest : K.lookup f_tell_fewest = some ⟨oc_tell_fewest, od_tell_fewest, .func (PySem.W.fnOf "tell_fewest" "tell_fewest" (defArgs s_tell_fewest) (defBody s_tell_fewest) (defScope s_tell_fewest) .none kV_tell_fewest dc_tell_fewest pm_tell_fewest an_tell_fewest cd_tell_fewest ct_tell_fewest), sl_tell_fewest⟩)
    (c_tell_fewest : PySem.W.codeIn K cd_tell_fewest "tell_fewest" = true)
    (k_tell_fewest : PySem.W.keepIn K (.ref f_tell_fewest) = true)
    (a_set_row : PySem.W.nsIn K mainGlobals "set_row" = some (some (.ref f_set_row)))
    (l_set_row : K.lookup f_set_row = some ⟨oc_set_row, od_set_row, .func (PySem.W.fnOf "set_row" "set_row" (defArgs s_set_row) (defBody s_set_row) (defScope s_set_row) .none kV_set_row dc_set_row pm_set_row an_set_row cd_set_row ct_set_row), sl_set_row⟩)
    (c_set_row : PySem.W.codeIn K cd_set_row "set_row" = true)
    (k_set_row : PySem.W.keepIn K (.ref f_set_row) = true)
    (a_tell_takes : PySem.W.nsIn K mainGlobals "tell_takes" = some (some (.ref f_tell_takes)))
    (l_tell_takes : K.lookup f_tell_takes = some ⟨oc_tell_takes, od_tell_takes, .func (PySem.W.fnOf "tell_takes" "tell_takes" (defArgs s_tell_takes) (defBody s_tell_takes) (defScope s_tell_takes) .none kV_tell_takes dc_tell_takes pm_tell_takes an_tell_takes cd_tell_takes ct_tell_takes), sl_tell_takes⟩)
    (c_tell_takes : PySem.W.codeIn K cd_tell_takes "tell_takes" = true)
    (k_tell_takes : PySem.W.keepIn K (.ref f_tell_takes) = true)
    (a_tell_least : PySem.W.nsIn K mainGlobals "tell_least" = some (some (.ref f_tell_least)))
    (l_tell_least : K.lookup f_tell_least = some ⟨oc_tell_least, od_tell_least, .func (PySem.W.fnOf "tell_least" "tell_least" (defArgs s_tell_least) (defBody s_tell_least) (defScope s_tell_least) .none kV_tell_least dc_tell_least pm_tell_least an_tell_least cd_tell_least ct_tell_least), sl_tell_least⟩)
    (c_tell_least : PySem.W.codeIn K cd_tell_least "tell_least" = true)
    (k_tell_least : PySem.W.keepIn K (.ref f_tell_least) = true)
    (a_tell_size : PySem.W.nsIn K mainGlobals "tell_size" = some (some (.ref f_tell_size)))
    (l_tell_size : K.lookup f_tell_size = some ⟨oc_tell_size, od_tell_size, .func (PySem.W.fnOf "tell_size" "tell_size" (defArgs s_tell_size) (defBody s_tell_size) (defScope s_tell_size) .none kV_tell_size dc_tell_size pm_tell_size an_tell_size cd_tell_size ct_tell_size), sl_tell_size⟩)
    (c_tell_size : PySem.W.codeIn K cd_tell_size "tell_size" = true)
    (k_tell_size : PySem.W.keepIn K (.ref f_tell_size) = true)
    (a_tell_left : PySem.W.nsIn K mainGlobals "tell_left" = some (some (.ref f_tell_left)))
    (l_tell_left : K.lookup f_tell_left = some ⟨oc_tell_left, od_tell_left, .func (PySem.W.fnOf "tell_left" "tell_left" (defArgs s_tell_left) (defBody s_tell_left) (defScope s_tell_left) .none kV_tell_left dc_tell_left pm_tell_left an_tell_left cd_tell_left ct_tell_left), sl_tell_left⟩)
    (c_tell_left : PySem.W.codeIn K cd_tell_left "tell_left" = true)
    (k_tell_left : PySem.W.keepIn K (.ref f_tell_left) = true)
    (a_tell_row : PySem.W.nsIn K mainGlobals "tell_row" = some (some (.ref f_tell_row)))
    (l_tell_row : K.lookup f_tell_row = some ⟨oc_tell_row, od_tell_row, .func (PySem.W.fnOf "tell_row" "tell_row" (defArgs s_tell_row) (defBody s_tell_row) (defScope s_tell_row) .none kV_tell_row dc_tell_row pm_tell_row an_tell_row cd_tell_row ct_tell_row), sl_tell_row⟩)
    (c_tell_row : PySem.W.codeIn K cd_tell_row "tell_row" = true)
    (k_tell_row : PySem.W.keepIn K (.ref f_tell_row) = true)
    (a_tell_sums : PySem.W.nsIn K mainGlobals "tell_sums" = some (some (.ref f_tell_sums)))
    (l_tell_sums : K.lookup f_tell_sums = some ⟨oc_tell_sums, od_tell_sums, .func (PySem.W.fnOf "tell_sums" "tell_sums" (defArgs s_tell_sums) (defBody s_tell_sums) (defScope s_tell_sums) .none kV_tell_sums dc_tell_sums pm_tell_sums an_tell_sums cd_tell_sums ct_tell_sums), sl_tell_sums⟩)
    (c_tell_sums : PySem.W.codeIn K cd_tell_sums "tell_sums" = true)
    (k_tell_sums : PySem.W.keepIn K (.ref f_tell_sums) = true)
    (a_answer : PySem.W.nsIn K mainGlobals "answer" = some (some (.ref f_answer)))
    (l_answer : K.lookup f_answer = some ⟨oc_answer, od_answer, .func (PySem.W.fnOf "answer" "answer" (defArgs s_answer) (defBody s_answer) (defScope s_answer) .none kV_answer dc_answer pm_answer an_answer cd_answer ct_answer), sl_answer⟩)
    (c_answer : PySem.W.codeIn K cd_answer "answer" = true)
    (k_answer : PySem.W.keepIn K (.ref f_answer) = true)
    (a_answers : PySem.W.nsIn K mainGlobals "answers" = some (some (.ref f_answers)))
    (l_answers : K.lookup f_answers = some ⟨oc_answers, od_answers, .func (PySem.W.fnOf "answers" "answers" (defArgs s_answers) (defBody s_answers) (defScope s_answers) .none kV_answers dc_answers pm_answers an_answers cd_answers ct_answers), sl_answers⟩)
    (c_answers : PySem.W.codeIn K cd_answers "answers" = true)
    (k_answers : PySem.W.keepIn K (.ref f_answers) = true)
    (pg_Die : PySem.W.plainGet K C_Die Str.empty = true)
    (hd_Die : PySem.W.hasDictIn K C_Die = true)
    (po_Die : PySem.W.plainOver K C_Die = true)
    (sa_Die : PySem.W.findIn K (.ref C_Die) "__setattr__" = some (some (.builtin "object.__setattr__")))
    (mk_Die : PySem.W.makesIn K C_Die = true)
    (kc_Die : PySem.W.keepIn K (.ref C_Die) = true)
    (n_Die_ground : PySem.W.findIn K (.ref C_Die) "ground" = some none)
    (n_Die_life : PySem.W.findIn K (.ref C_Die) "life" = some none)
    (n_Die_drawn : PySem.W.findIn K (.ref C_Die) "drawn" = some none)
    (pg_Bench : PySem.W.plainGet K C_Bench Str.empty = true)
    (hd_Bench : PySem.W.hasDictIn K C_Bench = true)
    (po_Bench : PySem.W.plainOver K C_Bench = true)
    (sa_Bench : PySem.W.findIn K (.ref C_Bench) "__setattr__" = some (some (.builtin "object.__setattr__")))
    (mk_Bench : PySem.W.makesIn K C_Bench = true)
    (kc_Bench : PySem.W.keepIn K (.ref C_Bench) = true)
    (n_Bench_begun : PySem.W.findIn K (.ref C_Bench) "begun" = some none)
    (n_Bench_rod : PySem.W.findIn K (.ref C_Bench) "rod" = some none)
    (n_Bench_most : PySem.W.findIn K (.ref C_Bench) "most" = some none)
    (n_Bench_want : PySem.W.findIn K (.ref C_Bench) "want" = some none)
    (n_Bench_off : PySem.W.findIn K (.ref C_Bench) "off" = some none)
    (n_Bench_dies : PySem.W.findIn K (.ref C_Bench) "dies" = some none)
    (n_Bench_row : PySem.W.findIn K (.ref C_Bench) "row" = some none)
    (n_Bench_metres_drawn : PySem.W.findIn K (.ref C_Bench) "metres_drawn" = some none)
    (g_BEGIN : PySem.W.nsIn K mainGlobals "BEGIN" = some (some (.int (0) k_BEGIN)))
    (g_NO_SUCH_DIE : PySem.W.nsIn K mainGlobals "NO_SUCH_DIE" = some (some (.int (-2) k_NO_SUCH_DIE)))
    (g_ROW_EMPTY : PySem.W.nsIn K mainGlobals "ROW_EMPTY" = some (some (.int (-6) k_ROW_EMPTY)))
    (g_NOT_BEGUN : PySem.W.nsIn K mainGlobals "NOT_BEGUN" = some (some (.int (-11) k_NOT_BEGUN)))
    (g_DIE_IN_USE : PySem.W.nsIn K mainGlobals "DIE_IN_USE" = some (some (.int (-16) k_DIE_IN_USE)))
    (g_DIE_IN_ROW : PySem.W.nsIn K mainGlobals "DIE_IN_ROW" = some (some (.int (-17) k_DIE_IN_ROW)))
    (g_OUT_OF_BOUNDS : PySem.W.nsIn K mainGlobals "OUT_OF_BOUNDS" = some (some (.int (-22) k_OUT_OF_BOUNDS)))
    (g_NO_ROOM : PySem.W.nsIn K mainGlobals "NO_ROOM" = some (some (.int (-28) k_NO_ROOM)))
    (g_NOT_AS_IT_STANDS : PySem.W.nsIn K mainGlobals "NOT_AS_IT_STANDS" = some (some (.int (-33) k_NOT_AS_IT_STANDS)))
    (g_WOULD_NOT_HOLD : PySem.W.nsIn K mainGlobals "WOULD_NOT_HOLD" = some (some (.int (-61) k_WOULD_NOT_HOLD)))
    (g_LEAST_WIDTH : PySem.W.nsIn K mainGlobals "LEAST_WIDTH" = some (some (.int (100) k_LEAST_WIDTH)))
    (g_GREATEST_WIDTH : PySem.W.nsIn K mainGlobals "GREATEST_WIDTH" = some (some (.int (10000) k_GREATEST_WIDTH)))
    (g_GREATEST_MOST : PySem.W.nsIn K mainGlobals "GREATEST_MOST" = some (some (.int (500) k_GREATEST_MOST)))
    (g_GREATEST_OFF : PySem.W.nsIn K mainGlobals "GREATEST_OFF" = some (some (.int (1000) k_GREATEST_OFF)))
    (g_GREATEST_LIFE : PySem.W.nsIn K mainGlobals "GREATEST_LIFE" = some (some (.int (100000) k_GREATEST_LIFE)))
    (g_GREATEST_RUN : PySem.W.nsIn K mainGlobals "GREATEST_RUN" = some (some (.int (20000) k_GREATEST_RUN)))
    (g_STEP_OF_RUNS : PySem.W.nsIn K mainGlobals "STEP_OF_RUNS" = some (some (.int (100) k_STEP_OF_RUNS)))
    (g_DIES_AT_MOST : PySem.W.nsIn K mainGlobals "DIES_AT_MOST" = some (some (.int (8) k_DIES_AT_MOST)))
    (g_ANSWERED_BY : PySem.W.nsIn K mainGlobals "ANSWERED_BY" = some (some (.ref a_ANSWERED_BY)))
    (o_ANSWERED_BY : K.lookup a_ANSWERED_BY = some ⟨.type "tuple", none, .seq #[.ref f_begin, .ref f_add_die, .ref f_grind, .ref f_change_rod, .ref f_change_want, .ref f_put, .ref f_take, .ref f_empty_row, .ref f_tell_holds, .ref f_tell_wrong, .ref f_run, .ref f_tell_may, .ref f_tell_out, .ref f_tell_longest, .ref f_tell_fewest, .ref f_set_row, .ref f_tell_takes, .ref f_tell_least, .ref f_tell_size, .ref f_tell_left, .ref f_tell_row, .ref f_tell_sums] sz_ANSWERED_BY, sl_ANSWERED_BY⟩)
    (g_FOLLOWED_BY : PySem.W.nsIn K mainGlobals "FOLLOWED_BY" = some (some (.ref a_FOLLOWED_BY)))
    (o_FOLLOWED_BY : K.lookup a_FOLLOWED_BY = some ⟨.type "tuple", none, .seq #[.int (4) t_FOLLOWED_BY_0, .int (2) t_FOLLOWED_BY_1, .int (2) t_FOLLOWED_BY_2, .int (1) t_FOLLOWED_BY_3, .int (2) t_FOLLOWED_BY_4, .int (1) t_FOLLOWED_BY_5, .int (0) t_FOLLOWED_BY_6, .int (0) t_FOLLOWED_BY_7, .int (0) t_FOLLOWED_BY_8, .int (0) t_FOLLOWED_BY_9, .int (1) t_FOLLOWED_BY_10, .int (1) t_FOLLOWED_BY_11, .int (1) t_FOLLOWED_BY_12, .int (0) t_FOLLOWED_BY_13, .int (0) t_FOLLOWED_BY_14, .int (0) t_FOLLOWED_BY_15, .int (1) t_FOLLOWED_BY_16, .int (1) t_FOLLOWED_BY_17, .int (1) t_FOLLOWED_BY_18, .int (1) t_FOLLOWED_BY_19, .int (0) t_FOLLOWED_BY_20, .int (0) t_FOLLOWED_BY_21] sz_FOLLOWED_BY, sl_FOLLOWED_BY⟩)
    (u_abs : PySem.W.nsIn K mainGlobals "abs" = some none)
    (u_enumerate : PySem.W.nsIn K mainGlobals "enumerate" = some none)
    (u_len : PySem.W.nsIn K mainGlobals "len" = some none)
    (u_range : PySem.W.nsIn K mainGlobals "range" = some none) : ∃ t : Adr, Txt K mg t := by
  have F_Die_init := fun_mk (st := s_Die_init) l_Die_init c_Die_init k_Die_init
  have b_Die_init := F_Die_init.binds (ps := ["self", "ground", "life"]) fun _ _ _ _ _ _ us hl => match us, hl with | [_, _, _], _ => rfl
  have F_Die_wide := fun_mk (st := s_Die_wide) l_Die_wide c_Die_wide k_Die_wide
  have b_Die_wide := F_Die_wide.binds (ps := ["self"]) fun _ _ _ _ _ _ us hl => match us, hl with | [_], _ => rfl
  have F_Die_wide_after := fun_mk (st := s_Die_wide_after) l_Die_wide_after c_Die_wide_after k_Die_wide_after
  have b_Die_wide_after := F_Die_wide_after.binds (ps := ["self", "metres"]) fun _ _ _ _ _ _ us hl => match us, hl with | [_, _], _ => rfl
  have F_Die_metres_left := fun_mk (st := s_Die_metres_left) l_Die_metres_left c_Die_metres_left k_Die_metres_left
  have b_Die_metres_left := F_Die_metres_left.binds (ps := ["self"]) fun _ _ _ _ _ _ us hl => match us, hl with | [_], _ => rfl
  have F_Die_grind := fun_mk (st := s_Die_grind) l_Die_grind c_Die_grind k_Die_grind
  have b_Die_grind := F_Die_grind.binds (ps := ["self", "width"]) fun _ _ _ _ _ _ us hl => match us, hl with | [_, _], _ => rfl
  have F_Die_draw := fun_mk (st := s_Die_draw) l_Die_draw c_Die_draw k_Die_draw
  have b_Die_draw := F_Die_draw.binds (ps := ["self", "metres"]) fun _ _ _ _ _ _ us hl => match us, hl with | [_, _], _ => rfl
  have F_Bench_init := fun_mk (st := s_Bench_init) l_Bench_init c_Bench_init k_Bench_init
  have b_Bench_init := F_Bench_init.binds (ps := ["self"]) fun _ _ _ _ _ _ us hl => match us, hl with | [_], _ => rfl
  have F_Bench_begin := fun_mk (st := s_Bench_begin) l_Bench_begin c_Bench_begin k_Bench_begin
  have b_Bench_begin := F_Bench_begin.binds (ps := ["self", "rod", "most", "want", "off"]) fun _ _ _ _ _ _ us hl => match us, hl with | [_, _, _, _, _], _ => rfl
  have F_Bench_has_die := fun_mk (st := s_Bench_has_die) l_Bench_has_die c_Bench_has_die k_Bench_has_die
  have b_Bench_has_die := F_Bench_has_die.binds (ps := ["self", "number"]) fun _ _ _ _ _ _ us hl => match us, hl with | [_, _], _ => rfl
  have F_Bench_widths_of := fun_mk (st := s_Bench_widths_of) l_Bench_widths_of c_Bench_widths_of k_Bench_widths_of
  have b_Bench_widths_of := F_Bench_widths_of.binds (ps := ["self", "row"]) fun _ _ _ _ _ _ us hl => match us, hl with | [_, _], _ => rfl
  have F_Bench_widths := fun_mk (st := s_Bench_widths) l_Bench_widths c_Bench_widths k_Bench_widths
  have b_Bench_widths := F_Bench_widths.binds (ps := ["self"]) fun _ _ _ _ _ _ us hl => match us, hl with | [_], _ => rfl
  have F_Bench_widths_after := fun_mk (st := s_Bench_widths_after) l_Bench_widths_after c_Bench_widths_after k_Bench_widths_after
  have b_Bench_widths_after := F_Bench_widths_after.binds (ps := ["self", "metres"]) fun _ _ _ _ _ _ us hl => match us, hl with | [_, _], _ => rfl
  have F_Bench_wide_out := fun_mk (st := s_Bench_wide_out) l_Bench_wide_out c_Bench_wide_out k_Bench_wide_out
  have b_Bench_wide_out := F_Bench_wide_out.binds (ps := ["self", "widths"]) fun _ _ _ _ _ _ us hl => match us, hl with | [_, _], _ => rfl
  have F_Bench_wide_ahead := fun_mk (st := s_Bench_wide_ahead) l_Bench_wide_ahead c_Bench_wide_ahead k_Bench_wide_ahead
  have b_Bench_wide_ahead := F_Bench_wide_ahead.binds (ps := ["self", "place"]) fun _ _ _ _ _ _ us hl => match us, hl with | [_, _], _ => rfl
  have F_Bench_reaches := fun_mk (st := s_Bench_reaches) l_Bench_reaches c_Bench_reaches k_Bench_reaches
  have b_Bench_reaches := F_Bench_reaches.binds (ps := ["self", "width"]) fun _ _ _ _ _ _ us hl => match us, hl with | [_, _], _ => rfl
  have F_Bench_wrong_place := fun_mk (st := s_Bench_wrong_place) l_Bench_wrong_place c_Bench_wrong_place k_Bench_wrong_place
  have b_Bench_wrong_place := F_Bench_wrong_place.binds (ps := ["self", "widths"]) fun _ _ _ _ _ _ us hl => match us, hl with | [_, _], _ => rfl
  have F_Bench_holds := fun_mk (st := s_Bench_holds) l_Bench_holds c_Bench_holds k_Bench_holds
  have b_Bench_holds := F_Bench_holds.binds (ps := ["self", "widths"]) fun _ _ _ _ _ _ us hl => match us, hl with | [_, _], _ => rfl
  have F_Bench_metres_out := fun_mk (st := s_Bench_metres_out) l_Bench_metres_out c_Bench_metres_out k_Bench_metres_out
  have b_Bench_metres_out := F_Bench_metres_out.binds (ps := ["self", "metres"]) fun _ _ _ _ _ _ us hl => match us, hl with | [_, _], _ => rfl
  have F_Bench_draw := fun_mk (st := s_Bench_draw) l_Bench_draw c_Bench_draw k_Bench_draw
  have b_Bench_draw := F_Bench_draw.binds (ps := ["self", "metres"]) fun _ _ _ _ _ _ us hl => match us, hl with | [_, _], _ => rfl
  have F_Bench_fewest_dies := fun_mk (st := s_Bench_fewest_dies) l_Bench_fewest_dies c_Bench_fewest_dies k_Bench_fewest_dies
  have b_Bench_fewest_dies := F_Bench_fewest_dies.binds (ps := ["self"]) fun _ _ _ _ _ _ us hl => match us, hl with | [_], _ => rfl
  have F_Bench_rows_one_longer := fun_mk (st := s_Bench_rows_one_longer) l_Bench_rows_one_longer c_Bench_rows_one_longer k_Bench_rows_one_longer
  have b_Bench_rows_one_longer := F_Bench_rows_one_longer.binds (ps := ["self", "rows"]) fun _ _ _ _ _ _ us hl => match us, hl with | [_, _], _ => rfl
  have F_most_lets := fun_mk (st := s_most_lets) l_most_lets c_most_lets k_most_lets
  have b_most_lets := F_most_lets.binds (ps := ["wider", "narrower", "most"]) fun _ _ _ _ _ _ us hl => match us, hl with | [_, _, _], _ => rfl
  have F_goes := fun_mk (st := s_goes) l_goes c_goes k_goes
  have b_goes := F_goes.binds (ps := ["wider", "narrower", "most"]) fun _ _ _ _ _ _ us hl => match us, hl with | [_, _, _], _ => rfl
  have F_least_width := fun_mk (st := s_least_width) l_least_width c_least_width k_least_width
  have b_least_width := F_least_width.binds (ps := ["wider", "most"]) fun _ _ _ _ _ _ us hl => match us, hl with | [_, _], _ => rfl
  have F_metres_through := fun_mk (st := s_metres_through) l_metres_through c_metres_through k_metres_through
  have b_metres_through := F_metres_through.binds (ps := ["metres", "rod", "width"]) fun _ _ _ _ _ _ us hl => match us, hl with | [_, _, _], _ => rfl
  have F_greatest_in_common := fun_mk (st := s_greatest_in_common) l_greatest_in_common c_greatest_in_common k_greatest_in_common
  have b_greatest_in_common := F_greatest_in_common.binds (ps := ["first", "second"]) fun _ _ _ _ _ _ us hl => match us, hl with | [_, _], _ => rfl
  have F_part_taken := fun_mk (st := s_part_taken) l_part_taken c_part_taken k_part_taken
  have b_part_taken := F_part_taken.binds (ps := ["wider", "narrower"]) fun _ _ _ _ _ _ us hl => match us, hl with | [_, _], _ => rfl
  have F_is_width := fun_mk (st := s_is_width) l_is_width c_is_width k_is_width
  have b_is_width := F_is_width.binds (ps := ["number"]) fun _ _ _ _ _ _ us hl => match us, hl with | [_], _ => rfl
  have F_can_be_wanted := fun_mk (st := s_can_be_wanted) l_can_be_wanted c_can_be_wanted k_can_be_wanted
  have b_can_be_wanted := F_can_be_wanted.binds (ps := ["width", "off"]) fun _ _ _ _ _ _ us hl => match us, hl with | [_, _], _ => rfl
  have F_begin := fun_mk (st := s_begin) l_begin c_begin k_begin
  have b_begin := F_begin.binds (ps := ["bench", "given"]) fun _ _ _ _ _ _ us hl => match us, hl with | [_, _], _ => rfl
  have F_add_die := fun_mk (st := s_add_die) l_add_die c_add_die k_add_die
  have b_add_die := F_add_die.binds (ps := ["bench", "given"]) fun _ _ _ _ _ _ us hl => match us, hl with | [_, _], _ => rfl
  have F_grind := fun_mk (st := s_grind) l_grind c_grind k_grind
  have b_grind := F_grind.binds (ps := ["bench", "given"]) fun _ _ _ _ _ _ us hl => match us, hl with | [_, _], _ => rfl
  have F_change_rod := fun_mk (st := s_change_rod) l_change_rod c_change_rod k_change_rod
  have b_change_rod := F_change_rod.binds (ps := ["bench", "given"]) fun _ _ _ _ _ _ us hl => match us, hl with | [_, _], _ => rfl
  have F_change_want := fun_mk (st := s_change_want) l_change_want c_change_want k_change_want
  have b_change_want := F_change_want.binds (ps := ["bench", "given"]) fun _ _ _ _ _ _ us hl => match us, hl with | [_, _], _ => rfl
  have F_put := fun_mk (st := s_put) l_put c_put k_put
  have b_put := F_put.binds (ps := ["bench", "given"]) fun _ _ _ _ _ _ us hl => match us, hl with | [_, _], _ => rfl
  have F_take := fun_mk (st := s_take) l_take c_take k_take
  have b_take := F_take.binds (ps := ["bench", "given"]) fun _ _ _ _ _ _ us hl => match us, hl with | [_, _], _ => rfl
  have F_empty_row := fun_mk (st := s_empty_row) l_empty_row c_empty_row k_empty_row
  have b_empty_row := F_empty_row.binds (ps := ["bench", "given"]) fun _ _ _ _ _ _ us hl => match us, hl with | [_, _], _ => rfl
  have F_tell_holds := fun_mk (st := s_tell_holds) l_tell_holds c_tell_holds k_tell_holds
  have b_tell_holds := F_tell_holds.binds (ps := ["bench", "given"]) fun _ _ _ _ _ _ us hl => match us, hl with | [_, _], _ => rfl
  have F_tell_wrong := fun_mk (st := s_tell_wrong) l_tell_wrong c_tell_wrong k_tell_wrong
  have b_tell_wrong := F_tell_wrong.binds (ps := ["bench", "given"]) fun _ _ _ _ _ _ us hl => match us, hl with | [_, _], _ => rfl
  have F_run_refusal := fun_mk (st := s_run_refusal) l_run_refusal c_run_refusal k_run_refusal
  have b_run_refusal := F_run_refusal.binds (ps := ["bench", "metres"]) fun _ _ _ _ _ _ us hl => match us, hl with | [_, _], _ => rfl
  have F_run := fun_mk (st := s_run) l_run c_run k_run
  have b_run := F_run.binds (ps := ["bench", "given"]) fun _ _ _ _ _ _ us hl => match us, hl with | [_, _], _ => rfl
  have F_tell_may := fun_mk (st := s_tell_may) l_tell_may c_tell_may k_tell_may
  have b_tell_may := F_tell_may.binds (ps := ["bench", "given"]) fun _ _ _ _ _ _ us hl => match us, hl with | [_, _], _ => rfl
  have F_tell_out := fun_mk (st := s_tell_out) l_tell_out c_tell_out k_tell_out
  have b_tell_out := F_tell_out.binds (ps := ["bench", "given"]) fun _ _ _ _ _ _ us hl => match us, hl with | [_, _], _ => rfl
  have F_tell_longest := fun_mk (st := s_tell_longest) l_tell_longest c_tell_longest k_tell_longest
  have b_tell_longest := F_tell_longest.binds (ps := ["bench", "given"]) fun _ _ _ _ _ _ us hl => match us, hl with | [_, _], _ => rfl
  have F_tell_fewest := fun_mk (st := s_tell_fewest) l_tell_fewest c_tell_fewest k_tell_fewest
  have b_tell_fewest := F_tell_fewest.binds (ps := ["bench", "given"]) fun _ _ _ _ _ _ us hl => match us, hl with | [_, _], _ => rfl
  have F_set_row := fun_mk (st := s_set_row) l_set_row c_set_row k_set_row
  have b_set_row := F_set_row.binds (ps := ["bench", "given"]) fun _ _ _ _ _ _ us hl => match us, hl with | [_, _], _ => rfl
  have F_tell_takes := fun_mk (st := s_tell_takes) l_tell_takes c_tell_takes k_tell_takes
  have b_tell_takes := F_tell_takes.binds (ps := ["bench", "given"]) fun _ _ _ _ _ _ us hl => match us, hl with | [_, _], _ => rfl
  have F_tell_least := fun_mk (st := s_tell_least) l_tell_least c_tell_least k_tell_least
  have b_tell_least := F_tell_least.binds (ps := ["bench", "given"]) fun _ _ _ _ _ _ us hl => match us, hl with | [_, _], _ => rfl
  have F_tell_size := fun_mk (st := s_tell_size) l_tell_size c_tell_size k_tell_size
  have b_tell_size := F_tell_size.binds (ps := ["bench", "given"]) fun _ _ _ _ _ _ us hl => match us, hl with | [_, _], _ => rfl
  have F_tell_left := fun_mk (st := s_tell_left) l_tell_left c_tell_left k_tell_left
  have b_tell_left := F_tell_left.binds (ps := ["bench", "given"]) fun _ _ _ _ _ _ us hl => match us, hl with | [_, _], _ => rfl
  have F_tell_row := fun_mk (st := s_tell_row) l_tell_row c_tell_row k_tell_row
  have b_tell_row := F_tell_row.binds (ps := ["bench", "given"]) fun _ _ _ _ _ _ us hl => match us, hl with | [_, _], _ => rfl
  have F_tell_sums := fun_mk (st := s_tell_sums) l_tell_sums c_tell_sums k_tell_sums
  have b_tell_sums := F_tell_sums.binds (ps := ["bench", "given"]) fun _ _ _ _ _ _ us hl => match us, hl with | [_, _], _ => rfl
  have F_answer := fun_mk (st := s_answer) l_answer c_answer k_answer
  have b_answer := F_answer.binds (ps := ["bench", "call", "given"]) fun _ _ _ _ _ _ us hl => match us, hl with | [_, _, _], _ => rfl
  have F_answers := fun_mk (st := s_answers) l_answers c_answers k_answers
  have b_answers := F_answers.binds (ps := ["calls"]) fun _ _ _ _ _ _ us hl => match us, hl with | [_], _ => rfl
  exact ⟨{ C_Die := C_Die, C_Bench := C_Bench, f_Die_init := f_Die_init, fd_Die_init := (PySem.W.fnOf "__init__" "Die.__init__" (defArgs s_Die_init) (defBody s_Die_init) (defScope s_Die_init) .none kV_Die_init dc_Die_init pm_Die_init an_Die_init cd_Die_init ct_Die_init), f_Die_wide := f_Die_wide, fd_Die_wide := (PySem.W.fnOf "wide" "Die.wide" (defArgs s_Die_wide) (defBody s_Die_wide) (defScope s_Die_wide) .none kV_Die_wide dc_Die_wide pm_Die_wide an_Die_wide cd_Die_wide ct_Die_wide), f_Die_wide_after := f_Die_wide_after, fd_Die_wide_after := (PySem.W.fnOf "wide_after" "Die.wide_after" (defArgs s_Die_wide_after) (defBody s_Die_wide_after) (defScope s_Die_wide_after) .none kV_Die_wide_after dc_Die_wide_after pm_Die_wide_after an_Die_wide_after cd_Die_wide_after ct_Die_wide_after), f_Die_metres_left := f_Die_metres_left, fd_Die_metres_left := (PySem.W.fnOf "metres_left" "Die.metres_left" (defArgs s_Die_metres_left) (defBody s_Die_metres_left) (defScope s_Die_metres_left) .none kV_Die_metres_left dc_Die_metres_left pm_Die_metres_left an_Die_metres_left cd_Die_metres_left ct_Die_metres_left), f_Die_grind := f_Die_grind, fd_Die_grind := (PySem.W.fnOf "grind" "Die.grind" (defArgs s_Die_grind) (defBody s_Die_grind) (defScope s_Die_grind) .none kV_Die_grind dc_Die_grind pm_Die_grind an_Die_grind cd_Die_grind ct_Die_grind), f_Die_draw := f_Die_draw, fd_Die_draw := (PySem.W.fnOf "draw" "Die.draw" (defArgs s_Die_draw) (defBody s_Die_draw) (defScope s_Die_draw) .none kV_Die_draw dc_Die_draw pm_Die_draw an_Die_draw cd_Die_draw ct_Die_draw), f_Bench_init := f_Bench_init, fd_Bench_init := (PySem.W.fnOf "__init__" "Bench.__init__" (defArgs s_Bench_init) (defBody s_Bench_init) (defScope s_Bench_init) .none kV_Bench_init dc_Bench_init pm_Bench_init an_Bench_init cd_Bench_init ct_Bench_init), f_Bench_begin := f_Bench_begin, fd_Bench_begin := (PySem.W.fnOf "begin" "Bench.begin" (defArgs s_Bench_begin) (defBody s_Bench_begin) (defScope s_Bench_begin) .none kV_Bench_begin dc_Bench_begin pm_Bench_begin an_Bench_begin cd_Bench_begin ct_Bench_begin), f_Bench_has_die := f_Bench_has_die, fd_Bench_has_die := (PySem.W.fnOf "has_die" "Bench.has_die" (defArgs s_Bench_has_die) (defBody s_Bench_has_die) (defScope s_Bench_has_die) .none kV_Bench_has_die dc_Bench_has_die pm_Bench_has_die an_Bench_has_die cd_Bench_has_die ct_Bench_has_die), f_Bench_widths_of := f_Bench_widths_of, fd_Bench_widths_of := (PySem.W.fnOf "widths_of" "Bench.widths_of" (defArgs s_Bench_widths_of) (defBody s_Bench_widths_of) (defScope s_Bench_widths_of) .none kV_Bench_widths_of dc_Bench_widths_of pm_Bench_widths_of an_Bench_widths_of cd_Bench_widths_of ct_Bench_widths_of), f_Bench_widths := f_Bench_widths, fd_Bench_widths := (PySem.W.fnOf "widths" "Bench.widths" (defArgs s_Bench_widths) (defBody s_Bench_widths) (defScope s_Bench_widths) .none kV_Bench_widths dc_Bench_widths pm_Bench_widths an_Bench_widths cd_Bench_widths ct_Bench_widths), f_Bench_widths_after := f_Bench_widths_after, fd_Bench_widths_after := (PySem.W.fnOf "widths_after" "Bench.widths_after" (defArgs s_Bench_widths_after) (defBody s_Bench_widths_after) (defScope s_Bench_widths_after) .none kV_Bench_widths_after dc_Bench_widths_after pm_Bench_widths_after an_Bench_widths_after cd_Bench_widths_after ct_Bench_widths_after), f_Bench_wide_out := f_Bench_wide_out, fd_Bench_wide_out := (PySem.W.fnOf "wide_out" "Bench.wide_out" (defArgs s_Bench_wide_out) (defBody s_Bench_wide_out) (defScope s_Bench_wide_out) .none kV_Bench_wide_out dc_Bench_wide_out pm_Bench_wide_out an_Bench_wide_out cd_Bench_wide_out ct_Bench_wide_out), f_Bench_wide_ahead := f_Bench_wide_ahead, fd_Bench_wide_ahead := (PySem.W.fnOf "wide_ahead" "Bench.wide_ahead" (defArgs s_Bench_wide_ahead) (defBody s_Bench_wide_ahead) (defScope s_Bench_wide_ahead) .none kV_Bench_wide_ahead dc_Bench_wide_ahead pm_Bench_wide_ahead an_Bench_wide_ahead cd_Bench_wide_ahead ct_Bench_wide_ahead), f_Bench_reaches := f_Bench_reaches, fd_Bench_reaches := (PySem.W.fnOf "reaches" "Bench.reaches" (defArgs s_Bench_reaches) (defBody s_Bench_reaches) (defScope s_Bench_reaches) .none kV_Bench_reaches dc_Bench_reaches pm_Bench_reaches an_Bench_reaches cd_Bench_reaches ct_Bench_reaches), f_Bench_wrong_place := f_Bench_wrong_place, fd_Bench_wrong_place := (PySem.W.fnOf "wrong_place" "Bench.wrong_place" (defArgs s_Bench_wrong_place) (defBody s_Bench_wrong_place) (defScope s_Bench_wrong_place) .none kV_Bench_wrong_place dc_Bench_wrong_place pm_Bench_wrong_place an_Bench_wrong_place cd_Bench_wrong_place ct_Bench_wrong_place), f_Bench_holds := f_Bench_holds, fd_Bench_holds := (PySem.W.fnOf "holds" "Bench.holds" (defArgs s_Bench_holds) (defBody s_Bench_holds) (defScope s_Bench_holds) .none kV_Bench_holds dc_Bench_holds pm_Bench_holds an_Bench_holds cd_Bench_holds ct_Bench_holds), f_Bench_metres_out := f_Bench_metres_out, fd_Bench_metres_out := (PySem.W.fnOf "metres_out" "Bench.metres_out" (defArgs s_Bench_metres_out) (defBody s_Bench_metres_out) (defScope s_Bench_metres_out) .none kV_Bench_metres_out dc_Bench_metres_out pm_Bench_metres_out an_Bench_metres_out cd_Bench_metres_out ct_Bench_metres_out), f_Bench_draw := f_Bench_draw, fd_Bench_draw := (PySem.W.fnOf "draw" "Bench.draw" (defArgs s_Bench_draw) (defBody s_Bench_draw) (defScope s_Bench_draw) .none kV_Bench_draw dc_Bench_draw pm_Bench_draw an_Bench_draw cd_Bench_draw ct_Bench_draw), f_Bench_fewest_dies := f_Bench_fewest_dies, fd_Bench_fewest_dies := (PySem.W.fnOf "fewest_dies" "Bench.fewest_dies" (defArgs s_Bench_fewest_dies) (defBody s_Bench_fewest_dies) (defScope s_Bench_fewest_dies) .none kV_Bench_fewest_dies dc_Bench_fewest_dies pm_Bench_fewest_dies an_Bench_fewest_dies cd_Bench_fewest_dies ct_Bench_fewest_dies), f_Bench_rows_one_longer := f_Bench_rows_one_longer, fd_Bench_rows_one_longer := (PySem.W.fnOf "rows_one_longer" "Bench.rows_one_longer" (defArgs s_Bench_rows_one_longer) (defBody s_Bench_rows_one_longer) (defScope s_Bench_rows_one_longer) .none kV_Bench_rows_one_longer dc_Bench_rows_one_longer pm_Bench_rows_one_longer an_Bench_rows_one_longer cd_Bench_rows_one_longer ct_Bench_rows_one_longer), f_most_lets := f_most_lets, fd_most_lets := (PySem.W.fnOf "most_lets" "most_lets" (defArgs s_most_lets) (defBody s_most_lets) (defScope s_most_lets) .none kV_most_lets dc_most_lets pm_most_lets an_most_lets cd_most_lets ct_most_lets), f_goes := f_goes, fd_goes := (PySem.W.fnOf "goes" "goes" (defArgs s_goes) (defBody s_goes) (defScope s_goes) .none kV_goes dc_goes pm_goes an_goes cd_goes ct_goes), f_least_width := f_least_width, fd_least_width := (PySem.W.fnOf "least_width" "least_width" (defArgs s_least_width) (defBody s_least_width) (defScope s_least_width) .none kV_least_width dc_least_width pm_least_width an_least_width cd_least_width ct_least_width), f_metres_through := f_metres_through, fd_metres_through := (PySem.W.fnOf "metres_through" "metres_through" (defArgs s_metres_through) (defBody s_metres_through) (defScope s_metres_through) .none kV_metres_through dc_metres_through pm_metres_through an_metres_through cd_metres_through ct_metres_through), f_greatest_in_common := f_greatest_in_common, fd_greatest_in_common := (PySem.W.fnOf "greatest_in_common" "greatest_in_common" (defArgs s_greatest_in_common) (defBody s_greatest_in_common) (defScope s_greatest_in_common) .none kV_greatest_in_common dc_greatest_in_common pm_greatest_in_common an_greatest_in_common cd_greatest_in_common ct_greatest_in_common), f_part_taken := f_part_taken, fd_part_taken := (PySem.W.fnOf "part_taken" "part_taken" (defArgs s_part_taken) (defBody s_part_taken) (defScope s_part_taken) .none kV_part_taken dc_part_taken pm_part_taken an_part_taken cd_part_taken ct_part_taken), f_is_width := f_is_width, fd_is_width := (PySem.W.fnOf "is_width" "is_width" (defArgs s_is_width) (defBody s_is_width) (defScope s_is_width) .none kV_is_width dc_is_width pm_is_width an_is_width cd_is_width ct_is_width), f_can_be_wanted := f_can_be_wanted, fd_can_be_wanted := (PySem.W.fnOf "can_be_wanted" "can_be_wanted" (defArgs s_can_be_wanted) (defBody s_can_be_wanted) (defScope s_can_be_wanted) .none kV_can_be_wanted dc_can_be_wanted pm_can_be_wanted an_can_be_wanted cd_can_be_wanted ct_can_be_wanted), f_begin := f_begin, fd_begin := (PySem.W.fnOf "begin" "begin" (defArgs s_begin) (defBody s_begin) (defScope s_begin) .none kV_begin dc_begin pm_begin an_begin cd_begin ct_begin), f_add_die := f_add_die, fd_add_die := (PySem.W.fnOf "add_die" "add_die" (defArgs s_add_die) (defBody s_add_die) (defScope s_add_die) .none kV_add_die dc_add_die pm_add_die an_add_die cd_add_die ct_add_die), f_grind := f_grind, fd_grind := (PySem.W.fnOf "grind" "grind" (defArgs s_grind) (defBody s_grind) (defScope s_grind) .none kV_grind dc_grind pm_grind an_grind cd_grind ct_grind), f_change_rod := f_change_rod, fd_change_rod := (PySem.W.fnOf "change_rod" "change_rod" (defArgs s_change_rod) (defBody s_change_rod) (defScope s_change_rod) .none kV_change_rod dc_change_rod pm_change_rod an_change_rod cd_change_rod ct_change_rod), f_change_want := f_change_want, fd_change_want := (PySem.W.fnOf "change_want" "change_want" (defArgs s_change_want) (defBody s_change_want) (defScope s_change_want) .none kV_change_want dc_change_want pm_change_want an_change_want cd_change_want ct_change_want), f_put := f_put, fd_put := (PySem.W.fnOf "put" "put" (defArgs s_put) (defBody s_put) (defScope s_put) .none kV_put dc_put pm_put an_put cd_put ct_put), f_take := f_take, fd_take := (PySem.W.fnOf "take" "take" (defArgs s_take) (defBody s_take) (defScope s_take) .none kV_take dc_take pm_take an_take cd_take ct_take), f_empty_row := f_empty_row, fd_empty_row := (PySem.W.fnOf "empty_row" "empty_row" (defArgs s_empty_row) (defBody s_empty_row) (defScope s_empty_row) .none kV_empty_row dc_empty_row pm_empty_row an_empty_row cd_empty_row ct_empty_row), f_tell_holds := f_tell_holds, fd_tell_holds := (PySem.W.fnOf "tell_holds" "tell_holds" (defArgs s_tell_holds) (defBody s_tell_holds) (defScope s_tell_holds) .none kV_tell_holds dc_tell_holds pm_tell_holds an_tell_holds cd_tell_holds ct_tell_holds), f_tell_wrong := f_tell_wrong, fd_tell_wrong := (PySem.W.fnOf "tell_wrong" "tell_wrong" (defArgs s_tell_wrong) (defBody s_tell_wrong) (defScope s_tell_wrong) .none kV_tell_wrong dc_tell_wrong pm_tell_wrong an_tell_wrong cd_tell_wrong ct_tell_wrong), f_run_refusal := f_run_refusal, fd_run_refusal := (PySem.W.fnOf "run_refusal" "run_refusal" (defArgs s_run_refusal) (defBody s_run_refusal) (defScope s_run_refusal) .none kV_run_refusal dc_run_refusal pm_run_refusal an_run_refusal cd_run_refusal ct_run_refusal), f_run := f_run, fd_run := (PySem.W.fnOf "run" "run" (defArgs s_run) (defBody s_run) (defScope s_run) .none kV_run dc_run pm_run an_run cd_run ct_run), f_tell_may := f_tell_may, fd_tell_may := (PySem.W.fnOf "tell_may" "tell_may" (defArgs s_tell_may) (defBody s_tell_may) (defScope s_tell_may) .none kV_tell_may dc_tell_may pm_tell_may an_tell_may cd_tell_may ct_tell_may), f_tell_out := f_tell_out, fd_tell_out := (PySem.W.fnOf "tell_out" "tell_out" (defArgs s_tell_out) (defBody s_tell_out) (defScope s_tell_out) .none kV_tell_out dc_tell_out pm_tell_out an_tell_out cd_tell_out ct_tell_out), f_tell_longest := f_tell_longest, fd_tell_longest := (PySem.W.fnOf "tell_longest" "tell_longest" (defArgs s_tell_longest) (defBody s_tell_longest) (defScope s_tell_longest) .none kV_tell_longest dc_tell_longest pm_tell_longest an_tell_longest cd_tell_longest ct_tell_longest), f_tell_fewest := f_tell_fewest, fd_tell_fewest := (PySem.W.fnOf "tell_fewest" "tell_fewest" (defArgs s_tell_fewest) (defBody s_tell_fewest) (defScope s_tell_fewest) .none kV_tell_fewest dc_tell_fewest pm_tell_fewest an_tell_fewest cd_tell_fewest ct_tell_fewest), f_set_row := f_set_row, fd_set_row := (PySem.W.fnOf "set_row" "set_row" (defArgs s_set_row) (defBody s_set_row) (defScope s_set_row) .none kV_set_row dc_set_row pm_set_row an_set_row cd_set_row ct_set_row), f_tell_takes := f_tell_takes, fd_tell_takes := (PySem.W.fnOf "tell_takes" "tell_takes" (defArgs s_tell_takes) (defBody s_tell_takes) (defScope s_tell_takes) .none kV_tell_takes dc_tell_takes pm_tell_takes an_tell_takes cd_tell_takes ct_tell_takes), f_tell_least := f_tell_least, fd_tell_least := (PySem.W.fnOf "tell_least" "tell_least" (defArgs s_tell_least) (defBody s_tell_least) (defScope s_tell_least) .none kV_tell_least dc_tell_least pm_tell_least an_tell_least cd_tell_least ct_tell_least), f_tell_size := f_tell_size, fd_tell_size := (PySem.W.fnOf "tell_size" "tell_size" (defArgs s_tell_size) (defBody s_tell_size) (defScope s_tell_size) .none kV_tell_size dc_tell_size pm_tell_size an_tell_size cd_tell_size ct_tell_size), f_tell_left := f_tell_left, fd_tell_left := (PySem.W.fnOf "tell_left" "tell_left" (defArgs s_tell_left) (defBody s_tell_left) (defScope s_tell_left) .none kV_tell_left dc_tell_left pm_tell_left an_tell_left cd_tell_left ct_tell_left), f_tell_row := f_tell_row, fd_tell_row := (PySem.W.fnOf "tell_row" "tell_row" (defArgs s_tell_row) (defBody s_tell_row) (defScope s_tell_row) .none kV_tell_row dc_tell_row pm_tell_row an_tell_row cd_tell_row ct_tell_row), f_tell_sums := f_tell_sums, fd_tell_sums := (PySem.W.fnOf "tell_sums" "tell_sums" (defArgs s_tell_sums) (defBody s_tell_sums) (defScope s_tell_sums) .none kV_tell_sums dc_tell_sums pm_tell_sums an_tell_sums cd_tell_sums ct_tell_sums), f_answer := f_answer, fd_answer := (PySem.W.fnOf "answer" "answer" (defArgs s_answer) (defBody s_answer) (defScope s_answer) .none kV_answer dc_answer pm_answer an_answer cd_answer ct_answer), f_answers := f_answers, fd_answers := (PySem.W.fnOf "answers" "answers" (defArgs s_answers) (defBody s_answers) (defScope s_answers) .none kV_answers dc_answers pm_answers an_answers cd_answers ct_answers), k_BEGIN := k_BEGIN, k_NO_SUCH_DIE := k_NO_SUCH_DIE, k_ROW_EMPTY := k_ROW_EMPTY, k_NOT_BEGUN := k_NOT_BEGUN, k_DIE_IN_USE := k_DIE_IN_USE, k_DIE_IN_ROW := k_DIE_IN_ROW, k_OUT_OF_BOUNDS := k_OUT_OF_BOUNDS, k_NO_ROOM := k_NO_ROOM, k_NOT_AS_IT_STANDS := k_NOT_AS_IT_STANDS, k_WOULD_NOT_HOLD := k_WOULD_NOT_HOLD, k_LEAST_WIDTH := k_LEAST_WIDTH, k_GREATEST_WIDTH := k_GREATEST_WIDTH, k_GREATEST_MOST := k_GREATEST_MOST, k_GREATEST_OFF := k_GREATEST_OFF, k_GREATEST_LIFE := k_GREATEST_LIFE, k_GREATEST_RUN := k_GREATEST_RUN, k_STEP_OF_RUNS := k_STEP_OF_RUNS, k_DIES_AT_MOST := k_DIES_AT_MOST, a_ANSWERED_BY := a_ANSWERED_BY, a_FOLLOWED_BY := a_FOLLOWED_BY }, { F_Die_init := F_Die_init, b_Die_init := b_Die_init, F_Die_wide := F_Die_wide, b_Die_wide := b_Die_wide, me_Die_wide := ⟨a_Die_wide, i_Die_wide, k_Die_wide⟩, F_Die_wide_after := F_Die_wide_after, b_Die_wide_after := b_Die_wide_after, me_Die_wide_after := ⟨a_Die_wide_after, i_Die_wide_after, k_Die_wide_after⟩, F_Die_metres_left := F_Die_metres_left, b_Die_metres_left := b_Die_metres_left, me_Die_metres_left := ⟨a_Die_metres_left, i_Die_metres_left, k_Die_metres_left⟩, F_Die_grind := F_Die_grind, b_Die_grind := b_Die_grind, me_Die_grind := ⟨a_Die_grind, i_Die_grind, k_Die_grind⟩, F_Die_draw := F_Die_draw, b_Die_draw := b_Die_draw, me_Die_draw := ⟨a_Die_draw, i_Die_draw, k_Die_draw⟩, F_Bench_init := F_Bench_init, b_Bench_init := b_Bench_init, F_Bench_begin := F_Bench_begin, b_Bench_begin := b_Bench_begin, me_Bench_begin := ⟨a_Bench_begin, i_Bench_begin, k_Bench_begin⟩, F_Bench_has_die := F_Bench_has_die, b_Bench_has_die := b_Bench_has_die, me_Bench_has_die := ⟨a_Bench_has_die, i_Bench_has_die, k_Bench_has_die⟩, F_Bench_widths_of := F_Bench_widths_of, b_Bench_widths_of := b_Bench_widths_of, me_Bench_widths_of := ⟨a_Bench_widths_of, i_Bench_widths_of, k_Bench_widths_of⟩, F_Bench_widths := F_Bench_widths, b_Bench_widths := b_Bench_widths, me_Bench_widths := ⟨a_Bench_widths, i_Bench_widths, k_Bench_widths⟩, F_Bench_widths_after := F_Bench_widths_after, b_Bench_widths_after := b_Bench_widths_after, me_Bench_widths_after := ⟨a_Bench_widths_after, i_Bench_widths_after, k_Bench_widths_after⟩, F_Bench_wide_out := F_Bench_wide_out, b_Bench_wide_out := b_Bench_wide_out, me_Bench_wide_out := ⟨a_Bench_wide_out, i_Bench_wide_out, k_Bench_wide_out⟩, F_Bench_wide_ahead := F_Bench_wide_ahead, b_Bench_wide_ahead := b_Bench_wide_ahead, me_Bench_wide_ahead := ⟨a_Bench_wide_ahead, i_Bench_wide_ahead, k_Bench_wide_ahead⟩, F_Bench_reaches := F_Bench_reaches, b_Bench_reaches := b_Bench_reaches, me_Bench_reaches := ⟨a_Bench_reaches, i_Bench_reaches, k_Bench_reaches⟩, F_Bench_wrong_place := F_Bench_wrong_place, b_Bench_wrong_place := b_Bench_wrong_place, me_Bench_wrong_place := ⟨a_Bench_wrong_place, i_Bench_wrong_place, k_Bench_wrong_place⟩, F_Bench_holds := F_Bench_holds, b_Bench_holds := b_Bench_holds, me_Bench_holds := ⟨a_Bench_holds, i_Bench_holds, k_Bench_holds⟩, F_Bench_metres_out := F_Bench_metres_out, b_Bench_metres_out := b_Bench_metres_out, me_Bench_metres_out := ⟨a_Bench_metres_out, i_Bench_metres_out, k_Bench_metres_out⟩, F_Bench_draw := F_Bench_draw, b_Bench_draw := b_Bench_draw, me_Bench_draw := ⟨a_Bench_draw, i_Bench_draw, k_Bench_draw⟩, F_Bench_fewest_dies := F_Bench_fewest_dies, b_Bench_fewest_dies := b_Bench_fewest_dies, me_Bench_fewest_dies := ⟨a_Bench_fewest_dies, i_Bench_fewest_dies, k_Bench_fewest_dies⟩, F_Bench_rows_one_longer := F_Bench_rows_one_longer, b_Bench_rows_one_longer := b_Bench_rows_one_longer, me_Bench_rows_one_longer := ⟨a_Bench_rows_one_longer, i_Bench_rows_one_longer, k_Bench_rows_one_longer⟩, F_most_lets := F_most_lets, b_most_lets := b_most_lets, m_most_lets := PySem.W.mg_of X G a_most_lets, F_goes := F_goes, b_goes := b_goes, m_goes := PySem.W.mg_of X G a_goes, F_least_width := F_least_width, b_least_width := b_least_width, m_least_width := PySem.W.mg_of X G a_least_width, F_metres_through := F_metres_through, b_metres_through := b_metres_through, m_metres_through := PySem.W.mg_of X G a_metres_through, F_greatest_in_common := F_greatest_in_common, b_greatest_in_common := b_greatest_in_common, m_greatest_in_common := PySem.W.mg_of X G a_greatest_in_common, F_part_taken := F_part_taken, b_part_taken := b_part_taken, m_part_taken := PySem.W.mg_of X G a_part_taken, F_is_width := F_is_width, b_is_width := b_is_width, m_is_width := PySem.W.mg_of X G a_is_width, F_can_be_wanted := F_can_be_wanted, b_can_be_wanted := b_can_be_wanted, m_can_be_wanted := PySem.W.mg_of X G a_can_be_wanted, F_begin := F_begin, b_begin := b_begin, m_begin := PySem.W.mg_of X G a_begin, F_add_die := F_add_die, b_add_die := b_add_die, m_add_die := PySem.W.mg_of X G a_add_die, F_grind := F_grind, b_grind := b_grind, m_grind := PySem.W.mg_of X G a_grind, F_change_rod := F_change_rod, b_change_rod := b_change_rod, m_change_rod := PySem.W.mg_of X G a_change_rod, F_change_want := F_change_want, b_change_want := b_change_want, m_change_want := PySem.W.mg_of X G a_change_want, F_put := F_put, b_put := b_put, m_put := PySem.W.mg_of X G a_put, F_take := F_take, b_take := b_take, m_take := PySem.W.mg_of X G a_take, F_empty_row := F_empty_row, b_empty_row := b_empty_row, m_empty_row := PySem.W.mg_of X G a_empty_row, F_tell_holds := F_tell_holds, b_tell_holds := b_tell_holds, m_tell_holds := PySem.W.mg_of X G a_tell_holds, F_tell_wrong := F_tell_wrong, b_tell_wrong := b_tell_wrong, m_tell_wrong := PySem.W.mg_of X G a_tell_wrong, F_run_refusal := F_run_refusal, b_run_refusal := b_run_refusal, m_run_refusal := PySem.W.mg_of X G a_run_refusal, F_run := F_run, b_run := b_run, m_run := PySem.W.mg_of X G a_run, F_tell_may := F_tell_may, b_tell_may := b_tell_may, m_tell_may := PySem.W.mg_of X G a_tell_may, F_tell_out := F_tell_out, b_tell_out := b_tell_out, m_tell_out := PySem.W.mg_of X G a_tell_out, F_tell_longest := F_tell_longest, b_tell_longest := b_tell_longest, m_tell_longest := PySem.W.mg_of X G a_tell_longest, F_tell_fewest := F_tell_fewest, b_tell_fewest := b_tell_fewest, m_tell_fewest := PySem.W.mg_of X G a_tell_fewest, F_set_row := F_set_row, b_set_row := b_set_row, m_set_row := PySem.W.mg_of X G a_set_row, F_tell_takes := F_tell_takes, b_tell_takes := b_tell_takes, m_tell_takes := PySem.W.mg_of X G a_tell_takes, F_tell_least := F_tell_least, b_tell_least := b_tell_least, m_tell_least := PySem.W.mg_of X G a_tell_least, F_tell_size := F_tell_size, b_tell_size := b_tell_size, m_tell_size := PySem.W.mg_of X G a_tell_size, F_tell_left := F_tell_left, b_tell_left := b_tell_left, m_tell_left := PySem.W.mg_of X G a_tell_left, F_tell_row := F_tell_row, b_tell_row := b_tell_row, m_tell_row := PySem.W.mg_of X G a_tell_row, F_tell_sums := F_tell_sums, b_tell_sums := b_tell_sums, m_tell_sums := PySem.W.mg_of X G a_tell_sums, F_answer := F_answer, b_answer := b_answer, m_answer := PySem.W.mg_of X G a_answer, F_answers := F_answers, b_answers := b_answers, m_answers := PySem.W.mg_of X G a_answers, cl_Die := ⟨pg_Die, hd_Die, po_Die, sa_Die⟩, m_Die := PySem.W.mg_of X G aC_Die, M_Die := ⟨mk_Die, a_Die_init, i_Die_init, kc_Die⟩, n_Die_ground := n_Die_ground, n_Die_life := n_Die_life, n_Die_drawn := n_Die_drawn, cl_Bench := ⟨pg_Bench, hd_Bench, po_Bench, sa_Bench⟩, m_Bench := PySem.W.mg_of X G aC_Bench, M_Bench := ⟨mk_Bench, a_Bench_init, i_Bench_init, kc_Bench⟩, n_Bench_begun := n_Bench_begun, n_Bench_rod := n_Bench_rod, n_Bench_most := n_Bench_most, n_Bench_want := n_Bench_want, n_Bench_off := n_Bench_off, n_Bench_dies := n_Bench_dies, n_Bench_row := n_Bench_row, n_Bench_metres_drawn := n_Bench_metres_drawn, c_BEGIN := PySem.W.mg_of X G g_BEGIN, c_NO_SUCH_DIE := PySem.W.mg_of X G g_NO_SUCH_DIE, c_ROW_EMPTY := PySem.W.mg_of X G g_ROW_EMPTY, c_NOT_BEGUN := PySem.W.mg_of X G g_NOT_BEGUN, c_DIE_IN_USE := PySem.W.mg_of X G g_DIE_IN_USE, c_DIE_IN_ROW := PySem.W.mg_of X G g_DIE_IN_ROW, c_OUT_OF_BOUNDS := PySem.W.mg_of X G g_OUT_OF_BOUNDS, c_NO_ROOM := PySem.W.mg_of X G g_NO_ROOM, c_NOT_AS_IT_STANDS := PySem.W.mg_of X G g_NOT_AS_IT_STANDS, c_WOULD_NOT_HOLD := PySem.W.mg_of X G g_WOULD_NOT_HOLD, c_LEAST_WIDTH := PySem.W.mg_of X G g_LEAST_WIDTH, c_GREATEST_WIDTH := PySem.W.mg_of X G g_GREATEST_WIDTH, c_GREATEST_MOST := PySem.W.mg_of X G g_GREATEST_MOST, c_GREATEST_OFF := PySem.W.mg_of X G g_GREATEST_OFF, c_GREATEST_LIFE := PySem.W.mg_of X G g_GREATEST_LIFE, c_GREATEST_RUN := PySem.W.mg_of X G g_GREATEST_RUN, c_STEP_OF_RUNS := PySem.W.mg_of X G g_STEP_OF_RUNS, c_DIES_AT_MOST := PySem.W.mg_of X G g_DIES_AT_MOST, c_ANSWERED_BY := PySem.W.mg_of X G g_ANSWERED_BY, q_ANSWERED_BY := fun H => .inr ⟨_, _, _, o_ANSWERED_BY, rfl, rfl, (by show 22 ≤ sizeLine; decide), .cons rfl (.cons rfl (.cons rfl (.cons rfl (.cons rfl (.cons rfl (.cons rfl (.cons rfl (.cons rfl (.cons rfl (.cons rfl (.cons rfl (.cons rfl (.cons rfl (.cons rfl (.cons rfl (.cons rfl (.cons rfl (.cons rfl (.cons rfl (.cons rfl (.cons rfl (.nil))))))))))))))))))))))⟩, c_FOLLOWED_BY := PySem.W.mg_of X G g_FOLLOWED_BY, q_FOLLOWED_BY := fun H => .inr ⟨_, _, _, o_FOLLOWED_BY, rfl, rfl, (by show 22 ≤ sizeLine; decide), .cons ⟨_, rfl⟩ (.cons ⟨_, rfl⟩ (.cons ⟨_, rfl⟩ (.cons ⟨_, rfl⟩ (.cons ⟨_, rfl⟩ (.cons ⟨_, rfl⟩ (.cons ⟨_, rfl⟩ (.cons ⟨_, rfl⟩ (.cons ⟨_, rfl⟩ (.cons ⟨_, rfl⟩ (.cons ⟨_, rfl⟩ (.cons ⟨_, rfl⟩ (.cons ⟨_, rfl⟩ (.cons ⟨_, rfl⟩ (.cons ⟨_, rfl⟩ (.cons ⟨_, rfl⟩ (.cons ⟨_, rfl⟩ (.cons ⟨_, rfl⟩ (.cons ⟨_, rfl⟩ (.cons ⟨_, rfl⟩ (.cons ⟨_, rfl⟩ (.cons ⟨_, rfl⟩ (.nil))))))))))))))))))))))⟩, n_abs := PySem.W.mg_none_of X G u_abs, n_enumerate := PySem.W.mg_none_of X G u_enumerate, n_len := PySem.W.mg_none_of X G u_len, n_range := PySem.W.mg_none_of X G u_range }⟩
end My

end
set_option Elab.async false
set_option linter.all false
/- The head's helper twins of the heaps and trees are not wanted (the compiled file would grow past its room): their names are taken. -/
def PySem.W.Fast.tw13687221825793299357 : Unit := ()
def PySem.W.Fast.tw11987951211886211134 : Unit := ()
def PySem.W.Fast.tw7286712410663092241 : Unit := ()
def PySem.W.Fast.tw7252339722272075238 : Unit := ()
def PySem.W.Fast.tw5394320787207632457 : Unit := ()
def PySem.W.Fast.tw1381461594656809560 : Unit := ()
def PySem.W.Fast.tw10906003148891950276 : Unit := ()
def PySem.W.Fast.tw13900631314476007388 : Unit := ()
open PySem PySem.W PyProof.Rows
set_option maxRecDepth 100000 in
set_option maxHeartbeats 0 in
theorem PySem.Challenge.cw_wiredies_s01_answers_holds : PySem.Challenge.rw_wiredies_s01_answers.Holds := by
  w_on; k_headS; (case hw => exact ⟨[.list [.int 6]], by decide +kernel, by decide +kernel⟩)
  k_fillS
  refine L2.walk_specK (r := PySem.Challenge.rw_wiredies_s01_answers) (k := 41) (CX := L2.CX0) (ps := ["calls"]) (sp := My.sp_answers) (by decide +kernel) rfl rfl ⟨rfl, by decide, by decide⟩ (fun w h Y => PySem.W.kIn_of Y) ?F ?S (fun _ _ _ _ z => z)
  case F =>
    intro w mg fa h Y KX G hmg
    have T : ∃ t : My.Adr, My.Txt (L2.KOf KX) mg t := by
      dsimp only [L2.KOf]
      refine' My.txt_mk KX G ?aC_Die ?aC_Bench ?a_Die_init ?i_Die_init ?l_Die_init ?c_Die_init ?k_Die_init ?a_Die_wide ?i_Die_wide ?l_Die_wide ?c_Die_wide ?k_Die_wide ?a_Die_wide_after ?i_Die_wide_after ?l_Die_wide_after ?c_Die_wide_after ?k_Die_wide_after ?a_Die_metres_left ?i_Die_metres_left ?l_Die_metres_left ?c_Die_metres_left ?k_Die_metres_left ?a_Die_grind ?i_Die_grind ?l_Die_grind ?c_Die_grind ?k_Die_grind ?a_Die_draw ?i_Die_draw ?l_Die_draw ?c_Die_draw ?k_Die_draw ?a_Bench_init ?i_Bench_init ?l_Bench_init ?c_Bench_init ?k_Bench_init ?a_Bench_begin ?i_Bench_begin ?l_Bench_begin ?c_Bench_begin ?k_Bench_begin ?a_Bench_has_die ?i_Bench_has_die ?l_Bench_has_die ?c_Bench_has_die ?k_Bench_has_die ?a_Bench_widths_of ?i_Bench_widths_of ?l_Bench_widths_of ?c_Bench_widths_of ?k_Bench_widths_of ?a_Bench_widths ?i_Bench_widths ?l_Bench_widths ?c_Bench_widths ?k_Bench_widths ?a_Bench_widths_after ?i_Bench_widths_after ?l_Bench_widths_after ?c_Bench_widths_after ?k_Bench_widths_after ?a_Bench_wide_out ?i_Bench_wide_out ?l_Bench_wide_out ?c_Bench_wide_out ?k_Bench_wide_out ?a_Bench_wide_ahead ?i_Bench_wide_ahead ?l_Bench_wide_ahead ?c_Bench_wide_ahead ?k_Bench_wide_ahead ?a_Bench_reaches ?i_Bench_reaches ?l_Bench_reaches ?c_Bench_reaches ?k_Bench_reaches ?a_Bench_wrong_place ?i_Bench_wrong_place ?l_Bench_wrong_place ?c_Bench_wrong_place ?k_Bench_wrong_place ?a_Bench_holds ?i_Bench_holds ?l_Bench_holds ?c_Bench_holds ?k_Bench_holds ?a_Bench_metres_out ?i_Bench_metres_out ?l_Bench_metres_out ?c_Bench_metres_out ?k_Bench_metres_out ?a_Bench_draw ?i_Bench_draw ?l_Bench_draw ?c_Bench_draw ?k_Bench_draw ?a_Bench_fewest_dies ?i_Bench_fewest_dies ?l_Bench_fewest_dies ?c_Bench_fewest_dies ?k_Bench_fewest_dies ?a_Bench_rows_one_longer ?i_Bench_rows_one_longer ?l_Bench_rows_one_longer ?c_Bench_rows_one_longer ?k_Bench_rows_one_longer ?a_most_lets ?l_most_lets ?c_most_lets ?k_most_lets ?a_goes ?l_goes ?c_goes ?k_goes ?a_least_width ?l_least_width ?c_least_width ?k_least_width ?a_metres_through ?l_metres_through ?c_metres_through ?k_metres_through ?a_greatest_in_common ?l_greatest_in_common ?c_greatest_in_common ?k_greatest_in_common ?a_part_taken ?l_part_taken ?c_part_taken ?k_part_taken ?a_is_width ?l_is_width ?c_is_width ?k_is_width ?a_can_be_wanted ?l_can_be_wanted ?c_can_be_wanted ?k_can_be_wanted ?a_begin ?l_begin ?c_begin ?k_begin ?a_add_die ?l_add_die ?c_add_die ?k_add_die ?a_grind ?l_grind ?c_grind ?k_grind ?a_change_rod ?l_change_rod ?c_change_rod ?k_change_rod ?a_change_want ?l_change_want ?c_change_want ?k_change_want ?a_put ?l_put ?c_put ?k_put ?a_take ?l_take ?c_take ?k_take ?a_empty_row ?l_empty_row ?c_empty_row ?k_empty_row ?a_tell_holds ?l_tell_holds ?c_tell_holds ?k_tell_holds ?a_tell_wrong ?l_tell_wrong ?c_tell_wrong ?k_tell_wrong ?a_run_refusal ?l_run_refusal ?c_run_refusal ?k_run_refusal ?a_run ?l_run ?c_run ?k_run ?a_tell_may ?l_tell_may ?c_tell_may ?k_tell_may ?a_tell_out ?l_tell_out ?c_tell_out ?k_tell_out ?a_tell_longest ?l_tell_longest ?c_tell_longest ?k_tell_longest ?a_tell_fewest ?l_tell_fewest ?c_tell_fewest ?k_tell_fewest ?a_set_row ?l_set_row ?c_set_row ?k_set_row ?a_tell_takes ?l_tell_takes ?c_tell_takes ?k_tell_takes ?a_tell_least ?l_tell_least ?c_tell_least ?k_tell_least ?a_tell_size ?l_tell_size ?c_tell_size ?k_tell_size ?a_tell_left ?l_tell_left ?c_tell_left ?k_tell_left ?a_tell_row ?l_tell_row ?c_tell_row ?k_tell_row ?a_tell_sums ?l_tell_sums ?c_tell_sums ?k_tell_sums ?a_answer ?l_answer ?c_answer ?k_answer ?a_answers ?l_answers ?c_answers ?k_answers ?pg_Die ?hd_Die ?po_Die ?sa_Die ?mk_Die ?kc_Die ?n_Die_ground ?n_Die_life ?n_Die_drawn ?pg_Bench ?hd_Bench ?po_Bench ?sa_Bench ?mk_Bench ?kc_Bench ?n_Bench_begun ?n_Bench_rod ?n_Bench_most ?n_Bench_want ?n_Bench_off ?n_Bench_dies ?n_Bench_row ?n_Bench_metres_drawn ?g_BEGIN ?g_NO_SUCH_DIE ?g_ROW_EMPTY ?g_NOT_BEGUN ?g_DIE_IN_USE ?g_DIE_IN_ROW ?g_OUT_OF_BOUNDS ?g_NO_ROOM ?g_NOT_AS_IT_STANDS ?g_WOULD_NOT_HOLD ?g_LEAST_WIDTH ?g_GREATEST_WIDTH ?g_GREATEST_MOST ?g_GREATEST_OFF ?g_GREATEST_LIFE ?g_GREATEST_RUN ?g_STEP_OF_RUNS ?g_DIES_AT_MOST ?g_ANSWERED_BY ?o_ANSWERED_BY ?g_FOLLOWED_BY ?o_FOLLOWED_BY ?u_abs ?u_enumerate ?u_len ?u_range
      (case aC_Die => k_is)
      (case aC_Bench => k_is)
      (case a_Die_init => k_is)
      (case i_Die_init => k_is)
      (case l_Die_init => k_is)
      (case c_Die_init => k_is)
      (case k_Die_init => k_is)
      (case a_Die_wide => k_is)
      (case i_Die_wide => k_is)
      (case l_Die_wide => k_is)
      (case c_Die_wide => k_is)
      (case k_Die_wide => k_is)
      (case a_Die_wide_after => k_is)
      (case i_Die_wide_after => k_is)
      (case l_Die_wide_after => k_is)
      (case c_Die_wide_after => k_is)
      (case k_Die_wide_after => k_is)
      (case a_Die_metres_left => k_is)
      (case i_Die_metres_left => k_is)
      (case l_Die_metres_left => k_is)
      (case c_Die_metres_left => k_is)
      (case k_Die_metres_left => k_is)
      (case a_Die_grind => k_is)
      (case i_Die_grind => k_is)
      (case l_Die_grind => k_is)
      (case c_Die_grind => k_is)
      (case k_Die_grind => k_is)
      (case a_Die_draw => k_is)
      (case i_Die_draw => k_is)
      (case l_Die_draw => k_is)
      (case c_Die_draw => k_is)
      (case k_Die_draw => k_is)
      (case a_Bench_init => k_is)
      (case i_Bench_init => k_is)
      (case l_Bench_init => k_is)
      (case c_Bench_init => k_is)
      (case k_Bench_init => k_is)
      (case a_Bench_begin => k_is)
      (case i_Bench_begin => k_is)
      (case l_Bench_begin => k_is)
      (case c_Bench_begin => k_is)
      (case k_Bench_begin => k_is)
      (case a_Bench_has_die => k_is)
      (case i_Bench_has_die => k_is)
      (case l_Bench_has_die => k_is)
      (case c_Bench_has_die => k_is)
      (case k_Bench_has_die => k_is)
      (case a_Bench_widths_of => k_is)
      (case i_Bench_widths_of => k_is)
      (case l_Bench_widths_of => k_is)
      (case c_Bench_widths_of => k_is)
      (case k_Bench_widths_of => k_is)
      (case a_Bench_widths => k_is)
      (case i_Bench_widths => k_is)
      (case l_Bench_widths => k_is)
      (case c_Bench_widths => k_is)
      (case k_Bench_widths => k_is)
      (case a_Bench_widths_after => k_is)
      (case i_Bench_widths_after => k_is)
      (case l_Bench_widths_after => k_is)
      (case c_Bench_widths_after => k_is)
      (case k_Bench_widths_after => k_is)
      (case a_Bench_wide_out => k_is)
      (case i_Bench_wide_out => k_is)
      (case l_Bench_wide_out => k_is)
      (case c_Bench_wide_out => k_is)
      (case k_Bench_wide_out => k_is)
      (case a_Bench_wide_ahead => k_is)
      (case i_Bench_wide_ahead => k_is)
      (case l_Bench_wide_ahead => k_is)
      (case c_Bench_wide_ahead => k_is)
      (case k_Bench_wide_ahead => k_is)
      (case a_Bench_reaches => k_is)
      (case i_Bench_reaches => k_is)
      (case l_Bench_reaches => k_is)
      (case c_Bench_reaches => k_is)
      (case k_Bench_reaches => k_is)
      (case a_Bench_wrong_place => k_is)
      (case i_Bench_wrong_place => k_is)
      (case l_Bench_wrong_place => k_is)
      (case c_Bench_wrong_place => k_is)
      (case k_Bench_wrong_place => k_is)
      (case a_Bench_holds => k_is)
      (case i_Bench_holds => k_is)
      (case l_Bench_holds => k_is)
      (case c_Bench_holds => k_is)
      (case k_Bench_holds => k_is)
      (case a_Bench_metres_out => k_is)
      (case i_Bench_metres_out => k_is)
      (case l_Bench_metres_out => k_is)
      (case c_Bench_metres_out => k_is)
      (case k_Bench_metres_out => k_is)
      (case a_Bench_draw => k_is)
      (case i_Bench_draw => k_is)
      (case l_Bench_draw => k_is)
      (case c_Bench_draw => k_is)
      (case k_Bench_draw => k_is)
      (case a_Bench_fewest_dies => k_is)
      (case i_Bench_fewest_dies => k_is)
      (case l_Bench_fewest_dies => k_is)
      (case c_Bench_fewest_dies => k_is)
      (case k_Bench_fewest_dies => k_is)
      (case a_Bench_rows_one_longer => k_is)
      (case i_Bench_rows_one_longer => k_is)
      (case l_Bench_rows_one_longer => k_is)
      (case c_Bench_rows_one_longer => k_is)
      (case k_Bench_rows_one_longer => k_is)
      (case a_most_lets => k_is)
      (case l_most_lets => k_is)
      (case c_most_lets => k_is)
      (case k_most_lets => k_is)
      (case a_goes => k_is)
      (case l_goes => k_is)
      (case c_goes => k_is)
      (case k_goes => k_is)
      (case a_least_width => k_is)
      (case l_least_width => k_is)
      (case c_least_width => k_is)
      (case k_least_width => k_is)
      (case a_metres_through => k_is)
      (case l_metres_through => k_is)
      (case c_metres_through => k_is)
      (case k_metres_through => k_is)
      (case a_greatest_in_common => k_is)
      (case l_greatest_in_common => k_is)
      (case c_greatest_in_common => k_is)
      (case k_greatest_in_common => k_is)
      (case a_part_taken => k_is)
      (case l_part_taken => k_is)
      (case c_part_taken => k_is)
      (case k_part_taken => k_is)
      (case a_is_width => k_is)
      (case l_is_width => k_is)
      (case c_is_width => k_is)
      (case k_is_width => k_is)
      (case a_can_be_wanted => k_is)
      (case l_can_be_wanted => k_is)
      (case c_can_be_wanted => k_is)
      (case k_can_be_wanted => k_is)
      (case a_begin => k_is)
      (case l_begin => k_is)
      (case c_begin => k_is)
      (case k_begin => k_is)
      (case a_add_die => k_is)
      (case l_add_die => k_is)
      (case c_add_die => k_is)
      (case k_add_die => k_is)
      (case a_grind => k_is)
      (case l_grind => k_is)
      (case c_grind => k_is)
      (case k_grind => k_is)
      (case a_change_rod => k_is)
      (case l_change_rod => k_is)
      (case c_change_rod => k_is)
      (case k_change_rod => k_is)
      (case a_change_want => k_is)
      (case l_change_want => k_is)
      (case c_change_want => k_is)
      (case k_change_want => k_is)
      (case a_put => k_is)
      (case l_put => k_is)
      (case c_put => k_is)
      (case k_put => k_is)
      (case a_take => k_is)
      (case l_take => k_is)
      (case c_take => k_is)
      (case k_take => k_is)
      (case a_empty_row => k_is)
      (case l_empty_row => k_is)
      (case c_empty_row => k_is)
      (case k_empty_row => k_is)
      (case a_tell_holds => k_is)
      (case l_tell_holds => k_is)
      (case c_tell_holds => k_is)
      (case k_tell_holds => k_is)
      (case a_tell_wrong => k_is)
      (case l_tell_wrong => k_is)
      (case c_tell_wrong => k_is)
      (case k_tell_wrong => k_is)
      (case a_run_refusal => k_is)
      (case l_run_refusal => k_is)
      (case c_run_refusal => k_is)
      (case k_run_refusal => k_is)
      (case a_run => k_is)
      (case l_run => k_is)
      (case c_run => k_is)
      (case k_run => k_is)
      (case a_tell_may => k_is)
      (case l_tell_may => k_is)
      (case c_tell_may => k_is)
      (case k_tell_may => k_is)
      (case a_tell_out => k_is)
      (case l_tell_out => k_is)
      (case c_tell_out => k_is)
      (case k_tell_out => k_is)
      (case a_tell_longest => k_is)
      (case l_tell_longest => k_is)
      (case c_tell_longest => k_is)
      (case k_tell_longest => k_is)
      (case a_tell_fewest => k_is)
      (case l_tell_fewest => k_is)
      (case c_tell_fewest => k_is)
      (case k_tell_fewest => k_is)
      (case a_set_row => k_is)
      (case l_set_row => k_is)
      (case c_set_row => k_is)
      (case k_set_row => k_is)
      (case a_tell_takes => k_is)
      (case l_tell_takes => k_is)
      (case c_tell_takes => k_is)
      (case k_tell_takes => k_is)
      (case a_tell_least => k_is)
      (case l_tell_least => k_is)
      (case c_tell_least => k_is)
      (case k_tell_least => k_is)
      (case a_tell_size => k_is)
      (case l_tell_size => k_is)
      (case c_tell_size => k_is)
      (case k_tell_size => k_is)
      (case a_tell_left => k_is)
      (case l_tell_left => k_is)
      (case c_tell_left => k_is)
      (case k_tell_left => k_is)
      (case a_tell_row => k_is)
      (case l_tell_row => k_is)
      (case c_tell_row => k_is)
      (case k_tell_row => k_is)
      (case a_tell_sums => k_is)
      (case l_tell_sums => k_is)
      (case c_tell_sums => k_is)
      (case k_tell_sums => k_is)
      (case a_answer => k_is)
      (case l_answer => k_is)
      (case c_answer => k_is)
      (case k_answer => k_is)
      (case a_answers => k_is)
      (case l_answers => k_is)
      (case c_answers => k_is)
      (case k_answers => k_is)
      (case pg_Die => k_is)
      (case hd_Die => k_is)
      (case po_Die => k_is)
      (case sa_Die => k_is)
      (case mk_Die => k_is)
      (case kc_Die => k_is)
      (case n_Die_ground => k_is)
      (case n_Die_life => k_is)
      (case n_Die_drawn => k_is)
      (case pg_Bench => k_is)
      (case hd_Bench => k_is)
      (case po_Bench => k_is)
      (case sa_Bench => k_is)
      (case mk_Bench => k_is)
      (case kc_Bench => k_is)
      (case n_Bench_begun => k_is)
      (case n_Bench_rod => k_is)
      (case n_Bench_most => k_is)
      (case n_Bench_want => k_is)
      (case n_Bench_off => k_is)
      (case n_Bench_dies => k_is)
      (case n_Bench_row => k_is)
      (case n_Bench_metres_drawn => k_is)
      (case g_BEGIN => k_is)
      (case g_NO_SUCH_DIE => k_is)
      (case g_ROW_EMPTY => k_is)
      (case g_NOT_BEGUN => k_is)
      (case g_DIE_IN_USE => k_is)
      (case g_DIE_IN_ROW => k_is)
      (case g_OUT_OF_BOUNDS => k_is)
      (case g_NO_ROOM => k_is)
      (case g_NOT_AS_IT_STANDS => k_is)
      (case g_WOULD_NOT_HOLD => k_is)
      (case g_LEAST_WIDTH => k_is)
      (case g_GREATEST_WIDTH => k_is)
      (case g_GREATEST_MOST => k_is)
      (case g_GREATEST_OFF => k_is)
      (case g_GREATEST_LIFE => k_is)
      (case g_GREATEST_RUN => k_is)
      (case g_STEP_OF_RUNS => k_is)
      (case g_DIES_AT_MOST => k_is)
      (case g_ANSWERED_BY => k_is)
      (case o_ANSWERED_BY => k_is)
      (case g_FOLLOWED_BY => k_is)
      (case o_FOLLOWED_BY => k_is)
      (case u_abs => k_is)
      (case u_enumerate => k_is)
      (case u_len => k_is)
      (case u_range => k_is)
    obtain ⟨t, T⟩ := T
    have e0 : some (Value.ref fa) = some (Value.ref t.f_answers) := hmg.symm.trans T.m_answers
    cases e0
    refine ⟨t.fd_answers, fun s us hu => ?_, fun base kb nb => My.ok_answers T (My.ok_answer T)⟩
    obtain ⟨oc, od, kV, doc, pm, an, cdv, ct, osl, e, _, _⟩ := T.F_answers.ex
    rw [e]
    match us, hu with
    | [_], _ => exact .of_eq rfl
  case S =>
    intro K H xs a hO hwi hask hx
    cases hx with
    | cons h1 h2 =>
      cases h2
      cases h1 with
      | lst hs ha =>
        have e := L2.ints_dw a.1 _ ha
        subst e
        exact ⟨_, a.1, rfl, hs, hask, fun H' p hp => .lst (L2.SqL.of hp) (L2.dw_ints _)⟩

#print axioms PySem.Challenge.cw_wiredies_s01_answers_holds
