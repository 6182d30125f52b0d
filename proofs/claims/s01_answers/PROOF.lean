import PyProof.Rows.All
import Wide.All
import OpenK.AllK
import Wide.FinOn
import PyProof.EqAt
import PyProof.EqKinds
import PyProof.TupleCall
import KE.BitLaws
import Open.SpecLaws
import KE.OsHead
import KE.OsGo
import PyProof.TupleKey
import PyProof.SetKind
import PyProof.SetRoads
import PyProof.IsRules
import PyProof.Rows.SetFrom
import PyProof.Walks
import PyProof.WalksS
import PyProof.SetScanFacts
import PySem.Challenge.RW_copyrods_s01_answers
set_option Elab.async false
set_option linter.all false
set_option maxRecDepth 100000
namespace L2
open PySem PySem.Spec PyProof.Rows
abbrev Key := Sum Int Str
def keyIs : Key → Value → Bool
  | .inl k, v => Value.isInt k v
  | .inr x, v => Value.isStrOf x v
def keyH (w : World) : Key → Int
  | .inl k => hashInt k
  | .inr x => hashStr w x
theorem keyIs_shape : ∀ {k : Key} {v : Value}, keyIs k v = true → (∃ i t, k = Sum.inl i ∧ v = Value.int i t) ∨ (∃ x t, k = Sum.inr x ∧ v = Value.str x t)
  | .inl i, v, h => by
    obtain ⟨t, e⟩ := Value.isInt_shape (k := i) (v := v) h
    exact .inl ⟨i, t, rfl, e⟩
  | .inr x, v, h => by
    obtain ⟨t, e⟩ := Value.isStrOf_shape (x := x) (v := v) h
    exact .inr ⟨x, t, rfl, e⟩
theorem key_ll (a b : Int) : decide ((Sum.inl a : Key) = Sum.inl b) = (a == b) := by
  by_cases e : a = b
  · subst e; simp
  · have h : ¬ (Sum.inl a : Key) = Sum.inl b := fun q => e (Sum.inl.inj q)
    rw [decide_eq_false h]
    exact (beq_eq_false_iff_ne.mpr e).symm
theorem key_rr (a b : Str) : decide ((Sum.inr a : Key) = Sum.inr b) = decide (a = b) := by
  by_cases e : a = b
  · subst e; simp
  · have h : ¬ (Sum.inr a : Key) = Sum.inr b := fun q => e (Sum.inr.inj q)
    rw [decide_eq_false h, decide_eq_false e]
theorem key_lr (a : Int) (b : Str) : decide ((Sum.inl a : Key) = Sum.inr b) = false := decide_eq_false (fun q => nomatch q)
theorem key_rl (a : Str) (b : Int) : decide ((Sum.inr a : Key) = Sum.inl b) = false := decide_eq_false (fun q => nomatch q)
def mixKind (prog : Program) (w : World) : PySem.KeyKind prog w Key where
  is := keyIs
  hash := keyH w
  inj := fun v a b ha hb => by
    rcases keyIs_shape ha with ⟨i, t, rfl, rfl⟩ | ⟨x, t, rfl, rfl⟩
    · rcases keyIs_shape hb with ⟨j, u, rfl, e⟩ | ⟨y, u, rfl, e⟩
      · injection e with e1 _; rw [e1]
      · exact nomatch e
    · rcases keyIs_shape hb with ⟨j, u, rfl, e⟩ | ⟨y, u, rfl, e⟩
      · exact nomatch e
      · injection e with e1 _; rw [e1]
  byValue := fun k v h => by
    rcases keyIs_shape h with ⟨i, t, rfl, rfl⟩ | ⟨x, t, rfl, rfl⟩ <;> rfl
  pyHash := fun hv h => by
    rcases keyIs_shape hv with ⟨i, t, rfl, rfl⟩ | ⟨x, t, rfl, rfl⟩
    · exact wpAny_pyHash_int h
    · exact wpAny_pyHash_str h
  eqBool := fun hu hv h => by
    rcases keyIs_shape hu with ⟨i, t, rfl, rfl⟩ | ⟨x, t, rfl, rfl⟩
    · rcases keyIs_shape hv with ⟨j, u, rfl, rfl⟩ | ⟨y, u, rfl, rfl⟩
      · rw [key_ll] at h; exact wpAny_eqBool_int h
      · rw [key_lr] at h; exact SeqAt.EqAt.int_str i t y u _ _ _ _ h
    · rcases keyIs_shape hv with ⟨j, u, rfl, rfl⟩ | ⟨y, u, rfl, rfl⟩
      · rw [key_rl] at h; exact SeqAt.EqAt.str_int x t j u _ _ _ _ h
      · rw [key_rr] at h; exact wpAny_eqBool_str h
  «strs» := fun k x t v h => by
    rcases keyIs_shape h with ⟨i, u, rfl, e⟩ | ⟨y, u, rfl, e⟩
    · exact nomatch e
    · injection e with e1 _
      subst e1
      cases v <;> rfl
end L2
namespace L2
open PySem PySem.Spec PyProof.Rows
inductive V where
  | non | bl (b : Bool) | int (i : Int) | str (x : Str) | byt (b : Array UInt8) | flt (b : UInt64) | ref (a : Addr) | ty (n : String)
  deriving DecidableEq
def RelV : V → Value → Prop
  | .non, u => u = Value.none
  | .bl b, u => u = Value.bool b
  | .int i, u => ∃ t, u = Value.int i t
  | .str x, u => ∃ t, u = Value.str x t
  | .byt b, u => ∃ t, u = Value.bytes b t
  | .flt b, u => ∃ t, u = Value.float b t
  | .ref a, u => u = Value.ref a
  | .ty n, u => u = Value.type n
abbrev Vals : List V → List Value → Prop := Paired RelV
theorem Vals.length {xs : List V} {us : List Value} (r : Vals xs us) : xs.length = us.length := Paired.length r
theorem Vals.get : ∀ {xs : List V} {us : List Value} {i : Nat} {x : V}, Vals xs us → xs[i]? = some x → ∃ u, us[i]? = some u ∧ RelV x u
  | _, _, _, _, .nil, e => by simp at e
  | _, _, 0, _, .cons r _, e => by simp at e; subst e; exact ⟨_, rfl, r⟩
  | _, _, i + 1, x, .cons _ t, e => by
    obtain ⟨u, h1, h2⟩ := Vals.get (i := i) (x := x) t (by simpa using e)
    exact ⟨u, by simpa using h1, h2⟩
theorem Vals.append : ∀ {xs ys : List V} {us ws : List Value}, Vals xs us → Vals ys ws → Vals (xs ++ ys) (us ++ ws)
  | _, _, _, _, .nil, s => s
  | _, _, _, _, .cons r t, s => .cons r (Vals.append t s)
theorem Vals.take : ∀ {xs : List V} {us : List Value} (n : Nat), Vals xs us → Vals (xs.take n) (us.take n)
  | _, _, 0, _ => .nil
  | _, _, _ + 1, .nil => .nil
  | _, _, n + 1, .cons r t => .cons r (Vals.take n t)
theorem Vals.drop : ∀ {xs : List V} {us : List Value} (n : Nat), Vals xs us → Vals (xs.drop n) (us.drop n)
  | _, _, 0, r => r
  | _, _, _ + 1, .nil => .nil
  | _, _, n + 1, .cons _ t => Vals.drop n t
def RelO : Option V → Option Value → Prop
  | some v, some u => RelV v u
  | none, none => True
  | _, _ => False
def KV {κ : Type} : List (κ × V) → List (κ × Value) → Prop := Paired fun (p : κ × V) (q : κ × Value) => p.1 = q.1 ∧ RelV p.2 q.2
def kV : Key → V
  | .inl i => .int i
  | .inr x => .str x
inductive HO where
  /-- a list -/
  | lst (xs : List V)
  /-- a tuple (never changes) -/
  | tup (xs : List V)
  /-- a dict whose keys are ints and texts; one whose keys are tuples of ints and texts (the empty one is both) -/
  | dK (kvs : List (Key × V)) | dT (kvs : List (List Key × V))
  /-- a set of ints: its members, its size -/
  | set (S : Int → Bool) (n : Nat)
  /-- an instance of the class at C, its dict at dx, its attributes -/
  | ins (C dx : Addr) (fs : List (Str × V))
  /-- the dict of the instance at x -/
  | own (x : Addr)
  /-- the dict of an exception -/
  | xd (fs : List (Str × V))
  /-- a bound method, f of x -/
  | met (f x : Addr)
  /-- a range object lo, lo + 1, .. below hi -/
  | rng (lo hi : Int)
  /-- a thing that is known to the object (the script; a dict while a loop walks it): read, never written while it is so -/
  | frz (o : Obj) (u : HO)
  /-- a code object's table -/
  | tbl (ps : Array Value)
  /-- any other thing, by what is true of its one object (a def of one's own: SetO a S n := HO.ext fun h => ..) -/
  | ext (φ : Heap → Prop)
abbrev Hp := Addr → Option HO
def upd (H : Hp) (a : Addr) (o : HO) : Hp := fun b => if b = a then some o else H b
theorem upd_same {H : Hp} {a : Addr} {o : HO} : upd H a o a = some o := by unfold upd; rw [if_pos rfl]
theorem upd_ne {H : Hp} {a b : Addr} {o : HO} (h : b ≠ a) : upd H a o b = H b := by unfold upd; rw [if_neg h]
theorem ne_of {H : Hp} {a b : Addr} {o u : HO} (h : H a = some o) (h' : H b = some u) (d : o ≠ u) : a ≠ b := by
  intro e; subst e; rw [h] at h'; exact d (Option.some.inj h')
theorem ne_of_none {H : Hp} {a b : Addr} {o : HO} (h : H a = some o) (h' : H b = none) : a ≠ b := by
  intro e; subst e; rw [h] at h'; cases h'
section
variable (P : Program) (w : World)
def ObjOk (H : Hp) (h : Heap) (a : Addr) : HO → Prop
  | .lst xs => xs.length ≤ sizeLine ∧ ∃ (its : List Value) (n : Nat), Vals xs its ∧ h.get? a = some { cls := .type "list", data := .seq its.toArray n }
  | .tup xs => xs.length ≤ sizeLine ∧ ∃ its : List Value, Vals xs its ∧ IsTup h a its.toArray
  | .dK kvs => kvs.length ≤ sizeLine ∧ (a == sysModules) = false ∧ ∃ vs, KV kvs vs ∧ h.DictOf (mixKind P w) a vs
  | .dT kvs => kvs.length ≤ sizeLine ∧ (a == sysModules) = false ∧ ∃ xs : List (List Key × Addr × Value),
      Paired (fun (p : List Key × V) (q : List Key × Addr × Value) => p.1 = q.1 ∧ H q.2.1 = some (.tup (p.1.map kV)) ∧ RelV p.2 q.2.2) kvs xs ∧
      ∃ o es ep, h.get? a = some o ∧ o.ExactDict ∧ o.data = .dict es ep ∧ es.toList = xs.map (entryOfKey (tupleKind (mixKind P w))) ∧ (xs.map (·.1)).Nodup
  | .set S n => h.SetOf (intKind P w) a S n
  | .ins C dx fs => H dx = some (.own a) ∧ fs.length ≤ 1000 ∧ dx ≠ a ∧ h.get? a = some (PySem.W.instObj C dx) ∧
      ∃ mA, h.Ns1 dx mA ∧ (∀ f, RelO (fs.lookup f) (mA f)) ∧ PySem.Within mA (fs.map (·.1))
  | .own _ => ∃ o, h.get? a = some o
  | .xd fs => ∃ mA, h.Ns1 a mA ∧ ∀ f, RelO (fs.lookup f) (mA f)
  | .rng lo hi => ∃ t u v, h.get? a = some { cls := .type "range", data := .fields #[.int lo t, .int hi u, .int 1 v] }
  | .frz o u => h.get? a = some o ∧ ObjOk H h a u
  | .tbl ps => h.get? a = some { cls := .none, data := .fields ps }
  | .met f x => h.get? a = some (PySem.W.methodObj (.ref f) (.ref x))
  | .ext φ => φ h ∧ (∃ o, h.get? a = some o) ∧ ∀ h1 h2 : Heap, φ h1 → (∀ o, h1.get? a = some o → h2.get? a = some o) → φ h2
def HOk (H : Hp) (h : Heap) : Prop := ∀ a o, H a = some o → ObjOk P w H h a o
end
section
variable {P : Program} {w : World} {H H' : Hp} {h h' : Heap} {a : Addr} {o : HO}
theorem ObjOk.lt (x : ObjOk P w H h a o) : a < h.objs.size := by
  cases o with
  | lst xs => obtain ⟨_, _, _, _, e⟩ := x; exact Heap.lt_size e
  | tup xs => obtain ⟨_, _, _, p⟩ := x; exact p.lt
  | dK kvs => obtain ⟨_, _, _, _, o, _, _, e, _⟩ := x; exact Heap.lt_size e
  | dT kvs => obtain ⟨_, _, _, _, o, _, _, e, _⟩ := x; exact Heap.lt_size e
  | set S n => obtain ⟨o, _, _, _, e, _⟩ := x; exact Heap.lt_size e
  | ins C dx fs => obtain ⟨_, _, _, e, _⟩ := x; exact Heap.lt_size e
  | own y => obtain ⟨_, e⟩ := x; exact Heap.lt_size e
  | xd fs => obtain ⟨_, ⟨_, _, _, e, _⟩, _⟩ := x; exact Heap.lt_size e
  | rng lo hi => obtain ⟨_, _, _, e⟩ := x; exact Heap.lt_size e
  | frz ob u => obtain ⟨e, _⟩ := x; exact Heap.lt_size e
  | tbl ps => exact Heap.lt_size (show h.get? a = some _ from x)
  | met f y => exact Heap.lt_size (show h.get? a = some _ from x)
  | ext φ => obtain ⟨_, ⟨_, e⟩, _⟩ := x; exact Heap.lt_size e
theorem Paired.mapP {α β : Type} {F G : α → β → Prop} : ∀ {l₁ : List α} {l₂ : List β}, Paired F l₁ l₂ → (∀ a b, F a b → G a b) → Paired G l₁ l₂
  | _, _, .nil, _ => .nil
  | _, _, .cons r t, f => .cons (f _ _ r) (Paired.mapP t f)
theorem ObjOk.stay (x : ObjOk P w H h a o) (k : ∀ b u, (b = a ∨ H b = some (.own a)) → h.get? b = some u → h'.get? b = some u)
    (ho : ∀ b, H b = some (.own a) → H' b = some (.own a)) (ht : ∀ b xs, H b = some (.tup xs) → H' b = some (.tup xs)) : ObjOk P w H' h' a o := by
  induction o with
  | lst xs => obtain ⟨z, its, n, r, e⟩ := x; exact ⟨z, its, n, r, k _ _ (.inl rfl) e⟩
  | tup xs => obtain ⟨z, its, r, ob, e, c⟩ := x; exact ⟨z, its, r, ob, k _ _ (.inl rfl) e, c⟩
  | dK kvs => obtain ⟨z, y, vs, r, ob, es, ep, e, c⟩ := x; exact ⟨z, y, vs, r, ob, es, ep, k _ _ (.inl rfl) e, c⟩
  | dT kvs =>
    obtain ⟨z, y, xs, r, ob, es, ep, e, c⟩ := x
    exact ⟨z, y, xs, Paired.mapP r fun p q z => ⟨z.1, ht _ _ z.2.1, z.2.2⟩, ob, es, ep, k _ _ (.inl rfl) e, c⟩
  | set S n => obtain ⟨ob, es, ep, t, e, c⟩ := x; exact ⟨ob, es, ep, t, k _ _ (.inl rfl) e, c⟩
  | ins C dx fs =>
    obtain ⟨d, z, ne, e, mA, ⟨od, es, ep, e2, c⟩, r⟩ := x
    exact ⟨ho _ d, z, ne, k _ _ (.inl rfl) e, mA, ⟨od, es, ep, k _ _ (.inr d) e2, c⟩, r⟩
  | own y => obtain ⟨ob, e⟩ := x; exact ⟨ob, k _ _ (.inl rfl) e⟩
  | xd fs => obtain ⟨mA, ⟨od, es, ep, e, c⟩, r⟩ := x; exact ⟨mA, ⟨od, es, ep, k _ _ (.inl rfl) e, c⟩, r⟩
  | rng lo hi => obtain ⟨t, u, v, e⟩ := x; exact ⟨t, u, v, k _ _ (.inl rfl) e⟩
  | frz ob u ih => obtain ⟨e, q⟩ := x; exact ⟨k _ _ (.inl rfl) e, ih q⟩
  | tbl ps =>
    have e : h.get? a = some { cls := .none, data := .fields ps } := x
    show h'.get? a = some { cls := .none, data := .fields ps }
    exact k a _ (.inl rfl) e
  | met f y =>
    have e : h.get? a = some (PySem.W.methodObj (.ref f) (.ref y)) := x
    show h'.get? a = some (PySem.W.methodObj (.ref f) (.ref y))
    exact k a _ (.inl rfl) e
  | ext φ => obtain ⟨p, ⟨o, e⟩, st⟩ := x; exact ⟨st _ _ p fun o q => k _ _ (.inl rfl) q, ⟨o, k _ _ (.inl rfl) e⟩, st⟩
theorem HOk.lt (x : HOk P w H h) (e : H a = some o) : a < h.objs.size := (x a o e).lt
theorem HOk.fresh (x : HOk P w H h) (e : h.objs.size ≤ a) : H a = none := by
  cases q : H a with
  | none => rfl
  | some u => exact absurd (Nat.lt_of_lt_of_le (x.lt q) e) (Nat.lt_irrefl _)
theorem HOk.kept (x : HOk P w H h) (k : ∀ b u, h.get? b = some u → h'.get? b = some u) : HOk P w H h' := fun a o e =>
  (x a o e).stay (fun b u _ q => k b u q) (fun _ q => q) fun _ _ q => q
theorem HOk.laid (x : HOk P w H h) (k : ∀ b u, h.get? b = some u → h'.get? b = some u) (hp : h.objs.size ≤ a) (new : ObjOk P w (upd H a o) h' a o) : HOk P w (upd H a o) h' := fun b u e => by
  have hn := x.fresh hp
  by_cases hb : b = a
  · subst hb; rw [upd_same] at e; cases e; exact new
  · rw [upd_ne hb] at e
    exact (x b u e).stay (fun c v _ q => k c v q) (fun c q => by rw [upd_ne (ne_of_none q hn)]; exact q) fun c xs q => by rw [upd_ne (ne_of_none q hn)]; exact q
end
def Rd (H : Hp) (a : Addr) (u : HO) : Prop := H a = some u ∨ ∃ o, H a = some (.frz o u)
theorem Rd.ok {P : Program} {w : World} {H : Hp} {h : Heap} {a : Addr} {u : HO} (r : Rd H a u) (x : HOk P w H h) : ObjOk P w H h a u := by
  rcases r with r | ⟨o, r⟩
  · exact x a u r
  · obtain ⟨_, q⟩ := x a _ r
    exact q
def Mut : Option HO → Prop
  | some (.lst _) => True
  | some (.dK _) => True
  | some (.dT _) => True
  | some (.set _ _) => True
  | some (.ins _ _ _) => True
  | some (.ext _) => True
  | _ => False
section
variable {P : Program} {w : World} {H : Hp} {h h' : Heap} {x e : Addr} {o' : HO}
theorem HOk.write (ok : HOk P w H h) (mu : Mut (H x)) (he : e = x ∨ H e = some (.own x)) (k : ∀ b u, b ≠ e → h.get? b = some u → h'.get? b = some u) (heo : ∃ u, h'.get? e = some u)
    (new : ObjOk P w (upd H x o') h' x o') : HOk P w (upd H x o') h' := fun b u q => by
  have nown : ∀ c y, H c = some (.own y) → c ≠ x := fun c y r z => by subst z; rw [r] at mu; exact mu
  have ntup : ∀ c xs, H c = some (.tup xs) → c ≠ x := fun c xs r z => by subst z; rw [r] at mu; exact mu
  by_cases hb : b = x
  · subst hb; rw [upd_same] at q; cases q; exact new
  · rw [upd_ne hb] at q
    by_cases hbe : b = e
    · have q' : H b = some (.own x) := by
        rcases he with z | z
        · exact absurd (hbe.trans z) hb
        · rw [hbe]; exact z
      rw [q] at q'; cases q'
      obtain ⟨v, hv⟩ := heo
      exact ⟨v, by rw [hbe]; exact hv⟩
    · refine (ok b u q).stay (fun c v hc r => k c v ?_ r) (fun c r => by rw [upd_ne (nown c b r)]; exact r) fun c xs r => by rw [upd_ne (ntup c xs r)]; exact r
      rcases hc with rfl | hc
      · exact hbe
      · rintro rfl
        rcases he with z | z
        · exact nown c b hc z
        · rw [hc] at z; cases z; exact hb rfl
end
structure Un (fs ex : List Addr) (H H' : Hp) (h h' : Heap) : Prop where
  keep : ∀ b o, h.get? b = some o → H b = none → b ∉ fs → b ∉ ex → h'.get? b = some o
  slot : ∀ b o, h.get? b = some o → H b = none → b ∈ fs → b ∉ ex → ∃ sl, h'.get? b = some { o with slots := sl }
  free : ∀ b o, h.get? b = some o → H b = none → b ∉ ex → H' b = none
  there : ∀ b o, h.get? b = some o → b ∉ ex → ∃ o', h'.get? b = some o'
  tups : ∀ b xs, H b = some (.tup xs) → H' b = some (.tup xs)
  frzs : ∀ b o u, H b = some (.frz o u) → H' b = some (.frz o u)
  tbls : ∀ b ps, H b = some (.tbl ps) → ∃ more, H' b = some (.tbl (ps ++ more))
section
variable {fs fs' ex ex' : List Addr} {H H1 H2 : Hp} {h h1 h2 h' : Heap} {a x e : Addr} {o : HO}
theorem Un.any (u : Un fs ex H H1 h h1) {b : Addr} {ob : Obj} (q : h.get? b = some ob) (n : H b = none) (hx : b ∉ ex) : ∃ sl, h1.get? b = some { ob with slots := sl } := by
  by_cases hb : b ∈ fs
  · exact u.slot b ob q n hb hx
  · exact ⟨ob.slots, u.keep b ob q n hb hx⟩
theorem Un.kept (k : ∀ b u, h.get? b = some u → h'.get? b = some u) : Un fs ex H H h h' :=
  ⟨fun b ob q _ _ _ => k b ob q, fun b ob q _ _ _ => ⟨ob.slots, k b ob q⟩, fun _ _ _ n _ => n, fun b ob q _ => ⟨ob, k b ob q⟩, fun _ _ q => q, fun _ _ _ q => q, fun _ ps q => ⟨#[], by rw [q]; simp⟩⟩
theorem Un.refl : Un fs ex H H h h := Un.kept fun _ _ q => q
theorem Un.laid (k : ∀ b u, h.get? b = some u → h'.get? b = some u) (hp : h.objs.size ≤ a) (hn : H a = none) : Un fs ex H (upd H a o) h h' where
  keep := fun b u q _ _ _ => k b u q
  slot := fun b u q _ _ _ => ⟨u.slots, k b u q⟩
  free := fun b u q n _ => by rw [upd_ne (Nat.ne_of_lt (Nat.lt_of_lt_of_le (Heap.lt_size q) hp))]; exact n
  there := fun b u q _ => ⟨u, k b u q⟩
  tups := fun b xs q => by rw [upd_ne (ne_of_none q hn)]; exact q
  frzs := fun b u xs q => by rw [upd_ne (ne_of_none q hn)]; exact q
  tbls := fun b ps q => ⟨#[], by rw [upd_ne (ne_of_none q hn), q]; simp⟩
theorem Un.write (mu : Mut (H x)) (he : e = x ∨ H e = some (.own x)) (k : ∀ b u, b ≠ e → h.get? b = some u → h'.get? b = some u) (heo : ∃ u, h'.get? e = some u) : Un fs ex H (upd H x o) h h' := by
  have hx : ∀ b, H b = none → b ≠ x := fun b n z => by subst z; rw [n] at mu; exact mu
  have hb : ∀ b, H b = none → b ≠ e := fun b n z => by
    subst z
    rcases he with r | r
    · exact hx b n r
    · rw [n] at r; cases r
  have hm : ∀ b u, H b = some u → ¬ Mut (some u) → b ≠ x := fun b u q nm z => by subst z; rw [q] at mu; exact nm mu
  refine ⟨fun b u q n _ _ => k b u (hb b n) q, fun b u q n _ _ => ⟨u.slots, k b u (hb b n) q⟩, fun b u q n _ => by rw [upd_ne (hx b n)]; exact n, fun b u q _ => ?_,
    fun b xs q => by rw [upd_ne (hm b _ q fun z => z)]; exact q, fun b u xs q => by rw [upd_ne (hm b _ q fun z => z)]; exact q, fun b ps q => ⟨#[], by rw [upd_ne (hm b _ q fun z => z), q]; simp⟩⟩
  by_cases hbe : b = e
  · subst hbe; exact heo
  · exact ⟨u, k b u hbe q⟩
end
def trk (h : Heap) (H : Hp) : List Addr := (List.range h.objs.size).filter fun a => (H a).isSome
def hidT (h : Heap) (H : Hp) : Heap := PySem.W.hideAll h (trk h H)
theorem hidT_size (h : Heap) (H : Hp) : (hidT h H).objs.size = h.objs.size := PySem.W.hideAll_size _ _
theorem hidT_get {h : Heap} {H : Hp} {b : Addr} {o : Obj} (e : h.get? b = some o) (n : H b = none) : (hidT h H).get? b = some o :=
  PySem.W.hideAll_get _ e fun hm => by
    have q : (H b).isSome = true := (List.mem_filter.mp hm).2
    rw [n] at q; simp at q
theorem of_hidT {h : Heap} {H : Hp} {b : Addr} {o : Obj} (e : (hidT h H).get? b = some o) : h.get? b = some o ∧ H b = none := by
  have e' : h.get? b = some o := PySem.W.of_hideAll (trk h H) e
  refine ⟨e', ?_⟩
  cases q : H b with
  | none => rfl
  | some x =>
    have hm : b ∈ trk h H := List.mem_filter.mpr ⟨List.mem_range.mpr (Heap.lt_size e'), by simp [q]⟩
    have z : (hidT h H).get? b = none := PySem.W.hideAll_none (trk h H) hm
    rw [z] at e; cases e
end L2
namespace L2
open PySem PySem.Spec PyProof.Rows
structure Mod (K : PySem.W.Frag) (mg : Str → Option Value) (base : Heap) : Prop where
  kin : K.In base
  glob : base.Ns mainGlobals mg
  blt : ∃ mb, base.Ns builtinsNs mb ∧ ∀ x : Str, x ≠ "__name__" → mb x = bootBuiltins x
  nolimit : base.NoLimit
structure Cx where
  prog : Program
  w : World
  K : PySem.W.Frag
  mg : Str → Option Value
  base : Heap
  A : Around
  N : List Str
  s_0 : Shared
  H_0 : Hp
  env : Env
  outer : List Env
  stack : List Env
  ex : List Addr
  fn : Str → Bool
  calm : Bool
  pn : List (Addr × Obj)
  xe : Value → Shared → Prop
def frs (l : List Env) : List Addr := l.filterMap (·.frame)
abbrev Cx.fs (X : Cx) : List Addr := frs X.outer
def Vis (sc : Scope) (x : Str) : Prop := sc.names.lookup x = some .local ∨ sc.names.lookup x = some .cell ∨ sc.names.lookup x = some .free
def Loc (sc : Scope) (x : Str) : Prop := sc.names.lookup x = some .local ∨ sc.names.lookup x = some .cell
def Look (env : Env) (h : Heap) (m : Str → Option Value) (x : Str) (u : Value) : Prop :=
  (env.kindOf x = some .local ∧ m x = some u) ∨ ((env.kindOf x = some .cell ∨ env.kindOf x = some .free) ∧ ∃ c, env.cells.lookup x = some c ∧ h.IsCell c (some u))
structure Cx.Ok (X : Cx) : Prop where
  mod : Mod X.K X.mg X.base
  kind : X.env.scope.kind = .function
  glob : X.env.globals = mainGlobals
  blt : X.env.builtins = builtinsNs
  above : X.s_0.heap.objs.size ≤ X.env.locals
  inj : ∀ x y c, X.env.cells.lookup x = some c → X.env.cells.lookup y = some c → x = y
  has : ∀ x, (X.env.kindOf x = some .cell ∨ X.env.kindOf x = some .free) → ∃ c, X.env.cells.lookup x = some c
  cab : ∀ x c, X.fn x = true → X.env.cells.lookup x = some c → X.s_0.heap.objs.size ≤ c
  hd : X.calm = true → X.A.handled = none
  frames : X.A.frames = some X.stack
  stk : X.stack = X.outer ∨ (X.stack = X.env :: X.outer ∧ X.env.frame = some X.env.locals)
  exf : ∀ b ∈ X.ex, b ≠ X.env.locals ∧ ∀ x c, X.env.cells.lookup x = some c → c ≠ b
  bs : ∀ b o, X.base.get? b = some o → X.s_0.heap.get? b = some o ∧ X.H_0 b = none
  bsz : X.base.objs.size ≤ X.s_0.heap.objs.size
  noex : ∀ b o, X.base.get? b = some o → b ∉ X.ex
  exfs : ∀ b ∈ X.ex, b ∉ X.fs
  funs : X.s_0.heap.FunFrames X.base X.outer
  frf : ∀ b ∈ X.fs, X.H_0 b = none
structure Inv (X : Cx) (pins : List (Addr × Obj)) (σ : List (Option V)) (H : Hp) (s : Shared) : Prop where
  ok : X.Ok
  os : s.os = X.s_0.os
  bare : AllBare s.gens
  base : Un X.fs X.ex X.H_0 H X.s_0.heap s.heap
  loc : ∃ m, s.heap.Ns X.env.locals m ∧ ∀ (i : Nat) (x : Str) (v : V), X.N[i]? = some x → σ[i]? = some (some v) → Vis X.env.scope x → ∃ u, RelV v u ∧ Look X.env s.heap m x u
  cell : ∀ x c, X.env.cells.lookup x = some c → ∃ v, s.heap.IsCell c v
  free : H X.env.locals = none
  freeC : ∀ x c, X.env.cells.lookup x = some c → H c = none
  pin : ∀ p ∈ X.pn ++ pins, s.heap.get? p.1 = some p.2 ∧ H p.1 = none ∧ p.1 ≠ X.env.locals ∧ p.1 ∉ X.fs ∧ ∀ v, p.2.data ≠ .cell v
  hok : HOk X.prog X.w H s.heap
  len : σ.length = X.N.length
section
variable {X : Cx} {pins : List (Addr × Obj)} {σ : List (Option V)} {H H' : Hp} {s : Shared} {h' : Heap}
theorem Cx.Ok.nofr (ok : X.Ok) {b : Addr} {o : Obj} (e : X.base.get? b = some o) : b ∉ X.fs := fun hb => by
  have := (ok.funs.mem hb).1
  rw [e] at this; cases this
theorem Inv.bs (I : Inv X pins σ H s) : ∀ b o, X.base.get? b = some o → s.heap.get? b = some o ∧ H b = none := fun b o e =>
  ⟨I.base.keep b o (I.ok.bs b o e).1 (I.ok.bs b o e).2 (I.ok.nofr e) (I.ok.noex b o e), I.base.free b o (I.ok.bs b o e).1 (I.ok.bs b o e).2 (I.ok.noex b o e)⟩
theorem Inv.bk (I : Inv X pins σ H s) : ∀ b o, X.base.get? b = some o → s.heap.get? b = some o := fun b o e => (I.bs b o e).1
theorem Inv.mod (I : Inv X pins σ H s) : Mod X.K X.mg X.base := I.ok.mod
theorem Inv.kIn (I : Inv X pins σ H s) : X.K.In s.heap := I.ok.mod.kin.keeps I.bk
theorem Inv.lt (I : Inv X pins σ H s) : X.env.locals < s.heap.objs.size := let ⟨_, hn, _⟩ := I.loc; hn.lt
theorem Inv.sz (I : Inv X pins σ H s) : X.s_0.heap.objs.size ≤ s.heap.objs.size := Nat.le_trans I.ok.above (Nat.le_of_lt I.lt)
theorem Inv.nofs (I : Inv X pins σ H s) {a : Addr} (h : s.heap.objs.size ≤ a) : a ∉ X.fs := fun hb => by
  obtain ⟨_, o, ho, _⟩ := I.ok.funs.mem hb
  exact absurd (Nat.lt_of_lt_of_le (Heap.lt_size ho) (Nat.le_trans I.sz h)) (Nat.lt_irrefl _)
theorem Inv.cne (I : Inv X pins σ H s) : ∀ x c, X.env.cells.lookup x = some c → c ≠ X.env.locals := fun x c e z => by
  obtain ⟨v, o, ho, hd⟩ := I.cell x c e
  obtain ⟨m, ⟨o', es, ep, ho', hd', _⟩, _⟩ := I.loc
  rw [z, ho'] at ho; cases ho; rw [hd'] at hd; cases hd
theorem Inv.funs (I : Inv X pins σ H s) : s.heap.FunFrames X.base X.outer := by
  have all : ∀ (l : List Env), (∀ b ∈ frs l, b ∈ X.fs) → X.s_0.heap.FunFrames X.base l → s.heap.FunFrames X.base l := by
    intro l
    induction l with
    | nil => intro _ _; trivial
    | cons env r ih =>
      intro hs hl
      obtain ⟨hk, ⟨L, o, hf, hn, ho, hd⟩, hr⟩ := hl
      have hL : L ∈ X.fs := hs L (by unfold frs; rw [List.filterMap_cons, hf]; exact List.mem_cons_self)
      obtain ⟨sl, e⟩ := I.base.slot L o ho (I.ok.frf L hL) hL fun z => I.ok.exfs L z hL
      exact ⟨hk, ⟨L, _, hf, hn, e, hd⟩, ih (fun b hb => hs b (by unfold frs; rw [List.filterMap_cons, hf]; exact List.mem_cons_of_mem _ hb)) hr⟩
  exact all X.outer (fun _ hb => hb) I.ok.funs
theorem Inv.stack (I : Inv X pins σ H s) : s.heap.FunFrames X.base X.stack := by
  rcases I.ok.stk with e | ⟨e, hf⟩
  · rw [e]; exact I.funs
  · rw [e]
    obtain ⟨m, hn, _⟩ := I.loc
    refine .cons (by rw [I.ok.kind]; decide) hf hn ?_ I.funs
    exact Heap.get?_none_of_le (Nat.le_trans I.ok.bsz I.ok.above)
theorem Inv.stkSub (I : Inv X pins σ H s) : ∀ b ∈ frs X.stack, b ∈ X.env.locals :: X.fs := fun b hb => by
  rcases I.ok.stk with e | ⟨e, hf⟩
  · rw [e] at hb; exact List.mem_cons_of_mem _ hb
  · rw [e] at hb
    unfold frs at hb
    rw [List.filterMap_cons, hf] at hb
    exact hb
theorem Inv.stkFree (I : Inv X pins σ H s) : ∀ b ∈ frs X.stack, H b = none := fun b hb => by
  rcases List.mem_cons.mp (I.stkSub b hb) with e | hb
  · rw [e]; exact I.free
  · obtain ⟨_, o, ho, _⟩ := I.ok.funs.mem hb
    exact I.base.free b o ho (I.ok.frf b hb) fun z => I.ok.exfs b z hb
theorem Inv.step {g' : Array GenState} {t' : Nat} {d' : Drawn} {ch : List Addr} (I : Inv X pins σ H s)
    (hch : ∀ b ∈ ch, (b ∈ X.ex ∨ X.s_0.heap.objs.size ≤ b) ∧ b ≠ X.env.locals ∧ (∀ x c, X.env.cells.lookup x = some c → c ≠ b) ∧ ∀ p ∈ X.pn ++ pins, p.1 ≠ b)
    (keep : ∀ b o, b ≠ X.env.locals → b ∉ X.fs → b ∉ ch → s.heap.get? b = some o → H b = none → h'.get? b = some o)
    (slot : ∀ b o, b ≠ X.env.locals → b ∈ X.fs → b ∉ ch → s.heap.get? b = some o → H b = none → ∃ sl, h'.get? b = some { o with slots := sl }) (free : ∀ b o, b ∉ ch → s.heap.get? b = some o → H b = none → H' b = none)
    (there : ∀ b o, b ∉ ch → s.heap.get? b = some o → ∃ o', h'.get? b = some o')
    (tups : ∀ b xs, H b = some (.tup xs) → H' b = some (.tup xs)) (frzs : ∀ b o u, H b = some (.frz o u) → H' b = some (.frz o u)) (tbls : ∀ b ps, H b = some (.tbl ps) → ∃ more, H' b = some (.tbl (ps ++ more)))
    (ns : ∀ m, s.heap.Ns X.env.locals m → h'.Ns X.env.locals m) (hok : HOk X.prog X.w H' h') (hg : AllBare g') :
    Inv X pins σ H' { s with heap := h', gens := g', drawn := d', toks := t' } := by
  have neL : ∀ b o, X.s_0.heap.get? b = some o → b ≠ X.env.locals := fun b o e => Nat.ne_of_lt (Nat.lt_of_lt_of_le (Heap.lt_size e) I.ok.above)
  have neC : ∀ b o, X.s_0.heap.get? b = some o → b ∉ X.ex → b ∉ ch := fun b o e hx hb => by
    rcases (hch b hb).1 with z | z
    · exact hx z
    · exact absurd (Nat.lt_of_lt_of_le (Heap.lt_size e) z) (Nat.lt_irrefl _)
  have cellK : ∀ x c, X.env.cells.lookup x = some c → ∀ v, s.heap.IsCell c v → h'.IsCell c v := fun x c e v ⟨o, ho, hd⟩ => by
    have nch : c ∉ ch := fun z => (hch c z).2.2.1 x c e rfl
    by_cases hc : c ∈ X.fs
    · obtain ⟨sl, q⟩ := slot c o (I.cne x c e) hc nch ho (I.freeC x c e)
      exact ⟨_, q, hd⟩
    · exact ⟨o, keep c o (I.cne x c e) hc nch ho (I.freeC x c e), hd⟩
  refine ⟨I.ok, I.os, hg, ⟨fun b o e n hb hx => ?_, fun b o e n hb hx => ?_, fun b o e n hx => ?_, fun b o e hx => ?_, fun b xs e => tups b xs (I.base.tups b xs e), fun b o xs e => frzs b o xs (I.base.frzs b o xs e), fun b ps e => ?_⟩, ?_, fun x c e => ?_, ?_, fun x c e => ?_, fun p hp => ?_, hok, I.len⟩
  · exact keep b o (neL b o e) hb (neC b o e hx) (I.base.keep b o e n hb hx) (I.base.free b o e n hx)
  · obtain ⟨sl, e1⟩ := I.base.slot b o e n hb hx
    obtain ⟨sl', e2⟩ := slot b _ (neL b o e) hb (neC b o e hx) e1 (I.base.free b o e n hx)
    exact ⟨sl', e2⟩
  · obtain ⟨o', e1⟩ := I.base.there b o e hx
    exact free b o' (neC b o e hx) e1 (I.base.free b o e n hx)
  · obtain ⟨o', e1⟩ := I.base.there b o e hx
    exact there b o' (neC b o e hx) e1
  · obtain ⟨m1, e1⟩ := I.base.tbls b ps e
    obtain ⟨m2, e2⟩ := tbls b _ e1
    exact ⟨m1 ++ m2, by rw [e2, Array.append_assoc]⟩
  · obtain ⟨m, hn, hl⟩ := I.loc
    refine ⟨m, ns m hn, fun i x v e1 e2 e3 => ?_⟩
    obtain ⟨u, r, l⟩ := hl i x v e1 e2 e3
    refine ⟨u, r, ?_⟩
    rcases l with l | ⟨k, c, e, z⟩
    · exact .inl l
    · exact .inr ⟨k, c, e, cellK x c e _ z⟩
  · obtain ⟨v, z⟩ := I.cell x c e
    exact ⟨v, cellK x c e v z⟩
  · obtain ⟨m, ⟨o, _, _, ho, _⟩, _⟩ := I.loc
    exact free _ o (fun z => (hch _ z).2.1 rfl) ho I.free
  · obtain ⟨v, o, ho, hd⟩ := I.cell x c e
    exact free c o (fun z => (hch c z).2.2.1 x c e rfl) ho (I.freeC x c e)
  · obtain ⟨e, n, ne, nf, d⟩ := I.pin p hp
    have nch : p.1 ∉ ch := fun z => (hch p.1 z).2.2.2 p hp rfl
    exact ⟨keep p.1 p.2 ne nf nch e n, free p.1 p.2 nch e n, ne, nf, d⟩
theorem Inv.un {t' : Nat} (I : Inv X pins σ H s) (u : Un X.fs [] H H' s.heap h') (hok : HOk X.prog X.w H' h') : Inv X pins σ H' { s with heap := h', toks := t' } := by
  obtain ⟨m, ⟨o, es, ep, ho, r⟩, _⟩ := id I.loc
  obtain ⟨sl, hL⟩ := u.any ho I.free (by simp)
  exact I.step (g' := s.gens) (d' := s.drawn) (ch := []) (fun _ z => nomatch z) (fun b o _ hb _ e n => u.keep b o e n hb (by simp)) (fun b o _ hb _ e n => u.slot b o e n hb (by simp)) (fun b o _ e n => u.free b o e n (by simp)) (fun b o _ e => u.there b o e (by simp)) u.tups u.frzs u.tbls (fun m' hm => by
    obtain ⟨o', es', ep', ho', r'⟩ := hm
    rw [ho] at ho'; cases ho'
    exact ⟨_, es', ep', hL, r'⟩) hok I.bare
theorem Inv.call {g' : Array GenState} {t' : Nat} {d' : Drawn} {ch : List Addr} (I : Inv X pins σ H s) (u : Un (frs X.stack) ch H H' s.heap h') (hok : HOk X.prog X.w H' h') (hg : AllBare g')
    (hch : ∀ b ∈ ch, (b ∈ X.ex ∨ X.s_0.heap.objs.size ≤ b) ∧ b ≠ X.env.locals ∧ (∀ x c, X.env.cells.lookup x = some c → c ≠ b) ∧ ∀ p ∈ X.pn ++ pins, p.1 ≠ b) :
    Inv X pins σ H' { s with heap := h', gens := g', drawn := d', toks := t' } := by
  obtain ⟨m, ⟨o, es, ep, ho, r⟩, _⟩ := id I.loc
  obtain ⟨sl, hL⟩ := u.any ho I.free fun z => (hch _ z).2.1 rfl
  exact I.step (ch := ch) hch (fun b o hL hb hc e n => u.keep b o e n (fun z => (List.mem_cons.mp (I.stkSub b z)).elim hL hb) hc) (fun b o _ _ hc e n => u.any e n hc) (fun b o hc e n => u.free b o e n hc) (fun b o hc e => u.there b o e hc) u.tups u.frzs u.tbls (fun m' hm => by
    obtain ⟨o', es', ep', ho', r'⟩ := hm
    rw [ho] at ho'; cases ho'
    exact ⟨_, es', ep', hL, r'⟩) hok hg
theorem Inv.turned {t' : Nat} {it : Addr} (I : Inv X pins σ H s) (k : ∀ b o, b ≠ it → s.heap.get? b = some o → h'.get? b = some o) (hn : H it = none) (hL : it ≠ X.env.locals)
    (h1 : it ∈ X.ex ∨ X.s_0.heap.objs.size ≤ it) (h2 : ∀ x c, X.env.cells.lookup x = some c → c ≠ it) (h3 : ∀ p ∈ X.pn ++ pins, p.1 ≠ it) : Inv X pins σ H { s with heap := h', toks := t' } := by
  have nit : ∀ b u, H b = some u → b ≠ it := fun b u e z => by rw [z, hn] at e; cases e
  refine I.step (g' := s.gens) (d' := s.drawn) (ch := [it]) (fun b hb => ?_) (fun b o _ _ hc e _ => k b o (fun z => hc (by simp [z])) e) (fun b o _ _ hc e _ => ⟨o.slots, k b o (fun z => hc (by simp [z])) e⟩) (fun _ _ _ _ n => n)
    (fun b o hc e => ⟨o, k b o (fun z => hc (by simp [z])) e⟩) (fun _ _ e => e) (fun _ _ _ e => e) (fun b ps e => ⟨#[], by rw [e]; simp⟩) (fun m hm => ?_) (fun b u e => ?_) I.bare
  · have e : b = it := by simpa using hb
    subst e
    exact ⟨h1, hL, h2, h3⟩
  · obtain ⟨o, es, ep, ho, r⟩ := hm
    exact ⟨o, es, ep, k _ o (Ne.symm hL) ho, r⟩
  · refine (I.hok b u e).stay (fun c v hc q => k c v ?_ q) (fun _ q => q) fun _ _ q => q
    rcases hc with z | z
    · rw [z]; exact nit b u e
    · exact nit c _ z
theorem Inv.tok (I : Inv X pins σ H s) (t : Nat) : Inv X pins σ H { s with toks := t } := I.un (h' := s.heap) (t' := t) Un.refl I.hok
theorem Inv.kept {t' : Nat} (I : Inv X pins σ H s) (k : ∀ b u, s.heap.get? b = some u → h'.get? b = some u) : Inv X pins σ H { s with heap := h', toks := t' } := I.un (Un.kept k) (I.hok.kept k)
theorem Inv.laid {a : Addr} {o : HO} {t' : Nat} (I : Inv X pins σ H s) (k : ∀ b u, s.heap.get? b = some u → h'.get? b = some u) (hp : s.heap.objs.size ≤ a) (new : ObjOk X.prog X.w (upd H a o) h' a o) :
    Inv X pins σ (upd H a o) { s with heap := h', toks := t' } := I.un (Un.laid k hp (I.hok.fresh hp)) (I.hok.laid k hp new)
theorem Inv.write {x e : Addr} {o : HO} {t' : Nat} (I : Inv X pins σ H s) (mu : Mut (H x)) (he : e = x ∨ H e = some (.own x)) (k : ∀ b u, b ≠ e → s.heap.get? b = some u → h'.get? b = some u) (heo : ∃ u, h'.get? e = some u)
    (new : ObjOk X.prog X.w (upd H x o) h' x o) : Inv X pins σ (upd H x o) { s with heap := h', toks := t' } := I.un (Un.write mu he k heo) (I.hok.write mu he k heo new)
theorem Inv.weak {σ' : List (Option V)} (I : Inv X pins σ H s) (hl : σ'.length = σ.length) (w : ∀ (i : Nat) v, σ'[i]? = some (some v) → σ[i]? = some (some v)) : Inv X pins σ' H s :=
  ⟨I.ok, I.os, I.bare, I.base, let ⟨m, hn, hl'⟩ := I.loc; ⟨m, hn, fun i x v e1 e2 e3 => hl' i x v e1 (w i v e2) e3⟩, I.cell, I.free, I.freeC, I.pin, I.hok, hl.trans I.len⟩
theorem Inv.pins_of {pins' : List (Addr × Obj)} (I : Inv X pins σ H s) (h : ∀ p ∈ pins', s.heap.get? p.1 = some p.2 ∧ H p.1 = none ∧ p.1 ≠ X.env.locals ∧ p.1 ∉ X.fs ∧ ∀ v, p.2.data ≠ .cell v) : Inv X pins' σ H s :=
  ⟨I.ok, I.os, I.bare, I.base, I.loc, I.cell, I.free, I.freeC, fun p hp => (List.mem_append.mp hp).elim (fun z => I.pin p (List.mem_append_left _ z)) (h p), I.hok, I.len⟩
theorem nodup_ix {N : List Str} (hN : N.Nodup) {i j : Nat} {x : Str} (a : N[i]? = some x) (b : N[j]? = some x) : i = j := by
  obtain ⟨h1, e1⟩ := List.getElem?_eq_some_iff.mp a
  obtain ⟨h2, e2⟩ := List.getElem?_eq_some_iff.mp b
  exact (List.getElem_inj hN).mp (e1.trans e2.symm)
theorem store_ok2 {M : Model} {A : Around} {E : Value → Shared → Prop} {i : Nat} {x : Str} {v : V} {u : Value} {Q : Unit → Shared → Prop} (I : Inv X pins σ H s) (hN : X.N.Nodup) (hi : X.N[i]? = some x) (hx : Loc X.env.scope x) (r : RelV v u)
    (h : ∀ s', Inv X pins (σ.set i (some v)) H s' → (∃ a, Heap.SameBut a s.heap s'.heap ∧ (a = X.env.locals ∨ X.env.cells.lookup x = some a)) → Q () s') (hf : X.fn x = true ∨ X.env.scope.names.lookup x = some .local := by first | exact .inl rfl | exact .inr rfl | assumption) : wpAny M A (storeName X.env x u) Q E s := by
  obtain ⟨m, hn, hl⟩ := id I.loc
  have hcls : (X.env.scope.kind == .class || (X.env.scope.kind == .module && X.env.locals != X.env.globals)) = false := by rw [I.ok.kind]; rfl
  have hiσ : i < σ.length := by rw [I.len]; exact (List.getElem?_eq_some_iff.mp hi).1
  have cne := I.cne
  have tracked : ∀ {a : Addr} {h' : Heap}, (∃ o, s.heap.get? a = some o ∧ H a = none) → Heap.SameBut a s.heap h' → HOk X.prog X.w H h' := fun {a h'} ha hs b ob e => by
    obtain ⟨_, _, hfree⟩ := ha
    refine (I.hok b ob e).stay (fun c w' hc q => (hs.2 c ?_).trans q) (fun _ q => q) fun _ _ q => q
    rintro rfl
    rcases hc with rfl | hc
    · rw [hfree] at e; cases e
    · rw [hfree] at hc; cases hc
  rcases hx with hk | hk
  · refine wpAny_storeName_local hk hn (fun h' hn' hs => ?_) hcls
    obtain ⟨oL, _, _, hoL, _⟩ := id hn
    refine h _ ⟨I.ok, I.os, I.bare, ⟨fun b o e n hb hx => ?_, fun b o e n hb hx => ?_, I.base.free, fun b o e hx => ?_, I.base.tups, I.base.frzs, I.base.tbls⟩, ⟨_, hn', fun j y v' e1 e2 e3 => ?_⟩, fun y c e => ?_, I.free, I.freeC, fun p hp => ?_, tracked ⟨oL, hoL, I.free⟩ hs, by simpa using I.len⟩ ⟨_, hs, .inl rfl⟩
    · exact (hs.2 b (Nat.ne_of_lt (Nat.lt_of_lt_of_le (Heap.lt_size e) I.ok.above))).trans (I.base.keep b o e n hb hx)
    · obtain ⟨sl, e1⟩ := I.base.slot b o e n hb hx
      exact ⟨sl, (hs.2 b (Nat.ne_of_lt (Nat.lt_of_lt_of_le (Heap.lt_size e) I.ok.above))).trans e1⟩
    · obtain ⟨o', e1⟩ := I.base.there b o e hx
      exact ⟨o', (hs.2 b (Nat.ne_of_lt (Nat.lt_of_lt_of_le (Heap.lt_size e) I.ok.above))).trans e1⟩
    · by_cases hj : j = i
      · subst hj
        rw [hi] at e1; cases e1
        rw [List.getElem?_set_self hiσ] at e2
        cases e2
        exact ⟨u, r, .inl ⟨hk, by simp⟩⟩
      · rw [List.getElem?_set_ne (Ne.symm hj)] at e2
        obtain ⟨u', r', q⟩ := hl j y v' e1 e2 e3
        refine ⟨u', r', ?_⟩
        rcases q with ⟨k, e⟩ | ⟨k, c, e, z⟩
        · refine .inl ⟨k, ?_⟩
          have : y ≠ x := fun e => hj (nodup_ix hN e1 (e ▸ hi))
          simp [this, e]
        · exact .inr ⟨k, c, e, z.sameBut hs (cne y c e)⟩
    · obtain ⟨w', z⟩ := I.cell y c e
      exact ⟨w', z.sameBut hs (cne y c e)⟩
    · obtain ⟨e, n, ne, nf, d⟩ := I.pin p hp
      exact ⟨(hs.2 p.1 ne).trans e, n, ne, nf, d⟩
  · have hfn : X.fn x = true := by
      rcases hf with z | z
      · exact z
      · rw [z] at hk; cases hk
    obtain ⟨c, hc⟩ := I.ok.has x (.inl hk)
    obtain ⟨w', z⟩ := I.cell x c hc
    refine wpAny_storeName_cell I.ok.kind hk hc z (fun h' hc' hs => ?_)
    obtain ⟨oc, hoc, hocd⟩ := id z
    refine h { s with heap := h' } ⟨I.ok, I.os, I.bare, ⟨fun b o e n hb hx => ?_, fun b o e n hb hx => ?_, I.base.free, fun b o e hx => ?_, I.base.tups, I.base.frzs, I.base.tbls⟩, ⟨m, hn.sameBut hs (Ne.symm (cne x c hc)), fun j y v' e1 e2 e3 => ?_⟩, fun y c' e => ?_, I.free, I.freeC, fun p hp => ?_, tracked ⟨oc, hoc, I.freeC x c hc⟩ hs, by simpa using I.len⟩ ⟨c, hs, .inr hc⟩
    · exact (hs.2 b (Nat.ne_of_lt (Nat.lt_of_lt_of_le (Heap.lt_size e) (I.ok.cab x c hfn hc)))).trans (I.base.keep b o e n hb hx)
    · obtain ⟨sl, e1⟩ := I.base.slot b o e n hb hx
      exact ⟨sl, (hs.2 b (Nat.ne_of_lt (Nat.lt_of_lt_of_le (Heap.lt_size e) (I.ok.cab x c hfn hc)))).trans e1⟩
    · obtain ⟨o', e1⟩ := I.base.there b o e hx
      exact ⟨o', (hs.2 b (Nat.ne_of_lt (Nat.lt_of_lt_of_le (Heap.lt_size e) (I.ok.cab x c hfn hc)))).trans e1⟩
    · by_cases hj : j = i
      · subst hj
        rw [hi] at e1; cases e1
        rw [List.getElem?_set_self hiσ] at e2
        cases e2
        exact ⟨u, r, .inr ⟨.inl hk, c, hc, hc'⟩⟩
      · rw [List.getElem?_set_ne (Ne.symm hj)] at e2
        obtain ⟨u', r', q⟩ := hl j y v' e1 e2 e3
        refine ⟨u', r', ?_⟩
        rcases q with q | ⟨k, c', e, z'⟩
        · exact .inl q
        · refine .inr ⟨k, c', e, z'.sameBut hs ?_⟩
          rintro rfl
          exact hj (nodup_ix hN e1 (I.ok.inj _ _ _ e hc ▸ hi))
    · by_cases hcc : c' = c
      · subst hcc; exact ⟨_, hc'⟩
      · obtain ⟨w2, z2⟩ := I.cell y c' e
        exact ⟨w2, z2.sameBut hs hcc⟩
    · obtain ⟨e, n, ne, nf, d⟩ := I.pin p hp
      refine ⟨(hs.2 p.1 ?_).trans e, n, ne, nf, d⟩
      intro q
      rw [q, hoc] at e
      have q' : oc = p.2 := Option.some.inj e
      exact d w' (by rw [← q']; exact hocd)
theorem store_ok {M : Model} {A : Around} {E : Value → Shared → Prop} {i : Nat} {x : Str} {v : V} {u : Value} {Q : Unit → Shared → Prop} (I : Inv X pins σ H s) (hN : X.N.Nodup) (hi : X.N[i]? = some x) (hx : Loc X.env.scope x) (r : RelV v u)
    (h : ∀ s', Inv X pins (σ.set i (some v)) H s' → Q () s') (hf : X.fn x = true ∨ X.env.scope.names.lookup x = some .local := by first | exact .inl rfl | exact .inr rfl | assumption) : wpAny M A (storeName X.env x u) Q E s :=
  store_ok2 I hN hi hx r (fun s' I' _ => h s' I') hf
theorem Inv.call' {s' : Shared} {ch : List Addr} (I : Inv X pins σ H s) (ho : s'.os = s.os) (u : Un (frs X.stack) ch H H' s.heap s'.heap) (hok : HOk X.prog X.w H' s'.heap) (hg : AllBare s'.gens)
    (hch : ∀ b ∈ ch, (b ∈ X.ex ∨ X.s_0.heap.objs.size ≤ b) ∧ b ≠ X.env.locals ∧ (∀ x c, X.env.cells.lookup x = some c → c ≠ b) ∧ ∀ p ∈ X.pn ++ pins, p.1 ≠ b) : Inv X pins σ H' s' := by
  obtain ⟨h', g', d', t', o'⟩ := s'
  have e : o' = s.os := ho
  subst e
  exact I.call (g' := g') (t' := t') (d' := d') u hok hg hch
end
abbrev XK := Value → Option Addr → Hp → Prop
abbrev St := List (Option V)
abbrev VK := V → Hp → Prop
abbrev TE := St → Hp → VK → Prop
abbrev TT := St → Hp → (Bool → Hp → Prop) → Prop
abbrev TA := St → Hp → (List V → Hp → Prop) → Prop
structure Ends where
  nx : St → Hp → Prop
  rt : VK
  bk : St → Hp → Prop := fun _ _ => False
  ct : St → Hp → Prop := fun _ _ => False
abbrev TS := Ends → St → Hp → Prop
def EP (X : Cx) (pins : List (Addr × Obj)) (σ : St) (Q : VK) (u : Value) (s' : Shared) : Prop := ∃ v H', Inv X pins σ H' s' ∧ RelV v u ∧ Q v H'
def TP (X : Cx) (pins : List (Addr × Obj)) (σ : St) (Q : Bool → Hp → Prop) (b : Bool) (s' : Shared) : Prop := ∃ H', Inv X pins σ H' s' ∧ Q b H'
def AP (X : Cx) (pins : List (Addr × Obj)) (σ : St) (Q : List V → Hp → Prop) (us : List Value) (s' : Shared) : Prop := ∃ vs H', Inv X pins σ H' s' ∧ Vals vs us ∧ Q vs H'
def SP (X : Cx) (pins : List (Addr × Obj)) (D : Ends) (f : Flow) (s' : Shared) : Prop :=
  match f with
  | .next => ∃ σ' H', Inv X pins σ' H' s' ∧ D.nx σ' H'
  | .brk => ∃ σ' H', Inv X pins σ' H' s' ∧ D.bk σ' H'
  | .cont => ∃ σ' H', Inv X pins σ' H' s' ∧ D.ct σ' H'
  | .ret u => ∃ v σ' H', Inv X pins σ' H' s' ∧ RelV v u ∧ D.rt v H'
def PE (X : Cx) (e : Expr) (t : TE) : Prop :=
  ∀ (pins : List (Addr × Obj)) (s : Shared) (σ : St) (H : Hp) (Q : VK), Inv X pins σ H s → t σ H Q → wpAny (model X.prog X.w) X.A (eval e X.env) (EP X pins σ Q) X.xe s
def PT (X : Cx) (e : Expr) (t : TT) : Prop :=
  ∀ (pins : List (Addr × Obj)) (s : Shared) (σ : St) (H : Hp) (Q : Bool → Hp → Prop), Inv X pins σ H s → t σ H Q → wpAny (model X.prog X.w) X.A (isTrue e X.env (eval e X.env)) (TP X pins σ Q) X.xe s
def PW (X : Cx) (e : Expr) (t : TT) : Prop :=
  ∀ (whole : Sem Value) (pins : List (Addr × Obj)) (s : Shared) (σ : St) (H : Hp) (Q : Bool → Hp → Prop), Inv X pins σ H s → t σ H Q → wpAny (model X.prog X.w) X.A (isTrue e X.env whole) (TP X pins σ Q) X.xe s
theorem PW.pt {X : Cx} {e : Expr} {t : TT} (h : PW X e t) : PT X e t := h _
def PA (X : Cx) (es : List Expr) (t : TA) : Prop :=
  ∀ (pos : Pos) (pins : List (Addr × Obj)) (s : Shared) (σ : St) (H : Hp) (Q : List V → Hp → Prop), Inv X pins σ H s → t σ H Q → wpAny (model X.prog X.w) X.A (spliced (backTo pos (starEach es X.env))) (AP X pins σ Q) X.xe s
def PS (X : Cx) (st : Stmt) (t : TS) : Prop :=
  ∀ (pins : List (Addr × Obj)) (s : Shared) (σ : St) (H : Hp) (D : Ends), Inv X pins σ H s → t D σ H → wpAny (model X.prog X.w) X.A (exec st X.env) (SP X pins D) X.xe s
def PSs (X : Cx) (st : List Stmt) (t : TS) : Prop :=
  ∀ (pins : List (Addr × Obj)) (s : Shared) (σ : St) (H : Hp) (D : Ends), Inv X pins σ H s → t D σ H → wpAny (model X.prog X.w) X.A (execs st X.env) (SP X pins D) X.xe s
theorem thn {α : Type} {t : Sem α} {Q Q' : α → Shared → Prop} {M : Model} {A : Around} {E : Value → Shared → Prop} {s : Shared} (h : wpAny M A t Q E s) (hQ : ∀ a s, Q a s → Q' a s) : wpAny M A t Q' E s := wpAny_mono h hQ fun _ _ x => x
end L2
namespace L2
open PySem PySem.Spec PyProof.Rows
section
variable {X : Cx}
def tVar (i : Nat) : TE := fun σ H Q => ∃ v, σ[i]? = some (some v) ∧ Q v H
def tC (v : V) : TE := fun _ H Q => Q v H
theorem pe_var {i : Nat} {x : Str} {pos : Pos} (hN : X.N[i]? = some x) (hv : Vis X.env.scope x) (hd : (x == ("__debug__" : Str)) = false := by decide) (hcd : (x == ("__classdict__" : Str)) = false := by decide) : PE X (.Name x pos) (tVar i) := by
  intro pins s σ H Q I h
  obtain ⟨v, e, h⟩ := h
  obtain ⟨m, hn, hl⟩ := I.loc
  obtain ⟨u, r, l⟩ := hl i x v hN e hv
  have fin : EP X pins σ Q u s := ⟨v, H, I, r, h⟩
  rcases l with ⟨hk, hm⟩ | ⟨hk, c, hc, hcell⟩
  · exact wpAny_Name (wpAny_loadName_local I.ok.kind hk hn hm fin) hd
  · rcases hk with hk | hk
    · exact wpAny_Name (wpAny_loadName_cell I.ok.kind hk hc hcell fin) hd
    · exact wpAny_Name (wpAny_loadName_free I.ok.kind hk hc hcell fin hcd) hd
theorem pe_int {i j pos} : PE X (.Constant (.int i) j pos) (tC (.int i)) := fun _ _ _ H _ I h => wpAny_Constant_int ⟨.int i, H, I.tok _, ⟨_, rfl⟩, h⟩
theorem pe_non {j pos} : PE X (.Constant .none j pos) (tC .non) := fun _ _ _ H _ I h => Constant_none ⟨.non, H, I, rfl, h⟩
def Gl (X : Cx) (x : Str) : Prop := X.env.kindOf x = some .globalImplicit
theorem ld_glob {E : Value → Shared → Prop} {pins : List (Addr × Obj)} {s : Shared} {σ : St} {H : Hp} {x : Str} {u : Value} {pos : Pos} {Q : Value → Shared → Prop} (I : Inv X pins σ H s) (hg : Gl X x) (hm : X.mg x = some u) (h : Q u s)
    (hd : (x == ("__debug__" : Str)) = false := by decide) : wpAny (model X.prog X.w) X.A (eval (.Name x pos) X.env) Q E s :=
  Calls.Name_function_global I.ok.kind hg (Calls.loadGlobal_global (by rw [I.ok.glob]; exact I.mod.glob.keeps I.bk) hm h) hd
theorem ld_blt {E : Value → Shared → Prop} {pins : List (Addr × Obj)} {s : Shared} {σ : St} {H : Hp} {x : Str} {u : Value} {pos : Pos} {Q : Value → Shared → Prop} (I : Inv X pins σ H s) (hg : Gl X x) (hm : X.mg x = none) (hv : bootBuiltins x = some u) (h : Q u s)
    (hn : x ≠ "__name__" := by decide) (hd : (x == ("__debug__" : Str)) = false := by decide) : wpAny (model X.prog X.w) X.A (eval (.Name x pos) X.env) Q E s := by
  obtain ⟨mb, h1, h2⟩ := I.mod.blt
  exact Calls.Name_function_global I.ok.kind hg (Calls.loadGlobal_builtin (by rw [I.ok.glob]; exact I.mod.glob.keeps I.bk) hm (by rw [I.ok.blt]; exact h1.keeps I.bk) ((h2 x hn).trans hv) h) hd
theorem pe_glob {x : Str} {v : V} {u : Value} {pos : Pos} (hg : Gl X x) (hm : X.mg x = some u) (r : RelV v u) (hd : (x == ("__debug__" : Str)) = false := by decide) : PE X (.Name x pos) (tC v) :=
  fun _ _ _ H _ I h => ld_glob I hg hm ⟨v, H, I, r, h⟩ hd
variable {a b : Expr} {ta tb : TE} {pos : Pos}
def PC (X : Cx) (op : CmpOp) (a b : Expr) (t : TE) : Prop :=
  ∀ (pins : List (Addr × Obj)) (s : Shared) (σ : St) (H : Hp) (Q : VK), Inv X pins σ H s → t σ H Q →
    wpAny (model X.prog X.w) X.A (eval a X.env) (fun v s₁ => wpAny (model X.prog X.w) X.A (eval b X.env) (fun u s₂ => wpAny (model X.prog X.w) X.A (compareOp op v u) (EP X pins σ Q) X.xe s₂) X.xe s₁) X.xe s
theorem nobehind (b : Expr) {op : CmpOp} (h : op ≠ .In) (h2 : op ≠ .NotIn) : behindInMarks op b = false := by
  have e1 : (op == CmpOp.In) = false := by cases op <;> first | rfl | exact absurd rfl h
  have e2 : (op == CmpOp.NotIn) = false := by cases op <;> first | rfl | exact absurd rfl h2
  cases b <;> simp [behindInMarks, e1, e2]
def tIsN (ta : TE) : TE := fun σ H Q => ta σ H fun x H1 => Q (.bl (decide (x = .non))) H1
theorem RelV.none_iff {x : V} {v : Value} (r : RelV x v) : (v == Value.none) = decide (x = .non) := by
  cases x with
  | non => cases r; rfl
  | bl _ => cases r; rfl
  | int _ => obtain ⟨t, rfl⟩ := r; rfl
  | str _ => obtain ⟨t, rfl⟩ := r; rfl
  | byt _ => obtain ⟨t, rfl⟩ := r; rfl
  | flt _ => obtain ⟨t, rfl⟩ := r; rfl
  | ref _ => cases r; rfl
  | ty _ => cases r; rfl
theorem pc_isN {j pos'} (ha : PE X a ta) : PC X .Is a (.Constant .none j pos') (tIsN ta) := by
  intro pins s σ H Q I h
  refine thn (ha pins s σ H _ I h) fun v s1 ⟨x, H1, I1, r1, q1⟩ => ?_
  exact Constant_none (is_none_gen ⟨.bl _, H1, I1, by rw [r1.none_iff]; rfl, q1⟩)
def tB (t : TE) : TT := fun σ H Q => t σ H fun x H1 => ∃ c, x = .bl c ∧ Q c H1
theorem pt_cmp {op : CmpOp} {t : TE} (h : PC X op a b t) (h1 : behindInMarks op b = false := by first | exact nobehind _ (by decide) (by decide) | rfl) : PT X (.Compare a [op] [b] pos) (tB t) := by
  intro pins s σ H Q I hw
  refine wpAny_isTrue_Compare1 (thn (h pins s σ H _ I hw) fun v s1 h1 => thn h1 fun u s2 h2 => thn h2 fun c s3 ⟨x, H1, I1, r1, q1⟩ => ?_) h1
  obtain ⟨d, rfl, q⟩ := q1
  cases r1
  exact wpAny_truthy_bool ⟨H1, I1, q⟩
theorem pt_val {e : Expr} {t : TE} (h : PE X e t) (he : ∀ whole, isTrue e X.env whole = (do let v ← whole; standAt e.pos; holding [v] (truthy v)) := by intro _; rfl) : PT X e (tB t) := by
  intro pins s σ H Q I hw
  refine isTrue_plain (thn (h pins s σ H _ I hw) fun v s1 ⟨x, H1, I1, r1, q1⟩ => ?_) (he _)
  obtain ⟨d, rfl, q⟩ := q1
  cases r1
  exact wpAny_truthy_bool ⟨H1, I1, q⟩
variable {tA tB' : TT} {rest : List Expr}
def tAnd (t u : TT) : TT := fun σ H Q => t σ H fun c H1 => if c = true then u σ H1 Q else Q false H1
def tOr (t u : TT) : TT := fun σ H Q => t σ H fun c H1 => if c = true then Q true H1 else u σ H1 Q
def tNot (t : TT) : TT := fun σ H Q => t σ H fun c H1 => Q (!c) H1
theorem pw_and1 (ha : PT X a tA) : PW X (.BoolOp .And [a] pos) tA := by
  intro wh pins s σ H Q I h
  refine isTrue_and (thn (ha pins s σ H Q I h) fun c s1 e => ?_)
  cases c with
  | true => exact isTrue_and_nil e
  | false => exact e
theorem pw_or1 (ha : PT X a tA) : PW X (.BoolOp .Or [a] pos) tA := by
  intro wh pins s σ H Q I h
  refine isTrue_or (thn (ha pins s σ H Q I h) fun c s1 e => ?_)
  cases c with
  | false => exact isTrue_or_nil e
  | true => exact e
theorem pw_and (ha : PT X a tA) (hb : PW X (.BoolOp .And (b :: rest) pos) tB') : PW X (.BoolOp .And (a :: b :: rest) pos) (tAnd tA tB') := by
  intro wh pins s σ H Q I h
  refine isTrue_and (thn (ha pins s σ H _ I h) fun c s1 ⟨H1, I1, q1⟩ => ?_)
  cases c with
  | true => exact hb wh pins s1 σ H1 Q I1 q1
  | false => exact ⟨H1, I1, q1⟩
theorem pw_or (ha : PT X a tA) (hb : PW X (.BoolOp .Or (b :: rest) pos) tB') : PW X (.BoolOp .Or (a :: b :: rest) pos) (tOr tA tB') := by
  intro wh pins s σ H Q I h
  refine isTrue_or (thn (ha pins s σ H _ I h) fun c s1 ⟨H1, I1, q1⟩ => ?_)
  cases c with
  | true => exact ⟨H1, I1, q1⟩
  | false => exact hb wh pins s1 σ H1 Q I1 q1
theorem pt_not (ha : PT X a tA) : PT X (.UnaryOp .Not a pos) (tNot tA) := by
  intro pins s σ H Q I h
  exact isTrue_not (ha pins s σ H (fun c H1 => Q (!c) H1) I h)
def tAndV (ta tb : TE) : TE := fun σ H Q => ta σ H fun x H1 => ∃ c, x = .bl c ∧ if c = true then tb σ H1 Q else Q (.bl false) H1
theorem pe_one {op} {t : TE} (h : PE X a t) : PE X (.BoolOp op [a] pos) t := fun pins s σ H Q I hw => BoolOp_one (h pins s σ H Q I hw)
theorem pe_and (ha : PE X a ta) (hb : PE X (.BoolOp .And (b :: rest) pos) tb) : PE X (.BoolOp .And (a :: b :: rest) pos) (tAndV ta tb) := by
  intro pins s σ H Q I h
  refine BoolOp_and (thn (ha pins s σ H _ I h) fun v s1 ⟨x, H1, I1, r1, q1⟩ => ?_)
  obtain ⟨c, rfl, q1⟩ := q1
  cases r1
  refine wpAny_truthy_bool ?_
  cases c with
  | true => exact hb pins s1 σ H1 Q I1 q1
  | false => exact ⟨.bl false, H1, I1, rfl, q1⟩
def tIf (t : TT) (ta tb : TE) : TE := fun σ H Q => t σ H fun c H1 => if c = true then ta σ H1 Q else tb σ H1 Q
theorem pe_ifExp {c : Expr} (hc : PT X c tA) (ha : PE X a ta) (hb : PE X b tb) : PE X (.IfExp c a b pos) (tIf tA ta tb) := by
  intro pins s σ H Q I h
  refine wpAny_IfExp (thn (hc pins s σ H _ I h) fun d s1 ⟨H1, I1, q1⟩ => ?_)
  cases d with
  | true => exact ha pins s1 σ H1 Q I1 q1
  | false => exact hb pins s1 σ H1 Q I1 q1
end
end L2
namespace L2
open PySem PySem.Spec PyProof.Rows
def SqL (K : PySem.W.Frag) (H : Hp) (a : Addr) (xs : List V) : Prop :=
  Rd H a (.lst xs) ∨
    ∃ (o : Obj) (its : Array Value) (n : Nat), K.lookup a = some o ∧ o.cls = .type "list" ∧ o.dict = none ∧ o.data = .seq its n ∧ its.size ≤ sizeLine ∧ Vals xs its.toList
def SqT (K : PySem.W.Frag) (H : Hp) (a : Addr) (xs : List V) : Prop :=
  Rd H a (.tup xs) ∨
    ∃ (o : Obj) (its : Array Value) (n : Nat), K.lookup a = some o ∧ o.cls = .type "tuple" ∧ o.data = .seq its n ∧ its.size ≤ sizeLine ∧ Vals xs its.toList
def absV : Value → Option V
  | .none => some .non
  | .bool b => some (.bl b)
  | .int i _ => some (.int i)
  | .str x _ => some (.str x)
  | .bytes b _ => some (.byt b)
  | .float b _ => some (.flt b)
  | .ref a => some (.ref a)
  | .type n => some (.ty n)
  | _ => none
theorem RelV.abs {x : V} {u : Value} (r : RelV x u) : absV u = some x := by
  cases x with
  | non => cases r; rfl
  | bl _ => cases r; rfl
  | int _ => obtain ⟨t, rfl⟩ := r; rfl
  | str _ => obtain ⟨t, rfl⟩ := r; rfl
  | byt _ => obtain ⟨t, rfl⟩ := r; rfl
  | flt _ => obtain ⟨t, rfl⟩ := r; rfl
  | ref _ => cases r; rfl
  | ty _ => cases r; rfl
theorem RelV.inj {x y : V} {u : Value} (r : RelV x u) (q : RelV y u) : x = y := Option.some.inj (r.abs.symm.trans q.abs)
theorem Vals.inj : ∀ {xs ys : List V} {us : List Value}, Vals xs us → Vals ys us → xs = ys
  | _, _, _, .nil, .nil => rfl
  | _, _, _, .cons r t, .cons r' t' => by rw [r.inj r', Vals.inj t t']
section
variable {X : Cx} {pins : List (Addr × Obj)} {σ : St} {H : Hp} {s : Shared} {a : Addr} {xs ys : List V}
theorem SqL.of {K : PySem.W.Frag} (h : H a = some (.lst xs)) : SqL K H a xs := .inl (.inl h)
theorem SqT.of {K : PySem.W.Frag} (h : H a = some (.tup xs)) : SqT K H a xs := .inl (.inl h)
theorem Inv.list (I : Inv X pins σ H s) (h : SqL X.K H a xs) : ∃ its : List Value, Vals xs its ∧ PlainL s.heap a its.toArray ∧ xs.length ≤ sizeLine := by
  rcases h with h | ⟨o, its, n, hk, hc, hd, hs, hz, r⟩
  · obtain ⟨z, its, n, r, e⟩ := h.ok I.hok
    exact ⟨its, r, ⟨_, n, e, rfl, rfl, rfl⟩, z⟩
  · refine ⟨its.toList, r, ⟨o, n, I.kIn a o hk, hc, hd, by simpa using hs⟩, ?_⟩
    have e := r.length
    simp only [Array.length_toList] at e
    omega
theorem Inv.tuple (I : Inv X pins σ H s) (h : SqT X.K H a xs) : ∃ its : List Value, Vals xs its ∧ IsTup s.heap a its.toArray ∧ xs.length ≤ sizeLine := by
  rcases h with h | ⟨o, its, n, hk, hc, hs, hz, r⟩
  · obtain ⟨z, its, r, p⟩ := h.ok I.hok
    exact ⟨its, r, p, z⟩
  · refine ⟨its.toList, r, ⟨o, I.kIn a o hk, hc, n, by simpa using hs⟩, ?_⟩
    have e := r.length
    simp only [Array.length_toList] at e
    omega
theorem Inv.list_inj (I : Inv X pins σ H s) (h : SqL X.K H a xs) (h' : SqL X.K H a ys) : xs = ys := by
  obtain ⟨its, r, ⟨o, n, e, _, _, d⟩, _⟩ := I.list h
  obtain ⟨its', r', ⟨o', n', e', _, _, d'⟩, _⟩ := I.list h'
  rw [e] at e'; cases e'
  rw [d] at d'
  injection d' with d1 _
  have : its = its' := by simpa using congrArg Array.toList d1
  subst this
  exact r.inj r'
end
abbrev Cx.wish (X : Cx) (E : Value → Shared → Prop) : Cx := { X with xe := E }
abbrev Cx.nox (X : Cx) : Cx := X.wish fun _ _ => False
theorem Cx.Ok.wish {X : Cx} (ok : X.Ok) (E : Value → Shared → Prop) : (X.wish E).Ok :=
  ⟨ok.mod, ok.kind, ok.glob, ok.blt, ok.above, ok.inj, ok.has, ok.cab, ok.hd, ok.frames, ok.stk, ok.exf, ok.bs, ok.bsz, ok.noex, ok.exfs, ok.funs, ok.frf⟩
theorem Cx.Ok.unwish {X : Cx} {E : Value → Shared → Prop} (ok : (X.wish E).Ok) : X.Ok :=
  ⟨ok.mod, ok.kind, ok.glob, ok.blt, ok.above, ok.inj, ok.has, ok.cab, ok.hd, ok.frames, ok.stk, ok.exf, ok.bs, ok.bsz, ok.noex, ok.exfs, ok.funs, ok.frf⟩
section
variable {X : Cx} {pins : List (Addr × Obj)} {σ : St} {H : Hp} {s : Shared} {E : Value → Shared → Prop}
theorem Inv.wish (I : Inv X pins σ H s) (E : Value → Shared → Prop) : Inv (X.wish E) pins σ H s := ⟨I.ok.wish E, I.os, I.bare, I.base, I.loc, I.cell, I.free, I.freeC, I.pin, I.hok, I.len⟩
theorem Inv.unwish (I : Inv (X.wish E) pins σ H s) : Inv X pins σ H s := ⟨I.ok.unwish, I.os, I.bare, I.base, I.loc, I.cell, I.free, I.freeC, I.pin, I.hok, I.len⟩
theorem SP.unwish {D : Ends} {f : Flow} {s' : Shared} (h : SP (X.wish E) pins D f s') : SP X pins D f s' := by
  cases f with
  | next => obtain ⟨σ', H', I, q⟩ := h; exact ⟨σ', H', I.unwish, q⟩
  | brk => obtain ⟨σ', H', I, q⟩ := h; exact ⟨σ', H', I.unwish, q⟩
  | cont => obtain ⟨σ', H', I, q⟩ := h; exact ⟨σ', H', I.unwish, q⟩
  | ret u => obtain ⟨v, σ', H', I, r, q⟩ := h; exact ⟨v, σ', H', I.unwish, r, q⟩
theorem PSs.nox {st : List Stmt} {t : TS} (h : PSs X.nox st t) : PSs X st t := fun pins s σ H D I hw =>
  wpAny_mono (h pins s σ H D (I.wish _) hw) (fun _ _ q => q.unwish) fun _ _ z => False.elim z
end
section
variable {X : Cx} {st : Stmt} {rest : List Stmt} {t u : TS} {e : Expr} {te : TE} {pos : Pos}
def tNext : TS := fun D σ H => D.nx σ H
def tSeq (t u : TS) : TS := fun D σ H => t { D with nx := u D } σ H
theorem pss_nil : PSs X [] tNext := fun _ _ σ H _ I h => wpAny_execs_nil ⟨σ, H, I, h⟩
theorem pss_cons (h1 : PS X st t) (h2 : PSs X rest u) : PSs X (st :: rest) (tSeq t u) := by
  intro pins s σ H D I h
  refine wpAny_execs_cons (thn (h1 pins s σ H { D with nx := u D } I h) fun f s1 q => ?_)
  cases f with
  | next =>
    obtain ⟨σ', H', I', q⟩ := q
    exact h2 pins s1 σ' H' D I' q
  | ret v => exact q
  | brk => exact q
  | cont => exact q
theorem pss_one (h1 : PS X st t) : PSs X [st] t := by
  intro pins s σ H D I h
  refine wpAny_execs_cons (thn (h1 pins s σ H D I h) fun f s1 q => ?_)
  cases f with
  | next => exact wpAny_execs_nil q
  | ret v => exact q
  | brk => exact q
  | cont => exact q
theorem Inv.quiet {pins : List (Addr × Obj)} {σ : St} {H : Hp} {s : Shared} (I : Inv X pins σ H s) : interactive X.env = false := by simp [interactive, I.ok.kind]
def tDrop (te : TE) : TS := fun D σ H => te σ H fun _ H1 => D.nx σ H1
theorem ps_expr (he : PE X e te) (hs : swapsWith e none pos.line X.env = pure false := by rfl) : PS X (.Expr e pos) (tDrop te) := by
  intro pins s σ H D I h
  exact wpAny_Expr_any (thn (he pins s σ H _ I h) fun v s1 ⟨x, H1, I1, r1, q1⟩ => ⟨σ, H1, I1, q1⟩) I.quiet hs
def tRet (te : TE) : TS := fun D σ H => te σ H D.rt
theorem ps_ret (he : PE X e te) : PS X (.Return (some e) pos) (tRet te) := by
  intro pins s σ H D I h
  exact wpAny_Return_some (thn (he pins s σ H _ I h) fun v s1 ⟨x, H1, I1, r1, q1⟩ => ⟨x, σ, H1, I1, r1, q1⟩)
def tIfS (c : TT) (t u : TS) : TS := fun D σ H => c σ H fun b H1 => if b = true then t D σ H1 else u D σ H1
theorem ps_if {c : Expr} {a b : List Stmt} {tc : TT} (hc : PT X c tc) (ha : PSs X a t) (hb : PSs X b u) : PS X (.If c a b pos) (tIfS tc t u) := by
  intro pins s σ H D I h
  refine wpAny_If (thn (hc pins s σ H _ I h) fun d s1 ⟨H1, I1, q1⟩ => ?_)
  cases d with
  | true => exact ha pins s1 σ H1 D I1 q1
  | false => exact hb pins s1 σ H1 D I1 q1
end
abbrev TG := V → St → Hp → (St → Hp → Prop) → Prop
def PG (X : Cx) (target : Expr) (t : TG) : Prop :=
  ∀ (pins : List (Addr × Obj)) (s : Shared) (σ : St) (H : Hp) (v : V) (u : Value) (Q : St → Hp → Prop), Inv X pins σ H s → RelV v u → t v σ H Q →
    wpAny (model X.prog X.w) X.A (assign target X.env u) (fun _ s' => ∃ σ' H', Inv X pins σ' H' s' ∧ Q σ' H') X.xe s
section
variable {X : Cx} {pos : Pos}
def gName (i : Nat) : TG := fun v σ H Q => Q (σ.set i (some v)) H
theorem pg_name {i : Nat} {x : Str} (hN : X.N.Nodup) (hi : X.N[i]? = some x) (hx : Loc X.env.scope x) (hf : X.fn x = true ∨ X.env.scope.names.lookup x = some .local := by first | exact .inl rfl | exact .inr rfl | assumption) : PG X (.Name x pos) (gName i) := by
  intro pins s σ H v u Q I r h
  exact wpAny_assign_Name (store_ok I hN hi hx r (fun s' I' => ⟨_, H, I', h⟩) hf)
def tAsg (te : TE) (g : TG) : TS := fun D σ H => te σ H fun x H1 => g x σ H1 D.nx
theorem ps_set {i : Nat} {x : Str} {e : Expr} {te : TE} {pos' : Pos} (hN : X.N.Nodup) (hi : X.N[i]? = some x) (hx : Loc X.env.scope x) (he : PE X e te) (hs : swapsWith e (some (.Name x pos')) pos.line X.env = pure false := by rfl) (hf : X.fn x = true ∨ X.env.scope.names.lookup x = some .local := by first | exact .inl rfl | exact .inr rfl | assumption) :
    PS X (.Assign [.Name x pos'] e pos) (tAsg te (gName i)) := by
  intro pins s σ H D I h
  refine wpAny_Assign_Name (thn (he pins s σ H _ I h) fun v s1 ⟨y, H1, I1, r1, q1⟩ => ?_) hs
  exact store_ok I1 hN hi hx r1 (fun s2 I2 => ⟨_, H1, I2, q1⟩) hf
end
section
variable {X : Cx} {pos : Pos}
def tWhile (c : TT) (tb : TS) : TS := fun D σ H => ∃ W : Nat → St → Hp → Prop, (∃ m, W m σ H) ∧ ∀ m σ H, W m σ H →
  c σ H fun b H1 => if b = true then ∃ N : St → Hp → Prop, (∀ σ' H', N σ' H' → ∃ m', m' < m ∧ W m' σ' H') ∧ tb { D with nx := N, ct := N, bk := D.nx } σ H1 else D.nx σ H1
theorem ps_while {c : Expr} {body : List Stmt} {tc : TT} {tb : TS} (hp : PassesOwn (model X.prog X.w) X.A X.env X.xe) (hc : PT X c tc) (hb : PSs X body tb) : PS X (.While c body [] pos) (tWhile tc tb) := by
  intro pins s σ H D I h
  obtain ⟨W, ⟨m0, w0⟩, turn⟩ := h
  refine wpAny_While (codeAny_whileLoop (fun n s' => ∃ σ' H', Inv X pins σ' H' s' ∧ W n σ' H') ?_ m0 ⟨σ, H, I, w0⟩)
  rintro n s1 ⟨σ1, H1, I1, w1⟩
  refine wpAny_passesOwn hp (thn (hc pins s1 σ1 H1 _ I1 (turn n σ1 H1 w1)) fun b s2 ⟨H2, I2, q2⟩ => ?_)
  cases b with
  | true =>
    obtain ⟨N, hN, q2⟩ := q2
    rw [if_pos rfl]
    refine wpAny_passesOwn hp (thn (hb pins s2 σ1 H2 _ I2 q2) fun f s3 q3 => ?_)
    cases f with
    | next =>
      obtain ⟨σ3, H3, I3, n3⟩ := q3
      obtain ⟨m', hm, w3⟩ := hN σ3 H3 n3
      exact ⟨m', hm, σ3, H3, I3, w3⟩
    | cont =>
      obtain ⟨σ3, H3, I3, n3⟩ := q3
      obtain ⟨m', hm, w3⟩ := hN σ3 H3 n3
      exact ⟨m', hm, σ3, H3, I3, w3⟩
    | brk => exact q3
    | ret v => exact q3
  | false =>
    rw [if_neg Bool.false_ne_true]
    exact wpAny_execs_nil ⟨σ1, H2, I2, q2⟩
end
structure It where
  go : Nat → Hp → Prop
  yld : Nat → Hp → V → Hp → Prop
  stop : Nat → Hp → Prop
def FpOk (X : Cx) (pins : List (Addr × Obj)) (H : Hp) (b : Addr) : Prop :=
  H b = none ∧ b ≠ X.env.locals ∧ b ∉ X.fs ∧ (b ∈ X.ex ∨ X.s_0.heap.objs.size ≤ b) ∧ (∀ x c, X.env.cells.lookup x = some c → c ≠ b) ∧ ∀ p ∈ X.pn ++ pins, p.1 ≠ b
theorem Inv.fpOk {X : Cx} {pins : List (Addr × Obj)} {σ : St} {H H' : Hp} {s : Shared} {b : Addr} (I : Inv X pins σ H s) (hb : s.heap.objs.size ≤ b) (hn : H' b = none) : FpOk X pins H' b := by
  refine ⟨hn, Nat.ne_of_gt (Nat.lt_of_lt_of_le I.lt hb), I.nofs hb, .inr (Nat.le_trans I.sz hb), fun x c e z => ?_, fun p hp z => ?_⟩
  · obtain ⟨v, q⟩ := I.cell x c e
    exact absurd (Nat.lt_of_lt_of_le q.lt (by rw [z]; exact hb)) (Nat.lt_irrefl _)
  · exact absurd (Nat.lt_of_lt_of_le (Heap.lt_size (I.pin p hp).1) (by rw [z]; exact hb)) (Nat.lt_irrefl _)
structure Turn (P : Program) (w : World) (K : PySem.W.Frag) (tg : Expr) (J : It) (fp : List Addr) (it : Addr) (tn : Nat → Heap → Prop) : Prop where
  mem : it ∈ fp
  obj : ∀ i h, tn i h → ∀ b ∈ fp, ∃ o, h.get? b = some o ∧ ∀ v, o.data ≠ .cell v
  keep : ∀ i h h', tn i h → (∀ b ∈ fp, ∀ o, h.get? b = some o → h'.get? b = some o) → tn i h'
  item : ∀ (X : Cx), X.prog = P → X.w = w → X.K = K → X.calm = true → ∀ (i : Nat) (pins : List (Addr × Obj)) (s : Shared) (σ : St) (H : Hp) (E : Value → Shared → Prop), Inv X pins σ H s → (∀ b ∈ fp, FpOk X pins H b) → tn i s.heap → J.go i H →
    wpAny (model P w) X.A (pyNext (.ref it)) (fun r s1 => ∃ u, r = some u ∧
      wpAny (model P w) X.A (letOwnedTupleGo tg (.ref it) u) (fun _ s2 => ∃ x H', Inv X pins σ H' s2 ∧ RelV x u ∧ J.yld i H x H' ∧ tn (i + 1) s2.heap ∧ ∀ b ∈ fp, H' b = none) E s1) E s
  done : ∀ (X : Cx), X.prog = P → X.w = w → X.K = K → X.calm = true → ∀ (i : Nat) (pins : List (Addr × Obj)) (s : Shared) (σ : St) (H : Hp) (E : Value → Shared → Prop), Inv X pins σ H s → (∀ b ∈ fp, FpOk X pins H b) → tn i s.heap → J.stop i H →
    wpAny (model P w) X.A (pyNext (.ref it)) (fun r s1 => r = none ∧ Inv X pins σ H s1) E s
  self : ∀ (A : Around) (i : Nat) (s : Shared) (Q : Value → Shared → Prop) (E : Value → Shared → Prop), tn i s.heap → Q (.ref it) s → wpAny (model P w) A (pyIter (.ref it)) Q E s
abbrev TI := St → Hp → (It → Hp → Prop) → Prop
def PIE (X : Cx) (pins : List (Addr × Obj)) (σ : St) (tg : Expr) (R : It → Hp → Prop) (itv : Value) (s2 : Shared) : Prop :=
  ∃ (it : Addr) (fp : List Addr) (tn : Nat → Heap → Prop) (J : It) (H' : Hp), itv = .ref it ∧ Inv X pins σ H' s2 ∧ Turn X.prog X.w X.K tg J fp it tn ∧ tn 0 s2.heap ∧ (∀ b ∈ fp, FpOk X pins H' b) ∧ R J H'
def PI (X : Cx) (tg iter : Expr) (wi : TI) : Prop :=
  ∀ (pins : List (Addr × Obj)) (s : Shared) (σ : St) (H : Hp) (R : It → Hp → Prop), Inv X pins σ H s → wi σ H R →
    wpAny (model X.prog X.w) X.A (eval iter X.env) (fun v s1 => wpAny (model X.prog X.w) X.A (pyIter v) (PIE X pins σ tg R) X.xe s1) X.xe s
theorem go_of {M : Model} {A : Around} {E : Value → Shared → Prop} {s : Shared} {tg : Expr} {it : Addr} {u : Value} {o : Obj} {n : String} {vs : Array Value} {Q : Unit → Shared → Prop} (ho : s.heap.get? it = some o) (hc : o.cls = .type n) (hd : o.data = .fields vs)
    (hn : ["enumerate", "zip", "dict_itemiterator", "dict_reverseitemiterator", "odict_iterator", "itertools.zip_longest", "itertools.pairwise"].contains n = false) (hQ : Q () s) : wpAny M A (letOwnedTupleGo tg (.ref it) u) Q E s := by
  unfold letOwnedTupleGo
  cases tg <;> first
    | exact wpAny_pure hQ
    | (cases u <;> first
        | exact wpAny_pure hQ
        | (refine wpAny_bind (wpAny_load ho ?_)
           rw [hc, hd]
           show wpAny M A (if (["enumerate", "zip", "dict_itemiterator", "dict_reverseitemiterator", "odict_iterator", "itertools.zip_longest", "itertools.pairwise"].contains n && vs[0]? == some (rawInt _)) = true then _ else _) Q E s
           rw [if_neg (by intro h; rw [hn, Bool.false_and] at h; cases h)]
           exact wpAny_pure hQ))
def Itl (K : PySem.W.Frag) (a : Addr) : It :=
  ⟨fun i H => ∃ xs x, SqL K H a xs ∧ xs[i]? = some x, fun i H x H' => H' = H ∧ ∀ xs, SqL K H a xs → xs[i]? = some x, fun i H => ∃ xs, SqL K H a xs ∧ xs.length ≤ i⟩
def Itr (lo : Int) (n : Nat) : It := ⟨fun i _ => i < n, fun i H x H' => H' = H ∧ x = .int (lo + i), fun i _ => n ≤ i⟩
theorem turn_list {P : Program} {w : World} {K : PySem.W.Frag} {tg : Expr} (a it : Addr) : Turn P w K tg (Itl K a) [it] it (fun i h => h.IsListIter it a i) where
  mem := by simp
  obj := fun i h st b hb => by
    have e : b = it := by simpa using hb
    subst e
    obtain ⟨o, e, c, d⟩ := st
    exact ⟨o, e, fun v z => by rw [d] at z; cases z⟩
  keep := fun i h h' st k => st.at fun o e => k it (by simp) o e
  item := by
    intro X hP hw hK hc i pins s σ H E I hf st hg
    subst hP hw hK
    obtain ⟨xs, x, hq, hx⟩ := hg
    obtain ⟨its, rv, p, hz⟩ := I.list hq
    obtain ⟨u, hu, ru⟩ := rv.get hx
    obtain ⟨f0, f1, f2, f3, f4, f5⟩ := hf it (by simp)
    refine wpAny_pyNext_list_item st p.isList (x := u) (by simpa using hu) fun h' st' sb => ?_
    have I1 : Inv X pins σ H { s with heap := h' } := I.turned (t' := s.toks) (fun b o hb e => (sb.2 b hb).trans e) f0 f1 f3 f4 f5
    obtain ⟨o, e, c, d⟩ := id st'
    exact ⟨u, rfl, go_of (s := { s with heap := h' }) e c d (by decide) ⟨x, H, I1, ru, ⟨rfl, fun ys hy => by rw [I.list_inj hy hq]; exact hx⟩, st', fun b hb => (hf b hb).1⟩⟩
  done := by
    intro X hP hw hK hc i pins s σ H E I hf st hg
    subst hP hw hK
    obtain ⟨xs, hq, hx⟩ := hg
    obtain ⟨its, rv, p, hz⟩ := I.list hq
    obtain ⟨f0, f1, f2, f3, f4, f5⟩ := hf it (by simp)
    have hl := rv.length
    exact wpAny_pyNext_list_end (I.ok.hd hc) st p.isList (by simp; omega) fun h' eb => ⟨rfl, I.turned (t' := s.toks) (fun b o hb e => eb b o hb e) f0 f1 f3 f4 f5⟩
  self := fun _ _ _ _ _ st h => wpAny_pyIter_listiter st h
theorem turn_range {P : Program} {w : World} {K : PySem.W.Frag} {tg : Expr} (it : Addr) (lo : Int) (n : Nat) : Turn P w K tg (Itr lo n) [it] it (fun i h => IsRangeIter h it (lo + (i : Nat) * 1) ((n : Int) - (i : Nat)) 1) where
  mem := by simp
  obj := fun i h st b hb => by
    have e : b = it := by simpa using hb
    subst e
    exact ⟨_, st, fun v z => by
      have z' : Data.fields _ = Data.cell v := z
      cases z'⟩
  keep := fun i h h' st k => k it (by simp) _ st
  item := by
    intro X hP hw hK hc i pins s σ H E I hf st hg
    subst hP hw hK
    obtain ⟨f0, f1, f2, f3, f4, f5⟩ := hf it (by simp)
    have W := Walks.range (prog := X.prog) (w := X.w) (I.ok.hd hc) it lo 1 n
    refine W.item i s _ _ hg st fun v h' tk hv st' kk => ?_
    obtain ⟨t, rfl⟩ := hv
    have I1 : Inv X pins σ H { s with heap := h', toks := tk } := I.turned (fun b o hb e => kk b o (by simpa using hb) e) f0 f1 f3 f4 f5
    refine ⟨_, rfl, go_of (s := { s with heap := h', toks := tk }) (n := "range_iterator") st' rfl rfl (by decide) ⟨.int (lo + i), H, I1, ⟨t, ?_⟩, ⟨rfl, rfl⟩, st', fun b hb => (hf b hb).1⟩⟩
    rw [Int.mul_one]
  done := by
    intro X hP hw hK hc i pins s σ H E I hf st hg
    subst hP hw hK
    obtain ⟨f0, f1, f2, f3, f4, f5⟩ := hf it (by simp)
    exact wpAny_pyNext_range_end (I.ok.hd hc) st (by have : n ≤ i := hg; omega) fun h' eb => ⟨rfl, I.turned (t' := s.toks) (fun b o hb e => eb b o hb e) f0 f1 f3 f4 f5⟩
  self := fun _ _ _ _ _ st h => wpAny_pyIter_rangeiter st h
end L2
namespace L2
open PySem PySem.Spec PyProof.Rows
section
variable {X : Cx} {tg : Expr}
def iList (K : PySem.W.Frag) (tl : TE) : TI := fun σ H R => tl σ H fun x H1 => ∃ a, x = .ref a ∧ (∃ xs, SqL K H1 a xs) ∧ R (Itl K a) H1
theorem pi_list {l : Expr} {tl : TE} (hl : PE X l tl) : PI X tg l (iList X.K tl) := by
  intro pins s σ H R I h
  refine thn (hl pins s σ H _ I h) fun v s1 ⟨x, H1, I1, r1, q1⟩ => ?_
  obtain ⟨a, e, ⟨xs, hq⟩, q⟩ := q1
  subst e
  cases r1
  obtain ⟨its, rv, p, hz⟩ := I1.list hq
  refine wpAny_pyIter_list p.isList ?_
  refine ⟨s1.heap.objs.size, [s1.heap.objs.size], _, _, H1, rfl, I1.kept (t' := s1.toks) fun b o e => Heap.get?_push_of_some _ e, turn_list a _, ⟨_, Heap.get?_push_size _ rfl, rfl, rfl⟩, fun b hb => ?_, q⟩
  have e : b = s1.heap.objs.size := by simpa using hb
  subst e
  exact I1.fpOk (Nat.le_refl _) (I1.hok.fresh (Nat.le_refl _))
theorem range_it {pins : List (Addr × Obj)} {σ : St} {H : Hp} {s : Shared} {R : It → Hp → Prop} {E : Value → Shared → Prop} {lo hi : Int} {t u v : Tok} {tk : Nat} (I : Inv X pins σ H s) (h1 : -(2 ^ 62) ≤ lo) (h2 : lo < 2 ^ 62) (h3 : -(2 ^ 62) ≤ hi) (h4 : hi < 2 ^ 62)
    (q : R (Itr lo (hi - lo).toNat) H) : wpAny (model X.prog X.w) X.A (pyIter (.ref s.heap.objs.size)) (PIE X pins σ tg R) E { s with heap := s.heap.push { cls := .type "range", data := .fields #[.int lo t, .int hi u, .int 1 v] }, toks := tk } := by
  refine wpAny_pyIter_range (IsRange.new ..) (small_one h1 h2 h3 h4) ?_
  have I1 : Inv X pins σ H { s with heap := s.heap.push { cls := .type "range", data := .fields #[.int lo t, .int hi u, .int 1 v] }, toks := tk } := I.kept fun b o e => Heap.get?_push_of_some _ e
  refine ⟨(s.heap.push { cls := .type "range", data := .fields #[.int lo t, .int hi u, .int 1 v] }).objs.size, [(s.heap.push { cls := .type "range", data := .fields #[.int lo t, .int hi u, .int 1 v] }).objs.size], _, _, H, rfl,
    I1.kept (t' := tk) fun b o e => Heap.get?_push_of_some _ e, turn_range _ lo (hi - lo).toNat, ?_, fun b hb => ?_, q⟩
  · have e1 : lo + ((0 : Nat) : Int) * 1 = lo := by simp
    have e2 : (((hi - lo).toNat : Nat) : Int) - ((0 : Nat) : Int) = Builtin.Range.rangeSize lo hi 1 := by rw [rangeSize_one]; split <;> omega
    show IsRangeIter _ _ (lo + ((0 : Nat) : Int) * 1) ((((hi - lo).toNat : Nat) : Int) - ((0 : Nat) : Int)) 1
    rw [e1, e2]
    exact Heap.get?_push_size _ rfl
  · have e : b = (s.heap.push { cls := .type "range", data := .fields #[.int lo t, .int hi u, .int 1 v] }).objs.size := by simpa using hb
    subst e
    exact I1.fpOk (Nat.le_refl _) (I1.hok.fresh (Nat.le_refl _))
def iRng1 (ta : TA) : TI := fun σ H R => ta σ H fun vs H1 => ∃ j : Int, vs = [.int j] ∧ -(2 ^ 62) ≤ j ∧ j < 2 ^ 62 ∧ R (Itr 0 j.toNat) H1
theorem pi_range1 {a : Expr} {ta : TA} {p pos : Pos} (hg : Gl X "range") (hm : X.mg "range" = none) (ha : PA X [a] ta) (hs : starEach [a] X.env = [(false, eval a X.env)] := by rfl) : PI X tg (.Call (.Name "range" p) [a] [] pos) (iRng1 ta) := by
  intro pins s σ H R I h
  refine Call_ (ld_blt I hg hm boot_range (PyProof.Rows.callWith_type1 (thn (ha pos pins s σ H _ I h) fun us s1 ⟨vs, H1, I1, r1, q1⟩ => ?_) hs rfl))
  obtain ⟨j, e, q1, q2, q⟩ := q1
  subst e
  cases r1 with
  | cons r rr =>
    cases rr
    obtain ⟨t, rfl⟩ := r
    exact call_range_1 (range_it I1 (by omega) (by omega) q1 q2 (by simpa using q))
def tFor (wi : TI) (g : TG) (tb : TS) : TS := fun D σ H => wi σ H fun J H1 => ∃ W : Nat → Nat → St → Hp → Prop, (∃ m, W 0 m σ H1) ∧ ∀ i m σ H, W i m σ H →
  (J.stop i H ∧ D.nx σ H) ∨ (J.go i H ∧ ∃ N : St → Hp → Prop, (∀ σ' H', N σ' H' → ∃ m', m' < m ∧ W (i + 1) m' σ' H') ∧ ∀ x H', J.yld i H x H' → g x σ H' fun σ2 H2 => tb { D with nx := N, ct := N, bk := D.nx } σ2 H2)
def pinsAt (fp : List Addr) (h : Heap) : List (Addr × Obj) := fp.filterMap fun b => (h.get? b).map fun o => (b, o)
theorem mem_pinsAt {fp : List Addr} {h : Heap} {b : Addr} {o : Obj} (hb : b ∈ fp) (e : h.get? b = some o) : (b, o) ∈ pinsAt fp h := List.mem_filterMap.mpr ⟨b, hb, by rw [e]; rfl⟩
theorem of_pinsAt {fp : List Addr} {h : Heap} {p : Addr × Obj} (hp : p ∈ pinsAt fp h) : p.1 ∈ fp ∧ h.get? p.1 = some p.2 := by
  obtain ⟨b, hb, e⟩ := List.mem_filterMap.mp hp
  cases q : h.get? b with
  | none => rw [q] at e; cases e
  | some o =>
    rw [q] at e
    have e' : (b, o) = p := Option.some.inj e
    subst e'
    exact ⟨hb, q⟩
theorem Inv.pinned {pins : List (Addr × Obj)} {σ : St} {H : Hp} {s : Shared} {fp : List Addr} (I : Inv X pins σ H s) (hf : ∀ b ∈ fp, FpOk X pins H b) (ho : ∀ b ∈ fp, ∃ o, s.heap.get? b = some o ∧ ∀ v, o.data ≠ .cell v) : Inv X (pins ++ pinsAt fp s.heap) σ H s :=
  I.pins_of fun p hp => (List.mem_append.mp hp).elim (fun z => I.pin p (List.mem_append_right _ z)) fun z => by
    obtain ⟨hb, e⟩ := of_pinsAt z
    obtain ⟨f0, f1, f2, _⟩ := hf p.1 hb
    obtain ⟨o, e', d⟩ := ho p.1 hb
    rw [e] at e'; cases e'
    exact ⟨e, f0, f1, f2, d⟩
theorem Inv.unpinned {pins pl : List (Addr × Obj)} {σ : St} {H : Hp} {s : Shared} (I : Inv X (pins ++ pl) σ H s) : Inv X pins σ H s := I.pins_of fun p hp => I.pin p (List.mem_append_right _ (List.mem_append_left _ hp))
theorem ps_for {iter : Expr} {body : List Stmt} {wi : TI} {g : TG} {tb : TS} {pos : Pos} (hp : PassesOwn (model X.prog X.w) X.A X.env X.xe) (hc : X.calm = true) (hi : PI X tg iter wi) (hg : PG X tg g) (hb : PSs X body tb)
    (hs : ∀ x, foldedSetIterable iter X.env x = pure x := by intro _; rfl) : PS X (.For tg iter body [] pos) (tFor wi g tb) := by
  intro pins s σ H D I h
  refine wpAny_For (thn (hi pins s σ H _ I h) fun v s1 h1 => thn h1 fun itv s2 h2 => ?_) hs
  obtain ⟨it, fp, tn, J, H2, e, I2, T, st2, f2, W, ⟨m0, w0⟩, turn⟩ := h2
  subst e
  -- what stays true of the iterator's objects through the loop
  have stat : ∀ {H' : Hp}, (∀ b ∈ fp, H' b = none) → ∀ b ∈ fp, FpOk X pins H' b := fun hn b hb => ⟨hn b hb, (f2 b hb).2⟩
  refine codeAny_forLoop_any (fun n s' => ∃ i σ' H', Inv X pins σ' H' s' ∧ tn i s'.heap ∧ (∀ b ∈ fp, H' b = none) ∧ W i n σ' H') ?_ m0 ⟨0, σ, H2, I2, st2, fun b hb => (f2 b hb).1, w0⟩
  rintro n s3 ⟨i, σ3, H3, I3, st3, fr3, w3⟩
  rcases turn i n σ3 H3 w3 with ⟨stop, qn⟩ | ⟨go, N, hN, step⟩
  · refine wpAny_passesOwn hp (thn (T.done X rfl rfl rfl hc i pins s3 σ3 H3 X.xe I3 (stat fr3) st3 stop) fun r s4 ⟨hr, I4⟩ => ?_)
    subst hr
    exact wpAny_execs_nil ⟨σ3, H3, I4, qn⟩
  · refine wpAny_passesOwn hp (thn (T.item X rfl rfl rfl hc i pins s3 σ3 H3 X.xe I3 (stat fr3) st3 go) fun r s4 ⟨u, hr, h4⟩ => ?_)
    subst hr
    refine wpAny_passesOwn hp (thn h4 fun _ s5 ⟨x, H5, I5, r5, y5, st5, fr5⟩ => ?_)
    have I5' := I5.pinned (stat fr5) (T.obj _ _ st5)
    refine wpAny_passesOwn hp (thn (hg _ s5 σ3 H5 x u _ I5' r5 (step x H5 y5)) fun _ s6 ⟨σ6, H6, I6, q6⟩ => ?_)
    refine wpAny_passesOwn hp (thn (hb _ s6 σ6 H6 _ I6 q6) fun f s7 q7 => ?_)
    have again : ∀ {σ7 : St} {H7 : Hp}, Inv X (pins ++ pinsAt fp s5.heap) σ7 H7 s7 → N σ7 H7 → ∃ m, m < n ∧ ∃ i σ' H', Inv X pins σ' H' s7 ∧ tn i s7.heap ∧ (∀ b ∈ fp, H' b = none) ∧ W i m σ' H' := fun {σ7 H7} I7 n7 => by
      obtain ⟨m', hm, w7⟩ := hN σ7 H7 n7
      refine ⟨m', hm, i + 1, σ7, H7, I7.unpinned, T.keep _ _ _ st5 fun b hb o e => (I7.pin (b, o) (List.mem_append_right _ (List.mem_append_right _ (mem_pinsAt hb e)))).1, fun b hb => ?_, w7⟩
      obtain ⟨o, e, d⟩ := T.obj _ _ st5 b hb
      exact (I7.pin (b, o) (List.mem_append_right _ (List.mem_append_right _ (mem_pinsAt hb e)))).2.1
    cases f with
    | next => obtain ⟨σ7, H7, I7, n7⟩ := q7; exact again I7 n7
    | cont => obtain ⟨σ7, H7, I7, n7⟩ := q7; exact again I7 n7
    | brk => obtain ⟨σ7, H7, I7, q7⟩ := q7; exact ⟨σ7, H7, I7.unpinned, q7⟩
    | ret v => obtain ⟨x7, σ7, H7, I7, r7, q7⟩ := q7; exact ⟨x7, σ7, H7, I7.unpinned, r7, q7⟩
end
theorem for_list {K : PySem.W.Frag} {a : Addr} {xs : List V} {g : TG} {tb : TS} {D : Ends} {σ : St} {H : Hp} (Pv : Nat → St → Hp → Prop) (h0 : Pv 0 σ H) (hl : ∀ i σ H, i ≤ xs.length → Pv i σ H → SqL K H a xs)
    (hs : ∀ i x σ H, xs[i]? = some x → Pv i σ H → g x σ H fun σ2 H2 => tb { D with nx := Pv (i + 1), ct := Pv (i + 1), bk := D.nx } σ2 H2) (hd : ∀ σ H, Pv xs.length σ H → D.nx σ H) :
    ∃ W : Nat → Nat → St → Hp → Prop, (∃ m, W 0 m σ H) ∧ ∀ i m σ H, W i m σ H →
      ((Itl K a).stop i H ∧ D.nx σ H) ∨ ((Itl K a).go i H ∧ ∃ N : St → Hp → Prop, (∀ σ' H', N σ' H' → ∃ m', m' < m ∧ W (i + 1) m' σ' H') ∧ ∀ x H', (Itl K a).yld i H x H' → g x σ H' fun σ2 H2 => tb { D with nx := N, ct := N, bk := D.nx } σ2 H2) := by
  refine ⟨fun i m σ H => m = xs.length - i ∧ i ≤ xs.length ∧ Pv i σ H, ⟨xs.length, by simp, Nat.zero_le _, h0⟩, ?_⟩
  rintro i m σ H ⟨rfl, hi, p⟩
  have q := hl i σ H hi p
  by_cases hlt : i < xs.length
  · refine .inr ⟨⟨xs, xs[i], q, by simp [hlt]⟩, Pv (i + 1), fun σ' H' p' => ⟨xs.length - (i + 1), by omega, rfl, hlt, p'⟩, fun x H' y => ?_⟩
    obtain ⟨e, y⟩ := y
    subst e
    exact hs i x σ _ (y xs q) p
  · have e : i = xs.length := by omega
    subst e
    exact .inl ⟨⟨xs, q, Nat.le_refl _⟩, hd σ H p⟩
theorem for_range {lo : Int} {n : Nat} {g : TG} {tb : TS} {D : Ends} {σ : St} {H : Hp} (Pv : Nat → St → Hp → Prop) (h0 : Pv 0 σ H)
    (hs : ∀ i σ H, i < n → Pv i σ H → g (.int (lo + i)) σ H fun σ2 H2 => tb { D with nx := Pv (i + 1), ct := Pv (i + 1), bk := D.nx } σ2 H2) (hd : ∀ σ H, Pv n σ H → D.nx σ H) :
    ∃ W : Nat → Nat → St → Hp → Prop, (∃ m, W 0 m σ H) ∧ ∀ i m σ H, W i m σ H →
      ((Itr lo n).stop i H ∧ D.nx σ H) ∨ ((Itr lo n).go i H ∧ ∃ N : St → Hp → Prop, (∀ σ' H', N σ' H' → ∃ m', m' < m ∧ W (i + 1) m' σ' H') ∧ ∀ x H', (Itr lo n).yld i H x H' → g x σ H' fun σ2 H2 => tb { D with nx := N, ct := N, bk := D.nx } σ2 H2) := by
  refine ⟨fun i m σ H => m = n - i ∧ i ≤ n ∧ Pv i σ H, ⟨n, by simp, Nat.zero_le _, h0⟩, ?_⟩
  rintro i m σ H ⟨rfl, hi, p⟩
  by_cases hlt : i < n
  · refine .inr ⟨hlt, Pv (i + 1), fun σ' H' p' => ⟨n - (i + 1), by omega, rfl, hlt, p'⟩, fun x H' y => ?_⟩
    obtain ⟨e, y⟩ := y
    subst e y
    exact hs i σ _ hlt p
  · have e : i = n := by omega
    subst e
    exact .inl ⟨Nat.le_refl _, hd σ H p⟩
theorem while_by {c : TT} {tb : TS} {D : Ends} {σ : St} {H : Hp} (Pv : St → Hp → Prop) (μ : St → Hp → Nat) (h0 : Pv σ H)
    (hs : ∀ σ H, Pv σ H → c σ H fun b H1 => if b = true then tb { D with nx := fun σ' H' => Pv σ' H' ∧ μ σ' H' < μ σ H, ct := fun σ' H' => Pv σ' H' ∧ μ σ' H' < μ σ H, bk := D.nx } σ H1 else D.nx σ H1)
    (mono : ∀ σ H Q Q', (∀ b H1, Q b H1 → Q' b H1) → c σ H Q → c σ H Q') : tWhile c tb D σ H := by
  refine ⟨fun m σ H => m = μ σ H ∧ Pv σ H, ⟨_, rfl, h0⟩, ?_⟩
  rintro m σ H ⟨rfl, p⟩
  refine mono σ H _ _ (fun b H1 q => ?_) (hs σ H p)
  cases b with
  | true => exact ⟨_, fun σ' H' ⟨p', l⟩ => ⟨_, l, rfl, p'⟩, q⟩
  | false => exact q
end L2
namespace L2
open PySem PySem.Spec PyProof.Rows
abbrev R2 := V → V → Hp → VK → Prop
def OpR (X : Cx) (f : Value → Value → Sem Value) (r : R2) : Prop :=
  ∀ (pins : List (Addr × Obj)) (s : Shared) (σ : St) (H : Hp) (x y : V) (v u : Value) (Q : VK), Inv X pins σ H s → RelV x v → RelV y u → r x y H Q →
    wpAny (model X.prog X.w) X.A (f v u) (EP X pins σ Q) X.xe s
def UnR (X : Cx) (f : Value → Sem Value) (r : V → Hp → VK → Prop) : Prop :=
  ∀ (pins : List (Addr × Obj)) (s : Shared) (σ : St) (H : Hp) (x : V) (v : Value) (Q : VK), Inv X pins σ H s → RelV x v → r x H Q →
    wpAny (model X.prog X.w) X.A (f v) (EP X pins σ Q) X.xe s
def CallR (X : Cx) (f : Value) (r : List V → Hp → VK → Prop) : Prop :=
  ∀ (pins : List (Addr × Obj)) (s : Shared) (σ : St) (H : Hp) (xs : List V) (us : List Value) (Q : VK), Inv X pins σ H s → Vals xs us → r xs H Q →
    wpAny (model X.prog X.w) X.A (call f us) (EP X pins σ Q) X.xe s
def tOp (r : R2) (ta tb : TE) : TE := fun σ H Q => ta σ H fun x H1 => tb σ H1 fun y H2 => r x y H2 Q
def tUn (r : V → Hp → VK → Prop) (ta : TE) : TE := fun σ H Q => ta σ H fun x H1 => r x H1 Q
def rI (C : Int → Int → Prop) (g : Int → Int → V) : R2 := fun x y H Q => ∃ i j, x = .int i ∧ y = .int j ∧ C i j ∧ Q (g i j) H
def rI0 (g : Int → Int → V) : R2 := fun x y H Q => ∃ i j, x = .int i ∧ y = .int j ∧ Q (g i j) H
def rU (g : Int → V) : V → Hp → VK → Prop := fun x H Q => ∃ i, x = .int i ∧ Q (g i) H
section
variable {X : Cx} {a b c : Expr} {ta tb tc : TE} {pos : Pos}
theorem binT (ha : PE X a ta) (hb : PE X b tb) {pins : List (Addr × Obj)} {s : Shared} {σ : St} {H : Hp} {R : V → V → Hp → Prop} (I : Inv X pins σ H s)
    (h : ta σ H fun x H1 => tb σ H1 fun y H2 => R x y H2) {Q : Value → Shared → Prop} {f : Value → Value → Sem Value}
    (hf : ∀ v u s2 x y H2, Inv X pins σ H2 s2 → RelV x v → RelV y u → R x y H2 → wpAny (model X.prog X.w) X.A (f v u) Q X.xe s2) :
    wpAny (model X.prog X.w) X.A (eval a X.env) (fun v s₁ => wpAny (model X.prog X.w) X.A (eval b X.env) (fun u s₂ => wpAny (model X.prog X.w) X.A (f v u) Q X.xe s₂) X.xe s₁) X.xe s := by
  refine thn (ha pins s σ H _ I h) fun v s1 ⟨x, H1, I1, r1, q1⟩ => ?_
  refine thn (hb pins s1 σ H1 _ I1 q1) fun u s2 ⟨y, H2, I2, r2, q2⟩ => ?_
  exact hf v u s2 x y H2 I2 r1 r2 q2
theorem pe_op {op : Operator} {r : R2} (ho : OpR X (binaryOp op) r) (ha : PE X a ta) (hb : PE X b tb) : PE X (.BinOp a op b pos) (tOp r ta tb) := by
  intro pins s σ H Q I h
  exact wpAny_BinOp (binT ha hb I h fun v u s2 x y H2 I2 rx ry q => ho pins s2 σ H2 x y v u Q I2 rx ry q)
theorem pe_un {op : UnaryOp} {r : V → Hp → VK → Prop} (ho : UnR X (unaryOp op) r) (ha : PE X a ta) : PE X (.UnaryOp op a pos) (tUn r ta) := by
  intro pins s σ H Q I h
  exact UnaryOp_ (thn (ha pins s σ H _ I h) fun v s1 ⟨x, H1, I1, r1, q1⟩ => ho pins s1 σ H1 x v Q I1 r1 q1)
theorem opI {f : Value → Value → Sem Value} {C : Int → Int → Prop} {g : Int → Int → Int}
    (rule : ∀ (i j : Int) (t u : Tok) (s : Shared) (Q : Value → Shared → Prop) (E : Value → Shared → Prop), C i j → Q (.int (g i j) s.toks) { s with toks := s.toks + 1 } → wpAny (model X.prog X.w) X.A (f (.int i t) (.int j u)) Q E s) :
    OpR X f (rI C fun i j => .int (g i j)) := by
  intro pins s σ H x y v u Q I rx ry h
  obtain ⟨i, j, rfl, rfl, hc, q⟩ := h
  obtain ⟨t, rfl⟩ := rx
  obtain ⟨t', rfl⟩ := ry
  exact rule i j t t' s _ _ hc ⟨.int (g i j), H, I.tok _, ⟨_, rfl⟩, q⟩
theorem opI0 {f : Value → Value → Sem Value} {g : Int → Int → Int}
    (rule : ∀ (i j : Int) (t u : Tok) (s : Shared) (Q : Value → Shared → Prop) (E : Value → Shared → Prop), Q (.int (g i j) s.toks) { s with toks := s.toks + 1 } → wpAny (model X.prog X.w) X.A (f (.int i t) (.int j u)) Q E s) :
    OpR X f (rI0 fun i j => .int (g i j)) := by
  intro pins s σ H x y v u Q I rx ry h
  obtain ⟨i, j, rfl, rfl, q⟩ := h
  obtain ⟨t, rfl⟩ := rx
  obtain ⟨t', rfl⟩ := ry
  exact rule i j t t' s _ _ ⟨.int (g i j), H, I.tok _, ⟨_, rfl⟩, q⟩
theorem opB0 {f : Value → Value → Sem Value} {g : Int → Int → Bool}
    (rule : ∀ (i j : Int) (t u : Tok) (s : Shared) (Q : Value → Shared → Prop) (E : Value → Shared → Prop), Q (.bool (g i j)) s → wpAny (model X.prog X.w) X.A (f (.int i t) (.int j u)) Q E s) :
    OpR X f (rI0 fun i j => .bl (g i j)) := by
  intro pins s σ H x y v u Q I rx ry h
  obtain ⟨i, j, rfl, rfl, q⟩ := h
  obtain ⟨t, rfl⟩ := rx
  obtain ⟨t', rfl⟩ := ry
  exact rule i j t t' s _ _ ⟨.bl (g i j), H, I, rfl, q⟩
theorem op_add : OpR X (binaryOp .Add) (rI0 fun i j => .int (i + j)) := opI0 fun _ _ _ _ _ _ _ q => add_int q
theorem op_sub : OpR X (binaryOp .Sub) (rI0 fun i j => .int (i - j)) := opI0 fun _ _ _ _ _ _ _ q => sub_int q
theorem op_mod : OpR X (binaryOp .Mod) (rI (fun _ j => 0 < j) fun i j => .int (i % j)) := opI fun i j _ _ _ _ _ hc q => by
  have h1 : (0 : Int) < j := hc
  exact mod_int' (by omega) (by rw [Int.fmod_eq_emod_of_nonneg i (by omega)]; exact q)
theorem unI {f : Value → Sem Value} {g : Int → Int}
    (rule : ∀ (i : Int) (t : Tok) (s : Shared) (Q : Value → Shared → Prop) (E : Value → Shared → Prop), Q (.int (g i) s.toks) { s with toks := s.toks + 1 } → wpAny (model X.prog X.w) X.A (f (.int i t)) Q E s) :
    UnR X f (rU fun i => .int (g i)) := by
  intro pins s σ H x v Q I rx h
  obtain ⟨i, rfl, q⟩ := h
  obtain ⟨t, rfl⟩ := rx
  exact rule i t s _ _ ⟨.int (g i), H, I.tok _, ⟨_, rfl⟩, q⟩
theorem un_neg : UnR X (unaryOp .USub) (rU fun i => .int (-i)) := unI fun _ _ _ _ _ q => neg_int q
end
def scal : V → V → Bool
  | .non, .non => true | .non, .int _ => true | .int _, .non => true | .non, .bl _ => true | .bl _, .non => true | .non, .str _ => true | .str _, .non => true
  | .int _, .int _ => true | .bl _, .bl _ => true | .str _, .str _ => true | .byt _, .byt _ => true
  | .int _, .str _ => true | .str _, .int _ => true | .bl _, .str _ => true | .str _, .bl _ => true
  | _, _ => false
def rEq : R2 := fun x y H Q => scal x y = true ∧ Q (.bl (decide (x = y))) H
def rNe : R2 := fun x y H Q => scal x y = true ∧ Q (.bl (!decide (x = y))) H
theorem dec_int {i j : Int} : decide (V.int i = V.int j) = (i == j) := by
  rw [Bool.eq_iff_iff]
  simp
theorem dec_bl {i j : Bool} : decide (V.bl i = V.bl j) = (i == j) := by
  rw [Bool.eq_iff_iff]
  simp
theorem dec_str {i j : Str} : decide (V.str i = V.str j) = (i == j) := by
  rw [Bool.eq_iff_iff]
  simp
theorem dec_byt {i j : Array UInt8} : decide (V.byt i = V.byt j) = (i.toList == j.toList) := by
  rw [Bool.eq_iff_iff]
  cases i
  cases j
  simp
section
variable {X : Cx} {a b c : Expr} {ta tb tc : TE} {pos : Pos}
theorem fin_bl {pins : List (Addr × Obj)} {σ : St} {H : Hp} {s : Shared} {Q : VK} {k k' : Bool} (I : Inv X pins σ H s) (q : Q (.bl k) H) (e : k = k') : EP X pins σ Q (.bool k') s := by
  subst e
  exact ⟨.bl k, H, I, rfl, q⟩
theorem op_eq : OpR X (compareOp .Eq) rEq := by
  intro pins s σ H x y v u Q I rx ry h
  obtain ⟨hs, q⟩ := h
  cases x with
  | non =>
    cases rx
    cases y with
    | non => cases ry; exact PySem.EqNone.eq_none_none (fin_bl I q (by simp))
    | bl j => cases ry; exact PySem.EqNone.eq_none_bool (fin_bl I q (by simp))
    | int j => obtain ⟨t', rfl⟩ := ry; exact PySem.EqNone.eq_none_int (fin_bl I q (by simp))
    | str j => obtain ⟨t', rfl⟩ := ry; exact PySem.EqNone.eq_none_str (fin_bl I q (by simp))
    | _ => exact absurd (show false = true from hs) Bool.false_ne_true
  | bl i =>
    cases rx
    cases y with
    | non => cases ry; exact PySem.EqNone.eq_bool_none (fin_bl I q (by simp))
    | bl j => cases ry; exact eq_bool (fin_bl I q dec_bl)
    | str j => obtain ⟨t', rfl⟩ := ry; exact PySem.EqMixed.eq_bool_str (fin_bl I q (by simp))
    | _ => exact absurd (show false = true from hs) Bool.false_ne_true
  | int i =>
    obtain ⟨t, rfl⟩ := rx
    cases y with
    | non => cases ry; exact PySem.EqNone.eq_int_none (fin_bl I q (by simp))
    | int j => obtain ⟨t', rfl⟩ := ry; exact eq_int (fin_bl I q dec_int)
    | str j => obtain ⟨t', rfl⟩ := ry; exact PySem.EqMixed.eq_int_str (fin_bl I q (by simp))
    | _ => exact absurd (show false = true from hs) Bool.false_ne_true
  | str i =>
    obtain ⟨t, rfl⟩ := rx
    cases y with
    | non => cases ry; exact PySem.EqNone.eq_str_none (fin_bl I q (by simp))
    | bl j => cases ry; exact PySem.EqMixed.eq_str_bool (fin_bl I q (by simp))
    | int j => obtain ⟨t', rfl⟩ := ry; exact PySem.EqMixed.eq_str_int (fin_bl I q (by simp))
    | str j => obtain ⟨t', rfl⟩ := ry; exact eq_str (fin_bl I q dec_str)
    | _ => exact absurd (show false = true from hs) Bool.false_ne_true
  | byt i =>
    obtain ⟨t, rfl⟩ := rx
    cases y with
    | byt j => obtain ⟨t', rfl⟩ := ry; exact PySem.W.eq_bytes (fin_bl I q dec_byt)
    | _ => exact absurd (show false = true from hs) Bool.false_ne_true
  | _ => cases y <;> exact absurd (show false = true from hs) Bool.false_ne_true
theorem op_ne : OpR X (compareOp .NotEq) rNe := by
  intro pins s σ H x y v u Q I rx ry h
  obtain ⟨hs, q⟩ := h
  cases x with
  | non =>
    cases rx
    cases y with
    | non => cases ry; exact PySem.EqNone.ne_none_none (fin_bl I q (by simp))
    | bl j => cases ry; exact PySem.EqNone.ne_none_bool (fin_bl I q (by simp))
    | int j => obtain ⟨t', rfl⟩ := ry; exact PySem.EqNone.ne_none_int (fin_bl I q (by simp))
    | str j => obtain ⟨t', rfl⟩ := ry; exact PySem.EqNone.ne_none_str (fin_bl I q (by simp))
    | _ => exact absurd (show false = true from hs) Bool.false_ne_true
  | bl i =>
    cases rx
    cases y with
    | non => cases ry; exact PySem.EqNone.ne_bool_none (fin_bl I q (by simp))
    | bl j => cases ry; exact ne_bool (fin_bl I q (congrArg not dec_bl))
    | str j => obtain ⟨t', rfl⟩ := ry; exact PySem.EqMixed.ne_bool_str (fin_bl I q (by simp))
    | _ => exact absurd (show false = true from hs) Bool.false_ne_true
  | int i =>
    obtain ⟨t, rfl⟩ := rx
    cases y with
    | non => cases ry; exact PySem.EqNone.ne_int_none (fin_bl I q (by simp))
    | int j => obtain ⟨t', rfl⟩ := ry; exact ne_int (fin_bl I q (congrArg not dec_int))
    | str j => obtain ⟨t', rfl⟩ := ry; exact PySem.EqMixed.ne_int_str (fin_bl I q (by simp))
    | _ => exact absurd (show false = true from hs) Bool.false_ne_true
  | str i =>
    obtain ⟨t, rfl⟩ := rx
    cases y with
    | non => cases ry; exact PySem.EqNone.ne_str_none (fin_bl I q (by simp))
    | bl j => cases ry; exact PySem.EqMixed.ne_str_bool (fin_bl I q (by simp))
    | int j => obtain ⟨t', rfl⟩ := ry; exact PySem.EqMixed.ne_str_int (fin_bl I q (by simp))
    | str j => obtain ⟨t', rfl⟩ := ry; exact ne_str (fin_bl I q (congrArg not dec_str))
    | _ => exact absurd (show false = true from hs) Bool.false_ne_true
  | byt i =>
    obtain ⟨t, rfl⟩ := rx
    cases y with
    | byt j => obtain ⟨t', rfl⟩ := ry; exact PySem.W.ne_bytes (fin_bl I q (congrArg not dec_byt))
    | _ => exact absurd (show false = true from hs) Bool.false_ne_true
  | _ => cases y <;> exact absurd (show false = true from hs) Bool.false_ne_true
theorem op_lt : OpR X (compareOp .Lt) (rI0 fun i j => .bl (decide (i < j))) := opB0 fun _ _ _ _ _ _ _ q => lt_int q
theorem op_le : OpR X (compareOp .LtE) (rI0 fun i j => .bl (decide (i ≤ j))) := opB0 fun _ _ _ _ _ _ _ q => le_int q
theorem nomark (b : Expr) {op : CmpOp} (h : op ≠ .In := by decide) (h2 : op ≠ .NotIn := by decide) : behindInMarks op b = false := by
  have e1 : (op == CmpOp.In) = false := by cases op <;> first | rfl | exact absurd rfl h
  have e2 : (op == CmpOp.NotIn) = false := by cases op <;> first | rfl | exact absurd rfl h2
  cases b <;> simp [behindInMarks, e1, e2]
theorem pe_cmpR {op : CmpOp} {r : R2} (ho : OpR X (compareOp op) r) (ha : PE X a ta) (hb : PE X b tb) (hm : behindInMarks op b = false) : PE X (.Compare a [op] [b] pos) (tOp r ta tb) := by
  intro pins s σ H Q I h
  exact wpAny_Compare1 (binT ha hb I h fun v u s2 x y H2 I2 rx ry q => ho pins s2 σ H2 x y v u Q I2 rx ry q) hm
def tTest (t : TE) : TT := fun σ H Q => t σ H fun x H' => ∃ k, x = .bl k ∧ Q k H'
theorem pt_cmpR {op : CmpOp} {r : R2} (ho : OpR X (compareOp op) r) (ha : PE X a ta) (hb : PE X b tb) (hm : behindInMarks op b = false) : PT X (.Compare a [op] [b] pos) (tTest (tOp r ta tb)) := by
  intro pins s σ H Q I h
  refine wpAny_isTrue_Compare1 (thn (ha pins s σ H _ I h) fun v s1 ⟨x, H1, I1, r1, q1⟩ => thn (hb pins s1 σ H1 _ I1 q1) fun u s2 ⟨y, H2, I2, r2, q2⟩ =>
    thn (ho pins s2 σ H2 x y v u _ I2 r1 r2 q2) fun c s3 ⟨z, H3, I3, r3, k, e, q3⟩ => ?_) hm
  subst e
  cases r3
  exact wpAny_truthy_bool ⟨H3, I3, q3⟩
def tChain (r r' : R2) (ta tb tc : TE) : TE := fun σ H Q => ta σ H fun x H1 => tb σ H1 fun y H2 => r x y H2 fun z H3 => ∃ k, z = .bl k ∧
  (if k = true then tc σ H3 fun w' H4 => r' y w' H4 Q else Q (.bl false) H3)
theorem pe_chain {op op' : CmpOp} {r r' : R2} (ho : OpR X (compareOp op) r) (ho' : OpR X (compareOp op') r') (ha : PE X a ta) (hb : PE X b tb) (hc : PE X c tc)
    (hm : lastMarks [op, op'] [b, c] = false := by with_unfolding_all rfl) : PE X (.Compare a [op, op'] [b, c] pos) (tChain r r' ta tb tc) := by
  intro pins s σ H Q I h
  refine Compare_chain (thn (ha pins s σ H _ I h) fun v s1 ⟨x, H1, I1, r1, q1⟩ => chain_link (thn (hb pins s1 σ H1 _ I1 q1) fun u s2 ⟨y, H2, I2, r2, q2⟩ =>
    thn (ho pins s2 σ H2 x y v u _ I2 r1 r2 q2) fun d s3 ⟨z, H3, I3, r3, k, e, q3⟩ => ?_)) hm
  subst e
  cases r3
  refine wpAny_truthy_bool ?_
  cases k with
  | false => exact ite_ff ⟨.bl false, H3, I3, rfl, q3⟩
  | true => exact ite_tt (chain_last (thn (hc pins s3 σ H3 _ I3 q3) fun w' s4 ⟨z', H4, I4, r4, q4⟩ => ho' pins s4 σ H4 y z' u w' Q I4 r2 r4 q4))
theorem line63 : (sizeLine : Nat) < 2 ^ 63 := by rw [sizeLine_eq]; decide
theorem vals1 {x : V} {us : List Value} (r : Vals [x] us) : ∃ u, us = [u] ∧ RelV x u := by
  cases r with
  | cons r1 r2 => cases r2; exact ⟨_, rfl, r1⟩
theorem call_abs : CallR X (.builtin "abs") (fun xs H Q => ∃ i, xs = [.int i] ∧ Q (.int (if i < 0 then -i else i)) H) := by
  intro pins s σ H xs us Q I r h
  obtain ⟨i, rfl, q⟩ := h
  obtain ⟨u, rfl, t, rfl⟩ := vals1 r
  exact call_abs_int fun u tk => ⟨.int (if i < 0 then -i else i), H, I.tok _, ⟨_, rfl⟩, q⟩
end
end L2
namespace L2
open PySem PySem.Spec PyProof.Rows
structure ObjM (h : Heap) (x dx C : Addr) (mA : Str → Option Value) : Prop where
  obj : h.get? x = some (PySem.W.instObj C dx)
  ns : h.Ns1 dx mA
  ne : dx ≠ x
theorem lookIn_ns {h : Heap} {dx : Addr} {mA : Str → Option Value} (n : h.Ns1 dx mA) : ∃ od, h.get? dx = some od ∧ ∀ name, PySem.W.lookIn name od = some (mA name) := by
  obtain ⟨o, es, ep, ho, hd, hk, _, hm⟩ := n
  refine ⟨o, ho, fun name => ?_⟩
  have e := hm name
  unfold nsFind findBy at e
  rw [← Array.find?_toList] at e
  unfold PySem.W.lookIn
  rw [hd]
  dsimp only
  split
  · rename_i y q
    rw [q] at e
    exact congrArg some e
  · rename_i q
    rw [q] at e
    have a : es.toList.any (·.refKey) = false := by
      rw [List.any_eq_false]
      intro y hy
      obtain ⟨z, t, hkey⟩ := hk y (Array.mem_toList_iff.mp hy)
      simp [DictEntry.refKey, hkey]
    have a' : ¬ es.toList.any (·.refKey) = true := by rw [a]; exact Bool.false_ne_true
    rw [if_neg a']
    exact congrArg some e
theorem ObjM.look {h : Heap} {x dx C : Addr} {mA : Str → Option Value} (I : ObjM h x dx C mA) : ∃ od, PySem.W.InstAt h x (PySem.W.instObj C dx) C (some od) ∧ ∀ name, PySem.W.lookIn name od = some (mA name) :=
  let ⟨od, ho, hl⟩ := lookIn_ns I.ns
  ⟨od, ⟨I.obj, rfl, rfl, ho⟩, hl⟩
section
variable {prog : Program} {w : World} {A : Around} {E : Value → Shared → Prop} {s : Shared} {K : PySem.W.Frag} {x dx C f : Addr} {mA : Str → Option Value} {name : Str} {v : Value}
theorem get_map {expr : Bool} {Q : Value → Shared → Prop} (X : K.In s.heap) (I : ObjM s.heap x dx C mA) (hg : PySem.W.plainGet K C name = true) (hh : PySem.W.hasDictIn K C = true)
    (ha : PySem.W.findIn K (.ref C) name = some none) (hv : mA name = some v) (hv' : PySem.W.handedIn v = true) (h : Q v { s with toks := s.toks + 1 }) :
    wpAny (model prog w) A (getAttr (.ref x) name expr) Q E s := by
  obtain ⟨od, J, hl⟩ := I.look
  exact PySem.W.get_value X J (PySem.W.plainGet_of hg).1 (PySem.W.findObj_own hh ha rfl (by rw [hl, hv])) hv' h
theorem set_map {ns : List Str} {Q : Unit → Shared → Prop} (X : K.In s.heap) (I : ObjM s.heap x dx C mA)
    (hs : PySem.W.findIn K (.ref C) "__setattr__" = some (some (.builtin "object.__setattr__"))) (hp : PySem.W.plainOver K C = true) (ht : PySem.W.takerIn K C name = some none) (hh : PySem.W.hasDictIn K C = true)
    (hw : PySem.Within mA ns) (hsz : ns.length ≤ sizeLine)
    (h : ∀ h', ObjM h' x dx C (fun y => if y = name then some v else mA y) → Heap.SameBut dx s.heap h' → Q () { s with heap := h', toks := s.toks + 2 }) :
    wpAny (model prog w) A (setAttr (.ref x) name v) Q E s := by
  obtain ⟨od, J, hl⟩ := I.look
  refine PySem.W.set_plain X J hs (PySem.W.osa_open (s := { s with toks := s.toks + 1 }) (r := none) X J hp ht fun b => ?_)
  obtain ⟨cd, hc, hd'⟩ := PySem.W.any_some hh
  have hx : s.heap.get? x = some ⟨.ref C, some dx, .plain, #[]⟩ := I.obj
  refine wpAny_bind (wpAny_pure (wpAny_bind (wpAny_bind (wpAny_loadPart hx (wpAny_bind (PySem.W.Looks.here (s := { s with toks := s.toks + 1 }) (PySem.W.looks_clsIn X hc) ?_))))))
  rw [hd']
  refine wpAny_pure (a := some dx) (wpAny_bind (wpAny_pure (wpAny_bind ?_)))
  refine wpAny_nsSet1 (s := { s with toks := s.toks + 1 }) I.ns fun h' hn2 hs2 => ?_
  obtain ⟨oD, esD, epD, hoD, hdD, hcD⟩ := hn2.count (PySem.Within.cons name v hw)
  refine wpAny_bind (wpAny_lookBehind hoD (by rw [hdD]; exact pastItsLine_dict (Nat.le_trans hcD (by rw [List.length_cons]; omega))) ?_)
  exact wpAny_pure (h _ ⟨(hs2.2 _ (Ne.symm I.ne)).trans I.obj, hn2, I.ne⟩ hs2)
theorem make_map {R : Result → Shared → Prop} {vs : List Value} {kw : List (Str × Value)} (X : K.In s.heap) (hm : PySem.W.makesIn K C = true)
    (hi : PySem.W.findIn K (.ref C) "__init__" = some (some (.ref f))) (hf : PySem.W.typeIn K (.ref f) = some (.type "function"))
    (h : codeAny (model prog w) (A.under (.builtin "type.__call__" ⟨.ref C :: vs, kw⟩)) (.call (.ref f) ⟨.ref (s.heap.objs.size + 1) :: vs, kw⟩) (PySem.W.InitBack (s.heap.objs.size + 1) R)
      { s with heap := (s.heap.push PySem.W.emptyDict).push (PySem.W.instObj C s.heap.objs.size) }) :
    codeAny (model prog w) A (.call (.ref C) ⟨vs, kw⟩) R s := by
  obtain ⟨hh, g, d, t, os⟩ := s
  exact PySem.W.make_core (PySem.W.makes_of X hm) (PySem.W.looks_findIn X hi) (fun self => PySem.W.bind_fn X self hf) (.inl rfl) h
end
def putF (f : Str) (v : V) : List (Str × V) → List (Str × V)
  | [] => [(f, v)]
  | (g, x) :: r => if g = f then (g, v) :: r else (g, x) :: putF f v r
theorem lookup_putF (f g : Str) (v : V) : ∀ fs : List (Str × V), (putF f v fs).lookup g = if g = f then some v else fs.lookup g
  | [] => by
    show List.lookup g [(f, v)] = _
    by_cases h : g = f
    · have hb : (g == f) = true := beq_iff_eq.mpr h
      simp only [List.lookup, hb, if_pos h]
    · have hb : (g == f) = false := beq_eq_false_iff_ne.mpr h
      simp only [List.lookup, hb, if_neg h]
  | (k, x) :: r => by
    have ih := lookup_putF f g v r
    rw [show putF f v ((k, x) :: r) = (if k = f then (k, v) :: r else (k, x) :: putF f v r) from rfl]
    by_cases hk : k = f
    · rw [if_pos hk]
      by_cases h : g = k
      · have hb : (g == k) = true := beq_iff_eq.mpr h
        simp only [List.lookup, hb, if_pos (h.trans hk)]
      · have hb : (g == k) = false := beq_eq_false_iff_ne.mpr h
        simp only [List.lookup, hb, if_neg (fun e : g = f => h (e.trans hk.symm))]
    · rw [if_neg hk]
      by_cases h : g = k
      · have hb : (g == k) = true := beq_iff_eq.mpr h
        simp only [List.lookup, hb, if_neg (fun e : g = f => hk (h.symm.trans e))]
      · have hb : (g == k) = false := beq_eq_false_iff_ne.mpr h
        simp only [List.lookup, hb]
        exact ih
theorem keys_putF (f : Str) (v : V) : ∀ fs : List (Str × V), f ∈ (putF f v fs).map (·.1) ∧ ∀ g, g ∈ fs.map (·.1) → g ∈ (putF f v fs).map (·.1)
  | [] => ⟨by simp [putF], fun g h => by simp at h⟩
  | (k, x) :: r => by
    obtain ⟨i1, i2⟩ := keys_putF f v r
    rw [show putF f v ((k, x) :: r) = (if k = f then (k, v) :: r else (k, x) :: putF f v r) from rfl]
    by_cases hk : k = f
    · rw [if_pos hk]
      subst hk
      exact ⟨by simp, fun g h => by simpa using h⟩
    · rw [if_neg hk]
      refine ⟨?_, fun g h => ?_⟩
      · rw [List.map_cons]
        exact List.mem_cons_of_mem _ i1
      · rw [List.map_cons] at h ⊢
        rcases List.mem_cons.mp h with e | e
        · exact List.mem_cons.mpr (.inl e)
        · exact List.mem_cons_of_mem _ (i2 g e)
theorem length_putF (f : Str) (v : V) : ∀ fs : List (Str × V), (putF f v fs).length ≤ fs.length + 1
  | [] => by simp [putF]
  | (k, x) :: r => by
    have ih := length_putF f v r
    rw [show putF f v ((k, x) :: r) = (if k = f then (k, v) :: r else (k, x) :: putF f v r) from rfl]
    by_cases hk : k = f
    · rw [if_pos hk, List.length_cons, List.length_cons]; omega
    · rw [if_neg hk, List.length_cons, List.length_cons]; omega
theorem RelO.some_of {v : V} {o : Option Value} (r : RelO (some v) o) : ∃ u, o = some u ∧ RelV v u := by
  cases o with
  | none => exact (show False from r).elim
  | some u => exact ⟨u, rfl, r⟩
theorem handed_of {v : V} {u : Value} (r : RelV v u) : PySem.W.handedIn u = true := by
  cases v with
  | non => cases (show u = Value.none from r); rfl
  | bl b => cases (show u = Value.bool b from r); rfl
  | int i => obtain ⟨t, e⟩ := (show ∃ t, u = Value.int i t from r); cases e; rfl
  | str x => obtain ⟨t, e⟩ := (show ∃ t, u = Value.str x t from r); cases e; rfl
  | byt b => obtain ⟨t, e⟩ := (show ∃ t, u = Value.bytes b t from r); cases e; rfl
  | flt b => obtain ⟨t, e⟩ := (show ∃ t, u = Value.float b t from r); cases e; rfl
  | ref a => cases (show u = Value.ref a from r); rfl
  | ty n => cases (show u = Value.type n from r); rfl
section
variable {P : Program} {w : World} {H H' : Hp} {h h' : Heap} {a C dx : Addr} {fs fs' : List (Str × V)}
theorem ins_get (hok : HOk P w H h) (e : H a = some (.ins C dx fs)) : ∃ mA, ObjM h a dx C mA ∧ (∀ f, RelO (fs.lookup f) (mA f)) ∧ PySem.Within mA (fs.map (·.1)) ∧ fs.length ≤ 1000 ∧ H dx = some (.own a) := by
  obtain ⟨d, z, ne, ob, mA, n, r, q⟩ := (show ObjOk P w H h a (.ins C dx fs) from hok a _ e)
  exact ⟨mA, ⟨ob, n, ne⟩, r, q, z, d⟩
end
structure Cls (K : PySem.W.Frag) (C : Addr) : Prop where
  pg : PySem.W.plainGet K C Str.empty = true
  hd : PySem.W.hasDictIn K C = true
  po : PySem.W.plainOver K C = true
  sa : PySem.W.findIn K (.ref C) "__setattr__" = some (some (.builtin "object.__setattr__"))
theorem Cls.get {K : PySem.W.Frag} {C : Addr} (c : Cls K C) (f : Str) : PySem.W.plainGet K C f = true := c.pg
def NoAttr (K : PySem.W.Frag) (C : Addr) (f : Str) : Prop := PySem.W.findIn K (.ref C) f = some none
theorem NoAttr.taker {K : PySem.W.Frag} {C : Addr} {f : Str} (n : NoAttr K C f) : PySem.W.takerIn K C f = some none := by
  unfold PySem.W.takerIn
  rw [show PySem.W.findIn K (.ref C) f = some none from n]
  rfl
section
variable {X : Cx} {pins : List (Addr × Obj)} {σ : St} {H : Hp} {s : Shared} {a C dx : Addr} {fs : List (Str × V)} {f : Str} {v : V} {A : Around} {E : Value → Shared → Prop}
theorem getattr_ok {b : Bool} {Q : Value → Shared → Prop} (I : Inv X pins σ H s) (e : H a = some (.ins C dx fs)) (c : Cls X.K C) (n : NoAttr X.K C f) (l : fs.lookup f = some v)
    (h : ∀ u s', Inv X pins σ H s' → RelV v u → Q u s') : wpAny (model X.prog X.w) A (getAttr (.ref a) f b) Q E s := by
  obtain ⟨mA, O, r, _, _, _⟩ := ins_get I.hok e
  obtain ⟨u, hu, ru⟩ := RelO.some_of (v := v) (o := mA f) (by rw [← l]; exact r f)
  exact get_map I.kIn O (c.get f) c.hd n hu (handed_of ru) (h u _ (I.tok _) ru)
theorem setattr_ok {y : V} {u : Value} {Q : Unit → Shared → Prop} (I : Inv X pins σ H s) (e : H a = some (.ins C dx fs)) (c : Cls X.K C) (n : NoAttr X.K C f) (hl : fs.length < 1000) (ry : RelV y u)
    (h : ∀ s', Inv X pins σ (upd H a (.ins C dx (putF f y fs))) s' → Q () s') : wpAny (model X.prog X.w) A (setAttr (.ref a) f u) Q E s := by
  obtain ⟨mA, O, r, wi, _, ho⟩ := ins_get I.hok e
  have hz : (fs.map (·.1)).length ≤ sizeLine := by rw [List.length_map, sizeLine_eq]; omega
  refine set_map I.kIn O c.sa c.po n.taker c.hd wi hz fun h' O' sb => h _ ?_
  have hd : ∃ o, h'.get? dx = some o := let ⟨o, _, _, e', _⟩ := O'.ns; ⟨o, e'⟩
  refine I.write (x := a) (e := dx) (by rw [e]; exact True.intro) (.inr ho) (fun b q hb z => (sb.2 b hb).trans z) hd ?_
  refine ⟨by rw [upd_ne O.ne]; exact ho, ?_, O.ne, O'.obj, _, O'.ns, fun g => ?_, fun g hg => ?_⟩
  · have := length_putF f y fs; omega
  · show RelO ((putF f y fs).lookup g) (if g = f then some u else mA g)
    rw [lookup_putF]
    by_cases q : g = f
    · rw [if_pos q, if_pos q]; exact ry
    · rw [if_neg q, if_neg q]; exact r g
  · by_cases q : g = f
    · rw [q]; exact (keys_putF f y fs).1
    · refine (keys_putF f y fs).2 g (wi g fun z => hg ?_)
      show (if g = f then some u else mA g) = none
      rw [if_neg q]; exact z
theorem Inv.made (I : Inv X pins σ H s) : Inv X pins σ (upd (upd H s.heap.objs.size (.own (s.heap.objs.size + 1))) (s.heap.objs.size + 1) (.ins C s.heap.objs.size []))
    { s with heap := (s.heap.push PySem.W.emptyDict).push (PySem.W.instObj C s.heap.objs.size) } := by
  have e1 : (s.heap.push PySem.W.emptyDict).get? s.heap.objs.size = some PySem.W.emptyDict := Heap.get?_push_size s.heap rfl
  have e2 : ((s.heap.push PySem.W.emptyDict).push (PySem.W.instObj C s.heap.objs.size)).get? (s.heap.objs.size + 1) = some (PySem.W.instObj C s.heap.objs.size) := by
    have := Heap.get?_push_size (s.heap.push PySem.W.emptyDict) (o := PySem.W.instObj C s.heap.objs.size) rfl
    rwa [Heap.size_push] at this
  have e3 : (s.heap.push PySem.W.emptyDict).Ns s.heap.objs.size (fun _ => none) := ⟨PySem.W.emptyDict, #[], _, e1, rfl, (fun e he => absurd he (by simp)), fun _ => rfl⟩
  have I1 := I.laid (a := s.heap.objs.size) (o := .own (s.heap.objs.size + 1)) (h' := s.heap.push PySem.W.emptyDict) (t' := s.toks) (fun b u q => Heap.get?_push_of_some _ q) (Nat.le_refl _) ⟨_, e1⟩
  refine I1.laid (a := s.heap.objs.size + 1) (o := .ins C s.heap.objs.size []) (t' := s.toks) (fun b u q => Heap.get?_push_of_some _ q) (Nat.le_of_eq (Heap.size_push _ _)) ?_
  have ne : s.heap.objs.size ≠ s.heap.objs.size + 1 := Nat.ne_of_lt (Nat.lt_succ_self _)
  refine ⟨by rw [upd_ne ne, upd_same], Nat.zero_le _, ne, e2, fun _ => none, (Heap.Ns1.of_empty e3).at fun o q => Heap.get?_push_of_some _ q, fun _ => True.intro, fun y hy => absurd rfl hy⟩
theorem attr_of {prog : Program} {w : World} {env : Env} {e : Expr} {f : Str} {pos : Pos} {s : Shared} {Q : Value → Shared → Prop} (hb : attributeBase e f env (eval e env) = eval e env)
    (h : wpAny (model prog w) A (eval e env) (fun o s₁ => wpAny (model prog w) A (getAttr o f true) Q E s₁) E s) : wpAny (model prog w) A (eval (.Attribute e f pos) env) Q E s :=
  Attribute_any_ h (by rw [arm_eval_Attribute, hb])
end
def tFld (K : PySem.W.Frag) (ta : TE) (f : Str) : TE := fun σ H Q => ta σ H fun x H1 => ∃ a C dx fs v, x = .ref a ∧ H1 a = some (.ins C dx fs) ∧ Cls K C ∧ NoAttr K C f ∧ fs.lookup f = some v ∧ Q v H1
def sFld (K : PySem.W.Frag) (ta tv : TE) (f : Str) : TS := fun D σ H => tv σ H fun y H1 => ta σ H1 fun x H2 => ∃ a C dx fs, x = .ref a ∧ H2 a = some (.ins C dx fs) ∧ Cls K C ∧ NoAttr K C f ∧ fs.length < 1000 ∧
  D.nx σ (upd H2 a (.ins C dx (putF f y fs)))
section
variable {X : Cx} {o e value : Expr} {f : Str} {pos pos' tpos : Pos} {ta tv : TE}
theorem pe_fld (he : PE X e ta) (hb : attributeBase e f X.env (eval e X.env) = eval e X.env) : PE X (.Attribute e f pos) (tFld X.K ta f) := by
  intro pins s σ H Q I h
  refine attr_of hb (thn (he pins s σ H _ I h) fun u s1 ⟨x, H1, I1, rx, a, C, dx, fs, v, ex, ea, c, n, l, q⟩ => ?_)
  subst ex
  obtain rfl : u = Value.ref a := rx
  exact getattr_ok I1 ea c n l fun u' s2 I2 ru => ⟨v, H1, I2, ru, q⟩
theorem ps_fld (ha : PE X o ta) (hv : PE X value tv) (hs : swapsWith value (some (.Attribute o f pos')) pos.line X.env = pure false) : PS X (.Assign [.Attribute o f pos'] value pos) (sFld X.K ta tv f) := by
  intro pins s σ H D I h
  refine plainObj_wpAny_Assign_Attribute (thn (hv pins s σ H _ I h) fun u s1 ⟨y, H1, I1, ry, q⟩ => thn (ha pins s1 σ H1 _ I1 q) fun ov s2 ⟨x, H2, I2, rx, a, C, dx, fs, ex, ea, c, n, l, q2⟩ => ?_) hs
  subst ex
  obtain rfl : ov = Value.ref a := rx
  exact setattr_ok I2 ea c n l ry fun s3 I3 => ⟨σ, _, I3, q2⟩
end
section
variable {X : Cx} {pins : List (Addr × Obj)} {σ : St} {H : Hp} {s : Shared} {A : Around} {E : Value → Shared → Prop} {Q : Value → Shared → Prop} {c : Value} {b : Bool}
end
end L2
namespace L2
open PySem PySem.Spec PyProof.Rows
structure Room (k : Nat) (A : Around) : Prop where
  hd : A.handled = none
  dp : A.depth + 3 * k + 5 < recursionLimit
  un : A.units + 16 * k + 200 < cLine
theorem Room.mono {j k : Nat} {A : Around} (r : Room k A) (h : j ≤ k) : Room j A := ⟨r.hd, by have := r.dp; omega, by have := r.un; omega⟩
theorem Room.deeper {k : Nat} {A : Around} (r : Room (k + 1) A) (env : Env) : Room k (A.deeper env) :=
  ⟨r.hd, by have := r.dp; show A.depth + 1 + 3 * k + 5 < _; omega, by have := r.un; show A.units + 3 + 16 * k + 200 < _; omega⟩
theorem make_depth {A : Around} {C : Addr} {us : List Value} {kw : List (Str × Value)} : (A.under (.builtin "type.__call__" ⟨.ref C :: us, kw⟩)).depth = A.depth + 1 := by
  first | rfl | simp [Around.under, Code.weight, Code.isCreation, Code.isGuard, Code.isCaller, Code.frames, Code.isFrame, guardIds]
theorem make_units {A : Around} {C : Addr} {us : List Value} {kw : List (Str × Value)} : (A.under (.builtin "type.__call__" ⟨.ref C :: us, kw⟩)).units = A.units + 1 := by
  first | rfl | simp [Around.under, Code.cUnits, Code.frames, Code.isFrame]
theorem Room.make {k : Nat} {A : Around} (r : Room (k + 1) A) (C : Addr) (us : List Value) (kw : List (Str × Value)) : Room k (A.under (.builtin "type.__call__" ⟨.ref C :: us, kw⟩)) :=
  ⟨r.hd, by have := r.dp; rw [make_depth]; omega, by have := r.un; rw [make_units]; omega⟩
theorem Room.depth {k : Nat} {A : Around} (r : Room k A) : A.depth < recursionLimit := by have := r.dp; omega
theorem Room.units {k : Nat} {A : Around} (r : Room k A) : A.units + 64 < cLine := by have := r.un; omega
def tNil : TA := fun _ H Q => Q [] H
def tCons (ta : TE) (tr : TA) : TA := fun σ H Q => ta σ H fun x H1 => tr σ H1 fun xs H2 => Q (x :: xs) H2
section
variable {X : Cx} {e : Expr} {es : List Expr} {te : TE} {t : TA} {pos : Pos}
theorem pa_nil : PA X [] tNil := fun _ _ _ _ H Q I h => Calls.spliced_nil ⟨[], H, I, .nil, h⟩
theorem pa_cons (ha : PE X e te) (hr : PA X es t) (hs : starEach (e :: es) X.env = (false, eval e X.env) :: starEach es X.env := by rfl) : PA X (e :: es) (tCons te t) := by
  intro pos pins s σ H Q I h
  rw [hs]
  show wpAny _ _ (spliced ((false, eval e X.env) :: backTo pos (starEach es X.env))) _ _ s
  refine Calls.spliced_cons (thn (ha pins s σ H _ I h) fun u s1 ⟨x, H1, I1, r1, q1⟩ => ?_)
  exact thn (hr pos pins s1 σ H1 _ I1 q1) fun us s2 ⟨xs, H2, I2, r2, q2⟩ => ⟨x :: xs, H2, I2, .cons r1 r2, q2⟩
def tTup (t : TA) : TE := fun σ H Q => t σ H fun xs H1 => xs.length ≤ sizeLine ∧ ∀ p, H1 p = none → Q (.ref p) (upd H1 p (.tup xs))
def tLst (t : TA) : TE := fun σ H Q => t σ H fun xs H1 => xs.length ≤ sizeLine ∧ ∀ p, H1 p = none → Q (.ref p) (upd H1 p (.lst xs))
theorem pe_tup {x1} (h : PA X es t) : PE X (.Tuple es x1 pos) (tTup t) := by
  intro pins s σ H Q I hq
  refine wpAny_Tuple_spliced (thn (h pos pins s σ H _ I hq) fun us s1 ⟨xs, H1, I1, r, z, q⟩ => ⟨by rw [← r.length]; exact z, ?_⟩)
  have hf : H1 s1.heap.objs.size = none := I1.hok.fresh (Nat.le_refl _)
  refine ⟨.ref s1.heap.objs.size, upd H1 s1.heap.objs.size (.tup xs), I1.laid (t' := s1.toks) (fun b u e => Heap.get?_push_of_some _ e) (Nat.le_refl _) ?_, rfl, q _ hf⟩
  exact ⟨z, us, r, ⟨_, Heap.get?_push_size _ rfl, rfl, _, rfl⟩⟩
theorem pe_lst (h : PA X es t) : PE X (.List es pos) (tLst t) := by
  intro pins s σ H Q I hq
  refine wpAny_List_spliced (thn (h pos pins s σ H _ I hq) fun us s1 ⟨xs, H1, I1, r, z, q⟩ => ⟨by rw [← r.length]; exact z, ?_⟩)
  have hf : H1 s1.heap.objs.size = none := I1.hok.fresh (Nat.le_refl _)
  refine ⟨.ref s1.heap.objs.size, upd H1 s1.heap.objs.size (.lst xs), I1.laid (t' := s1.toks) (fun b u e => Heap.get?_push_of_some _ e) (Nat.le_refl _) ?_, rfl, q _ hf⟩
  exact ⟨z, us, 0, r, Heap.get?_push_size _ rfl⟩
end
abbrev Sp := List V → Hp → VK → XK → Prop
abbrev CXT := List Env → Hp → Shared → XK → Value → Shared → Prop
structure Env0 (P : Program) (w : World) (K : PySem.W.Frag) (mg : Str → Option Value) (base : Heap) (A : Around) (outer : List Env) (s : Shared) (H : Hp) : Prop where
  frames : A.frames = some outer
  mod : Mod K mg base
  bs : ∀ b o, base.get? b = some o → s.heap.get? b = some o ∧ H b = none
  bsz : base.objs.size ≤ s.heap.objs.size
  funs : s.heap.FunFrames base outer
  frf : ∀ b ∈ frs outer, H b = none
  hok : HOk P w H s.heap
  bare : AllBare s.gens
def CE (outer : List Env) (P : Program) (w : World) (H : Hp) (s : Shared) (Q : VK) (u : Value) (s' : Shared) : Prop :=
  ∃ v H', s'.os = s.os ∧ AllBare s'.gens ∧ Un (frs outer) [] H H' s.heap s'.heap ∧ HOk P w H' s'.heap ∧ RelV v u ∧ Q v H'
def CR (CX : CXT) (outer : List Env) (P : Program) (w : World) (H : Hp) (s : Shared) (Q : VK) (E : XK) (r : Result) (s' : Shared) : Prop :=
  match r with
  | .ok (.ret u) => CE outer P w H s Q u s'
  | .ok _ => False
  | .error e => CX outer H s E e s'
structure FnOk (P : Program) (w : World) (K : PySem.W.Frag) (mg : Str → Option Value) (base : Heap) (CX : CXT) (k : Nat) (f : Addr) (fd : FuncData) (ps : List Str) (sp : Sp) : Prop where
  len : ∀ vs H Q E, sp vs H Q E → vs.length = ps.length
  run : ∀ (A : Around) (outer : List Env) (s : Shared) (H : Hp) (args : Args) (us : List Value) (vs : List V) (Q : VK) (E : XK), Room k A → Env0 P w K mg base A outer s H → BindsTo s fd args (ps.zip us) → Vals vs us → sp vs H Q E →
    codeAny (model P w) A (.call (.ref f) args) (CR CX outer P w H s Q E) s
theorem Env0.make {P : Program} {w : World} {K : PySem.W.Frag} {mg : Str → Option Value} {base : Heap} {A : Around} {outer : List Env} {s : Shared} {H : Hp} (e : Env0 P w K mg base A outer s H) (C : Addr) (us : List Value) (kw : List (Str × Value)) :
    Env0 P w K mg base (A.under (.builtin "type.__call__" ⟨.ref C :: us, kw⟩)) outer s H := ⟨by first | exact e.frames | (simpa [Around.under, Code.envs, Code.isFrame, pushEnvs] using e.frames), e.mod, e.bs, e.bsz, e.funs, e.frf, e.hok, e.bare⟩
section
variable {X : Cx} {pins : List (Addr × Obj)} {σ : St} {H : Hp} {s s' : Shared}
theorem Inv.env0 (I : Inv X pins σ H s) : Env0 X.prog X.w X.K X.mg X.base X.A X.stack s H :=
  ⟨I.ok.frames, I.ok.mod, I.bs, Nat.le_trans I.ok.bsz I.sz, I.stack, I.stkFree, I.hok, I.bare⟩
theorem Inv.after {Q : VK} {u : Value} (I : Inv X pins σ H s) (h : CE X.stack X.prog X.w H s Q u s') : EP X pins σ Q u s' := by
  obtain ⟨v, H', os, bare, un, hok, r, q⟩ := h
  obtain ⟨hh, g, d, t, os'⟩ := s'
  obtain rfl : os' = s.os := os
  exact ⟨v, H', I.call (h' := hh) (g' := g) (d' := d) (t' := t) (ch := []) un hok bare (fun b z => absurd z (by simp)), r, q⟩
end
def tCall (sp : Sp) (dvs : List V) (E : XK) (t : TA) : TE := fun σ H Q => t σ H fun vs H1 => sp (vs ++ dvs) H1 Q E
def Binds (K : PySem.W.Frag) (fd : FuncData) (ps : List Str) (ds : List Value) : Prop :=
  ∀ (s : Shared) (us : List Value), K.In s.heap → (us ++ ds).length = ps.length → BindsTo s fd ⟨us, []⟩ (ps.zip (us ++ ds))
theorem Binds.all {K : PySem.W.Frag} {fd : FuncData} {ps : List Str} (h : ∀ us : List Value, us.length = ps.length → bindArgs fd ⟨us, []⟩ = pure (ps.zip us)) : Binds K fd ps [] := fun s us _ hl => by
  rw [List.append_nil] at hl ⊢
  exact .of_eq (h us hl)
def Passes (CX : CXT) (X : Cx) (E : XK) : Prop := ∀ (pins : List (Addr × Obj)) (σ : St) (H : Hp) (s : Shared) (e : Value) (s' : Shared), Inv X pins σ H s → CX X.stack H s E e s' → X.xe e s'
section
variable {X : Cx} {CX : CXT} {k : Nat} {f C : Addr} {fd : FuncData} {ps : List Str} {sp : Sp} {dvs : List V} {ds : List Value} {E : XK} {x m : Str} {p pos apos : Pos} {e o : Expr} {es : List Expr} {ta : TE} {t : TA}
theorem run_fn {pins : List (Addr × Obj)} {σ : St} {H : Hp} {s : Shared} {Q : VK} {us : List Value} {vs : List V} (F : FnOk X.prog X.w X.K X.mg X.base CX k f fd ps sp) (hr : Room k X.A) (hb : Binds X.K fd ps ds) (hd : Vals dvs ds) (hx : Passes CX X E)
    (I : Inv X pins σ H s) (r : Vals vs us) (h : sp (vs ++ dvs) H Q E) : wpAny (model X.prog X.w) X.A (call (.ref f) us) (EP X pins σ Q) X.xe s := by
  have r2 : Vals (vs ++ dvs) (us ++ ds) := r.append hd
  have hl : (us ++ ds).length = ps.length := by rw [← r2.length]; exact F.len _ _ _ _ h
  refine wpAny_call (codeAny_mono (F.run X.A X.stack s H ⟨us, []⟩ (us ++ ds) (vs ++ dvs) Q E hr I.env0 (hb s us I.kIn hl) r2 h) fun r s' hq => ?_)
  cases r with
  | error e => exact hx pins σ H s e s' I hq
  | ok fl =>
    cases fl with
    | ret u => exact I.after hq
    | next => exact False.elim hq
    | brk => exact False.elim hq
    | cont => exact False.elim hq
theorem pe_call (F : FnOk X.prog X.w X.K X.mg X.base CX k f fd ps sp) (hr : Room k X.A) (hg : Gl X x) (hm : X.mg x = some (.ref f)) (hk : PySem.W.keepIn X.K (.ref f) = true) (hb : Binds X.K fd ps ds) (hd : Vals dvs ds) (hx : Passes CX X E)
    (ha : PA X (e :: es) t) (hdb : (x == ("__debug__" : Str)) = false := by decide) (he : starEach (e :: es) X.env = (false, eval e X.env) :: starEach es X.env := by rfl) (hpl : (backTo pos (starEach es X.env)).any (·.1) = false := by rfl) :
    PE X (.Call (.Name x p) (e :: es) [] pos) (tCall sp dvs E t) := by
  intro pins s σ H Q I h
  refine wpAny_Call_Name_kw (ld_glob I hg hm ?_ hdb)
  refine PySem.W.callWith_K (h₀ := X.base) I.ok.mod.kin hk (thn (ha pos pins s σ H _ I h) fun us s1 ⟨vs, H1, I1, r, q⟩ => ⟨I1.kIn, ?_⟩) he hpl
  exact run_fn F hr hb hd hx I1 r q
theorem pe_call0 (F : FnOk X.prog X.w X.K X.mg X.base CX k f fd ps sp) (hr : Room k X.A) (hg : Gl X x) (hm : X.mg x = some (.ref f)) (hk : PySem.W.keepIn X.K (.ref f) = true) (hb : Binds X.K fd ps ds) (hd : Vals dvs ds) (hx : Passes CX X E)
    (hdb : (x == ("__debug__" : Str)) = false := by decide) : PE X (.Call (.Name x p) [] [] pos) (tCall sp dvs E tNil) := by
  intro pins s σ H Q I h
  refine wpAny_Call_Name_kw (ld_glob I hg hm ?_ hdb)
  exact PySem.W.callWith_K0 I.kIn hk (run_fn (us := []) F hr hb hd hx I .nil h)
structure Mk (K : PySem.W.Frag) (C f : Addr) : Prop where
  makes : PySem.W.makesIn K C = true
  init : PySem.W.findIn K (.ref C) "__init__" = some (some (.ref f))
  fn : PySem.W.isFn K (.ref f) = true
  kp : PySem.W.keepIn K (.ref C) = true
theorem run_make {pins : List (Addr × Obj)} {σ : St} {H : Hp} {s : Shared} {Q : VK} {us : List Value} {vs : List V} (M : Mk X.K C f) (F : FnOk X.prog X.w X.K X.mg X.base CX k f fd ps sp) (hr : Room (k + 1) X.A) (hb : Binds X.K fd ps ds) (hd : Vals dvs ds)
    (hx : Passes CX X E) (I : Inv X pins σ H s) (r : Vals vs us)
    (h : ∀ x dx, H x = none → H dx = none → dx ≠ x → sp (.ref x :: (vs ++ dvs)) (upd (upd H dx (.own x)) x (.ins C dx [])) (fun v H2 => v = .non ∧ Q (.ref x) H2) E) :
    wpAny (model X.prog X.w) X.A (call (.ref C) us) (EP X pins σ Q) X.xe s := by
  have hq := h (s.heap.objs.size + 1) s.heap.objs.size (I.hok.fresh (Nat.le_succ _)) (I.hok.fresh (Nat.le_refl _)) (Nat.ne_of_lt (Nat.lt_succ_self _))
  have I2 := Inv.made (C := C) I
  have r2 : Vals (V.ref (s.heap.objs.size + 1) :: (vs ++ dvs)) (Value.ref (s.heap.objs.size + 1) :: (us ++ ds)) := .cons rfl (r.append hd)
  have hl : (Value.ref (s.heap.objs.size + 1) :: us ++ ds).length = ps.length := by
    have e := r2.length
    rw [F.len _ _ _ _ hq] at e
    exact e.symm
  refine wpAny_call (make_map (f := f) I.kIn M.makes M.init (beq_iff_eq.mp M.fn) (codeAny_mono (F.run _ X.stack _ _ ⟨Value.ref (s.heap.objs.size + 1) :: us, []⟩ (Value.ref (s.heap.objs.size + 1) :: (us ++ ds)) _ _ E (hr.make C us [])
    (I2.env0.make C us []) (hb _ (Value.ref (s.heap.objs.size + 1) :: us) I2.kIn hl) r2 hq) fun r s' hq' => ?_))
  cases r with
  | error e => exact hx pins σ _ _ e s' I2 hq'
  | ok fl =>
    cases fl with
    | ret u =>
      obtain ⟨v, H', I3, rv, ev, q3⟩ := I2.after hq'
      subst ev
      exact ⟨rv, ⟨V.ref (s.heap.objs.size + 1), H', I3, rfl, q3⟩⟩
    | next => exact False.elim hq'
    | brk => exact False.elim hq'
    | cont => exact False.elim hq'
end
section
variable {X : Cx} {CX : CXT} {k : Nat} {f C : Addr} {fd : FuncData} {ps ks : List Str} {sp : Sp} {E : XK} {x m : Str} {p pos apos kpos : Pos} {e o : Expr} {es : List Expr} {kws : List Keyword} {te ta : TE} {t tk : TA} {nm : Option Str}
variable {g : List Value → List Value → List Value} {gV : List V → List V → List V}
end
structure FnScope (N P : List Str) (sc : Scope) : Prop where
  kind : sc.kind = .function
  co : sc.isCoroutine = false
  gen : sc.isGenerator = false
  nd : N.Nodup
  pre : N.take P.length = P
  par : ∀ x ∈ P, sc.names.lookup x = some .local ∨ sc.names.lookup x = some .cell
  nofree : ∀ y ∈ sc.names, y.2 ≠ .free
theorem bindL_out {kindOf : Str → Option NameKind} {x : Str} : ∀ {binds : List (Str × Value)} {m : Str → Option Value}, (∀ v, (x, v) ∉ binds) → bindL kindOf binds m x = m x
  | [], _, _ => rfl
  | (n, v) :: r, m, h => by
    unfold bindL
    rw [bindL_out fun w hw => h w (List.mem_cons_of_mem _ hw)]
    split
    · have : x ≠ n := by rintro rfl; exact h v List.mem_cons_self
      simp [this]
    · rfl
theorem bindC_out {kindOf : Str → Option NameKind} {x : Str} : ∀ {binds : List (Str × Value)} {m : Str → Option Value}, (∀ v, (x, v) ∉ binds) → bindC kindOf binds m x = m x
  | [], _, _ => rfl
  | (n, v) :: r, m, h => by
    unfold bindC
    rw [bindC_out fun w hw => h w (List.mem_cons_of_mem _ hw)]
    split
    · rfl
    · have : x ≠ n := by rintro rfl; exact h v List.mem_cons_self
      simp [this]
theorem bindL_get {kindOf : Str → Option NameKind} {x : Str} {v : Value} : ∀ {P : List Str} {vs : List Value} {i : Nat} {m : Str → Option Value}, P.Nodup → P[i]? = some x → vs[i]? = some v → kindOf x = some .local →
    bindL kindOf (P.zip vs) m x = some v
  | [], _, _, _, _, h, _, _ => by simp at h
  | _ :: _, [], _, _, _, _, h, _ => by simp at h
  | p :: P, w :: vs, 0, m, nd, h1, h2, hk => by
    simp at h1 h2; subst h1; subst h2
    show bindL kindOf ((p, w) :: P.zip vs) m p = _
    unfold bindL
    rw [bindL_out fun v hv => (List.nodup_cons.mp nd).1 (List.of_mem_zip hv).1, if_pos hk]
    simp
  | p :: P, w :: vs, i + 1, m, nd, h1, h2, hk => by
    show bindL kindOf ((p, w) :: P.zip vs) m x = _
    unfold bindL
    exact bindL_get (i := i) (List.nodup_cons.mp nd).2 (by simpa using h1) (by simpa using h2) hk
theorem bindC_get {kindOf : Str → Option NameKind} {x : Str} {v : Value} : ∀ {P : List Str} {vs : List Value} {i : Nat} {m : Str → Option Value}, P.Nodup → P[i]? = some x → vs[i]? = some v → kindOf x ≠ some .local →
    bindC kindOf (P.zip vs) m x = some v
  | [], _, _, _, _, h, _, _ => by simp at h
  | _ :: _, [], _, _, _, _, h, _ => by simp at h
  | p :: P, w :: vs, 0, m, nd, h1, h2, hk => by
    simp at h1 h2; subst h1; subst h2
    show bindC kindOf ((p, w) :: P.zip vs) m p = _
    unfold bindC
    rw [bindC_out fun v hv => (List.nodup_cons.mp nd).1 (List.of_mem_zip hv).1, if_neg hk]
    simp
  | p :: P, w :: vs, i + 1, m, nd, h1, h2, hk => by
    show bindC kindOf ((p, w) :: P.zip vs) m x = _
    unfold bindC
    exact bindC_get (i := i) (List.nodup_cons.mp nd).2 (by simpa using h1) (by simpa using h2) hk
def start (N : List Str) (vs : List V) : St := vs.map some ++ List.replicate (N.length - vs.length) none
def cxOf (CX : CXT) (P : Program) (w : World) (K : PySem.W.Frag) (mg : Str → Option Value) (base : Heap) (N : List Str) (qual : Str) (scope : Scope) (f : Addr) (cd : Value) (A : Around) (outer : List Env) (s : Shared) (H : Hp) (E : XK) : Cx where
  prog := P
  w := w
  K := K
  mg := mg
  base := base
  A := A.deeper (envOfC qual scope s.heap.objs.size f cd)
  N := N
  s_0 := s
  H_0 := H
  env := envOfC qual scope s.heap.objs.size f cd
  outer := outer
  stack := envOfC qual scope s.heap.objs.size f cd :: outer
  ex := []
  calm := true
  fn := fun _ => true
  pn := []
  xe := fun e s' => wpAny (model P w) (A.deeper (envOfC qual scope s.heap.objs.size f cd)) (leaving (envOfC qual scope s.heap.objs.size f cd) e) (fun _ s'' => CX outer H s E e s'') (fun e' s'' => CX outer H s E e' s'') s'
theorem cell_has {sc : Scope} {n : Nat} {x : Str} (h : sc.names.lookup x = some .cell) : ∃ c, (cellsFrom n sc.names []).lookup x = some c := by
  have q := PySem.W.cellsFrom_some sc.names n [] (.inl h)
  exact Option.isSome_iff_exists.mp q
theorem inv_start {CX : CXT} {P : Program} {w : World} {K : PySem.W.Frag} {mg : Str → Option Value} {base : Heap} {N ps : List Str} {qual : Str} {scope : Scope} {f : Addr} {cd : Value} {A : Around} {outer : List Env} {s s1 : Shared} {H : Hp} {E : XK} {us : List Value} {vs : List V}
    (S : FnScope N ps scope) (hd : A.handled = none) (e0 : Env0 P w K mg base A outer s H) (hl : vs.length = ps.length) (r : Vals vs us)
    (x : InCallC s s.heap.objs.size (bindL (envOfC qual scope s.heap.objs.size f cd).kindOf (ps.zip us) fun _ => none) (cellsFrom (s.heap.objs.size + 1) scope.names []) (bindC (envOfC qual scope s.heap.objs.size f cd).kindOf (ps.zip us) fun _ => none) s1) :
    Inv (cxOf CX P w K mg base N qual scope f cd A outer s H E) [] (start N vs) H s1 := by
  have hpl : ps.length ≤ N.length := by have := congrArg List.length S.pre; rw [List.length_take] at this; omega
  obtain ⟨h1, tk, rfl, hk⟩ := x.done
  have noA : ∀ b : Addr, b ∉ (cxOf CX P w K mg base N qual scope f cd A outer s H E).ex := fun b z => absurd (show b ∈ ([] : List Addr) from z) (by simp)
  refine ⟨⟨e0.mod, S.kind, rfl, rfl, Nat.le_refl _, fun y z c h1 h2 => ?_, fun y hy => ?_, fun y c _ h => ?_, fun _ => hd, Around.frames_deeper e0.frames, .inr ⟨rfl, rfl⟩, fun b z => absurd z (noA b), e0.bs, e0.bsz, fun b _ _ => noA b, fun b z => absurd z (noA b), e0.funs, e0.frf⟩,
    rfl, e0.bare, Un.kept hk, ⟨_, x.toInCall.ns, fun i y v h1 h2 h3 => ?_⟩, fun y c h => ⟨_, x.cell y c h⟩, e0.hok.fresh (Nat.le_refl _), fun y c h => ?_, fun p hp => absurd (show p ∈ ([] : List (Addr × Obj)) from hp) (by simp), e0.hok.kept hk, ?_⟩
  · exact name_of_addr x.apart (PySem.mem_of_lookup h1) (PySem.mem_of_lookup h2)
  · have hy : scope.names.lookup y = some .cell ∨ scope.names.lookup y = some .free := hy
    rcases hy with hy | hy
    · exact cell_has hy
    · exact absurd rfl (S.nofree _ (PySem.mem_of_lookup hy))
  · exact Nat.le_of_lt (x.above y c (PySem.mem_of_lookup h))
  · have hi : i < vs.length := by
      unfold start at h2
      by_cases hi : i < vs.length
      · exact hi
      · rw [List.getElem?_append_right (by simpa using hi)] at h2
        rw [List.getElem?_replicate] at h2
        split at h2 <;> cases h2
    have ha : vs[i]? = some v := by
      unfold start at h2
      rw [List.getElem?_append_left (by simpa using hi), List.getElem?_map] at h2
      cases e : vs[i]? with
      | none => rw [e] at h2; cases h2
      | some a => rw [e] at h2; cases h2; rfl
    obtain ⟨u, hu, rv⟩ := r.get ha
    have hp : ps[i]? = some y := by
      rw [← S.pre, List.getElem?_take_of_lt (by omega)]; exact h1
    have ndP : ps.Nodup := by rw [← S.pre]; exact S.nd.sublist (List.take_sublist _ _)
    refine ⟨u, rv, ?_⟩
    rcases S.par y (List.mem_of_getElem? hp) with k | k
    · exact .inl ⟨k, bindL_get ndP hp hu k⟩
    · obtain ⟨c, e⟩ := cell_has (n := s.heap.objs.size + 1) k
      refine .inr ⟨.inl k, c, e, ?_⟩
      have q := x.cell y c e
      rw [bindC_get ndP hp hu (by show scope.names.lookup y ≠ _; rw [k]; decide)] at q
      exact q
  · exact e0.hok.fresh (Nat.le_of_lt (x.above y c (PySem.mem_of_lookup h)))
  · unfold start
    show _ = N.length
    rw [List.length_append, List.length_map, List.length_replicate]
    omega
theorem fn_of {CX : CXT} {P : Program} {w : World} {K : PySem.W.Frag} {mg : Str → Option Value} {base : Heap} {k : Nat} {f : Addr} {name qual : Str} {params : Arguments} {body : List Stmt} {scope : Scope} {dV kV doc pm cdv ct oc : Value} {an od : Option Addr}
    {osl : Array (Option Value)} {N ps : List Str} {sp : Sp} (lk : K.lookup f = some ⟨oc, od, .func (PySem.W.fnOf name qual params body scope dV kV doc pm an cdv ct), osl⟩) (hcd : PySem.W.codeIn K cdv qual = true) (S : FnScope N ps scope)
    (len : ∀ vs H Q E, sp vs H Q E → vs.length = ps.length)
    (hbody : ∀ (A : Around) (outer : List Env) (s : Shared) (H : Hp) (vs : List V) (Q : VK) (E : XK), Room k (A.deeper (envOfC qual scope s.heap.objs.size f cdv)) → sp vs H Q E →
      ∃ t, PSs (cxOf CX P w K mg base N qual scope f cdv A outer s H E) body t ∧ t { nx := fun _ H' => Q .non H', rt := Q } (start N vs) H) :
    FnOk P w K mg base CX (k + 1) f (PySem.W.fnOf name qual params body scope dV kV doc pm an cdv ct) ps sp := by
  refine ⟨len, fun A outer s H args us vs Q E hr e0 hb r hsp => ?_⟩
  have hl := len _ _ _ _ hsp
  have KX : K.In s.heap := e0.mod.kin.keeps fun b o e => (e0.bs b o e).1
  have lim : s.heap.NoLimit := e0.mod.nolimit.keeps fun b o e => (e0.bs b o e).1
  have hkind : ∀ y ∈ ps.zip us, scope.names.lookup y.1 = some .local ∨ (scope.names.lookup y.1 = some .cell ∧ ((cellsFrom (s.heap.objs.size + 1) scope.names []).lookup y.1).isSome = true) := fun ⟨n, v⟩ hy => by
    rcases S.par n (List.of_mem_zip hy).1 with q | q
    · exact .inl q
    · exact .inr ⟨q, PySem.W.cellsFrom_some _ _ _ (.inl q)⟩
  refine codeAny_call_function hr.depth (KX _ _ lk) rfl S.co S.gen rfl (PySem.W.codeRec_of KX hcd) (hb _ _ _ _ ?_)
  refine wpAny_newFunctionEnv_cells S.kind hkind fun env he s1 x => ?_
  subst he
  refine ⟨lim.keeps x.toInCall.keep, codeAny_func ?_⟩
  obtain ⟨t, ht, hq⟩ := hbody A outer s H vs Q E (hr.deeper _) hsp
  have I : Inv (cxOf CX P w K mg base N qual scope f cdv A outer s H E) [] (start N vs) H s1 := inv_start S hr.hd e0 hl r x
  refine wpAny_mono (ht [] s1 (start N vs) H _ I hq) (fun fl s' hs => ?_) fun e s' hs => hs
  have fin : ∀ {σ' : St} {H' : Hp} {v : V} {u : Value}, Inv (cxOf CX P w K mg base N qual scope f cdv A outer s H E) [] σ' H' s' → RelV v u → Q v H' → CE outer P w H s Q u s' :=
    fun {σ' H' v u} J rv q => ⟨v, H', J.os, J.bare, J.base, J.hok, rv, q⟩
  cases fl with
  | ret u =>
    obtain ⟨v, σ', H', J, rv, q⟩ := hs
    exact fin J rv q
  | next =>
    obtain ⟨σ', H', J, q⟩ := hs
    exact fin (v := V.non) (u := Value.none) J rfl q
  | brk =>
    obtain ⟨_, _, _, q⟩ := hs
    exact False.elim q
  | cont =>
    obtain ⟨_, _, _, q⟩ := hs
    exact False.elim q
end L2
namespace L2
open PySem PySem.Spec PyProof.Rows
section
variable {X : Cx} {x : Str} {p pos : Pos} {e : Expr} {es : List Expr} {t : TA} {id T : String} {r : List V → Hp → VK → Prop}
def tCB (r : List V → Hp → VK → Prop) (t : TA) : TE := fun σ H Q => t σ H fun vs H1 => r vs H1 Q
theorem pe_callB (hc : CallR X (.builtin id) r) (hg : Gl X x) (hm : X.mg x = none) (hv : bootBuiltins x = some (.builtin id)) (ha : PA X (e :: es) t) (hn : x ≠ "__name__" := by decide) (hdb : (x == ("__debug__" : Str)) = false := by decide)
    (he : starEach (e :: es) X.env = (false, eval e X.env) :: starEach es X.env := by rfl) (hpl : (backTo pos (starEach es X.env)).any (·.1) = false := by rfl) : PE X (.Call (.Name x p) (e :: es) [] pos) (tCB r t) := by
  intro pins s σ H Q I h
  refine wpAny_Call_Name_kw (ld_blt I hg hm hv ?_ hn hdb)
  exact PyProof.Rows.callWith_builtin1 (thn (ha pos pins s σ H _ I h) fun us s1 ⟨vs, H1, I1, r1, q1⟩ => hc pins s1 σ H1 vs us Q I1 r1 q1) he hpl
theorem pe_callTy (hc : CallR X (.type T) r) (hg : Gl X x) (hm : X.mg x = none) (hv : bootBuiltins x = some (.type T)) (ha : PA X (e :: es) t) (hn : x ≠ "__name__" := by decide) (hdb : (x == ("__debug__" : Str)) = false := by decide)
    (he : starEach (e :: es) X.env = (false, eval e X.env) :: starEach es X.env := by rfl) (hpl : (backTo pos (starEach es X.env)).any (·.1) = false := by rfl) : PE X (.Call (.Name x p) (e :: es) [] pos) (tCB r t) := by
  intro pins s σ H Q I h
  refine wpAny_Call_Name_kw (ld_blt I hg hm hv ?_ hn hdb)
  exact PyProof.Rows.callWith_type1 (thn (ha pos pins s σ H _ I h) fun us s1 ⟨vs, H1, I1, r1, q1⟩ => hc pins s1 σ H1 vs us Q I1 r1 q1) he hpl
end
end L2
namespace HT
open PySem PyProof.Rows
section
open PySem.SeqAt
open PySem.AutoSeq1 (wpAny_loadPart')
open PySem.MeetsSeq PySem.MeetsSeq2 PySem.MeetsSeq3
end
section
variable {prog : Program} {w : World} {A : Around} {E : Value → Shared → Prop} {s : Shared}
def sIx (n d : Nat) : Option Int → Nat
  | none => d
  | some v => if v < 0 then (v + (n : Int)).toNat else min v.toNat n
theorem sIx_nat (n d k : Nat) : sIx n d (some (k : Int)) = min k n := by
  show (if (k : Int) < 0 then ((k : Int) + (n : Int)).toNat else min (k : Int).toNat n) = min k n
  rw [if_neg (by omega), Int.toNat_natCast]
end
end HT
namespace L2
open PySem PySem.Spec PyProof.Rows
abbrev TO := St → Hp → (Option Int → Hp → Prop) → Prop
def PO (X : Cx) (e : Option Expr) (t : TO) : Prop :=
  ∀ (pins : List (Addr × Obj)) (s : Shared) (σ : St) (H : Hp) (Q : Option Int → Hp → Prop), Inv X pins σ H s → t σ H Q →
    wpAny (model X.prog X.w) X.A (evalPart e X.env) (fun u s' => ∃ o H', Inv X pins σ H' s' ∧ IsPart u o ∧ Q o H') X.xe s
def tNoPart : TO := fun _ H Q => Q none H
def tPart (t : TE) : TO := fun σ H Q => t σ H fun x H1 => ∃ i, x = .int i ∧ Q (some i) H1
section
variable {X : Cx} {e : Expr} {te : TE} {lo hi : Option Expr} {tl th : TO} {pos p2 : Pos}
theorem po_none : PO X none tNoPart := by
  intro pins s σ H Q I h
  rw [evalPart_none]
  exact wpAny_pure ⟨none, H, I, .none, h⟩
theorem po_some (h : PE X e te) : PO X (some e) (tPart te) := by
  intro pins s σ H Q I hw
  rw [evalPart_some]
  refine thn (h pins s σ H _ I hw) fun u s1 ⟨x, H1, I1, r1, q1⟩ => ?_
  obtain ⟨i, rfl, q⟩ := q1
  obtain ⟨t, rfl⟩ := r1
  exact ⟨some i, H1, I1, .int i t, q⟩
def SlR (X : Cx) (r : V → Option Int → Option Int → Hp → VK → Prop) : Prop :=
  ∀ (pins : List (Addr × Obj)) (s : Shared) (σ : St) (H : Hp) (x : V) (v vl vu : Value) (lo hi : Option Int) (sl : Addr) (Q : VK), Inv X pins σ H s → RelV x v → s.heap.IsSliceOf sl vl vu .none → IsPart vl lo → IsPart vu hi → r x lo hi H Q →
    ∃ T id, typeLookup (.type T) "__getitem__" = pure (some (.builtin id)) ∧ s.TypeIs v T ∧ wpAny (model X.prog X.w) X.A (getItem v (.ref sl)) (EP X pins σ Q) X.xe s
def tSl (r : V → Option Int → Option Int → Hp → VK → Prop) (te : TE) (tl th : TO) : TE := fun σ H Q => te σ H fun x H1 => tl σ H1 fun l H2 => th σ H2 fun u H3 => r x l u H3 Q
theorem pe_slice {r : V → Option Int → Option Int → Hp → VK → Prop} (hr : SlR X r) (he : PE X e te) (hl : PO X lo tl) (hu : PO X hi th) : PE X (.Subscript e (.Slice lo hi none p2) pos) (tSl r te tl th) := by
  intro pins s σ H Q I h
  refine Subscript_ (thn (he pins s σ H _ I h) fun v s1 ⟨x, H1, I1, r1, q1⟩ => ?_)
  refine wpAny_Slice (thn (hl pins s1 σ H1 _ I1 q1) fun vl s2 ⟨l, H2, I2, pl, q2⟩ => thn (hu pins s2 σ H2 _ I2 q2) fun vu s3 ⟨u, H3, I3, pu, q3⟩ => ?_)
  rw [evalPart_none]
  refine wpAny_pure ?_
  have I4 : Inv X pins σ H3 { s3 with heap := s3.heap.push { cls := .type "slice", data := .fields #[vl, vu, .none] } } := I3.kept (t' := s3.toks) fun b ob q => Heap.get?_push_of_some _ q
  obtain ⟨T, id, hT, ht, hg⟩ := hr pins { s3 with heap := s3.heap.push { cls := .type "slice", data := .fields #[vl, vu, .none] } } σ H3 x v vl vu l u s3.heap.objs.size Q I4 r1 (Heap.IsSliceOf.new ..) pl pu q3
  show wpAny (model X.prog X.w) X.A (subscriptTail e (.Slice lo hi none p2) v (.ref s3.heap.objs.size)) (EP X pins σ Q) X.xe { s3 with heap := s3.heap.push { cls := .type "slice", data := .fields #[vl, vu, .none] } }
  exact tail_any (ops := [.ref s3.heap.objs.size, v]) ht hT hg (by with_unfolding_all rfl)
def cutV (xs : List V) (lo hi : Option Int) : List V := (xs.drop (HT.sIx xs.length 0 lo)).take (HT.sIx xs.length xs.length hi - HT.sIx xs.length 0 lo)
theorem cutV_length (xs : List V) (lo hi : Option Int) : (cutV xs lo hi).length ≤ xs.length := by
  unfold cutV
  rw [List.length_take, List.length_drop]
  omega
end
end L2
namespace L2
open PySem PySem.Spec PyProof.Rows
def ixN (n : Nat) (i : Int) : Option Nat := if 0 ≤ i then (if i < n then some i.toNat else none) else if -(n : Int) ≤ i then some (i + n).toNat else none
def atI {α : Type} (xs : List α) (i : Int) : Option α := (ixN xs.length i).bind fun j => xs[j]?
theorem ixN_seq {n : Nat} {i : Int} {j : Nat} (h : ixN n i = some j) : seqIndex? i n = some j ∧ j < n ∧ -(n : Int) ≤ i ∧ i < n := by
  unfold ixN at h
  by_cases h0 : 0 ≤ i
  · rw [if_pos h0] at h
    by_cases h1 : i < n
    · rw [if_pos h1] at h
      have e : i.toNat = j := Option.some.inj h
      exact ⟨by rw [seqIndex_of h0 h1, e], by omega, by omega, h1⟩
    · rw [if_neg h1] at h; cases h
  · rw [if_neg h0] at h
    by_cases h1 : -(n : Int) ≤ i
    · rw [if_pos h1] at h
      have e : (i + n).toNat = j := Option.some.inj h
      exact ⟨by rw [seqIndex_neg (by omega) h1, e], by omega, h1, by omega⟩
    · rw [if_neg h1] at h; cases h
theorem atI_get {α : Type} {xs : List α} {i : Int} {v : α} (h : atI xs i = some v) : ∃ j, seqIndex? i xs.length = some j ∧ xs[j]? = some v ∧ j < xs.length ∧ -(xs.length : Int) ≤ i ∧ i < xs.length := by
  unfold atI at h
  cases e : ixN xs.length i with
  | none => rw [e] at h; cases h
  | some j =>
    rw [e] at h
    obtain ⟨h1, h2, h3, h4⟩ := ixN_seq e
    exact ⟨j, h1, h, h2, h3, h4⟩
theorem atI_nat {α : Type} {xs : List α} {j : Nat} {v : α} (h : xs[j]? = some v) : atI xs (j : Int) = some v := by
  have hj : j < xs.length := (List.getElem?_eq_some_iff.mp h).1
  have e : ixN xs.length (j : Int) = some j := by
    unfold ixN
    rw [if_pos (by omega), if_pos (by omega)]; simp
  unfold atI; rw [e]; exact h
def PlainIx (b : Expr) : Prop := ∀ o i, subscripted b false o i = operate [o, i] (getItem o i)
def IxR (X : Cx) (r : R2) : Prop :=
  ∀ (value slice : Expr) (pins : List (Addr × Obj)) (s : Shared) (σ : St) (H : Hp) (x y : V) (v u : Value) (Q : VK), Inv X pins σ H s → RelV x v → RelV y u → r x y H Q →
    subscripted slice false v u = operate [v, u] (getItem v u) → wpAny (model X.prog X.w) X.A (subscriptTail value slice v u) (EP X pins σ Q) X.xe s
def MtR (X : Cx) (id : String) (r : V → List V → Hp → VK → Prop) : Prop :=
  ∀ (pins : List (Addr × Obj)) (s : Shared) (σ : St) (H : Hp) (x : V) (xs : List V) (v : Value) (us : List Value) (Q : VK), Inv X pins σ H s → RelV x v → Vals xs us → r x xs H Q →
    wpAny (model X.prog X.w) X.A (call (.builtin id) (v :: us)) (EP X pins σ Q) X.xe s
section
variable {X : Cx} {a b : Expr} {ta tb : TE} {pos : Pos}
theorem pe_ix {r : R2} (hr : IxR X r) (ha : PE X a ta) (hb : PE X b tb) (hs : PlainIx b) : PE X (.Subscript a b pos) (tOp r ta tb) := by
  intro pins s σ H Q I h
  exact Subscript_ (binT ha hb I h fun v u s2 x y H2 I2 rx ry q => hr a b pins s2 σ H2 x y v u Q I2 rx ry q (hs _ _))
def rIxL (K : PySem.W.Frag) : R2 := fun x y H Q => ∃ p xs i v, x = .ref p ∧ y = .int i ∧ SqL K H p xs ∧ atI xs i = some v ∧ Q v H
def rIxT (K : PySem.W.Frag) : R2 := fun x y H Q => ∃ p xs i v, x = .ref p ∧ y = .int i ∧ SqT K H p xs ∧ atI xs i = some v ∧ Q v H
theorem ix_list : IxR X (rIxL X.K) := by
  intro value slice pins s σ H x y v u Q I rx ry h hs
  obtain ⟨p, xs, i, z, rfl, rfl, hq, he, q⟩ := h
  cases rx
  obtain ⟨t, rfl⟩ := ry
  obtain ⟨its, r, pl, hz⟩ := I.list hq
  obtain ⟨j, h1, h2, h3, h4, h5⟩ := atI_get he
  obtain ⟨w, ew, rw'⟩ := r.get h2
  have hl := r.length
  have hn := line63
  have fin : EP X pins σ Q w s := ⟨z, H, I, rw', q⟩
  by_cases h0 : 0 ≤ i
  · have hj : i.toNat = j := by
      rw [seqIndex_of h0 h5] at h1
      exact Option.some.inj h1
    exact item_listR pl.isList h0 (by omega) (by rw [hj]; simpa using ew) fin hs
  · have hj : (i + (its.toArray.size : Int)).toNat = j := by
      rw [seqIndex_neg (by omega) h4] at h1
      rw [List.size_toArray, ← hl]
      exact Option.some.inj h1
    exact subscriptTail_builtinR (x := w) pl.isList.typeIs slot_list_getitem.lookup
      (wpAny_getItem_list_neg (Q := fun r s' => r = w ∧ EP X pins σ Q r s') pl.isList (by omega) (by rw [List.size_toArray] <;> omega) (by omega) (by rw [hj]; simpa using ew) ⟨rfl, fin⟩) hs
theorem ix_tup : IxR X (rIxT X.K) := by
  intro value slice pins s σ H x y v u Q I rx ry h hs
  obtain ⟨p, xs, i, z, rfl, rfl, hq, he, q⟩ := h
  cases rx
  obtain ⟨t, rfl⟩ := ry
  obtain ⟨its, r, pl, hz⟩ := I.tuple hq
  obtain ⟨j, h1, h2, h3, h4, h5⟩ := atI_get he
  obtain ⟨w, ew, rw'⟩ := r.get h2
  have hl := r.length
  have hn := line63
  have fin : EP X pins σ Q w s := ⟨z, H, I, rw', q⟩
  exact subscriptTail_builtinR (x := w) pl.typeIs slot_tuple_getitem.lookup
    (getItem_tuple (j := j) (Q := fun r s' => r = w ∧ EP X pins σ Q r s') pl (by omega) (by omega) (by rw [List.size_toArray, ← hl]; exact h1) (by simpa using ew) ⟨rfl, fin⟩) hs
theorem slice_bounds (lo hi : Option Int) (n : Nat) : (sliceBounds lo hi none n).1 = ((HT.sIx n 0 lo : Nat) : Int) ∧ (sliceBounds lo hi none n).2.1 = ((HT.sIx n n hi : Nat) : Int) ∧ (sliceBounds lo hi none n).2.2 = 1 := by
  refine ⟨?_, ?_, rfl⟩
  · cases lo with
    | none => simp [sliceBounds, HT.sIx]
    | some i =>
      simp only [sliceBounds, HT.sIx, Option.getD_none, show (1 : Int) > 0 by decide, if_true]
      by_cases h : i < 0
      · simp only [h, if_true] <;> omega
      · simp only [h, if_false] <;> omega
  · cases hi with
    | none => simp [sliceBounds, HT.sIx]
    | some i =>
      simp only [sliceBounds, HT.sIx, Option.getD_none, show (1 : Int) > 0 by decide, if_true]
      by_cases h : i < 0
      · simp only [h, if_true] <;> omega
      · simp only [h, if_false] <;> omega
theorem slicePick_cut (its : List Value) (lo hi : Option Int) : slicePick its.toArray lo hi none = ((its.drop (HT.sIx its.length 0 lo)).take (HT.sIx its.length its.length hi - HT.sIx its.length 0 lo)).toArray := by
  obtain ⟨h1, h2, h3⟩ := slice_bounds lo hi its.toArray.size
  unfold slicePick
  rw [h1, h2, h3]
  simp only [sliceRange_one, pick_run, List.size_toArray] <;> rfl
def rSlL (K : PySem.W.Frag) : V → Option Int → Option Int → Hp → VK → Prop := fun x lo hi H Q => ∃ a xs, x = .ref a ∧ SqL K H a xs ∧ ∀ p, H p = none → Q (.ref p) (upd H p (.lst (cutV xs lo hi)))
theorem sl_list : SlR X (rSlL X.K) := by
  intro pins s σ H x v vl vu lo hi sl Q I rx hs pl pu h
  obtain ⟨a, xs, rfl, hx, q⟩ := h
  cases rx
  obtain ⟨its, r, ht, hz⟩ := I.list hx
  have hlen := r.length
  refine ⟨"list", _, slot_list_getitem.lookup, ht.isList.typeIs, ?_⟩
  refine wpAny_getItem_list_slice ht.isList hs pl pu .none (by simp) ?_ (by rw [List.size_toArray] <;> omega)
  rw [slicePick_cut, ← hlen]
  refine ⟨.ref s.heap.objs.size, _, I.laid (t' := s.toks) (o := .lst (cutV xs lo hi)) (fun b ob q => Heap.get?_push_of_some _ q) (Nat.le_refl _) ?_, rfl, q _ (I.hok.fresh (Nat.le_refl _))⟩
  exact ⟨Nat.le_trans (cutV_length xs lo hi) hz, _, 0, (r.drop (HT.sIx xs.length 0 lo)).take (HT.sIx xs.length xs.length hi - HT.sIx xs.length 0 lo), Heap.get?_push_size _ rfl⟩
theorem call_len_seq : CallR X (.builtin "len") (fun xs H Q => ∃ p ys, xs = [.ref p] ∧ (SqL X.K H p ys ∨ SqT X.K H p ys) ∧ Q (.int ys.length) H) := by
  intro pins s σ H xs us Q I r h
  obtain ⟨p, ys, rfl, hq, q⟩ := h
  obtain ⟨u, rfl, rx⟩ := vals1 r
  cases rx
  have hn := line63
  rcases hq with hq | hq
  · obtain ⟨its, r', pl, hz⟩ := I.list hq
    have hlen := r'.length
    exact Calls.call_len_list pl.isList (by simp only [List.size_toArray] <;> omega) ⟨.int ys.length, H, I.tok _, ⟨s.toks + 1, by rw [List.size_toArray, hlen]⟩, q⟩
  · obtain ⟨its, r', pl, hz⟩ := I.tuple hq
    have hlen := r'.length
    exact len_tuple pl (by simp only [List.size_toArray] <;> omega) ⟨.int ys.length, H, I.tok _, ⟨s.toks + 1, by rw [List.size_toArray, hlen]⟩, q⟩
theorem call_list_of : CallR X (.type "list") (fun xs H Q => ∃ p ys, xs = [.ref p] ∧ (SqL X.K H p ys ∨ SqT X.K H p ys) ∧ ∀ l, H l = none → Q (.ref l) (upd H l (.lst ys))) := by
  intro pins s σ H xs us Q I r h
  obtain ⟨p, ys, rfl, hq, q⟩ := h
  obtain ⟨u, rfl, rx⟩ := vals1 r
  cases rx
  have fin : ∀ (its : List Value), Vals ys its → ys.length ≤ sizeLine → ∀ (h' : Heap) (c' : Nat), (∀ b o', s.heap.get? b = some o' → h'.get? b = some o') →
      h'.get? s.heap.objs.size = some { cls := .type "list", dict := none, data := .seq its.toArray c', slots := #[] } → EP X pins σ Q (.ref s.heap.objs.size) { s with heap := h' } := fun its r' hz h' c' kp e =>
    ⟨.ref s.heap.objs.size, _, I.laid (t' := s.toks) kp (Nat.le_refl _) (show ObjOk X.prog X.w _ h' _ (.lst ys) from ⟨hz, its, c', r', e⟩), rfl, q _ (I.hok.fresh (Nat.le_refl _))⟩
  rcases hq with hq | hq
  · obtain ⟨its, r', pl, hz⟩ := I.list hq
    have hlen := r'.length
    obtain ⟨o, ho, hc, n, hd⟩ := pl.isList
    exact call_list_seq p (.inl rfl) ho hc hd (fun h' c' kp e => fin its r' hz h' c' kp e) (by simp only [List.size_toArray] <;> omega)
  · obtain ⟨its, r', pl, hz⟩ := I.tuple hq
    have hlen := r'.length
    obtain ⟨o, ho, hc, n, hd⟩ := pl
    exact call_list_seq p (.inr rfl) ho hc hd (fun h' c' kp e => fin its r' hz h' c' kp e) (by simp only [List.size_toArray] <;> omega)
theorem call_tuple_of : CallR X (.type "tuple") (fun xs H Q => ∃ p ys, xs = [.ref p] ∧ ((SqL X.K H p ys ∧ ∀ l, H l = none → Q (.ref l) (upd H l (.tup ys))) ∨ (SqT X.K H p ys ∧ Q (.ref p) H))) := by
  intro pins s σ H xs us Q I r h
  obtain ⟨p, ys, rfl, h⟩ := h
  obtain ⟨u, rfl, rx⟩ := vals1 r
  cases rx
  rcases h with ⟨hq, q⟩ | ⟨hq, q⟩
  · obtain ⟨its, r', pl, hz⟩ := I.list hq
    have hlen := r'.length
    refine call_tuple_list pl.isList (fun h' kp => ?_) (by simp only [List.size_toArray] <;> omega)
    have I1 : Inv X pins σ H { s with heap := h' } := I.kept (t' := s.toks) kp
    have I2 : Inv X pins σ (upd H h'.objs.size (.tup ys)) { s with heap := h'.push { cls := .type "tuple", data := .seq its.toArray } } :=
      I1.laid (t' := s.toks) (fun b o e => Heap.get?_push_of_some _ e) (Nat.le_refl _) (show ObjOk X.prog X.w _ _ _ (.tup ys) from ⟨hz, its, r', IsTup.new _ _⟩)
    exact ⟨.ref h'.objs.size, _, I2, rfl, q _ (I1.hok.fresh (Nat.le_refl _))⟩
  · obtain ⟨its, r', pl, hz⟩ := I.tuple hq
    exact call_tuple_same pl ⟨.ref p, H, I, rfl, q⟩
def tyV (K : PySem.W.Frag) (T : String) (x : V) (H : Hp) : Prop := match x with
  | .str _ => T = "str"
  | .int _ => T = "int"
  | .ref p => (T = "list" ∧ ∃ xs, SqL K H p xs) ∨ (T = "tuple" ∧ ∃ o, K.lookup p = some o ∧ o.cls = .type "tuple" ∧ o.dict = none) ∨
      (T = "dict" ∧ ((∃ kvs, H p = some (.dK kvs)) ∨ ∃ kvs, H p = some (.dT kvs))) ∨ (T = "set" ∧ ∃ S n, H p = some (.set S n))
  | _ => False
theorem tyV_is {pins : List (Addr × Obj)} {σ : St} {H : Hp} {s : Shared} {T : String} {x : V} {v : Value} (I : Inv X pins σ H s) (r : RelV x v) (ty : tyV X.K T x H) :
    s.TypeIs v T ∧ ∀ a, v = .ref a → ∃ ob, s.heap.get? a = some ob ∧ ob.dict = none := by
  cases x with
  | str z =>
    obtain ⟨t, rfl⟩ := r
    cases (show T = "str" from ty)
    exact ⟨typeIs_str s z t, fun _ e => nomatch e⟩
  | int i =>
    obtain ⟨t, rfl⟩ := r
    cases (show T = "int" from ty)
    exact ⟨typeIs_int s i t, fun _ e => nomatch e⟩
  | ref p =>
    cases r
    rcases ty with ⟨rfl, xs, hq⟩ | ⟨rfl, o, hk, hc, hd⟩ | ⟨rfl, hk⟩ | ⟨rfl, S, n, hk⟩
    · obtain ⟨its, _, pl, _⟩ := I.list hq
      refine ⟨pl.isList.typeIs, fun a e => ?_⟩
      cases e
      obtain ⟨o, n, e, c, hd, _⟩ := pl
      exact ⟨o, e, hd⟩
    · refine ⟨⟨o, I.kIn p o hk, hc⟩, fun a e => ?_⟩
      cases e
      exact ⟨o, I.kIn _ o hk, hd⟩
    · have z : ∃ o, s.heap.get? p = some o ∧ o.ExactDict := by
        rcases hk with ⟨kvs, hk⟩ | ⟨kvs, hk⟩
        · obtain ⟨_, _, _, _, o, _, _, e, ex, _⟩ := I.hok p _ hk
          exact ⟨o, e, ex⟩
        · obtain ⟨_, _, _, _, o, _, _, e, ex, _⟩ := I.hok p _ hk
          exact ⟨o, e, ex⟩
      obtain ⟨o, e, ex⟩ := z
      refine ⟨⟨o, e, ex.1⟩, fun a e2 => ?_⟩
      cases e2
      exact ⟨o, e, ex.2.1⟩
    · obtain ⟨o, _, _, _, e, ex, _⟩ := I.hok p _ hk
      refine ⟨⟨o, e, ex.1⟩, fun a e2 => ?_⟩
      cases e2
      exact ⟨o, e, ex.2.1⟩
  | _ => exact False.elim ty
def tBM (K : PySem.W.Frag) (T : String) (r : V → List V → Hp → VK → Prop) (to : TE) (t : TA) : TE := fun σ H Q => to σ H fun x H1 => tyV K T x H1 ∧ t σ H1 fun xs H2 => r x xs H2 Q
variable {o e : Expr} {es : List Expr} {to : TE} {t : TA} {name : Str} {apos cpos : Pos} {T id : String} {r : V → List V → Hp → VK → Prop}
theorem pe_bm (pa : PlainAttrs T) (slot : Slot T name id) (hty : typeOf (.builtin id) = pure (.type "method_descriptor")) (hm : MtR X id r) (ho : PE X o to) (ha : PA X (e :: es) t)
    (hbase : attributeBase o name X.env (eval o X.env) = eval o X.env := by rfl)
    (hfew : ((backTo cpos (starEach (e :: es) X.env)).all (fun x => !x.1) && (backToKw cpos (keywordEach [] X.env)).all (fun x => x.1.isSome)
      && decide ((e :: es).length + ([] : List Keyword).length + (if ([] : List Keyword).isEmpty then 0 else 1) < 30)) = true := by rfl)
    (hline : (apos.endLine == cpos.line) = true := by rfl) (hs : starEach (e :: es) X.env = (false, eval e X.env) :: starEach es X.env := by rfl) (hplain : (backTo cpos (starEach es X.env)).any (·.1) = false := by rfl) :
    PE X (.Call (.Attribute o name apos) (e :: es) [] cpos) (tBM X.K T r to t) := by
  intro pins s σ H Q I h
  refine wpAny_Call_method_late hbase hfew hline rfl (thn (ho pins s σ H _ I h) fun v s1 ⟨x, H1, I1, r1, ty, q1⟩ => ?_)
  obtain ⟨h1, h2⟩ := tyV_is I1 r1 ty
  refine ⟨T, id, pa, slot, hty, h1, h2, ?_⟩
  have hA := ha cpos pins s1 σ H1 _ I1 q1
  rw [hs] at hA ⊢
  refine Calls.callWith_builtin (by show (false || (backTo cpos (starEach es X.env)).any (·.1)) = false; rw [hplain] <;> rfl) (Calls.evalArgs_plain ?_)
  exact thn hA fun us s2 ⟨vs, H2, I2, r2, q2⟩ => hm pins s2 σ H2 x vs v us Q I2 r1 r2 q2
/- xs.append(e), list.index on a module's tuple .. are MtR facts of 06m -/
end
end L2
namespace L2
open PySem PySem.Spec PyProof.Rows
def MtM (X : Cx) (id : String) (r : V → List V → Hp → VK → Prop) : Prop :=
  ∀ (pins : List (Addr × Obj)) (s : Shared) (σ : St) (H : Hp) (x : V) (xs : List V) (v : Value) (us : List Value) (Q : VK), Inv X pins σ H s → RelV x v → Vals xs us → r x xs H Q →
    wpAny (model X.prog X.w) X.A (call (.builtin id) (v :: us)) (EP X pins σ Q) X.xe s
theorem Vals.one : ∀ {x : V} {us : List Value}, Vals [x] us → ∃ u, us = [u] ∧ RelV x u
  | _, _, .cons r .nil => ⟨_, rfl, r⟩
section
variable {X : Cx} {pins : List (Addr × Obj)} {σ : St} {H : Hp} {s : Shared} {l b : Addr} {xs ys zs : List V}
theorem Inv.lset {its its' : List Value} {n : Nat} {f : Array Value → Array Value} {t' : Nat} (I : Inv X pins σ H s) (hH : H l = some (.lst xs))
    (e : s.heap.get? l = some { cls := .type "list", data := .seq its.toArray n }) (hf : f its.toArray = its'.toArray) (hv : Vals ys its') (hz : ys.length ≤ sizeLine) :
    Inv X pins σ (upd H l (.lst ys)) { s with heap := s.heap.update l (Obj.mapSeq f), toks := t' } := by
  have q := PySem.IsL.update e f
  rw [hf] at q
  refine I.write (x := l) (e := l) (by rw [hH]; exact trivial) (.inl rfl) (fun b' u hb hu => (Heap.get?_update_other s.heap (Obj.mapSeq f) (Ne.symm hb)).trans hu) ⟨_, q⟩ ?_
  exact ⟨hz, its', _, hv, q⟩
theorem Inv.lnew {its : List Value} {t' : Nat} (I : Inv X pins σ H s) (hv : Vals ys its) (hz : ys.length ≤ sizeLine) :
    Inv X pins σ (upd H s.heap.objs.size (.lst ys)) { s with heap := s.heap.push { cls := .type "list", data := .seq its.toArray }, toks := t' } :=
  I.laid (fun _ _ q => Heap.get?_push_of_some _ q) (Nat.le_refl _) ⟨hz, its, 0, hv, Heap.get?_push_size _ rfl⟩
theorem Inv.fresh (I : Inv X pins σ H s) : H s.heap.objs.size = none := I.hok.fresh (Nat.le_refl _)
theorem Inv.lstM (I : Inv X pins σ H s) (hH : H l = some (.lst xs)) : xs.length ≤ sizeLine ∧ ∃ (its : List Value) (n : Nat), Vals xs its ∧ xs.length = its.length ∧ s.heap.get? l = some { cls := .type "list", data := .seq its.toArray n } := by
  obtain ⟨z, its, n, r, e⟩ := I.hok l _ hH
  exact ⟨z, its, n, r, r.length, e⟩
theorem notLongL {n : Nat} (h : n ≤ sizeLine) : Builtin.List.listTooLong n = false := by
  unfold Builtin.List.listTooLong
  exact decide_eq_false (by omega)
end
section
variable {X : Cx}
def rAppend : V → List V → Hp → VK → Prop := fun x vs H Q => ∃ l xs y, x = .ref l ∧ vs = [y] ∧ H l = some (.lst xs) ∧ xs.length < sizeLine ∧ Q .non (upd H l (.lst (xs ++ [y])))
theorem mt_append : MtM X "list.append" rAppend := by
  intro pins s σ H x vs v us Q I rx rv h
  obtain ⟨l, xs, y, rfl, rfl, hH, hz, q⟩ := h
  cases rx
  obtain ⟨u, rfl, ru⟩ := rv.one
  obtain ⟨z, its, n, r, hl, e⟩ := I.lstM hH
  refine call_meets F.slot_list_append ⟨_, e, rfl⟩ F.entry_list_append (F.args_list_append_2 _ _) (PySem.list_append l its.toArray n u (by rw [List.size_toArray]; omega)) ⟨e, ?_⟩
  refine ⟨.non, _, I.lset (its' := its ++ [u]) hH e (by simp) (r.append (.cons ru .nil)) ?_, rfl, q⟩
  rw [List.length_append, List.length_singleton]
  omega
def rExtend : V → List V → Hp → VK → Prop := fun x vs H Q => ∃ l b xs zs, x = .ref l ∧ vs = [.ref b] ∧ H l = some (.lst xs) ∧ H b = some (.lst zs) ∧ xs.length + zs.length ≤ sizeLine ∧ Q .non (upd H l (.lst (xs ++ zs)))
theorem mt_extend : MtM X "list.extend" rExtend := by
  intro pins s σ H x vs v us Q I rx rv h
  obtain ⟨l, b, xs, zs, rfl, rfl, hH, hB, hz, q⟩ := h
  cases rx
  obtain ⟨u, rfl, ru⟩ := rv.one
  cases ru
  obtain ⟨z, its, n, r, hl, e⟩ := I.lstM hH
  obtain ⟨z2, its2, n2, r2, hl2, e2⟩ := I.lstM hB
  have hsz : its.toArray.size + its2.toArray.size ≤ sizeLine := by rw [List.size_toArray, List.size_toArray]; omega
  have hlong : ¬ (!its.toArray.isEmpty && Builtin.List.listTooLong (its.toArray.size + its2.toArray.size)) = true := by
    rw [notLongL hsz, Bool.and_false]
    exact Bool.false_ne_true
  refine call_meets F.slot_list_extend ⟨_, e, rfl⟩ F.entry_list_extend (F.args_list_extend_2 _ _)
    (AutoSeq1.list_extend_list_list_0 l its.toArray n b its2.toArray n2 hlong (by rw [List.size_toArray]; omega) (by omega)) ⟨e, e2, ?_⟩
  refine ⟨.non, _, I.lset (its' := its ++ its2) hH e (by simp) (r.append r2) ?_, rfl, q⟩
  rw [List.length_append]
  omega
def rCat : R2 := fun x y H Q => ∃ l b xs zs, x = .ref l ∧ y = .ref b ∧ H l = some (.lst xs) ∧ H b = some (.lst zs) ∧ xs.length + zs.length ≤ sizeLine ∧ ∀ p, H p = none → Q (.ref p) (upd H p (.lst (xs ++ zs)))
theorem op_cat : OpR X (binaryOp .Add) rCat := by
  intro pins s σ H x y v u Q I rx ry h
  obtain ⟨l, b, xs, zs, rfl, rfl, hH, hB, hz, q⟩ := h
  cases rx
  cases ry
  obtain ⟨z, its, n, r, hl, e⟩ := I.lstM hH
  obtain ⟨z2, its2, n2, r2, hl2, e2⟩ := I.lstM hB
  refine PySem.P.add_list e e2 ?_ (by rw [List.size_toArray, List.size_toArray]; omega)
  have ea : its.toArray ++ its2.toArray = (its ++ its2).toArray := by simp
  rw [ea]
  exact ⟨.ref _, _, I.lnew (t' := s.toks) (r.append r2) (by rw [List.length_append]; omega), rfl, q _ I.fresh⟩
end
section
variable {prog : Program} {w : World} {A : Around} {E : Value → Shared → Prop} {s : Shared}
set_option maxRecDepth 100000 in
end
section
variable {X : Cx}
end
end L2
namespace L2
open PySem PySem.Spec PyProof.Rows
theorem Vals.bls : ∀ {bs : List Bool} {us : List Value}, Vals (bs.map V.bl) us → us = bs.map Value.bool
  | [], us, h => by
    rw [List.map_nil] at h
    cases h
    rfl
  | b :: bs, us, h => by
    rw [List.map_cons] at h
    cases h with
    | cons r t =>
      cases r
      rw [Vals.bls t, List.map_cons]
theorem Vals.ref1 {a : Addr} {us : List Value} (r : Vals [V.ref a] us) : us = [Value.ref a] := by
  cases r with
  | cons r t =>
    cases t
    cases r
    rfl
section
variable {prog : Program} {w : World} {A : Around} {E : Value → Shared → Prop} {s : Shared} {l : Addr} {its : List Value} {ns : List Int} {Q : Value → Shared → Prop}
end
section
variable {X : Cx}
end
section
variable {X : Cx}
end
section
variable {X : Cx}
end
theorem iter_any {prog : Program} {w : World} {A : Around} {E : Value → Shared → Prop} {s : Shared} {l : Addr} {items : Array Value} {Q : Value → Shared → Prop} (hl : s.heap.IsList l items)
    (h : ∀ s₂ : Shared, s₂ = { s with heap := s.heap.push { cls := .type "list_iterator", data := .fields #[.ref l, .int 0 0] } } →
      (s₂.heap.IsListIter s.heap.objs.size l 0 ∧ s₂.heap.IsList l items) → l ≠ s.heap.objs.size → Q (.ref s.heap.objs.size) s₂) : wpAny (model prog w) A (pyIter (.ref l)) Q E s := by
  have hlt : l < s.heap.objs.size := by obtain ⟨_, e, _⟩ := hl; exact Heap.lt_size e
  exact wpAny_pyIter_list hl (h _ rfl ⟨⟨_, Heap.get?_push_size _ rfl, rfl, rfl⟩, hl.push _⟩ (Nat.ne_of_lt hlt))
theorem truth_bools {prog : Program} {w : World} {A : Around} {bs : List Bool} {its : List Value} (e : its = bs.map Value.bool) :
    TruthOf prog w A (fun i v => its.toArray[i]? = some v) (fun i => bs.getD i false) := fun i v s Q E hv hq => by
  have hv' : its[i]? = some v := by simpa using hv
  rw [e, List.getElem?_map] at hv'
  obtain ⟨b, hb, rfl⟩ := Option.map_eq_some_iff.mp hv'
  have hg : bs.getD i false = b := by rw [List.getD_eq_getElem?_getD, hb] <;> rfl
  have hq' : Q (bs.getD i false) s := hq
  rw [hg] at hq'
  exact wpAny_truthy_bool hq'
theorem all_range : ∀ bs : List Bool, (List.range bs.length).all (fun i => bs.getD i false) = bs.all id
  | [] => rfl
  | b :: bs => by
    rw [List.length_cons, List.range_succ_eq_map, List.all_cons, List.all_map, List.all_cons, ← all_range bs]
    all_goals rfl
section
variable {X : Cx}
def rAll (K : PySem.W.Frag) : List V → Hp → VK → Prop := fun vs H Q => ∃ (a : Addr) (bs : List Bool), vs = [V.ref a] ∧ SqL K H a (bs.map V.bl) ∧ Q (.bl (bs.all id)) H
theorem cr_all (hc : X.calm = true) : CallR X (.builtin "all") (rAll X.K) := by
  intro pins s σ H vs us Q I r h
  obtain ⟨a, bs, rfl, hs, q⟩ := h
  obtain ⟨its, rv, hl, _⟩ := I.list hs
  rw [Vals.ref1 r]
  have hb := rv.bls
  refine call_all_walk (iter_any hl.isList fun s₂ e2 st hne => ?_)
  subst e2
  refine ⟨_, _, _, _, _, _, _, rfl, Walks.list (A := X.A.in1) (I.ok.hd hc) _ a hne its.toArray, st, truth_bools hb, fun h' tk hk => ?_⟩
  refine ⟨.bl _, H, I.kept fun b o eo => hk b o (fun hmem => ?_) (Heap.get?_push_of_some _ eo), ?_, q⟩
  · rcases List.mem_cons.mp hmem with e1 | hmem
    · exact absurd (e1 ▸ Heap.lt_size eo) (Nat.lt_irrefl _)
    · cases hmem
  · show Value.bool _ = Value.bool _
    rw [← all_range, hb, List.size_toArray, List.length_map]
end
mutual
inductive Dp (K : PySem.W.Frag) (H : Hp) : V → PyData → Prop
  | non : Dp K H .non .none
  | bl (b : Bool) : Dp K H (.bl b) (.bool b)
  | int (i : Int) : Dp K H (.int i) (.int i)
  | str (x : Str) : Dp K H (.str x) (.str x)
  | lst {a : Addr} {xs : List V} {ds : List PyData} : SqL K H a xs → DpAll K H xs ds → Dp K H (.ref a) (.list ds)
  | tup {a : Addr} {xs : List V} {ds : List PyData} : SqT K H a xs → DpAll K H xs ds → Dp K H (.ref a) (.tuple ds)
inductive DpAll (K : PySem.W.Frag) (H : Hp) : List V → List PyData → Prop
  | nil : DpAll K H [] []
  | cons {v : V} {vs : List V} {d : PyData} {ds : List PyData} : Dp K H v d → DpAll K H vs ds → DpAll K H (v :: vs) (d :: ds)
end
section
variable {X : Cx} {pins : List (Addr × Obj)} {σ : St} {H : Hp} {s : Shared}
mutual
theorem Dp.reads (I : Inv X pins σ H s) : ∀ (d : PyData) (v : V) (u : Value), Dp X.K H v d → RelV v u → ∃ as, Reads s.heap u d as
  | .none, _, _, h, r => by
    cases h
    cases r
    exact ⟨_, Reads.none⟩
  | .bool b, _, _, h, r => by
    cases h
    cases r
    exact ⟨_, Reads.bool b⟩
  | .int i, _, _, h, r => by
    cases h
    obtain ⟨t, rfl⟩ := r
    exact ⟨_, Reads.int i t⟩
  | .str x, _, _, h, r => by
    cases h
    obtain ⟨t, rfl⟩ := r
    exact ⟨_, Reads.str x t⟩
  | .list ds, _, _, h, r => by
    cases h with
    | lst hs ha =>
      cases r
      obtain ⟨its, rv, ⟨o, n, ho, hc, _, hd⟩, _⟩ := I.list hs
      obtain ⟨as, hr⟩ := Dp.readsAll I ds _ its ha rv
      exact ⟨_, Reads.list ho hc hd hr⟩
  | .tuple ds, _, _, h, r => by
    cases h with
    | tup hs ha =>
      cases r
      obtain ⟨its, rv, ⟨o, ho, hc, n, hd⟩, _⟩ := I.tuple hs
      obtain ⟨as, hr⟩ := Dp.readsAll I ds _ its ha rv
      exact ⟨_, Reads.tuple ho hc hd hr⟩
  | .dict _, _, _, h, _ => by cases h
theorem Dp.readsAll (I : Inv X pins σ H s) : ∀ (ds : List PyData) (vs : List V) (us : List Value), DpAll X.K H vs ds → Vals vs us → ∃ as, ReadsAll s.heap us ds as
  | [], _, _, h, r => by
    cases h
    cases r
    exact ⟨_, ReadsAll.nil⟩
  | d :: ds, _, _, h, r => by
    cases h with
    | cons h1 h2 =>
      cases r with
      | cons r1 r2 =>
        obtain ⟨as, q1⟩ := Dp.reads I d _ _ h1 r1
        obtain ⟨bs, q2⟩ := Dp.readsAll I ds _ _ h2 r2
        exact ⟨_, ReadsAll.cons q1 q2⟩
end
end
section
variable {X : Cx}
def rEqD (K : PySem.W.Frag) : R2 := fun x y H Q => ∃ d e, Dp K H x d ∧ Dp K H y e ∧ SeqAt.shaped d = true ∧ SeqAt.shaped e = true ∧ Q (.bl (PyData.eqv d e)) H
def rNeD (K : PySem.W.Frag) : R2 := fun x y H Q => ∃ d e, Dp K H x d ∧ Dp K H y e ∧ SeqAt.shaped d = true ∧ SeqAt.shaped e = true ∧ Q (.bl (!PyData.eqv d e)) H
theorem op_eqD (hu : X.A.units + 64 < cLine) : OpR X (compareOp .Eq) (rEqD X.K) := by
  intro pins s σ H x y v u Q I rx ry h
  obtain ⟨d, e, hd, he, sd, se, q⟩ := h
  obtain ⟨as, r1⟩ := Dp.reads I d x v hd rx
  obtain ⟨bs, r2⟩ := Dp.reads I e y u he ry
  exact SeqAt.compareEq_shaped r1 r2 sd se hu ⟨.bl _, H, I, rfl, q⟩
theorem op_neD (hu : X.A.units + 64 < cLine) : OpR X (compareOp .NotEq) (rNeD X.K) := by
  intro pins s σ H x y v u Q I rx ry h
  obtain ⟨d, e, hd, he, sd, se, q⟩ := h
  obtain ⟨as, r1⟩ := Dp.reads I d x v hd rx
  obtain ⟨bs, r2⟩ := Dp.reads I e y u he ry
  exact SeqAt.compareNe_shaped r1 r2 sd se hu ⟨.bl _, H, I, rfl, q⟩
end
end L2
namespace L2
open PySem PySem.Spec PyProof.Rows
abbrev CellAt (h : Heap) (c : Addr) (v : Option Value) : Prop := h.IsCell c v
def relS (scope sc : Scope) : Scope :=
  { scope with names := scope.names.map fun (n, k) => if (k == .free && sc.kind == .function && sc.names.lookup n == some .cell) then (n, .cell) else (n, k) }
def cloFrom (cells : List (Str × Addr)) : List (Str × NameKind) → List (Str × Addr) → List (Str × Addr)
  | [], acc => acc
  | (n, k) :: r, acc => if k == .free then cloFrom cells r ((n, (cells.lookup n).getD 0) :: acc) else cloFrom cells r acc
theorem closure_loop (env : Env) (f : Str × NameKind → List (Str × Addr) → Sem (ForInStep (List (Str × Addr))))
    (hf : ∀ n k c, f (n, k) c = if k == .free then (do let a ← cellOf env n; pure (.yield ((n, a) :: c))) else pure (.yield c)) :
    ∀ (names : List (Str × NameKind)) (acc : List (Str × Addr)), (∀ y ∈ names, y.2 = .free → ∃ c, env.cells.lookup y.1 = some c) → forIn names acc f = pure (cloFrom env.cells names acc)
  | [], acc, _ => by rw [List.forIn_nil]; rfl
  | (n, k) :: r, acc, h => by
    rw [List.forIn_cons, hf]
    have ih := fun acc => closure_loop env f hf r acc fun y hy => h y (List.mem_cons_of_mem _ hy)
    unfold cloFrom
    by_cases hk : (k == NameKind.free) = true
    · rw [if_pos hk, if_pos hk]
      obtain ⟨c, hc⟩ := h (n, k) List.mem_cons_self (by simpa using hk)
      have e : cellOf env n = pure c := by unfold cellOf; rw [hc]
      rw [e]
      have e2 : (env.cells.lookup n).getD 0 = c := by rw [hc]; rfl
      rw [e2]
      exact ih _
    · rw [if_neg hk, if_neg hk]
      exact ih _
theorem closure_ok {scope : Scope} {env : Env} (h : ∀ y ∈ scope.names, y.2 = .free → ∃ c, env.cells.lookup y.1 = some c) : closureFor scope env = pure (cloFrom env.cells scope.names []) := by
  simp only [closureFor]
  rw [closure_loop env _ (fun n k c => rfl) scope.names [] h]
  rfl
theorem mem_lookup {α : Type} : ∀ {l : List (Str × α)} {n : Str} {c : α}, (n, c) ∈ l → ∃ c', l.lookup n = some c'
  | (k, v) :: r, n, c, h => by
    rw [List.lookup_cons]
    cases hb : n == k with
    | true => exact ⟨_, rfl⟩
    | false =>
      rcases List.mem_cons.mp h with e | h
      · cases e; simp at hb
      · exact mem_lookup h
theorem cloFrom_mem {cells : List (Str × Addr)} : ∀ {names : List (Str × NameKind)} {acc : List (Str × Addr)} {n : Str} {c : Addr}, (n, c) ∈ cloFrom cells names acc → (n, c) ∈ acc ∨ ((n, .free) ∈ names ∧ c = (cells.lookup n).getD 0)
  | [], _, _, _, h => .inl h
  | (m, k) :: r, acc, n, c, h => by
    unfold cloFrom at h
    split at h
    · rename_i hk
      have hk : k = .free := by simpa using hk
      rcases cloFrom_mem h with h | ⟨h1, h2⟩
      · rcases List.mem_cons.mp h with e | h
        · cases e; exact .inr ⟨hk ▸ List.mem_cons_self, rfl⟩
        · exact .inl h
      · exact .inr ⟨List.mem_cons_of_mem _ h1, h2⟩
    · rcases cloFrom_mem h with h | ⟨h1, h2⟩
      · exact .inl h
      · exact .inr ⟨List.mem_cons_of_mem _ h1, h2⟩
theorem cloFrom_acc {cells : List (Str × Addr)} : ∀ {names : List (Str × NameKind)} {acc : List (Str × Addr)} {p : Str × Addr}, p ∈ acc → p ∈ cloFrom cells names acc
  | [], _, _, h => h
  | (m, k) :: r, acc, p, h => by
    unfold cloFrom
    split
    · exact cloFrom_acc (List.mem_cons_of_mem _ h)
    · exact cloFrom_acc h
theorem cloFrom_has {cells : List (Str × Addr)} : ∀ {names : List (Str × NameKind)} {acc : List (Str × Addr)} {n : Str}, (n, .free) ∈ names → (n, (cells.lookup n).getD 0) ∈ cloFrom cells names acc
  | (m, k) :: r, acc, n, h => by
    unfold cloFrom
    rcases List.mem_cons.mp h with e | h
    · cases e
      exact cloFrom_acc List.mem_cons_self
    · split
      · exact cloFrom_has h
      · exact cloFrom_has h
theorem cells_mem : ∀ {names : List (Str × NameKind)} {h : Heap} {acc : List (Str × Addr)} {x : Str} {c : Addr}, (x, c) ∈ cellsFrom h.objs.size names acc →
    (x, c) ∈ acc ∨ ((x, .cell) ∈ names ∧ h.objs.size ≤ c ∧ CellAt (pushCells h names) c none)
  | [], _, _, _, _, h => .inl h
  | (n, k) :: r, h, acc, x, c, hm => by
    unfold cellsFrom at hm
    unfold pushCells
    split at hm
    · rename_i hk
      rw [if_pos hk]
      have hk : k = .cell := by simpa using hk
      rw [← Heap.size_push h { cls := .type "cell", data := .cell none }] at hm
      rcases cells_mem hm with hm | ⟨h1, h2, h3⟩
      · rcases List.mem_cons.mp hm with e | hm
        · cases e
          exact .inr ⟨hk ▸ List.mem_cons_self, Nat.le_refl _, _, pushCells_keeps r _ _ _ (Heap.get?_push_size _ rfl), rfl⟩
        · exact .inl hm
      · rw [Heap.size_push] at h2
        exact .inr ⟨List.mem_cons_of_mem _ h1, Nat.le_of_succ_le h2, h3⟩
    · rename_i hk
      rw [if_neg hk]
      rcases cells_mem hm with hm | ⟨h1, h2, h3⟩
      · exact .inl hm
      · exact .inr ⟨List.mem_cons_of_mem _ h1, h2, h3⟩
theorem cells_acc : ∀ {names : List (Str × NameKind)} {n : Nat} {acc : List (Str × Addr)} {p : Str × Addr}, p ∈ acc → p ∈ cellsFrom n names acc
  | [], _, _, _, h => h
  | (m, k) :: r, n, acc, p, h => by
    unfold cellsFrom
    split
    · exact cells_acc (List.mem_cons_of_mem _ h)
    · exact cells_acc h
theorem cells_has : ∀ {names : List (Str × NameKind)} {n : Nat} {acc : List (Str × Addr)} {x : Str}, (x, .cell) ∈ names → ∃ c, (x, c) ∈ cellsFrom n names acc
  | (m, k) :: r, n, acc, x, h => by
    unfold cellsFrom
    rcases List.mem_cons.mp h with e | h
    · cases e
      exact ⟨n, cells_acc List.mem_cons_self⟩
    · split
      · exact cells_has h
      · exact cells_has h
theorem cells_inj : ∀ {names : List (Str × NameKind)} {h : Heap} {acc : List (Str × Addr)} {x y : Str} {c : Addr}, (∀ p ∈ acc, p.2 < h.objs.size) → (∀ x y c, (x, c) ∈ acc → (y, c) ∈ acc → x = y) →
    (x, c) ∈ cellsFrom h.objs.size names acc → (y, c) ∈ cellsFrom h.objs.size names acc → x = y
  | [], _, _, _, _, _, _, hi, h1, h2 => hi _ _ _ h1 h2
  | (n, k) :: r, h, acc, x, y, c, hl, hi, h1, h2 => by
    unfold cellsFrom at h1 h2
    split at h1
    · rename_i hk
      rw [if_pos hk] at h2
      rw [← Heap.size_push h { cls := .type "cell", data := .cell none }] at h1 h2
      refine cells_inj (h := h.push _) (fun p hp => ?_) (fun x y c a b => ?_) h1 h2
      · rw [Heap.size_push]
        rcases List.mem_cons.mp hp with rfl | hp
        · exact Nat.lt_succ_self _
        · exact Nat.lt_succ_of_lt (hl p hp)
      · rcases List.mem_cons.mp a with e | a <;> rcases List.mem_cons.mp b with e' | b
        · cases e; cases e'; rfl
        · cases e; exact absurd (hl _ b) (Nat.lt_irrefl _)
        · cases e'; exact absurd (hl _ a) (Nat.lt_irrefl _)
        · exact hi _ _ _ a b
    · rename_i hk
      rw [if_neg hk] at h2
      exact cells_inj hl hi h1 h2
theorem newEnv_comp {M : Model} {A : Around} {E : Value → Shared → Prop} {s : Shared} {scope : Scope} {globals : Addr} {closure : List (Str × Addr)} {qual : Str} {func : Option Addr} {code : Value} {around : Env} {builtins : Addr} {Q : Env → Shared → Prop}
    (h : Q (newEnv scope s.heap.objs.size globals (cellsFrom (s.heap.objs.size + 1) scope.names closure) qual func code (some around) builtins)
      { s with heap := pushCells (s.heap.push { cls := .type "dict", data := .dict #[] }) scope.names }) :
    wpAny M A (newFunctionEnv scope globals closure [] qual func code (some around) builtins) Q E s := by
  simp only [newFunctionEnv, Option.isSome_some, if_true]
  refine wpAny_bind (wpAny_alloc ?_)
  refine wpAny_bind (wpAny_layCells _ (fun n k c => rfl) scope.names closure _ _ ?_)
  rw [show ({ s with heap := s.heap.push { cls := .type "dict", data := .dict #[] } } : Shared).heap.objs.size = s.heap.objs.size + 1 from Heap.size_push ..]
  rw [List.forIn_nil]
  exact wpAny_bind (wpAny_pure (wpAny_pure h))
theorem lookup_relS {sc : Scope} : ∀ {names : List (Str × NameKind)} {x : Str} {k : NameKind},
    (names.map fun (n, k) => if (k == NameKind.free && sc.kind == .function && sc.names.lookup n == some .cell) then (n, NameKind.cell) else (n, k)).lookup x = some k →
    ∃ k', names.lookup x = some k' ∧ (k = k' ∨ (k' = .free ∧ k = .cell))
  | [], _, _, h => by simp at h
  | (n, k₀) :: r, x, k, h => by
    have ih := @lookup_relS sc r x k
    have h' : List.lookup x ((if (k₀ == NameKind.free && sc.kind == .function && sc.names.lookup n == some .cell) = true then (n, NameKind.cell) else (n, k₀)) :: (r.map _)) = some k := h
    cases hx : x == n with
    | true =>
      simp only [List.lookup_cons, hx]
      by_cases hc : (k₀ == NameKind.free && sc.kind == .function && sc.names.lookup n == some .cell) = true
      · rw [if_pos hc] at h'
        simp only [List.lookup_cons, hx] at h'
        cases h'
        simp only [Bool.and_eq_true, beq_iff_eq] at hc
        exact ⟨k₀, rfl, .inr ⟨hc.1.1, rfl⟩⟩
      · rw [if_neg hc] at h'
        simp only [List.lookup_cons, hx] at h'
        cases h'
        exact ⟨_, rfl, .inl rfl⟩
    | false =>
      simp only [List.lookup_cons, hx]
      by_cases hc : (k₀ == NameKind.free && sc.kind == .function && sc.names.lookup n == some .cell) = true
      · rw [if_pos hc] at h'
        simp only [List.lookup_cons, hx] at h'
        exact ih h'
      · rw [if_neg hc] at h'
        simp only [List.lookup_cons, hx] at h'
        exact ih h'
structure BlkOk (N : List Str) (sc scope : Scope) (own : List (Str × Nat)) : Prop where
  kind : scope.kind = .function
  uniq : ∀ y ∈ scope.names, scope.names.lookup y.1 = some y.2
  ix : ∀ p ∈ own, N[p.2]? = some p.1
  free : ∀ y ∈ scope.names, y.2 = .free → sc.names.lookup y.1 = some .cell ∨ sc.names.lookup y.1 = some .free
  own : ∀ y ∈ scope.names, y.2 = .local ∨ y.2 = .cell → y.1 ∈ own.map (·.1) ∨ y.1 ∉ N
def wipe (σ : St) : List Nat → St
  | [] => σ
  | v :: vs => (wipe σ vs).set v none
theorem wipe_length (σ : St) : ∀ vs : List Nat, (wipe σ vs).length = σ.length
  | [] => rfl
  | v :: vs => by unfold wipe; rw [List.length_set, wipe_length σ vs]
theorem wipe_some {σ : St} {i : Nat} {x : V} : ∀ {vs : List Nat}, (wipe σ vs)[i]? = some (some x) → σ[i]? = some (some x) ∧ i ∉ vs
  | [], h => ⟨h, by simp⟩
  | v :: vs, h => by
    unfold wipe at h
    by_cases hi : v = i
    · subst hi
      by_cases hv : v < (wipe σ vs).length
      · rw [List.getElem?_set_self hv] at h; cases h
      · rw [List.getElem?_eq_none (by simpa using hv)] at h; cases h
    · rw [List.getElem?_set_ne hi] at h
      obtain ⟨h1, h2⟩ := wipe_some h
      exact ⟨h1, by simp only [List.mem_cons, not_or]; exact ⟨fun e => hi e.symm, h2⟩⟩
abbrev Cx.blk (X : Cx) (s : Shared) (H : Hp) (scope : Scope) (cenv : Env) (fp : List Addr) : Cx := { X with s_0 := s, H_0 := H, env := cenv, outer := X.stack, ex := fp, fn := fun x => scope.names.lookup x == some .cell, pn := [], xe := fun _ _ => False }
section
variable {X : Cx} {pins : List (Addr × Obj)} {σ : St} {H : Hp} {s : Shared}
theorem block_start {scope : Scope} {own : List (Str × Nat)} {fp : List Addr} (I : Inv X pins σ H s) (ok : BlkOk X.N X.env.scope scope own) (hN : X.N.Nodup) (hfp : ∀ b ∈ fp, FpOk X pins H b ∧ b < s.heap.objs.size) :
    Inv (X.blk s H scope (compEnvC scope (cellsFrom (s.heap.objs.size + 1) scope.names (cloFrom X.env.cells scope.names [])) s.heap.objs.size X.env) fp) [] (wipe σ (own.map (·.2))) H { s with heap := pushCells (s.heap.push { cls := .type "dict", data := .dict #[] }) scope.names } := by
  have hfree : ∀ y ∈ scope.names, y.2 = .free → ∃ c, X.env.cells.lookup y.1 = some c := fun y hy e => by
    rcases ok.free y hy e with k | k
    · exact I.ok.has _ (.inl k)
    · exact I.ok.has _ (.inr k)
  generalize hcenv : compEnvC scope (cellsFrom (s.heap.objs.size + 1) scope.names (cloFrom X.env.cells scope.names [])) s.heap.objs.size X.env = cenv
  have kp : ∀ b o, s.heap.get? b = some o → (pushCells (s.heap.push { cls := .type "dict", data := .dict #[] }) scope.names).get? b = some o := fun b o e => pushCells_keeps _ _ _ _ (Heap.get?_push_of_some _ e)
  have hL : cenv.locals = s.heap.objs.size := by rw [← hcenv]; rfl
  have hcl : cenv.cells = cellsFrom (s.heap.objs.size + 1) scope.names (cloFrom X.env.cells scope.names []) := by rw [← hcenv]; rfl
  have hsc : cenv.scope = relS scope X.env.scope := by rw [← hcenv]; rfl
  rw [← Heap.size_push s.heap { cls := .type "dict", data := .dict #[] }] at hcl
  have cm : ∀ {y c}, (y, c) ∈ cloFrom X.env.cells scope.names [] → X.env.cells.lookup y = some c ∧ c < s.heap.objs.size := fun {y c} hm => by
    rcases cloFrom_mem hm with hm | ⟨h1, rfl⟩
    · cases hm
    · obtain ⟨c, hc⟩ := hfree _ h1 rfl
      rw [hc]
      obtain ⟨w, z⟩ := I.cell _ _ hc
      exact ⟨rfl, z.lt⟩
  have mem : ∀ {y c}, cenv.cells.lookup y = some c → (X.env.cells.lookup y = some c ∧ c < s.heap.objs.size) ∨ (s.heap.objs.size + 1 ≤ c ∧ CellAt (pushCells (s.heap.push { cls := .type "dict", data := .dict #[] }) scope.names) c none) := fun {y c} e => by
    rw [hcl] at e
    rcases cells_mem (PySem.mem_of_lookup e) with hm | ⟨_, h2, h3⟩
    · exact .inl (cm hm)
    · rw [Heap.size_push] at h2; exact .inr ⟨h2, h3⟩
  have look : ∀ {y}, scope.names.lookup y = some .free → ∃ c, cenv.cells.lookup y = some c ∧ X.env.cells.lookup y = some c := fun {y} hl => by
    have hy : (y, NameKind.free) ∈ scope.names := PySem.mem_of_lookup hl
    obtain ⟨c', e'⟩ := mem_lookup (cells_acc (names := scope.names) (n := (s.heap.push { cls := .type "dict", data := .dict #[] }).objs.size) (cloFrom_has (cells := X.env.cells) (acc := []) hy))
    rw [← hcl] at e'
    refine ⟨c', e', ?_⟩
    rw [hcl] at e'
    rcases cells_mem (PySem.mem_of_lookup e') with hm | ⟨h1, _, _⟩
    · exact (cm hm).1
    · have := ok.uniq _ h1
      rw [hl] at this; cases this
  have okB : (X.blk s H scope cenv fp).Ok := by
    refine ⟨I.ok.mod, by show cenv.scope.kind = _; rw [hsc]; exact ok.kind, by show cenv.globals = _; rw [← hcenv]; exact I.ok.glob, by show cenv.builtins = _; rw [← hcenv]; exact I.ok.blt, by show s.heap.objs.size ≤ cenv.locals; rw [hL]; exact Nat.le_refl _,
      fun y z c e1 e2 => ?_, fun y hy => ?_, fun y c z e => ?_, I.ok.hd, I.ok.frames, .inl rfl, fun b hb => ⟨?_, fun y c e z => ?_⟩, I.bs, Nat.le_trans I.ok.bsz I.sz, fun b o e hb => ?_, fun b hb z => ?_, I.stack, I.stkFree⟩
    · have e1 : cenv.cells.lookup y = some c := e1
      have e2 : cenv.cells.lookup z = some c := e2
      rw [hcl] at e1 e2
      refine cells_inj (fun p hp => ?_) (fun y z c a b => I.ok.inj y z c (cm a).1 (cm b).1) (PySem.mem_of_lookup e1) (PySem.mem_of_lookup e2)
      rw [Heap.size_push]
      exact Nat.lt_succ_of_lt (cm (y := p.1) (c := p.2) hp).2
    · show ∃ c, cenv.cells.lookup y = some c
      have key : ∀ k, cenv.kindOf y = some k → (k = .cell ∨ k = .free) → ∃ c, cenv.cells.lookup y = some c := fun k hk hk' => by
        unfold Env.kindOf at hk
        rw [hsc] at hk
        obtain ⟨k', e, r⟩ := lookup_relS hk
        have : k' = .cell ∨ k' = .free := by
          rcases r with rfl | ⟨rfl, _⟩
          · exact hk'
          · exact .inr rfl
        rcases this with rfl | rfl
        · obtain ⟨c, hm⟩ := cells_has (n := (s.heap.push { cls := .type "dict", data := .dict #[] }).objs.size) (acc := cloFrom X.env.cells scope.names []) (PySem.mem_of_lookup e)
          obtain ⟨c', e'⟩ := mem_lookup hm
          exact ⟨c', by rw [hcl]; exact e'⟩
        · obtain ⟨c, h1, _⟩ := look e
          exact ⟨c, h1⟩
      rcases hy with hy | hy
      · exact key _ hy (.inl rfl)
      · exact key _ hy (.inr rfl)
    · have z : (scope.names.lookup y == some NameKind.cell) = true := z
      have z : scope.names.lookup y = some .cell := by simpa using z
      have e : cenv.cells.lookup y = some c := e
      rw [hcl] at e
      rcases cells_mem (PySem.mem_of_lookup e) with hm | ⟨_, h2, _⟩
      · rcases cloFrom_mem hm with hm | ⟨h1, _⟩
        · cases hm
        · have q := ok.uniq _ h1
          rw [z] at q; cases q
      · rw [Heap.size_push] at h2
        exact Nat.le_of_succ_le h2
    · show b ≠ cenv.locals
      rw [hL]; exact Nat.ne_of_lt (hfp b hb).2
    · have e : cenv.cells.lookup y = some c := e
      rcases mem e with ⟨h1, _⟩ | ⟨h1, _⟩
      · exact (hfp b hb).1.2.2.2.2.1 y c h1 z
      · have h2 : s.heap.objs.size + 1 ≤ b := by rw [← z]; exact h1
        exact absurd (Nat.lt_of_lt_of_le (hfp b hb).2 (Nat.le_of_succ_le h2)) (Nat.lt_irrefl _)
    · rcases (hfp b hb).1.2.2.2.1 with z | z
      · exact I.ok.noex b o e z
      · exact absurd (Nat.lt_of_lt_of_le (Heap.lt_size e) (Nat.le_trans I.ok.bsz z)) (Nat.lt_irrefl _)
    · rcases List.mem_cons.mp (I.stkSub b z) with z | z
      · exact (hfp b hb).1.2.1 z
      · exact (hfp b hb).1.2.2.1 z
  refine ⟨okB, rfl, I.bare, Un.kept kp, ⟨fun _ => none, ?_, fun i y av e1 e2 e3 => ?_⟩, fun y c e => ?_, ?_, fun y c e => ?_, fun p hp => ?_, I.hok.kept kp, by rw [wipe_length]; exact I.len⟩
  · show Heap.Ns _ cenv.locals _
    rw [hL]
    exact Heap.Ns.keeps (Heap.Ns.new ..) fun b o e => pushCells_keeps _ _ _ _ e
  · obtain ⟨e2, hne⟩ := wipe_some e2
    have hfr : scope.names.lookup y = some .free ∧ (cenv.kindOf y = some .cell ∨ cenv.kindOf y = some .free) := by
      have key : ∀ k, cenv.scope.names.lookup y = some k → k = .local ∨ k = .cell ∨ k = .free → scope.names.lookup y = some .free ∧ (cenv.kindOf y = some .cell ∨ cenv.kindOf y = some .free) := fun k hk hk' => by
        have hk0 := hk
        rw [hsc] at hk
        obtain ⟨k', e, r⟩ := lookup_relS hk
        have no : ¬ (k' = .local ∨ k' = .cell) := fun hh => by
          rcases ok.own _ (PySem.mem_of_lookup e) hh with e' | e'
          · obtain ⟨p, hp, hpy⟩ := List.mem_map.mp e'
            have e3 := ok.ix p hp
            have : p.1 = y := hpy
            rw [this] at e3
            exact hne (List.mem_map.mpr ⟨p, hp, nodup_ix hN e3 e1⟩)
          · exact e' (List.mem_of_getElem? e1)
        rcases r with rfl | ⟨rfl, rfl⟩
        · rcases hk' with rfl | rfl | rfl
          · exact absurd (.inl rfl) no
          · exact absurd (.inr rfl) no
          · exact ⟨e, .inr hk0⟩
        · exact ⟨e, .inl hk0⟩
      have e3 : Vis cenv.scope y := e3
      rcases e3 with e3 | e3 | e3
      · exact key _ e3 (.inl rfl)
      · exact key _ e3 (.inr (.inl rfl))
      · exact key _ e3 (.inr (.inr rfl))
    obtain ⟨m, hn, hl⟩ := I.loc
    have hvis : Vis X.env.scope y := (ok.free _ (PySem.mem_of_lookup hfr.1) rfl).elim (fun k => .inr (.inl k)) (fun k => .inr (.inr k))
    obtain ⟨w, r, q⟩ := hl i y av e1 e2 hvis
    refine ⟨w, r, .inr ⟨hfr.2, ?_⟩⟩
    obtain ⟨c, h1, h2⟩ := look hfr.1
    rcases q with ⟨k, _⟩ | ⟨_, c', e', z⟩
    · have k : X.env.scope.names.lookup y = some .local := k
      rcases ok.free _ (PySem.mem_of_lookup hfr.1) rfl with k' | k' <;> rw [show X.env.scope.names.lookup y = _ from k'] at k <;> cases k
    · rw [h2] at e'; cases e'
      exact ⟨c, h1, z.keeps kp⟩
  · have e : cenv.cells.lookup y = some c := e
    rcases mem e with ⟨h1, _⟩ | ⟨_, z⟩
    · obtain ⟨w, z⟩ := I.cell y c h1
      exact ⟨w, z.keeps kp⟩
    · exact ⟨_, z⟩
  · show H cenv.locals = none
    rw [hL]; exact I.hok.fresh (Nat.le_refl _)
  · have e : cenv.cells.lookup y = some c := e
    rcases mem e with ⟨h1, _⟩ | ⟨h1, _⟩
    · exact I.freeC y c h1
    · exact I.hok.fresh (Nat.le_of_succ_le h1)
  · exact absurd (show p ∈ ([] : List (Addr × Obj)) ++ [] from hp) (by simp)
theorem app_ok {E : Value → Shared → Prop} {D : Addr} {xs : List V} {y : V} {v : Value} {Q : Value → Shared → Prop} (I : Inv X pins σ H s) (hD : H D = some (.lst xs)) (hz : xs.length < sizeLine) (r : RelV y v)
    (h : ∀ s', Inv X pins σ (upd H D (.lst (xs ++ [y]))) s' → Q .none s') : wpAny (model X.prog X.w) X.A (call (.builtin "list.append") [.ref D, v]) Q E s := by
  obtain ⟨hz', its, n, ri, e⟩ := I.hok D _ hD
  have hl := ri.length
  refine append_at (hsz := by rw [List.size_toArray]; omega) e fun h' sb ho' => ?_
  refine h { s with heap := h' } (I.write (t' := s.toks) (by rw [hD]; trivial) (.inl rfl) (fun b u hb q => (sb.2 b hb).trans q) ⟨_, ho'⟩ ⟨by rw [List.length_append]; exact hz, its ++ [v], n + 1, ri.append (.cons r .nil), ?_⟩)
  rw [ho']
  simp
def PTs (X : Cx) (ifs : List Expr) (t : TT) : Prop :=
  ∀ (pins : List (Addr × Obj)) (s : Shared) (σ : St) (H : Hp) (Q : Bool → Hp → Prop), Inv X pins σ H s → t σ H Q →
    wpAny (model X.prog X.w) X.A (forIn ifs true fun c r => if r = true then do let ok ← isTrue c X.env (eval c X.env); pure (ForInStep.yield ok) else pure (ForInStep.yield r)) (TP X pins σ Q) X.xe s
def tYes : TT := fun _ H Q => Q true H
theorem pts_nil : PTs X [] tYes := fun _ _ _ H _ I h => wpAny_tests_nil ⟨H, I, h⟩
end
theorem thnF {α : Type} {t : Sem α} {Q Q' : α → Shared → Prop} {M : Model} {A : Around} {E : Value → Shared → Prop} {s : Shared} (h : wpAny M A t Q (fun _ _ => False) s) (hQ : ∀ a s, Q a s → Q' a s) : wpAny M A t Q' E s := wpAny_mono h hQ fun _ _ z => False.elim z
theorem compLoop_any {prog : Program} {w : World} {A : Around} {R : Result → Shared → Prop} {s : Shared} {elt target iter : Expr} {ifs : List Expr} {scope : Scope} {pos : Pos} {it acc : Value} {env : Env} (I : Nat → Shared → Prop)
    (turn : ∀ n s, I n s → wpAny (model prog w) A (pyNext it) (fun r s₁ => match r with
      | none => R (.ok .next) s₁
      | some v => wpAny (model prog w) A (letOwnedTupleGo target it v) (fun _ s₁' => wpAny (model prog w) A (assign target env v) (fun _ s₂ =>
          wpAny (model prog w) A (forIn ifs true fun c r => if r = true then do let ok ← isTrue c env (eval c env); pure (ForInStep.yield ok) else pure (ForInStep.yield r)) (fun ok s₃ =>
            if ok = true then wpAny (model prog w) A (eval elt env) (fun x s₄ =>
              wpAny (model prog w) A (call (.builtin "list.append") [acc, x]) (fun _ s₅ => ∃ m, m < n ∧ I m s₅) (notedBy (model prog w) A env fun e s' => R (.error e) s') s₄) (notedBy (model prog w) A env fun e s' => R (.error e) s') s₃
            else ∃ m, m < n ∧ I m s₃) (notedBy (model prog w) A env fun e s' => R (.error e) s') s₂) (notedBy (model prog w) A env fun e s' => R (.error e) s') s₁') (notedBy (model prog w) A env fun e s' => R (.error e) s') s₁) (notedBy (model prog w) A env fun e s' => R (.error e) s') s)
    (n : Nat) (h : I n s) :
    codeAny (model prog w) A (.compLoop (.ListComp elt [⟨target, iter, ifs, 0⟩] scope pos) 0 it acc env) R s := by
  refine codeAny_loop rfl I (fun n s hI => ?_) n h
  show wpAny _ A ((compTurn (.ListComp elt [⟨target, iter, ifs, 0⟩] scope pos) 0 it acc env).onRaise (fun x => do noteFrame x env; theTreesLotGoes x)) _ _ s
  refine wpAny_noted ?_
  rw [compTurn_list]
  refine wpAny_bind (wpAny_standAt (wpAny_bind (wpAny_mono (turn n s hI) (fun r s₁ h₁ => ?_) fun _ _ h' => h')))
  cases r with
  | none => exact wpAny_pure h₁
  | some v =>
    refine wpAny_bind (wpAny_mono h₁ (fun _ s₁' h₁' => ?_) fun _ _ h' => h')
    refine wpAny_bind (wpAny_mono h₁' (fun _ s₂ h₂ => wpAny_bind (wpAny_mono h₂ (fun ok s₃ h₃ => ?_) fun _ _ h' => h')) fun _ _ h' => h')
    cases ok with
    | false => exact wpAny_pure ⟨rfl, h₃⟩
    | true =>
      exact wpAny_bind (wpAny_bind (wpAny_mono h₃ (fun x s₄ h₄ => wpAny_bind (wpAny_mono h₄ (fun _ s₅ h₅ => wpAny_pure (wpAny_pure ⟨rfl, h₅⟩)) fun _ _ h' => h')) fun _ _ h' => h'))
section
variable {X : Cx}
def tLc (wi : TI) (g : TG) (tt : TT) (te : TE) (vs : List Nat) : TE := fun σ H Q => wi σ H fun J H1 => ∀ D, H1 D = none → ∃ W : Nat → Nat → Hp → Prop, (∃ m, W 0 m (upd H1 D (.lst []))) ∧ ∀ i m H, W i m H →
  (J.stop i H ∧ Q (.ref D) H) ∨ (J.go i H ∧ ∃ Nx : Hp → Prop, (∀ H', Nx H' → ∃ m', m' < m ∧ W (i + 1) m' H') ∧ ∀ x H', J.yld i H x H' → g x (wipe σ vs) H' fun σ2 H2 => wipe σ2 vs = wipe σ vs ∧ tt σ2 H2 fun b H3 =>
    if b = true then te σ2 H3 fun y H4 => ∃ acc, H4 D = some (.lst acc) ∧ acc.length < sizeLine ∧ Nx (upd H4 D (.lst (acc ++ [y]))) else Nx H3)
theorem lc_core {pins : List (Addr × Obj)} {s : Shared} {σ : St} {H : Hp} {Q : VK} {elt tg iter : Expr} {ifs : List Expr} {scope : Scope} {own : List (Str × Nat)} {pos pos' : Pos} {wi : TI} {g : TG} {tt : TT} {te : TE} {use : Option (Value → Sem Unit)} {Qf : Value → Shared → Prop}
    (hc : X.calm = true) (hN : X.N.Nodup) (I : Inv X pins σ H s) (hi : PI X tg iter wi) (ok : BlkOk X.N X.env.scope scope own)
    (hg : ∀ (s : Shared) (H : Hp) (C : Addr) (cl : List (Str × Addr)) (fp : List Addr), PG (X.blk s H scope (compEnvC scope cl C X.env) fp) tg g) (ht : ∀ (s : Shared) (H : Hp) (C : Addr) (cl : List (Str × Addr)) (fp : List Addr), PTs (X.blk s H scope (compEnvC scope cl C X.env) fp) ifs tt)
    (he : ∀ (s : Shared) (H : Hp) (C : Addr) (cl : List (Str × Addr)) (fp : List Addr), PE (X.blk s H scope (compEnvC scope cl C X.env) fp) elt te) (hs : ∀ x, foldedSetIterable iter X.env x = pure x)
    (h : tLc wi g tt te (own.map (·.2)) σ H Q)
    (hRR : ∀ D C s' m H', Inv X pins σ H' s' → Q (.ref D) H' → s'.heap.Ns C m → FpOk X pins H' C → compPost (model X.prog X.w) X.A X.xe use Qf (.ref D) C (.ok .next) s') :
    wpAny (model X.prog X.w) X.A (comprehension (.ListComp elt [⟨tg, iter, ifs, 0⟩] scope pos) scope X.env pos' (newList []) false (eval iter X.env) use) Qf X.xe s := by
  have hfree : ∀ y ∈ scope.names, y.2 = .free → ∃ c, X.env.cells.lookup y.1 = some c := fun y hy e => by
    rcases ok.free y hy e with k | k
    · exact I.ok.has _ (.inl k)
    · exact I.ok.has _ (.inr k)
  refine wpAny_comprehension_free (use := use) rfl hs (closure_ok hfree) ok.kind (fun y hy e => by rw [ok.uniq y hy, e])
    (thn (hi pins s σ H _ I h) fun xv s1 hx => thn hx fun itv s2 h2 => ?_)
  obtain ⟨it, fp, tn, J, H2, e, I2, T, st2, f2, q⟩ := h2
  subst e
  refine wpAny_newObj_type (newEnv_comp ?_) (by show 0 ≤ sizeLine; decide)
  generalize hD : s2.heap.objs.size = D
  have hDn : H2 D = none := I2.hok.fresh (Nat.le_of_eq hD)
  obtain ⟨W, ⟨m0, w0⟩, turn⟩ := q D hDn
  -- the new list
  generalize hs3 : ({ s2 with heap := s2.heap.push { cls := .type "list", data := .seq ([] : List Value).toArray } } : Shared) = s3
  have I3 : Inv X pins σ (upd H2 D (.lst [])) s3 := by
    rw [← hs3]
    refine I2.laid (t' := s2.toks) (fun b o e => Heap.get?_push_of_some _ e) (Nat.le_of_eq hD) ⟨Nat.zero_le _, [], 0, .nil, ?_⟩
    rw [← hD]
    exact Heap.get?_push_size _ rfl
  have h3 : s3.heap = s2.heap.push { cls := .type "list", data := .seq ([] : List Value).toArray } := by rw [← hs3]
  have sz : ∀ b ∈ fp, b < s2.heap.objs.size := fun b hb => by
    obtain ⟨o, e, _⟩ := T.obj _ _ st2 b hb
    exact Heap.lt_size e
  have f3 : ∀ b ∈ fp, FpOk X pins (upd H2 D (.lst [])) b ∧ b < s3.heap.objs.size := fun b hb => by
    have hlt := sz b hb
    refine ⟨⟨?_, (f2 b hb).2⟩, by rw [h3, Heap.size_push]; exact Nat.lt_succ_of_lt hlt⟩
    rw [upd_ne (by rw [← hD]; exact Nat.ne_of_lt hlt)]
    exact (f2 b hb).1
  have st3 : tn 0 s3.heap := T.keep _ _ _ st2 fun b _ o e => by rw [h3]; exact Heap.get?_push_of_some _ e
  have I4 := block_start I3 ok hN f3
  have pg := hg s3 (upd H2 D (.lst [])) s3.heap.objs.size (cellsFrom (s3.heap.objs.size + 1) scope.names (cloFrom X.env.cells scope.names [])) fp
  have pt := ht s3 (upd H2 D (.lst [])) s3.heap.objs.size (cellsFrom (s3.heap.objs.size + 1) scope.names (cloFrom X.env.cells scope.names [])) fp
  have pe := he s3 (upd H2 D (.lst [])) s3.heap.objs.size (cellsFrom (s3.heap.objs.size + 1) scope.names (cloFrom X.env.cells scope.names [])) fp
  show codeAny _ _ (.compStart (.ListComp elt [⟨tg, iter, ifs, 0⟩] scope pos) 0 (.ref it) (.ref D) (compEnvC scope (cellsFrom (s3.heap.objs.size + 1) scope.names (cloFrom X.env.cells scope.names [])) s3.heap.objs.size X.env)) (compPost (model X.prog X.w) X.A X.xe use Qf (.ref D) s3.heap.objs.size) { s3 with heap := pushCells (s3.heap.push { cls := .type "dict", data := .dict #[] }) scope.names }
  have nfp : ∀ b ∈ fp, (upd H2 D (.lst [])) b = none := fun b hb => (f3 b hb).1.1
  generalize hce : compEnvC scope (cellsFrom (s3.heap.objs.size + 1) scope.names (cloFrom X.env.cells scope.names [])) s3.heap.objs.size X.env = ce at I4 pg pt pe ⊢
  have cL : ce.locals = s3.heap.objs.size := by subst hce; rfl
  generalize hH3 : upd H2 D (.lst []) = H3 at I3 I4 pg pt pe w0 nfp f3
  generalize hs4 : ({ s3 with heap := pushCells (s3.heap.push { cls := .type "dict", data := .dict #[] }) scope.names } : Shared) = s4 at I4 ⊢
  have st4 : tn 0 s4.heap := T.keep _ _ _ st3 fun b _ o e => by rw [← hs4]; exact pushCells_keeps _ _ _ _ (Heap.get?_push_of_some _ e)
  have stat : ∀ {σ' : St} {H' : Hp} {s' : Shared}, Inv (X.blk s3 H3 scope ce fp) [] σ' H' s' → (∀ b ∈ fp, H' b = none) → ∀ b ∈ fp, FpOk (X.blk s3 H3 scope ce fp) [] H' b := fun {σ' H' s'} I' hn b hb =>
    ⟨hn b hb, (I'.ok.exf b hb).1, I'.ok.exfs b hb, .inl hb, fun x c e => (I'.ok.exf b hb).2 x c e, fun p hp => absurd (show p ∈ ([] : List (Addr × Obj)) ++ [] from hp) (by simp)⟩
  have loop : codeAny (model X.prog X.w) X.A (.compLoop (.ListComp elt [⟨tg, iter, ifs, 0⟩] scope pos) 0 (.ref it) (.ref D) ce) (compPost (model X.prog X.w) X.A X.xe use Qf (.ref D) s3.heap.objs.size) s4 := by
    refine compLoop_any (fun n s' => ∃ i H', Inv (X.blk s3 H3 scope ce fp) [] (wipe σ (own.map (·.2))) H' s' ∧ tn i s'.heap ∧ (∀ b ∈ fp, H' b = none) ∧ W i n H') ?_ m0 ⟨0, H3, I4, st4, nfp, w0⟩
    rintro n s5 ⟨i, H5, I5, st5, n5, w5⟩
    rcases turn i n H5 w5 with ⟨stop, qq⟩ | ⟨go, Nx, hNx, step⟩
    · have td := T.done (X.blk s3 H3 scope ce fp) rfl rfl rfl hc i [] s5 _ H5 (fun _ _ => False) I5 (stat I5 n5) st5 stop
      refine thnF td fun r s6 ⟨hr, I6⟩ => ?_
      subst hr
      -- back in the def's context
      have I7 : Inv X pins σ H5 s6 := I3.call' (ch := fp) I6.os I6.base I6.hok I6.bare fun b hb => ⟨(f3 b hb).1.2.2.2.1, (f3 b hb).1.2.1, (f3 b hb).1.2.2.2.2.1, (f3 b hb).1.2.2.2.2.2⟩
      have nC : H5 s3.heap.objs.size = none := by
        have z : H5 ce.locals = none := I6.free
        rw [cL] at z
        exact z
      obtain ⟨m, hn, _⟩ := I6.loc
      have hn : s6.heap.Ns ce.locals m := hn
      rw [cL] at hn
      exact hRR D s3.heap.objs.size s6 m H5 I7 qq hn (I3.fpOk (Nat.le_refl _) nC)
    · have ti := T.item (X.blk s3 H3 scope ce fp) rfl rfl rfl hc i [] s5 _ H5 (fun _ _ => False) I5 (stat I5 n5) st5 go
      refine thnF ti fun r s6 ⟨u, hr, h6⟩ => ?_
      subst hr
      refine thnF h6 fun _ s7 ⟨x, H7, I7, r7, y7, st7, n7⟩ => ?_
      have I7' := I7.pinned (stat I7 n7) (T.obj _ _ st7)
      refine thnF (pg _ s7 _ H7 x u _ I7' r7 (step x H7 y7)) fun _ s8 ⟨σ8, H8, I8, hw8, q8⟩ => ?_
      refine thnF (pt _ s8 σ8 H8 _ I8 q8) fun b s9 ⟨H9, I9, q9⟩ => ?_
      -- the turn's end
      have fin : ∀ {s' : Shared} {H' : Hp}, Inv (X.blk s3 H3 scope ce fp) ([] ++ pinsAt fp s7.heap) σ8 H' s' → Nx H' → ∃ m, m < n ∧ ∃ i H', Inv (X.blk s3 H3 scope ce fp) [] (wipe σ (own.map (·.2))) H' s' ∧ tn i s'.heap ∧ (∀ b ∈ fp, H' b = none) ∧ W i m H' := fun {s' H'} I' nx => by
        obtain ⟨m', hm, w'⟩ := hNx H' nx
        have pin' : ∀ b ∈ fp, ∀ o, s7.heap.get? b = some o → s'.heap.get? b = some o ∧ H' b = none := fun b hb o e =>
          let z := I'.pin (b, o) (List.mem_append_right _ (List.mem_append_right _ (mem_pinsAt hb e)))
          ⟨z.1, z.2.1⟩
        have hl : (wipe σ (own.map (·.2))).length = σ8.length := by rw [← hw8, wipe_length]
        refine ⟨m', hm, i + 1, H', (I'.unpinned (pins := [])).weak hl (fun j v e => ?_), T.keep _ _ _ st7 fun b hb o e => (pin' b hb o e).1, fun b hb => ?_, w'⟩
        · rw [← hw8] at e
          exact (wipe_some e).1
        · obtain ⟨o, e, _⟩ := T.obj _ _ st7 b hb
          exact (pin' b hb o e).2
      cases b with
      | false =>
        simp only [Bool.false_eq_true, if_false] at q9 ⊢
        exact fin I9 q9
      | true =>
        simp only [if_true] at q9 ⊢
        refine thnF (pe _ s9 σ8 H9 _ I9 q9) fun z s10 ⟨yv, H10, I10, r10, acc, hD10, hz10, nx⟩ => ?_
        exact app_ok (X := X.blk s3 H3 scope ce fp) I10 hD10 hz10 r10 fun s11 I11 => fin I11 nx
  exact codeAny_compStart_list loop (T.self X.A 0 _ _ _ st4 loop)
theorem pe_lc {elt tg iter : Expr} {ifs : List Expr} {scope : Scope} {own : List (Str × Nat)} {pos : Pos} {wi : TI} {g : TG} {tt : TT} {te : TE} (hc : X.calm = true) (hN : X.N.Nodup) (hi : PI X tg iter wi) (ok : BlkOk X.N X.env.scope scope own)
    (hg : ∀ (s : Shared) (H : Hp) (C : Addr) (cl : List (Str × Addr)) (fp : List Addr), PG (X.blk s H scope (compEnvC scope cl C X.env) fp) tg g) (ht : ∀ (s : Shared) (H : Hp) (C : Addr) (cl : List (Str × Addr)) (fp : List Addr), PTs (X.blk s H scope (compEnvC scope cl C X.env) fp) ifs tt)
    (he : ∀ (s : Shared) (H : Hp) (C : Addr) (cl : List (Str × Addr)) (fp : List Addr), PE (X.blk s H scope (compEnvC scope cl C X.env) fp) elt te) (hs : ∀ x, foldedSetIterable iter X.env x = pure x := by intro _; rfl) :
    PE X (.ListComp elt [⟨tg, iter, ifs, 0⟩] scope pos) (tLc wi g tt te (own.map (·.2))) := by
  intro pins s σ H Q I h
  rw [eval_ListComp]
  refine lc_core hc hN I hi ok hg ht he hs h fun D C s' m H' I' q hn f => ⟨m, hn, fun h'' sb => ?_⟩
  obtain ⟨f0, f1, f2, f3, f4, f5⟩ := f
  exact ⟨.ref D, H', I'.turned (t' := s'.toks) (fun b o hb e => (sb.2 b hb).trans e) f0 f1 f3 f4 f5, rfl, q⟩
end
theorem lc_range {lo : Int} {n : Nat} {g : TG} {tt : TT} {te : TE} {vs : List Nat} {σ : St} {H1 : Hp} {D : Addr} {Qd : Hp → Prop} (Pv : Nat → Hp → Prop) (h0 : Pv 0 (upd H1 D (.lst [])))
    (hs : ∀ i H, i < n → Pv i H → g (.int (lo + i)) (wipe σ vs) H fun σ2 H2 => wipe σ2 vs = wipe σ vs ∧ tt σ2 H2 fun b H3 =>
      if b = true then te σ2 H3 fun y H4 => ∃ acc, H4 D = some (.lst acc) ∧ acc.length < sizeLine ∧ Pv (i + 1) (upd H4 D (.lst (acc ++ [y]))) else Pv (i + 1) H3) (hd : ∀ H, Pv n H → Qd H) :
    ∃ W : Nat → Nat → Hp → Prop, (∃ m, W 0 m (upd H1 D (.lst []))) ∧ ∀ i m H, W i m H →
      ((Itr lo n).stop i H ∧ Qd H) ∨ ((Itr lo n).go i H ∧ ∃ Nx : Hp → Prop, (∀ H', Nx H' → ∃ m', m' < m ∧ W (i + 1) m' H') ∧ ∀ x H', (Itr lo n).yld i H x H' → g x (wipe σ vs) H' fun σ2 H2 => wipe σ2 vs = wipe σ vs ∧ tt σ2 H2 fun b H3 =>
        if b = true then te σ2 H3 fun y H4 => ∃ acc, H4 D = some (.lst acc) ∧ acc.length < sizeLine ∧ Nx (upd H4 D (.lst (acc ++ [y]))) else Nx H3) := by
  refine ⟨fun i m H => m = n - i ∧ i ≤ n ∧ Pv i H, ⟨n, by simp, Nat.zero_le _, h0⟩, ?_⟩
  rintro i m H ⟨rfl, hi, p⟩
  by_cases hlt : i < n
  · refine .inr ⟨hlt, Pv (i + 1), fun H' p' => ⟨n - (i + 1), by omega, rfl, hlt, p'⟩, fun x H' y => ?_⟩
    obtain ⟨e, y⟩ := y
    subst e y
    exact hs i _ hlt p
  · have e : i = n := by omega
    subst e
    exact .inl ⟨Nat.le_refl _, hd H p⟩
theorem lc_list {K : PySem.W.Frag} {a : Addr} {xs : List V} {g : TG} {tt : TT} {te : TE} {vs : List Nat} {σ : St} {H1 : Hp} {D : Addr} {Qd : Hp → Prop} (Pv : Nat → Hp → Prop) (h0 : Pv 0 (upd H1 D (.lst []))) (hl : ∀ i H, i ≤ xs.length → Pv i H → SqL K H a xs)
    (hs : ∀ i x H, xs[i]? = some x → Pv i H → g x (wipe σ vs) H fun σ2 H2 => wipe σ2 vs = wipe σ vs ∧ tt σ2 H2 fun b H3 =>
      if b = true then te σ2 H3 fun y H4 => ∃ acc, H4 D = some (.lst acc) ∧ acc.length < sizeLine ∧ Pv (i + 1) (upd H4 D (.lst (acc ++ [y]))) else Pv (i + 1) H3) (hd : ∀ H, Pv xs.length H → Qd H) :
    ∃ W : Nat → Nat → Hp → Prop, (∃ m, W 0 m (upd H1 D (.lst []))) ∧ ∀ i m H, W i m H →
      ((Itl K a).stop i H ∧ Qd H) ∨ ((Itl K a).go i H ∧ ∃ Nx : Hp → Prop, (∀ H', Nx H' → ∃ m', m' < m ∧ W (i + 1) m' H') ∧ ∀ x H', (Itl K a).yld i H x H' → g x (wipe σ vs) H' fun σ2 H2 => wipe σ2 vs = wipe σ vs ∧ tt σ2 H2 fun b H3 =>
        if b = true then te σ2 H3 fun y H4 => ∃ acc, H4 D = some (.lst acc) ∧ acc.length < sizeLine ∧ Nx (upd H4 D (.lst (acc ++ [y]))) else Nx H3) := by
  refine ⟨fun i m H => m = xs.length - i ∧ i ≤ xs.length ∧ Pv i H, ⟨xs.length, by simp, Nat.zero_le _, h0⟩, ?_⟩
  rintro i m H ⟨rfl, hi, p⟩
  have q := hl i H hi p
  by_cases hlt : i < xs.length
  · refine .inr ⟨⟨xs, xs[i], q, by simp [hlt]⟩, Pv (i + 1), fun H' p' => ⟨xs.length - (i + 1), by omega, rfl, hlt, p'⟩, fun x H' y => ?_⟩
    obtain ⟨e, y⟩ := y
    subst e
    exact hs i x _ (y xs q) p
  · have e : i = xs.length := by omega
    subst e
    exact .inl ⟨⟨xs, q, Nat.le_refl _⟩, hd H p⟩
def blkC (N : List Str) (sc scope : Scope) (own : List (Str × Nat)) : Bool :=
  (match scope.kind with | .function => true | _ => false) && (scope.names.all fun y => decide (scope.names.lookup y.1 = some y.2)) && (own.all fun p => decide (N[p.2]? = some p.1)) &&
    (scope.names.all fun y => match y.2 with
      | .free => (match sc.names.lookup y.1 with | some .cell => true | some .free => true | _ => false)
      | .local => decide (y.1 ∈ own.map (·.1)) || decide (y.1 ∉ N)
      | .cell => decide (y.1 ∈ own.map (·.1)) || decide (y.1 ∉ N)
      | _ => true)
theorem blkOk_by {N : List Str} {sc scope : Scope} {own : List (Str × Nat)} (h : blkC N sc scope own = true) : BlkOk N sc scope own := by
  unfold blkC at h
  simp only [Bool.and_eq_true, List.all_eq_true, decide_eq_true_eq] at h
  obtain ⟨⟨⟨h1, h2⟩, h3⟩, h4⟩ := h
  refine ⟨?_, h2, h3, fun y hy e => ?_, fun y hy e => ?_⟩
  · split at h1
    · assumption
    · cases h1
  · have q := h4 y hy
    simp only [e] at q
    split at q <;> first | exact .inl (by assumption) | exact .inr (by assumption) | cases q
  · have q := h4 y hy
    rcases e with e | e <;> (simp only [e, Bool.or_eq_true, decide_eq_true_eq] at q; exact q)
end L2
namespace L2
open PySem PySem.Spec PyProof.Rows
section
variable {prog : Program} {w : World} {A : Around} {R : Result → Shared → Prop} {s : Shared} {elt t0 i0 t1 i1 : Expr} {ifs0 ifs1 : List Expr} {scope : Scope} {pos : Pos} {it acc : Value} {env : Env}
end
section
variable {X : Cx}
end
end L2
namespace L2
open PySem PySem.Spec PyProof.Rows
section
variable {κ : Type} [DecidableEq κ]
end
section
variable {P : Program} {w : World} {H : Hp} {h : Heap} {a : Addr}
end
section
variable {X : Cx} {pins : List (Addr × Obj)} {σ : St} {H : Hp} {s : Shared} {a : Addr} {y v : V} {u r : Value} {o : Option V} {A : Around} {E : Value → Shared → Prop}
end
section
variable {X : Cx} {pins : List (Addr × Obj)} {σ : St} {H : Hp} {s : Shared} {a : Addr} {kvs : List (Key × V)} {k : Key} {u : Value} {A : Around} {E : Value → Shared → Prop}
end
section
variable {X : Cx} {o i e value : Expr} {pos pos' tpos : Pos} {td ty tv : TE}
end
section
variable {X : Cx} {pos : Pos}
end
section
variable {X : Cx} {pins : List (Addr × Obj)} {σ : St} {H : Hp} {s : Shared} {a : Addr} {y d : V} {u r : Value} {o : Option V} {A : Around} {E : Value → Shared → Prop}
end
section
variable {X : Cx} {o e f : Expr} {apos cpos : Pos} {td ty tx : TE}
end
section
variable {X : Cx} {pins : List (Addr × Obj)} {σ : St} {H : Hp} {s : Shared} {a : Addr} {kvs : List (Key × V)} {A : Around} {E : Value → Shared → Prop}
end
section
variable {X : Cx} {pins : List (Addr × Obj)} {σ : St} {H : Hp} {s : Shared} {a : Addr} {y : V} {u : Value} {A : Around} {E : Value → Shared → Prop}
end
end L2
namespace L2
open PySem PySem.Spec PyProof.Rows
section
variable {prog : Program} {w : World} {A : Around} {E : Value → Shared → Prop}
end
section
variable {X : Cx}
end
end L2
namespace L2
open PySem PySem.Spec PyProof.Rows
section
variable {X : Cx} {pins : List (Addr × Obj)} {σ : St} {H : Hp} {s : Shared} {h' : Heap}
end
section
variable {X : Cx}
end
section
variable {X : Cx} {tg : Expr}
end
section
variable {X : Cx} {tg : Expr}
end
section
variable {prog : Program} {w : World} {A : Around} {E : Value → Shared → Prop} {s : Shared}
end
section
variable {X : Cx} {pins : List (Addr × Obj)} {σ : St} {H : Hp} {s : Shared} {d : Addr} {o : Obj}
end
section
variable {P : Program} {w : World} {K : PySem.W.Frag} {tg : Expr} {d : Addr} {o : Obj} {es : Array DictEntry} {ep : Nat}
end
section
variable {X : Cx} {tg e : Expr} {td : TE} {apos cpos : Pos}
end
end L2
section 
namespace Bits
open PySem PyProof.Rows
end Bits
end 
section 
namespace TL
open PySem PySem.Builtin PySem.Builtin.Str PySem.StrLaws
end TL
end 
namespace L2
open PySem PySem.Spec PyProof.Rows
section
variable {X : Cx} {pins : List (Addr × Obj)} {σ : St} {H : Hp} {s : Shared} {Q : VK}
end
section
variable {X : Cx}
end
section
variable {X : Cx} {o e : Expr} {to te : TE}
end
end L2
namespace L2
open PySem PySem.Spec PyProof.Rows
section
variable {X : Cx}
end
end L2
namespace Att
open PySem PySem.W PySem.Calls PyProof.Rows
section
variable {prog : Program} {w : World} {A : Around} {E : Value → Shared → Prop} {s : Shared} {K : Frag}
end
end Att
namespace L2
open PySem PySem.Spec PyProof.Rows
end L2
namespace L2
open PySem PySem.Spec PyProof.Rows
abbrev KOf {K : PySem.W.Frag} {h : Heap} (_ : K.In h) : PySem.W.Frag := K
end L2
namespace L2
open PySem PySem.Spec PyProof.Rows
def inClass (s : Stmt) (j : Nat) : Stmt := match s with
  | .ClassDef _ _ _ body _ _ _ _ _ _ _ => body.getD j (.Pass ⟨0, 0, 0, 0⟩)
  | _ => .Pass ⟨0, 0, 0, 0⟩
def defArgs (s : Stmt) : Arguments := match s with
  | .FunctionDef _ a _ _ _ _ _ _ _ _ => a
  | _ => { posonlyargs := [], args := [], vararg := none, kwonlyargs := [], kw_defaults := [], kwarg := none, defaults := [] }
def defBody (s : Stmt) : List Stmt := match s with
  | .FunctionDef _ _ b _ _ _ _ _ _ _ => b
  | _ => []
def defScope (s : Stmt) : Scope := match s with
  | .FunctionDef _ _ _ _ _ _ sc _ _ _ => sc
  | _ => { kind := .function, names := [], isGenerator := false, isCoroutine := false }
abbrev CX0 : CXT := fun _ _ _ _ _ _ => False
abbrev E0 : XK := fun _ _ _ => False
theorem pass0 {X : Cx} : Passes CX0 X E0 := fun _ _ _ _ _ _ _ h => h.elim
structure Fun (K : PySem.W.Frag) (x qual : Str) (st : Stmt) (f : Addr) (fd : FuncData) : Prop where
  ex : ∃ (oc : Value) (od : Option Addr) (kV doc pm : Value) (an : Option Addr) (cdv ct : Value) (osl : Array (Option Value)),
    fd = PySem.W.fnOf x qual (defArgs st) (defBody st) (defScope st) .none kV doc pm an cdv ct ∧ K.lookup f = some ⟨oc, od, .func fd, osl⟩ ∧ PySem.W.codeIn K cdv qual = true
  kp : PySem.W.keepIn K (.ref f) = true
section
variable {P : Program} {w : World} {K : PySem.W.Frag} {mg : Str → Option Value} {base : Heap}
theorem Fun.ok {x qual : Str} {st : Stmt} {f : Addr} {fd : FuncData} {N ps : List Str} {k : Nat} {sp : Sp} (F : Fun K x qual st f fd) (S : FnScope N ps (defScope st)) (len : ∀ vs H Q E, sp vs H Q E → vs.length = ps.length)
    (hbody : ∀ (cdv : Value) (A : Around) (outer : List Env) (s : Shared) (H : Hp) (vs : List V) (Q : VK) (E : XK), Room k (A.deeper (envOfC qual (defScope st) s.heap.objs.size f cdv)) → sp vs H Q E →
      ∃ t, PSs (cxOf CX0 P w K mg base N qual (defScope st) f cdv A outer s H E).nox (defBody st) t ∧ t { nx := fun _ H' => Q .non H', rt := Q } (start N vs) H) : FnOk P w K mg base CX0 (k + 1) f fd ps sp := by
  obtain ⟨oc, od, kV, doc, pm, an, cdv, ct, osl, rfl, lk, hcd⟩ := F.ex
  refine fn_of lk hcd S len fun A outer s H vs Q E hr hsp => ?_
  obtain ⟨t, h, q⟩ := hbody cdv A outer s H vs Q E hr hsp
  exact ⟨t, h.nox, q⟩
theorem Fun.binds {x qual : Str} {st : Stmt} {f : Addr} {fd : FuncData} {ps : List Str} (F : Fun K x qual st f fd)
    (h : ∀ (kV doc pm : Value) (an : Option Addr) (cdv ct : Value) (us : List Value), us.length = ps.length → bindArgs (PySem.W.fnOf x qual (defArgs st) (defBody st) (defScope st) .none kV doc pm an cdv ct) ⟨us, []⟩ = pure (ps.zip us)) : Binds K fd ps [] := by
  obtain ⟨oc, od, kV, doc, pm, an, cdv, ct, osl, rfl, lk, hcd⟩ := F.ex
  exact .all (h kV doc pm an cdv ct)
theorem fun_mk {x qual : Str} {st : Stmt} {f : Addr} {oc : Value} {od an : Option Addr} {osl : Array (Option Value)} {kV doc pm cdv ct : Value} (l : K.lookup f = some ⟨oc, od, .func (PySem.W.fnOf x qual (defArgs st) (defBody st) (defScope st) .none kV doc pm an cdv ct), osl⟩)
    (c : PySem.W.codeIn K cdv qual = true) (k : PySem.W.keepIn K (.ref f) = true) : Fun K x qual st f (PySem.W.fnOf x qual (defArgs st) (defBody st) (defScope st) .none kV doc pm an cdv ct) := ⟨⟨oc, od, kV, doc, pm, an, cdv, ct, osl, rfl, l, c⟩, k⟩
end
theorem small1000 {n : Nat} (h : n ≤ 1000) : n < sizeLine := Nat.lt_of_le_of_lt h (by decide)
section
variable {X : Cx}
theorem pv (i : Nat) {x : Str} {pos : Pos} (hN : X.N[i]? = some x := by rfl) (hv : Vis X.env.scope x := by first | exact Or.inl rfl | exact Or.inr (Or.inl rfl) | exact Or.inr (Or.inr rfl)) (hd : (x == ("__debug__" : Str)) = false := by decide)
    (hcd : (x == ("__classdict__" : Str)) = false := by decide) : PE X (.Name x pos) (tVar i) := pe_var hN hv hd hcd
end
theorem iteF {A B : Prop} (h : B) : if false = true then A else B := by
  rw [if_neg Bool.false_ne_true]
  exact h
theorem iteT {A B : Prop} (h : A) : if true = true then A else B := by
  rw [if_pos rfl]
  exact h
theorem ite2 {c A B : Prop} [Decidable c] (h1 : c → A) (h2 : ¬ c → B) : if c then A else B := by
  by_cases h : c
  · rw [if_pos h]
    exact h1 h
  · rw [if_neg h]
    exact h2 h
def Same (H H' : Hp) : Prop := ∀ b o, H b = some o → H' b = some o
theorem Same.refl (H : Hp) : Same H H := fun _ _ h => h
theorem Same.trans {H H1 H2 : Hp} (a : Same H H1) (b : Same H1 H2) : Same H H2 := fun c o h => b c o (a c o h)
theorem Same.free {H H' : Hp} (e : Same H H') {l : Addr} (h : H' l = Option.none) : H l = Option.none := by
  cases q : H l with
  | none => rfl
  | some o =>
    rw [e l o q] at h
    cases h
theorem Same.seq {K : PySem.W.Frag} {H H' : Hp} {a : Addr} {xs : List V} (e : Same H H') (h : SqL K H a xs) : SqL K H' a xs := by
  rcases h with (h | ⟨o, h⟩) | h
  · exact .inl (.inl (e _ _ h))
  · exact .inl (.inr ⟨o, e _ _ h⟩)
  · exact .inr h
section
variable {κ : Type} [DecidableEq κ]
end
theorem at_of {xs : List V} {z : Int} {j : Nat} {v : V} (e : z = (j : Int)) (h : xs[j]? = some v) : atI xs z = some v := by
  rw [e]
  exact atI_nat h
theorem Same.made {H H1 : Hp} {x dx C : Addr} (nx : H x = Option.none) (nd : H dx = Option.none) (k : ∀ b o, (upd (upd H dx (.own x)) x (.ins C dx [])) b = some o → b ≠ x → H1 b = some o) : Same H H1 := fun b o e =>
  k b o (by rw [upd_ne (ne_of_none e nx), upd_ne (ne_of_none e nd)]; exact e) (ne_of_none e nx)
end L2
section
set_option Elab.async false
set_option linter.all false
set_option maxRecDepth 100000
set_option maxHeartbeats 2000000
namespace L2
open PySem PySem.Spec PyProof.Rows
open PySem.W (WData Codec OpenSpec Well WellAll ReadsW ReadsAllW)
mutual
inductive Dw (K : PySem.W.Frag) (H : Hp) : V → WData → Prop
  | non : Dw K H .non .none
  | bl (b : Bool) : Dw K H (.bl b) (.bool b)
  | int (i : Int) : Dw K H (.int i) (.int i)
  | str (x : Str) : Dw K H (.str x) (.str x)
  | byt (b : Array UInt8) : Dw K H (.byt b) (.bytes b.toList)
  | lst {a : Addr} {xs : List V} {ds : List WData} : SqL K H a xs → DwAll K H xs ds → Dw K H (.ref a) (.list ds)
  | tup {a : Addr} {xs : List V} {ds : List WData} : SqT K H a xs → DwAll K H xs ds → Dw K H (.ref a) (.tuple ds)
inductive DwAll (K : PySem.W.Frag) (H : Hp) : List V → List WData → Prop
  | nil : DwAll K H [] []
  | cons {v : V} {vs : List V} {d : WData} {ds : List WData} : Dw K H v d → DwAll K H vs ds → DwAll K H (v :: vs) (d :: ds)
end
theorem dw_ints {K : PySem.W.Frag} {H : Hp} : ∀ ns : List Int, DwAll K H (ns.map V.int) (ns.map WData.int)
  | [] => .nil
  | n :: r => .cons (.int n) (dw_ints r)
theorem ints_dw {K : PySem.W.Frag} {H : Hp} : ∀ (ns : List Int) (xs : List V), DwAll K H xs (ns.map WData.int) → xs = ns.map V.int
  | [], xs, h => by
    cases h
    rfl
  | n :: r, xs, h => by
    cases h with
    | cons h1 h2 =>
      cases h1
      rw [ints_dw r _ h2] <;> rfl
section
variable {P : Program} {w : World} {K : PySem.W.Frag} {H : Hp} {h : Heap} {R : PySem.W.WRecords} {cl : Str → Option Addr}
theorem sqL_at {a : Addr} {xs : List V} (hok : HOk P w H h) (KX : K.In h) (q : SqL K H a xs) : ∃ (its : List Value) (o : Obj) (n : Nat), Vals xs its ∧ h.get? a = some o ∧ o.cls = .type "list" ∧ o.data = .seq its.toArray n := by
  rcases q with q | ⟨o, its, n, e, hc, _, hd, _, hv⟩
  · obtain ⟨_, its, n, hv, e⟩ := (show ObjOk P w H h a (.lst xs) from q.ok hok)
    exact ⟨its, _, n, hv, e, rfl, rfl⟩
  · exact ⟨its.toList, o, n, hv, KX _ _ e, hc, by simp [hd]⟩
theorem sqT_at {a : Addr} {xs : List V} (hok : HOk P w H h) (KX : K.In h) (q : SqT K H a xs) : ∃ (its : List Value) (o : Obj) (n : Nat), Vals xs its ∧ h.get? a = some o ∧ o.cls = .type "tuple" ∧ o.data = .seq its.toArray n := by
  rcases q with q | ⟨o, its, n, e, hc, hd, _, hv⟩
  · obtain ⟨_, its, hv, o, e, hc, n, hd⟩ := (show ObjOk P w H h a (.tup xs) from q.ok hok)
    exact ⟨its, o, n, hv, e, hc, hd⟩
  · exact ⟨its.toList, o, n, hv, KX _ _ e, hc, by simp [hd]⟩
mutual
theorem Dw.reads (hok : HOk P w H h) (KX : K.In h) : ∀ (d : WData) (v : V) (u : Value), Dw K H v d → RelV v u → ∃ as, ReadsW R cl h u d as
  | .none, _, _, x, r => by
    cases x
    cases r
    exact ⟨_, ReadsW.none⟩
  | .bool b, _, _, x, r => by
    cases x
    cases r
    exact ⟨_, ReadsW.bool b⟩
  | .int i, _, _, x, r => by
    cases x
    obtain ⟨t, rfl⟩ := r
    exact ⟨_, ReadsW.int i t⟩
  | .str s, _, _, x, r => by
    cases x
    obtain ⟨t, rfl⟩ := r
    exact ⟨_, ReadsW.str s t⟩
  | .bytes b, _, _, x, r => by
    cases x
    obtain ⟨t, rfl⟩ := r
    exact ⟨_, ReadsW.bytes _ t⟩
  | .list ds, _, _, x, r => by
    cases x with
    | lst hs ha =>
      cases r
      obtain ⟨its, o, n, rv, ho, hc, hd⟩ := sqL_at hok KX hs
      obtain ⟨as, hr⟩ := Dw.readsAll hok KX ds _ its ha rv
      exact ⟨_, ReadsW.list ho hc hd hr⟩
  | .tuple ds, _, _, x, r => by
    cases x with
    | tup hs ha =>
      cases r
      obtain ⟨its, o, n, rv, ho, hc, hd⟩ := sqT_at hok KX hs
      obtain ⟨as, hr⟩ := Dw.readsAll hok KX ds _ its ha rv
      exact ⟨_, ReadsW.tuple ho hc hd hr⟩
  | .float _, _, _, x, _ => by cases x
  | .dict _, _, _, x, _ => by cases x
  | .bytearray _, _, _, x, _ => by cases x
  | .set _, _, _, x, _ => by cases x
  | .frozenset _, _, _, x, _ => by cases x
  | .obj _ _, _, _, x, _ => by cases x
theorem Dw.readsAll (hok : HOk P w H h) (KX : K.In h) : ∀ (ds : List WData) (vs : List V) (us : List Value), DwAll K H vs ds → Vals vs us → ∃ as, ReadsAllW R cl h us ds as
  | [], _, _, x, r => by
    cases x
    cases r
    exact ⟨_, ReadsAllW.nil⟩
  | d :: ds, _, _, x, r => by
    cases x with
    | cons h1 h2 =>
      cases r with
      | cons r1 r2 =>
        obtain ⟨as, q1⟩ := Dw.reads hok KX d _ _ h1 r1
        obtain ⟨bs, q2⟩ := Dw.readsAll hok KX ds _ _ h2 r2
        exact ⟨_, ReadsAllW.cons q1 q2⟩
end
end
mutual
def plW : WData → Bool
  | .none => true
  | .bool _ => true
  | .int _ => true
  | .str _ => true
  | .bytes _ => true
  | .list xs => plWs xs
  | .tuple xs => plWs xs
  | _ => false
def plWs : List WData → Bool
  | [] => true
  | x :: r => plW x && plWs r
end
theorem plWs_map {α : Type} {f : α → WData} (h : ∀ a, plW (f a) = true) : ∀ l : List α, plWs (l.map f) = true
  | [] => rfl
  | x :: r => by
    show (plW (f x) && plWs (r.map f)) = true
    rw [h x, plWs_map h r] <;> rfl
theorem pl_enc : ∀ (c : Codec) (a : c.denote), plW (c.enc a) = true
  | .unit, _ => rfl
  | .bool, _ => rfl
  | .int _ _, _ => rfl
  | .nat _ _, _ => rfl
  | .u8, _ => rfl
  | .bytes _ _, _ => rfl
  | .text _ _ _ _, _ => rfl
  | .list _ _ c, a => plWs_map (fun x => pl_enc c x) a
  | .pair c d, a => by
    show (plW (c.enc a.1) && (plW (d.enc a.2) && true)) = true
    rw [pl_enc c a.1, pl_enc d a.2] <;> rfl
  | .triple c d e, a => by
    show (plW (c.enc a.1) && (plW (d.enc a.2.1) && (plW (e.enc a.2.2) && true))) = true
    rw [pl_enc c a.1, pl_enc d a.2.1, pl_enc e a.2.2] <;> rfl
  | .option c, none => rfl
  | .option c, some x => pl_enc c x
theorem pl_encAll : ∀ (cs : List Codec) (a : Codec.denoteAll cs), plWs (Codec.encAll cs a) = true
  | [], _ => rfl
  | c :: cs, a => by
    show (plW (c.enc a.1) && plWs (Codec.encAll cs a.2)) = true
    rw [pl_enc c a.1, pl_encAll cs a.2] <;> rfl
theorem weight_mem : ∀ {xs : List WData} {d : WData}, d ∈ xs → d.weight ≤ WData.weightAll xs
  | [], d, h => absurd h (by simp)
  | x :: r, d, h => by
    show d.weight ≤ x.weight + 1 + WData.weightAll r
    rcases List.mem_cons.mp h with e | m
    · rw [e]
      omega
    · have z := weight_mem m
      omega
def toV : Value → V
  | .none => .non
  | .bool b => .bl b
  | .int i _ => .int i
  | .str x _ => .str x
  | .bytes b _ => .byt b
  | .ref a => .ref a
  | _ => .non
def OkU (A : List Addr) : Value → Prop
  | .none => True
  | .bool _ => True
  | .int _ _ => True
  | .str _ _ => True
  | .bytes _ _ => True
  | .ref a => a ∈ A
  | _ => False
theorem OkU.mono {A B : List Addr} (h : ∀ a ∈ A, a ∈ B) : ∀ {u : Value}, OkU A u → OkU B u := fun {u} x => by
  cases u with
  | ref a => exact h a x
  | none => trivial
  | bool b => trivial
  | int i t => trivial
  | str s t => trivial
  | bytes b t => trivial
  | _ => exact False.elim x
theorem relV_toV {A : List Addr} {u : Value} (x : OkU A u) : RelV (toV u) u := by
  cases u with
  | ref a => rfl
  | none => rfl
  | bool b => rfl
  | int i t => exact ⟨t, rfl⟩
  | str s t => exact ⟨t, rfl⟩
  | bytes b t => exact ⟨t, rfl⟩
  | _ => exact False.elim x
theorem vals_toV {A : List Addr} : ∀ {vs : List Value}, (∀ u ∈ vs, OkU A u) → Vals (vs.map toV) vs
  | [], _ => .nil
  | u :: r, h => .cons (relV_toV (h u (List.mem_cons_self ..))) (vals_toV fun x hx => h x (List.mem_cons_of_mem _ hx))
def ArgOb (h : Heap) (A : List Addr) (a : Addr) : Prop := ∃ vs : List Value, vs.length ≤ sizeLine ∧ (∀ u ∈ vs, OkU A u) ∧
  (h.get? a = some { cls := .type "list", data := .seq vs.toArray } ∨ h.get? a = some { cls := .type "tuple", data := .seq vs.toArray })
theorem ArgOb.mono {h : Heap} {A B : List Addr} {a : Addr} (k : ∀ a ∈ A, a ∈ B) (x : ArgOb h A a) : ArgOb h B a := by
  obtain ⟨vs, h1, h2, h3⟩ := x
  exact ⟨vs, h1, fun u hu => (h2 u hu).mono k, h3⟩
theorem wellAll_len {P : Params} {h : Heap} : ∀ {vs : List Value} {ds : List WData}, WellAll P h vs ds → vs.length = ds.length
  | _, _, .nil => rfl
  | _, _, .cons _ b => by
    show _ + 1 = _ + 1
    rw [wellAll_len b]
theorem well_list {P : Params} {h : Heap} {v : Value} {ds : List WData} (x : Well P h v (.list ds)) : ∃ (a : Addr) (vs : List Value), v = .ref a ∧ h.get? a = some { cls := .type "list", data := .seq vs.toArray } ∧ WellAll P h vs ds := by
  cases x with
  | list ho hall => exact ⟨_, _, rfl, ho, hall⟩
theorem well_tuple {P : Params} {h : Heap} {v : Value} {ds : List WData} (x : Well P h v (.tuple ds)) : ∃ (a : Addr) (vs : List Value), v = .ref a ∧ h.get? a = some { cls := .type "tuple", data := .seq vs.toArray } ∧ WellAll P h vs ds := by
  cases x with
  | tuple ho hall => exact ⟨_, _, rfl, ho, hall⟩
theorem well_cons {P : Params} {h : Heap} {us : List Value} {d : WData} {ds : List WData} (x : WellAll P h us (d :: ds)) : ∃ (v : Value) (vs : List Value), us = v :: vs ∧ Well P h v d ∧ WellAll P h vs ds := by
  cases x with
  | cons a b => exact ⟨_, _, rfl, a, b⟩
theorem line_of {n : Nat} (h : n ≤ 1048576) : n ≤ sizeLine := Nat.le_trans h (by decide)
section
variable {P : Params} {h : Heap}
mutual
theorem area_one : ∀ (d : WData) (v : Value), Well P h v d → plW d = true → d.weight ≤ 1048576 → ∃ A : List Addr, OkU A v ∧ ∀ a ∈ A, ArgOb h A a
  | .none, _, x, _, _ => by
    cases x
    exact ⟨[], trivial, fun a m => absurd m (by simp)⟩
  | .bool b, _, x, _, _ => by
    cases x
    exact ⟨[], trivial, fun a m => absurd m (by simp)⟩
  | .int i, _, x, _, _ => by
    cases x
    exact ⟨[], trivial, fun a m => absurd m (by simp)⟩
  | .str s, _, x, _, _ => by
    cases x
    exact ⟨[], trivial, fun a m => absurd m (by simp)⟩
  | .bytes b, _, x, _, _ => by
    cases x
    exact ⟨[], trivial, fun a m => absurd m (by simp)⟩
  | .list ds, _, x, p, z => by
    obtain ⟨a, vs, rfl, ho, hall⟩ := well_list x
    have z2 : WData.weightAll ds ≤ 1048576 := z
    obtain ⟨A, h1, h2⟩ := area_all ds _ hall p fun d hd => Nat.le_trans (weight_mem hd) z2
    have k : ∀ b ∈ A, b ∈ a :: A := fun b hb => List.mem_cons_of_mem _ hb
    refine ⟨a :: A, List.mem_cons_self .., fun b hb => ?_⟩
    rcases List.mem_cons.mp hb with e | m
    · rw [e]
      exact ⟨vs, line_of (by rw [wellAll_len hall]; exact Nat.le_trans (PySem.W.length_le_weightAllW ds) z2), fun u hu => (h1 u hu).mono k, .inl ho⟩
    · exact (h2 b m).mono k
  | .tuple ds, _, x, p, z => by
    obtain ⟨a, vs, rfl, ho, hall⟩ := well_tuple x
    have z2 : WData.weightAll ds ≤ 1048576 := z
    obtain ⟨A, h1, h2⟩ := area_all ds _ hall p fun d hd => Nat.le_trans (weight_mem hd) z2
    have k : ∀ b ∈ A, b ∈ a :: A := fun b hb => List.mem_cons_of_mem _ hb
    refine ⟨a :: A, List.mem_cons_self .., fun b hb => ?_⟩
    rcases List.mem_cons.mp hb with e | m
    · rw [e]
      exact ⟨vs, line_of (by rw [wellAll_len hall]; exact Nat.le_trans (PySem.W.length_le_weightAllW ds) z2), fun u hu => (h1 u hu).mono k, .inr ho⟩
    · exact (h2 b m).mono k
  | .float _, _, _, p, _ => Bool.noConfusion (show false = true from p)
  | .dict _, _, _, p, _ => Bool.noConfusion (show false = true from p)
  | .bytearray _, _, _, p, _ => Bool.noConfusion (show false = true from p)
  | .set _, _, _, p, _ => Bool.noConfusion (show false = true from p)
  | .frozenset _, _, _, p, _ => Bool.noConfusion (show false = true from p)
  | .obj _ _, _, _, p, _ => Bool.noConfusion (show false = true from p)
theorem area_all : ∀ (ds : List WData) (vs : List Value), WellAll P h vs ds → plWs ds = true → (∀ d ∈ ds, d.weight ≤ 1048576) → ∃ A : List Addr, (∀ u ∈ vs, OkU A u) ∧ ∀ a ∈ A, ArgOb h A a
  | [], _, x, _, _ => by
    cases x
    exact ⟨[], fun u m => absurd m (by simp), fun a m => absurd m (by simp)⟩
  | d :: ds, _, x, p, z => by
    obtain ⟨v, vs, rfl, x1, x2⟩ := well_cons x
    have q : plW d = true ∧ plWs ds = true := Bool.and_eq_true_iff.mp p
    obtain ⟨A, a1, a2⟩ := area_one d v x1 q.1 (z d (List.mem_cons_self ..))
    obtain ⟨B, b1, b2⟩ := area_all ds vs x2 q.2 fun e he => z e (List.mem_cons_of_mem _ he)
    have kA : ∀ b ∈ A, b ∈ A ++ B := fun b hb => List.mem_append.mpr (.inl hb)
    have kB : ∀ b ∈ B, b ∈ A ++ B := fun b hb => List.mem_append.mpr (.inr hb)
    refine ⟨A ++ B, fun u hu => ?_, fun b hb => ?_⟩
    · rcases List.mem_cons.mp hu with e | m
      · rw [e]
        exact a1.mono kA
      · exact (b1 u m).mono kB
    · rcases List.mem_append.mp hb with m | m
      · exact (a2 b m).mono kA
      · exact (b2 b m).mono kB
end
end
def hoOf (o : Obj) : Option HO := match o.data with
  | .seq vs _ => if (o.cls == Value.type "list") = true then some (.frz o (.lst (vs.toList.map toV))) else some (.frz o (.tup (vs.toList.map toV)))
  | _ => none
def argH (K : PySem.W.Frag) (h : Heap) (A : List Addr) : Hp := fun b => if b ∈ A then (if (K.lookup b).isNone = true then (h.get? b).bind hoOf else none) else none
def OnlyF (H : Hp) : Prop := ∀ b, H b = none ∨ ∃ o u, H b = some (.frz o u)
theorem hoOf_lst (vs : List Value) : hoOf { cls := .type "list", data := .seq vs.toArray } = some (.frz { cls := .type "list", data := .seq vs.toArray } (.lst (vs.map toV))) := by
  show (if (Value.type "list" == Value.type "list") = true then some (HO.frz { cls := .type "list", data := .seq vs.toArray } (.lst (vs.toArray.toList.map toV))) else some (HO.frz { cls := .type "list", data := .seq vs.toArray } (.tup (vs.toArray.toList.map toV)))) = _
  rw [if_pos (beq_self_eq_true _)]
theorem hoOf_tup (vs : List Value) : hoOf { cls := .type "tuple", data := .seq vs.toArray } = some (.frz { cls := .type "tuple", data := .seq vs.toArray } (.tup (vs.map toV))) := by
  show (if (Value.type "tuple" == Value.type "list") = true then some (HO.frz { cls := .type "tuple", data := .seq vs.toArray } (.lst (vs.toArray.toList.map toV))) else some (HO.frz { cls := .type "tuple", data := .seq vs.toArray } (.tup (vs.toArray.toList.map toV)))) = _
  rw [if_neg (by decide)]
section
variable {P : Program} {w : World} {K : PySem.W.Frag} {h : Heap} {A : List Addr}
theorem argH_at {b : Addr} {o : Obj} (hb : b ∈ A) (hk : K.lookup b = none) (e : h.get? b = some o) : argH K h A b = hoOf o := by
  unfold argH
  rw [if_pos hb, hk, if_pos (show (none : Option Obj).isNone = true from rfl), e] <;> rfl
theorem of_argH {b : Addr} {u : HO} (q : argH K h A b = some u) : b ∈ A ∧ K.lookup b = none := by
  unfold argH at q
  by_cases hb : b ∈ A
  · rw [if_pos hb] at q
    cases hk : K.lookup b with
    | none => exact ⟨hb, rfl⟩
    | some o =>
      rw [hk, if_neg (by simp)] at q
      cases q
  · rw [if_neg hb] at q
    cases q
theorem argH_is (ar : ∀ a ∈ A, ArgOb h A a) {b : Addr} {u : HO} (q : argH K h A b = some u) : K.lookup b = none ∧ ∃ vs : List Value, vs.length ≤ sizeLine ∧ (∀ u ∈ vs, OkU A u) ∧
    ((h.get? b = some { cls := .type "list", data := .seq vs.toArray } ∧ u = .frz { cls := .type "list", data := .seq vs.toArray } (.lst (vs.map toV))) ∨
     (h.get? b = some { cls := .type "tuple", data := .seq vs.toArray } ∧ u = .frz { cls := .type "tuple", data := .seq vs.toArray } (.tup (vs.map toV)))) := by
  obtain ⟨hb, hk⟩ := of_argH q
  obtain ⟨vs, h1, h2, h3⟩ := ar b hb
  refine ⟨hk, vs, h1, h2, ?_⟩
  rcases h3 with e | e
  · rw [argH_at hb hk e, hoOf_lst] at q
    exact .inl ⟨e, (Option.some.inj q).symm⟩
  · rw [argH_at hb hk e, hoOf_tup] at q
    exact .inr ⟨e, (Option.some.inj q).symm⟩
theorem argH_only (ar : ∀ a ∈ A, ArgOb h A a) : OnlyF (argH K h A) := fun b => by
  cases q : argH K h A b with
  | none => exact .inl rfl
  | some u =>
    obtain ⟨_, vs, _, _, ⟨_, e⟩ | ⟨_, e⟩⟩ := argH_is ar q
    · exact .inr ⟨_, _, by rw [e]⟩
    · exact .inr ⟨_, _, by rw [e]⟩
theorem argH_ok (ar : ∀ a ∈ A, ArgOb h A a) : HOk P w (argH K h A) h := fun b u q => by
  obtain ⟨_, vs, h1, h2, ⟨e, rfl⟩ | ⟨e, rfl⟩⟩ := argH_is ar q
  · exact ⟨e, by rw [List.length_map]; exact h1, vs, _, vals_toV h2, e⟩
  · exact ⟨e, by rw [List.length_map]; exact h1, vs, vals_toV h2, _, e, rfl, _, rfl⟩
theorem seq_inj {c c' : Value} {vs us : List Value} (e : (some { cls := c, data := .seq vs.toArray } : Option Obj) = some { cls := c', data := .seq us.toArray }) : c = c' ∧ vs = us := by
  have e1 := Option.some.inj e
  have e2 : c = c' := congrArg Obj.cls e1
  have e3 : Data.seq vs.toArray = Data.seq us.toArray := congrArg Obj.data e1
  injection e3 with e4
  refine ⟨e2, ?_⟩
  have e5 := congrArg Array.toList e4
  simpa using e5
theorem argL (KX : K.In h) (ar : ∀ a ∈ A, ArgOb h A a) {a : Addr} {vs : List Value} (ha : a ∈ A) (e : h.get? a = some { cls := .type "list", data := .seq vs.toArray }) : (∀ u ∈ vs, OkU A u) ∧ SqL K (argH K h A) a (vs.map toV) := by
  obtain ⟨us, h1, h2, h3⟩ := ar a ha
  have hu : us = vs := by
    rcases h3 with q | q
    · rw [e] at q
      exact (seq_inj q).2.symm
    · rw [e] at q
      exact absurd (Value.type.inj (seq_inj q).1) (by decide)
  subst hu
  refine ⟨h2, ?_⟩
  cases hk : K.lookup a with
  | none => exact .inl (.inr ⟨_, by rw [argH_at ha hk e, hoOf_lst]⟩)
  | some o =>
    have e2 := KX a o hk
    rw [e] at e2
    obtain rfl := Option.some.inj e2
    exact .inr ⟨_, us.toArray, _, hk, rfl, rfl, rfl, by rw [List.size_toArray]; exact h1, by simpa using vals_toV h2⟩
theorem argT (KX : K.In h) (ar : ∀ a ∈ A, ArgOb h A a) {a : Addr} {vs : List Value} (ha : a ∈ A) (e : h.get? a = some { cls := .type "tuple", data := .seq vs.toArray }) : (∀ u ∈ vs, OkU A u) ∧ SqT K (argH K h A) a (vs.map toV) := by
  obtain ⟨us, h1, h2, h3⟩ := ar a ha
  have hu : us = vs := by
    rcases h3 with q | q
    · rw [e] at q
      exact absurd (Value.type.inj (seq_inj q).1) (by decide)
    · rw [e] at q
      exact (seq_inj q).2.symm
  subst hu
  refine ⟨h2, ?_⟩
  cases hk : K.lookup a with
  | none => exact .inl (.inr ⟨_, by rw [argH_at ha hk e, hoOf_tup]⟩)
  | some o =>
    have e2 := KX a o hk
    rw [e] at e2
    obtain rfl := Option.some.inj e2
    exact .inr ⟨_, us.toArray, _, hk, rfl, rfl, by rw [List.size_toArray]; exact h1, by simpa using vals_toV h2⟩
mutual
theorem dw_one {Pm : Params} (KX : K.In h) (ar : ∀ a ∈ A, ArgOb h A a) : ∀ (d : WData) (v : Value), Well Pm h v d → plW d = true → OkU A v → Dw K (argH K h A) (toV v) d
  | .none, _, x, _, _ => by
    cases x
    exact .non
  | .bool b, _, x, _, _ => by
    cases x
    exact .bl b
  | .int i, _, x, _, _ => by
    cases x
    exact .int i
  | .str s, _, x, _, _ => by
    cases x
    exact .str s
  | .bytes b, _, x, _, _ => by
    cases x
    have z := Dw.byt (K := K) (H := argH K h A) b.toArray
    exact z
  | .list ds, _, x, p, hu => by
    obtain ⟨a, vs, rfl, ho, hall⟩ := well_list x
    obtain ⟨h2, hs⟩ := argL KX ar hu ho
    exact .lst hs (dw_all KX ar ds _ hall p h2)
  | .tuple ds, _, x, p, hu => by
    obtain ⟨a, vs, rfl, ho, hall⟩ := well_tuple x
    obtain ⟨h2, hs⟩ := argT KX ar hu ho
    exact .tup hs (dw_all KX ar ds _ hall p h2)
  | .float _, _, _, p, _ => Bool.noConfusion (show false = true from p)
  | .dict _, _, _, p, _ => Bool.noConfusion (show false = true from p)
  | .bytearray _, _, _, p, _ => Bool.noConfusion (show false = true from p)
  | .set _, _, _, p, _ => Bool.noConfusion (show false = true from p)
  | .frozenset _, _, _, p, _ => Bool.noConfusion (show false = true from p)
  | .obj _ _, _, _, p, _ => Bool.noConfusion (show false = true from p)
theorem dw_all {Pm : Params} (KX : K.In h) (ar : ∀ a ∈ A, ArgOb h A a) : ∀ (ds : List WData) (vs : List Value), WellAll Pm h vs ds → plWs ds = true → (∀ u ∈ vs, OkU A u) → DwAll K (argH K h A) (vs.map toV) ds
  | [], _, x, _, _ => by
    cases x
    exact .nil
  | d :: ds, _, x, p, hu => by
    obtain ⟨v, vs, rfl, x1, x2⟩ := well_cons x
    have q : plW d = true ∧ plWs ds = true := Bool.and_eq_true_iff.mp p
    exact .cons (dw_one KX ar d v x1 q.1 (hu _ (List.mem_cons_self ..))) (dw_all KX ar ds vs x2 q.2 fun u m => hu u (List.mem_cons_of_mem _ m))
end
end
theorem spec_call {P : Program} {w : World} {K : PySem.W.Frag} {mg mb : Str → Option Value} {CX : CXT} {k : Nat} {fa : Addr} {fd : FuncData} {ps : List Str} {sp : Sp} {s₁ : Shared} {vals : List Value} {ds : List WData} {R : PySem.W.WRecords} {cl : Str → Option Addr} {d0 : WData}
    (KX : K.In s₁.heap) (hns : s₁.heap.Ns mainGlobals mg) (hb : s₁.heap.Ns builtinsNs mb) (hbb : ∀ x : Str, x ≠ "__name__" → mb x = bootBuiltins x) (hlim : s₁.heap.NoLimit) (hg : s₁.gens = #[])
    (hwl : WellAll w.params s₁.heap vals ds) (hpl : plWs ds = true) (hwt : ∀ d ∈ ds, d.weight ≤ 1048576) (hr : Room k callerA)
    (F : ∀ base : Heap, K.In base → base.Ns mainGlobals mg → FnOk P w K mg base CX k fa fd ps sp) (hbind : ∀ (s : Shared) (us : List Value), us.length = ps.length → BindsTo s fd ⟨us, []⟩ (ps.zip us)) (hlen : ds.length = ps.length)
    (hsp : ∀ (H : Hp) (xs : List V), OnlyF H → DwAll K H xs ds → sp xs H (fun v H' => Dw K H' v d0) fun _ _ _ => False)
    (hCX : ∀ H e s', CX [] H s₁ (fun _ _ _ => False) e s' → False) :
    codeAny (model P w) callerA (.call (.ref fa) ⟨vals, []⟩) (fun r s' => ∃ u as, r = .ok (.ret u) ∧ ReadsW R cl s'.heap u d0 as ∧ OldK s₁.heap s'.heap ∧ s'.os = s₁.os ∧ AllBare s'.gens) s₁ := by
  obtain ⟨A, ho, ar⟩ := area_all ds vals hwl hpl hwt
  have hO : OnlyF (argH K s₁.heap A) := argH_only ar
  have hok : HOk P w (argH K s₁.heap A) s₁.heap := argH_ok ar
  have hS := dw_all KX ar ds vals hwl hpl ho
  have hV := vals_toV ho
  have hK : ∀ b u, argH K s₁.heap A b = some u → K.lookup b = none := fun b u q => (argH_is ar q).1
  have noA : ∀ {b : Addr} {o : Obj} {es : Array DictEntry} {ep : Nat}, s₁.heap.get? b = some o → o.data = .dict es ep → argH K s₁.heap A b = none := fun {b o es ep} e d => by
    cases q : argH K s₁.heap A b with
    | none => rfl
    | some u =>
      obtain ⟨_, vs, _, _, ⟨e2, _⟩ | ⟨e2, _⟩⟩ := argH_is ar q
      · rw [e2] at e
        cases e
        have d' : Data.seq vs.toArray _ = Data.dict es ep := d
        cases d'
      · rw [e2] at e
        cases e
        have d' : Data.seq vs.toArray _ = Data.dict es ep := d
        cases d'
  generalize argH K s₁.heap A = H at hO hok hS hK noA
  have base_of : ∀ {b : Addr} {o : Obj}, s₁.heap.get? b = some o → H b = none → (hidT s₁.heap H).get? b = some o := fun e n => hidT_get e n
  have nsK : ∀ {b : Addr} {m : Str → Option Value}, s₁.heap.Ns b m → (hidT s₁.heap H).Ns b m := fun {b m} ⟨o, es, ep, e, d, r⟩ => ⟨o, es, ep, base_of e (noA e d), d, r⟩
  have nK : ∀ b o, K.lookup b = some o → H b = none := fun b o e => by
    cases q : H b with
    | none => rfl
    | some u =>
      rw [hK b u q] at e
      cases e
  have hKb : K.In (hidT s₁.heap H) := fun b o e => base_of (KX b o e) (nK b o e)
  have hM : Mod K mg (hidT s₁.heap H) := ⟨hKb, nsK hns, ⟨mb, nsK hb, hbb⟩, let ⟨mc, h1, h2⟩ := hlim; ⟨mc, nsK h1, h2⟩⟩
  have e0 : Env0 P w K mg (hidT s₁.heap H) callerA [] s₁ H := ⟨rfl, hM, fun b o e => of_hidT e, Nat.le_of_eq (hidT_size _ _), trivial, fun b hb => absurd (show b ∈ ([] : List Addr) from hb) (by simp), hok, .of_eq hg⟩
  have hl : vals.length = ps.length := by rw [wellAll_len hwl]; exact hlen
  refine codeAny_mono ((F _ hKb (nsK hns)).run callerA [] s₁ H ⟨vals, []⟩ vals (vals.map toV) _ _ hr e0 (hbind s₁ vals hl) hV (hsp H _ hO hS)) fun r s' x => ?_
  cases r with
  | error e => exact (hCX H e s' x).elim
  | ok fl =>
    cases fl with
    | next => exact False.elim x
    | brk => exact False.elim x
    | cont => exact False.elim x
    | ret u =>
      obtain ⟨v, H', os, bare, un, hok', r', q⟩ := x
      have kept : ∀ b o, s₁.heap.get? b = some o → s'.heap.get? b = some o := fun b o e => by
        cases q2 : H b with
        | none => exact un.keep b o e q2 (by intro z; exact absurd (show b ∈ ([] : List Addr) from z) (by simp)) (by simp)
        | some u2 =>
          rcases hO b with z | ⟨ob, u3, z⟩
          · rw [q2] at z
            cases z
          · have z2 := un.frzs b ob _ z
            obtain ⟨e1, _⟩ := hok b _ z
            obtain ⟨e2, _⟩ := hok' b _ z2
            rw [e] at e1
            cases e1
            exact e2
      have KX' : K.In s'.heap := fun b o e => kept b o (KX b o e)
      obtain ⟨as, hrd⟩ := Dw.reads (R := R) (cl := cl) hok' KX' d0 v u q r'
      exact ⟨u, as, rfl, hrd, OldK.of_keep kept, os, bare⟩
theorem layable_weight {ds : List WData} (h : WData.layableAll ds = true) : ∀ d ∈ ds, d.weight ≤ 1048576 := fun d hd =>
  (PySem.W.layableW_iff.mp (List.all_eq_true.mp h d hd)).2.2
theorem encAll_len : ∀ (cs : List Codec) (a : Codec.denoteAll cs), (Codec.encAll cs a).length = cs.length
  | [], _ => rfl
  | c :: cs, a => by
    show (Codec.encAll cs a.2).length + 1 = cs.length + 1
    rw [encAll_len cs a.2]
theorem walk_spec {r : OpenSpec} {k : Nat} {q : Program} {loose : List Str} {XP : (Str → Option Value) → Heap → Prop} {YP : World → Heap → Prop} {d : DefRec} {K : Params → PySem.W.Frag} {CX : World → CXT} {ps : List Str} {sp : World → Sp}
    (hwell : r.wellSaid = true) (hdf : d.params.defaults = []) (hlen : r.args.length = ps.length) (hr : Room k callerA)
    (hY : ∀ (w : World) (h : Heap), YP w h → (K w.params).In h)
    (F : ∀ (w : World) (mg : Str → Option Value) (fa : Addr) (h : Heap), YP w h → (K w.params).In h → h.Ns mainGlobals mg → mg d.name = some (.ref fa) →
      ∃ fd : FuncData, (∀ (s : Shared) (us : List Value), us.length = ps.length → BindsTo s fd ⟨us, []⟩ (ps.zip us)) ∧
        ∀ base : Heap, (K w.params).In base → base.Ns mainGlobals mg → FnOk r.prog w (K w.params) mg base (CX w) k fa fd ps (sp w))
    (hsp : ∀ (w : World) (H : Hp) (xs : List V) (a : Codec.denoteAll r.args), OnlyF H → Codec.withinAll r.args a = true → Codec.app r.args r.asked a = true → DwAll (K w.params) H xs (Codec.encAll r.args a) →
      sp w xs H (fun v H' => Dw (K w.params) H' v (r.ret.enc (Codec.app r.args r.f a))) fun _ _ _ => False)
    (hCX : ∀ (w : World) (H : Hp) (s : Shared) (e : Value) (s' : Shared), CX w [] H s (fun _ _ _ => False) e s' → False) :
    PySem.W.WalkOS q loose XP YP r d [] (fun f vs => PySem.call f vs) := by
  intro w s_0 s₁ mg mb G Y fa o pm cd doc dV kV ho hd hcd hD hmg hg args vals as hpre hlay hrd hwl hlo
  obtain ⟨a, e1, e2⟩ := PySem.W.os_pre_some hpre
  obtain ⟨e3, hwi⟩ := Codec.encAll_of_decAll r.args args a e1
  subst e3
  have KX := hY w _ Y
  obtain ⟨fd, hb, hF⟩ := F w mg fa _ Y KX G.T.g hmg
  refine PySem.W.enter_call (codeAny_mono (spec_call (R := []) (cl := classAt s_0.heap) (d0 := r.ret.enc (Codec.app r.args r.f a)) KX G.T.g G.T.b G.T.builtins G.T.nolimit hg hwl (pl_encAll _ _) (layable_weight hlay) hr hF hb (by rw [encAll_len]; exact hlen)
    (fun H xs hO hS => hsp w H xs a hO hwi e2 hS) fun H e s' => hCX w H s₁ e s') fun r' s' hq => ?_)
  obtain ⟨u, as', rfl, h1, h2, h3, h4⟩ := hq
  exact ⟨.inl ⟨u, _, as', rfl, fun _ => rfl, h1, (OpenSpec.post_iff hwell hwi _ _).mpr rfl, fun z => Bool.noConfusion (show false = true from z)⟩, h2, h3, h4⟩
theorem walk_specK {r : OpenSpec} {k : Nat} {q : Program} {loose : List Str} {XP : (Str → Option Value) → Heap → Prop} {YP : World → Heap → Prop} {d : DefRec} {K : Params → PySem.W.Frag} {CX : CXT} {ps : List Str} {sp : PySem.W.Frag → Sp}
    (hwell : r.wellSaid = true) (hdf : d.params.defaults = []) (hlen : r.args.length = ps.length) (hr : Room k callerA)
    (hY : ∀ (w : World) (h : Heap), YP w h → (K w.params).In h)
    (F : ∀ (w : World) (mg : Str → Option Value) (fa : Addr) (h : Heap), YP w h → (K w.params).In h → h.Ns mainGlobals mg → mg d.name = some (.ref fa) →
      ∃ fd : FuncData, (∀ (s : Shared) (us : List Value), us.length = ps.length → BindsTo s fd ⟨us, []⟩ (ps.zip us)) ∧
        ∀ base : Heap, (K w.params).In base → base.Ns mainGlobals mg → FnOk r.prog w (K w.params) mg base CX k fa fd ps (sp (K w.params)))
    (hsp : ∀ (K : PySem.W.Frag) (H : Hp) (xs : List V) (a : Codec.denoteAll r.args), OnlyF H → Codec.withinAll r.args a = true → Codec.app r.args r.asked a = true → DwAll K H xs (Codec.encAll r.args a) →
      sp K xs H (fun v H' => Dw K H' v (r.ret.enc (Codec.app r.args r.f a))) fun _ _ _ => False)
    (hCX : ∀ (H : Hp) (s : Shared) (e : Value) (s' : Shared), CX [] H s (fun _ _ _ => False) e s' → False) :
    PySem.W.WalkOS q loose XP YP r d [] (fun f vs => PySem.call f vs) :=
  walk_spec (K := K) (CX := fun _ => CX) (sp := fun w => sp (K w.params)) hwell hdf hlen hr hY F (fun w H xs a h1 h2 h3 h4 => hsp (K w.params) H xs a h1 h2 h3 h4) fun _ H s e s' => hCX H s e s'
end L2
end
section
set_option linter.all false
namespace Cr
open Mu52
/-! ### fractions as rationals -/
def Red (q : Q) : Prop := 0 < q.d ∧ q.n.natAbs.Coprime q.d
def toR (q : Q) : Rat := (q.n : Rat) / ((q.d : Int) : Rat)
theorem toR_eq {q : Q} (h : Red q) : toR q = ⟨q.n, q.d, Nat.pos_iff_ne_zero.mp h.1, h.2⟩ := by
  rw [Rat.mk_eq_divInt, Rat.divInt_eq_div]; rfl
theorem toR_inj {a b : Q} (ha : Red a) (hb : Red b) (h : toR a = toR b) : a = b := by
  rw [toR_eq ha, toR_eq hb] at h
  have h1 := congrArg Rat.num h
  have h2 := congrArg Rat.den h
  cases a; cases b
  simp only at h1 h2
  subst h1; subst h2; rfl
theorem toR_iff {a b : Q} (ha : Red a) (hb : Red b) : toR a = toR b ↔ a = b := ⟨toR_inj ha hb, fun h => by rw [h]⟩
theorem cast_ne {d : Int} (h : d ≠ 0) : (d : Rat) ≠ 0 := by
  intro e; exact h (by exact_mod_cast e)
theorem frac_fst {n d : Int} (h : d ≠ 0) : frac n d = ⟨n / (Int.gcd n d : Int) * d.sign, d.natAbs / Int.gcd n d⟩ := by
  unfold frac; rw [if_neg h]
theorem gcd_pos' {n d : Int} (h : d ≠ 0) : 0 < Int.gcd n d := Int.gcd_pos_of_ne_zero_right n h
theorem frac_red {n d : Int} (h : d ≠ 0) : Red (frac n d) := by
  rw [frac_fst h]
  have hg := gcd_pos' (n := n) h
  constructor
  · show 0 < d.natAbs / Int.gcd n d
    exact Nat.div_pos (Nat.le_of_dvd (by omega) (Int.gcd_dvd_natAbs_right n d)) hg
  · show (n / (Int.gcd n d : Int) * d.sign).natAbs.Coprime (d.natAbs / Int.gcd n d)
    rw [Int.natAbs_mul, Int.natAbs_sign_of_ne_zero h, Nat.mul_one, Int.natAbs_ediv_of_dvd (Int.gcd_dvd_left n d)]
    exact Nat.coprime_div_gcd_div_gcd hg
theorem frac_val {n d : Int} (h : d ≠ 0) : toR (frac n d) = (n : Rat) / (d : Rat) := by
  rw [frac_fst h]
  have hg := gcd_pos' (n := n) h
  obtain ⟨a, ha⟩ := Int.gcd_dvd_left n d
  obtain ⟨b, hb⟩ := Int.gcd_dvd_right n d
  generalize hG : Int.gcd n d = g at *
  have hg' : (g : Int) ≠ 0 := by omega
  have hb0 : b ≠ 0 := by intro e; rw [e, Int.mul_zero] at hb; exact h hb
  have e1 : n / (g : Int) = a := by rw [ha]; exact Int.mul_ediv_cancel_left a hg'
  have e2 : d.natAbs / g = b.natAbs := by rw [hb, Int.natAbs_mul, Int.natAbs_natCast]; exact Nat.mul_div_cancel_left _ hg
  have e3 : d.sign = b.sign := by rw [hb, Int.sign_mul, Int.sign_eq_one_of_pos (by omega), Int.one_mul]
  rw [e1, e2, e3]
  unfold toR
  show ((a * b.sign : Int) : Rat) / ((b.natAbs : Int) : Rat) = _
  have hB := cast_ne hb0
  have hG2 := cast_ne hg'
  have e4 : ((n : Int) : Rat) = (g : Int) * (a : Int) := by rw [ha, Rat.intCast_mul]
  have e5 : ((d : Int) : Rat) = (g : Int) * (b : Int) := by rw [hb, Rat.intCast_mul]
  rw [e4, e5]
  rcases Int.lt_or_gt_of_ne hb0 with q | q
  · have e6 : b.sign = -1 := Int.sign_eq_neg_one_of_neg q
    have e7 : (b.natAbs : Int) = -b := by omega
    rw [e6, e7]
    have e8 : ((a * -1 : Int) : Rat) = -(a : Rat) := by rw [Rat.intCast_mul]; simp; grind
    have e9 : ((-b : Int) : Rat) = -(b : Rat) := by rw [Rat.intCast_neg]
    rw [e8, e9]
    grind
  · have e6 : b.sign = 1 := Int.sign_eq_one_of_pos q
    have e7 : (b.natAbs : Int) = b := by omega
    rw [e6, e7, Int.mul_one]
    grind
theorem red_ne {q : Q} (h : Red q) : ((q.d : Int)) ≠ 0 := by have := h.1; omega
theorem red_neR {q : Q} (h : Red q) : ((q.d : Int) : Rat) ≠ 0 := cast_ne (red_ne h)
theorem whole_red (n : Int) : Red (whole n) := ⟨Nat.one_pos, Nat.coprime_one_right _⟩
theorem whole_val (n : Int) : toR (whole n) = n := by
  show (n : Rat) / ((1 : Int) : Rat) = n
  have : ((1 : Int) : Rat) = 1 := rfl
  rw [this]; grind
theorem mul_ne {a b : Int} (ha : a ≠ 0) (hb : b ≠ 0) : a * b ≠ 0 := Int.mul_ne_zero ha hb
section
variable {a b : Q}
theorem add_red (ha : Red a) (hb : Red b) : Red (a.add b) := frac_red (mul_ne (red_ne ha) (red_ne hb))
theorem add_val (ha : Red a) (hb : Red b) : toR (a.add b) = toR a + toR b := by
  unfold Q.add
  rw [frac_val (mul_ne (red_ne ha) (red_ne hb))]
  have h1 := red_neR ha
  have h2 := red_neR hb
  rw [Rat.intCast_add, Rat.intCast_mul, Rat.intCast_mul, Rat.intCast_mul]
  unfold toR
  grind
theorem mul_red (ha : Red a) (hb : Red b) : Red (a.mul b) := frac_red (mul_ne (red_ne ha) (red_ne hb))
theorem mul_val (ha : Red a) (hb : Red b) : toR (a.mul b) = toR a * toR b := by
  unfold Q.mul
  rw [frac_val (mul_ne (red_ne ha) (red_ne hb))]
  have h1 := red_neR ha
  have h2 := red_neR hb
  rw [Rat.intCast_mul, Rat.intCast_mul]
  unfold toR
  grind
theorem neg_red (ha : Red a) : Red a.neg := ⟨ha.1, by show (-a.n).natAbs.Coprime a.d; rw [Int.natAbs_neg]; exact ha.2⟩
theorem neg_val (a : Q) : toR a.neg = - toR a := by
  show ((-a.n : Int) : Rat) / ((a.d : Int) : Rat) = - ((a.n : Rat) / ((a.d : Int) : Rat))
  rw [Rat.intCast_neg]; grind
theorem sub_red (ha : Red a) (hb : Red b) : Red (a.sub b) := add_red ha (neg_red hb)
theorem sub_val (ha : Red a) (hb : Red b) : toR (a.sub b) = toR a - toR b := by
  unfold Q.sub; rw [add_val ha (neg_red hb), neg_val]; grind
theorem div_red (ha : Red a) (h : b.n ≠ 0) : Red (a.div b) := frac_red (mul_ne (red_ne ha) h)
end
end Cr
end
section
set_option linter.all false
namespace Cr
open Mu52
structure RedP (p : Pt) : Prop where
  x : Red p.x
  y : Red p.y
structure RedM (m : Map) : Prop where
  size : Red m.size
  shift : RedP m.shift
structure RedD (e : Device) : Prop where
  pivot : RedP e.pivot
  size : Red e.size
theorem pt_ext {p q : Pt} (hp : RedP p) (hq : RedP q) (h1 : toR p.x = toR q.x) (h2 : toR p.y = toR q.y) : p = q := by
  have e1 := toR_inj hp.x hq.x h1
  have e2 := toR_inj hp.y hq.y h2
  cases p; cases q; simp only at e1 e2; rw [e1, e2]
theorem zero_red : Red zero := whole_red 0
theorem one_red : Red one := whole_red 1
theorem zero_val : toR zero = 0 := whole_val 0
theorem one_val : toR one = 1 := whole_val 1
def sg (b : Bool) : Rat := if b = true then -1 else 1
theorem turned_red {b : Bool} {p : Pt} (h : RedP p) : RedP (turned b p) := by
  unfold turned
  cases b
  · simpa using h
  · simp only [if_true]; exact ⟨neg_red h.x, h.y⟩
theorem turned_x (b : Bool) (p : Pt) : toR (turned b p).x = sg b * toR p.x := by
  unfold turned sg
  cases b
  · simp only [Bool.false_eq_true, if_false]; grind
  · simp only [if_true]; rw [neg_val]; grind
theorem turned_y (b : Bool) (p : Pt) : toR (turned b p).y = toR p.y := by
  unfold turned
  cases b <;> simp
theorem scaled_red {s : Q} {p : Pt} (hs : Red s) (h : RedP p) : RedP (scaled s p) := ⟨mul_red hs h.x, mul_red hs h.y⟩
theorem plus_red {p q : Pt} (h : RedP p) (h' : RedP q) : RedP (plus p q) := ⟨add_red h.x h'.x, add_red h.y h'.y⟩
theorem minus_red {p q : Pt} (h : RedP p) (h' : RedP q) : RedP (minus p q) := ⟨sub_red h.x h'.x, sub_red h.y h'.y⟩
theorem at_red {m : Map} {p : Pt} (hm : RedM m) (h : RedP p) : RedP (at_ m p) := plus_red hm.shift (scaled_red hm.size (turned_red h))
theorem at_x {m : Map} {p : Pt} (hm : RedM m) (h : RedP p) : toR (at_ m p).x = toR m.shift.x + toR m.size * (sg m.mirror * toR p.x) := by
  show toR (m.shift.x.add (m.size.mul (turned m.mirror p).x)) = _
  rw [add_val hm.shift.x (mul_red hm.size (turned_red h).x), mul_val hm.size (turned_red h).x, turned_x]
theorem at_y {m : Map} {p : Pt} (hm : RedM m) (h : RedP p) : toR (at_ m p).y = toR m.shift.y + toR m.size * toR p.y := by
  show toR (m.shift.y.add (m.size.mul (turned m.mirror p).y)) = _
  rw [add_val hm.shift.y (mul_red hm.size (turned_red h).y), mul_val hm.size (turned_red h).y, turned_y]
theorem copy_red {e : Device} {p : Pt} (he : RedD e) (h : RedP p) : RedP (copy e p) := plus_red he.pivot (scaled_red he.size (turned_red (minus_red h he.pivot)))
theorem copy_x {e : Device} {p : Pt} (he : RedD e) (h : RedP p) : toR (copy e p).x = toR e.pivot.x + toR e.size * (sg e.mirror * (toR p.x - toR e.pivot.x)) := by
  show toR (e.pivot.x.add (e.size.mul (turned e.mirror (minus p e.pivot)).x)) = _
  rw [add_val he.pivot.x (mul_red he.size (turned_red (minus_red h he.pivot)).x), mul_val he.size (turned_red (minus_red h he.pivot)).x, turned_x]
  show _ + _ * (_ * toR (p.x.sub e.pivot.x)) = _
  rw [sub_val h.x he.pivot.x]
theorem copy_y {e : Device} {p : Pt} (he : RedD e) (h : RedP p) : toR (copy e p).y = toR e.pivot.y + toR e.size * (toR p.y - toR e.pivot.y) := by
  show toR (e.pivot.y.add (e.size.mul (turned e.mirror (minus p e.pivot)).y)) = _
  rw [add_val he.pivot.y (mul_red he.size (turned_red (minus_red h he.pivot)).y), mul_val he.size (turned_red (minus_red h he.pivot)).y, turned_y]
  show _ + _ * (toR (p.y.sub e.pivot.y)) = _
  rw [sub_val h.y he.pivot.y]
theorem zero_redP : RedP ⟨zero, zero⟩ := ⟨zero_red, zero_red⟩
theorem mapOf_red {e : Device} (he : RedD e) : RedM (mapOf e) := ⟨he.size, copy_red he zero_redP⟩
theorem stay_red : RedM stay := ⟨one_red, zero_redP⟩
theorem andThen_red {a b : Map} (ha : RedM a) (hb : RedM b) : RedM (andThen a b) := ⟨mul_red ha.size hb.size, at_red hb ha.shift⟩
theorem copy_at {e : Device} {p : Pt} (he : RedD e) (h : RedP p) : copy e p = at_ (mapOf e) p := by
  refine pt_ext (copy_red he h) (at_red (mapOf_red he) h) ?_ ?_
  · rw [copy_x he h, at_x (mapOf_red he) h]
    show _ = toR (copy e ⟨zero, zero⟩).x + toR e.size * (sg e.mirror * toR p.x)
    rw [copy_x he zero_redP, zero_val]; grind
  · rw [copy_y he h, at_y (mapOf_red he) h]
    show _ = toR (copy e ⟨zero, zero⟩).y + toR e.size * toR p.y
    rw [copy_y he zero_redP, zero_val]; grind
theorem sg_xor (a b : Bool) : sg (a != b) = sg a * sg b := by
  cases a <;> cases b <;> simp [sg] <;> grind
theorem at_andThen {a b : Map} {p : Pt} (ha : RedM a) (hb : RedM b) (h : RedP p) : at_ (andThen a b) p = at_ b (at_ a p) := by
  refine pt_ext (at_red (andThen_red ha hb) h) (at_red hb (at_red ha h)) ?_ ?_
  · rw [at_x (andThen_red ha hb) h, at_x hb (at_red ha h), at_x ha h]
    show toR (at_ b a.shift).x + toR (a.size.mul b.size) * (sg (a.mirror != b.mirror) * toR p.x) = _
    rw [at_x hb ha.shift, mul_val ha.size hb.size, sg_xor]; grind
  · rw [at_y (andThen_red ha hb) h, at_y hb (at_red ha h), at_y ha h]
    show toR (at_ b a.shift).y + toR (a.size.mul b.size) * toR p.y = _
    rw [at_y hb ha.shift, mul_val ha.size hb.size]; grind
theorem andThen_assoc {a b c : Map} (ha : RedM a) (hb : RedM b) (hc : RedM c) : andThen (andThen a b) c = andThen a (andThen b c) := by
  have e1 : ((a.mirror != b.mirror) != c.mirror) = (a.mirror != (b.mirror != c.mirror)) := by cases a.mirror <;> cases b.mirror <;> cases c.mirror <;> rfl
  have e2 : (a.size.mul b.size).mul c.size = a.size.mul (b.size.mul c.size) := by
    refine toR_inj (mul_red (mul_red ha.size hb.size) hc.size) (mul_red ha.size (mul_red hb.size hc.size)) ?_
    rw [mul_val (mul_red ha.size hb.size) hc.size, mul_val ha.size hb.size, mul_val ha.size (mul_red hb.size hc.size), mul_val hb.size hc.size]; grind
  have e3 : at_ c (at_ b a.shift) = at_ (andThen b c) a.shift := (at_andThen hb hc ha.shift).symm
  show Map.mk _ _ _ = Map.mk _ _ _
  rw [show (andThen a b).mirror = (a.mirror != b.mirror) from rfl, show (andThen b c).mirror = (b.mirror != c.mirror) from rfl, show (andThen a b).size = a.size.mul b.size from rfl, show (andThen b c).size = b.size.mul c.size from rfl, show (andThen a b).shift = at_ b a.shift from rfl, e1, e2, e3]
theorem stay_andThen {m : Map} (hm : RedM m) : andThen stay m = m := by
  have e1 : (false != m.mirror) = m.mirror := by cases m.mirror <;> rfl
  have e2 : one.mul m.size = m.size := by
    refine toR_inj (mul_red one_red hm.size) hm.size ?_
    rw [mul_val one_red hm.size, one_val]; grind
  have e3 : at_ m ⟨zero, zero⟩ = m.shift := by
    refine pt_ext (at_red hm zero_redP) hm.shift ?_ ?_
    · rw [at_x hm zero_redP, zero_val]; grind
    · rw [at_y hm zero_redP, zero_val]; grind
  show Map.mk (false != m.mirror) (one.mul m.size) (at_ m ⟨zero, zero⟩) = m
  rw [e1, e2, e3]
theorem andThen_stay {m : Map} (hm : RedM m) : andThen m stay = m := by
  have e1 : (m.mirror != false) = m.mirror := by cases m.mirror <;> rfl
  have e2 : m.size.mul one = m.size := by
    refine toR_inj (mul_red hm.size one_red) hm.size ?_
    rw [mul_val hm.size one_red, one_val]; grind
  have e3 : at_ stay m.shift = m.shift := by
    refine pt_ext (at_red stay_red hm.shift) hm.shift ?_ ?_
    · rw [at_x stay_red hm.shift]
      show toR zero + toR one * (sg false * _) = _
      rw [zero_val, one_val]; simp [sg]; grind
    · rw [at_y stay_red hm.shift]
      show toR zero + toR one * _ = _
      rw [zero_val, one_val]; grind
  show Map.mk (m.mirror != false) (m.size.mul one) (at_ stay m.shift) = m
  rw [e1, e2, e3]
/-! ### rows -/
abbrev stepM (m : Map) (e : Device) : Map := andThen m (mapOf e)
theorem fold_red : ∀ (l : List Device) (m : Map), (∀ e ∈ l, RedD e) → RedM m → RedM (l.foldl stepM m)
  | [], m, _, hm => hm
  | e :: l, m, h, hm => fold_red l _ (fun x hx => h x (List.mem_cons_of_mem _ hx)) (andThen_red hm (mapOf_red (h e List.mem_cons_self)))
theorem row_red {l : List Device} (h : ∀ e ∈ l, RedD e) : RedM (row l) := fold_red l stay h stay_red
theorem fold_row : ∀ (l : List Device) (m : Map), (∀ e ∈ l, RedD e) → RedM m → l.foldl stepM m = andThen m (row l)
  | [], m, _, hm => (andThen_stay hm).symm
  | e :: l, m, h, hm => by
    have he := mapOf_red (h e List.mem_cons_self)
    have hl : ∀ x ∈ l, RedD x := fun x hx => h x (List.mem_cons_of_mem _ hx)
    show l.foldl stepM (stepM m e) = andThen m (l.foldl stepM (stepM stay e))
    rw [fold_row l _ hl (andThen_red hm he), fold_row l _ hl (andThen_red stay_red he), andThen_assoc hm he (row_red hl), stay_andThen he]
theorem row_append {a b : List Device} (ha : ∀ e ∈ a, RedD e) (hb : ∀ e ∈ b, RedD e) : row (a ++ b) = andThen (row a) (row b) := by
  show (a ++ b).foldl stepM stay = _
  rw [List.foldl_append]
  exact fold_row b _ hb (row_red ha)
theorem copies_fold : ∀ (l : List Device) (m : Map) (p : Pt), (∀ e ∈ l, RedD e) → RedM m → RedP p → l.foldl (fun (q : Pt) (e : Device) => copy e q) (at_ m p) = at_ (l.foldl stepM m) p
  | [], m, p, _, _, _ => rfl
  | e :: l, m, p, h, hm, hp => by
    have he := h e List.mem_cons_self
    have hl : ∀ x ∈ l, RedD x := fun x hx => h x (List.mem_cons_of_mem _ hx)
    show l.foldl _ (copy e (at_ m p)) = at_ (l.foldl stepM (stepM m e)) p
    rw [copy_at he (at_red hm hp), ← at_andThen hm (mapOf_red he) hp]
    exact copies_fold l _ p hl (andThen_red hm (mapOf_red he)) hp
theorem at_stay {p : Pt} (hp : RedP p) : at_ stay p = p := by
  refine pt_ext (at_red stay_red hp) hp ?_ ?_
  · rw [at_x stay_red hp]
    show toR zero + toR one * (sg false * _) = _
    rw [zero_val, one_val]; simp [sg]; grind
  · rw [at_y stay_red hp]
    show toR zero + toR one * _ = _
    rw [zero_val, one_val]; grind
theorem copies_at {l : List Device} {p : Pt} (h : ∀ e ∈ l, RedD e) (hp : RedP p) : copies l p = at_ (row l) p := by
  have := copies_fold l stay p h stay_red hp
  rw [at_stay hp] at this
  exact this
end Cr
end
section
set_option linter.all false
namespace Cr
open Mu52
/-! ### the program's own fractions -/
theorem minus_sub (a b : Q) : frac (a.n * b.d - b.n * a.d) (a.d * b.d) = a.sub b := by
  show _ = frac (a.n * b.d + (-b.n) * a.d) (a.d * b.d)
  rw [Int.neg_mul, Int.sub_eq_add_neg]
theorem add_comm' (a b : Q) : a.add b = b.add a := by
  unfold Q.add
  rw [Int.add_comm, Int.mul_comm (a.d : Int)]
theorem neg_mul' (a b : Q) : a.neg.mul b = a.mul b.neg := by
  show frac (-a.n * b.n) (a.d * b.d) = frac (a.n * -b.n) (a.d * b.d)
  rw [Int.neg_mul, Int.mul_neg]
theorem zero_sub' {q : Q} (h : Red q) : zero.sub q = q.neg := by
  refine toR_inj (sub_red zero_red h) (neg_red h) ?_
  rw [sub_val zero_red h, zero_val, neg_val]; grind
theorem frac_one (n : Int) : frac n 1 = whole n := by
  refine toR_inj (frac_red (by decide)) (whole_red n) ?_
  rw [frac_val (by decide), whole_val]
  have : ((1 : Int) : Rat) = 1 := rfl
  rw [this]; grind
def side (m : Map) : Q := if m.mirror = true then zero.sub m.size else m.size
theorem side_eq {m : Map} (h : Red m.size) : side m = if m.mirror = true then m.size.neg else m.size := by
  unfold side
  rw [zero_sub' h]
def movedM (m : Map) (p : Pt) : Pt := ⟨((side m).mul p.x).add m.shift.x, (m.size.mul p.y).add m.shift.y⟩
theorem moved_at {m : Map} (h : Red m.size) (p : Pt) : movedM m p = at_ m p := by
  show Pt.mk _ _ = Pt.mk (m.shift.x.add (m.size.mul (turned m.mirror p).x)) (m.shift.y.add (m.size.mul (turned m.mirror p).y))
  rw [side_eq h, add_comm' _ m.shift.x, add_comm' _ m.shift.y]
  unfold turned
  cases m.mirror
  · simp
  · simp only [if_true]; rw [neg_mul']
def aboutM (p : Pt) (s : Q) (b : Bool) : Map :=
  ⟨b, s, ⟨p.x.sub (movedM ⟨b, s, ⟨zero, zero⟩⟩ p).x, p.y.sub (movedM ⟨b, s, ⟨zero, zero⟩⟩ p).y⟩⟩
theorem about_mapOf {p : Pt} {s : Q} {b : Bool} (hp : RedP p) (hs : Red s) : aboutM p s b = mapOf ⟨p, s, b⟩ := by
  have hm : RedM ⟨b, s, ⟨zero, zero⟩⟩ := ⟨hs, zero_redP⟩
  have hr := at_red hm hp
  have hd : RedD ⟨p, s, b⟩ := ⟨hp, hs⟩
  unfold aboutM mapOf
  rw [moved_at hs]
  have e : (⟨p.x.sub (at_ ⟨b, s, ⟨zero, zero⟩⟩ p).x, p.y.sub (at_ ⟨b, s, ⟨zero, zero⟩⟩ p).y⟩ : Pt) = copy ⟨p, s, b⟩ ⟨zero, zero⟩ := by
    refine pt_ext ⟨sub_red hp.x hr.x, sub_red hp.y hr.y⟩ (copy_red hd zero_redP) ?_ ?_
    · rw [copy_x hd zero_redP]
      show toR (p.x.sub (at_ ⟨b, s, ⟨zero, zero⟩⟩ p).x) = _
      rw [sub_val hp.x hr.x, at_x hm hp]
      show _ - (toR zero + _) = _
      rw [zero_val]; grind
    · rw [copy_y hd zero_redP]
      show toR (p.y.sub (at_ ⟨b, s, ⟨zero, zero⟩⟩ p).y) = _
      rw [sub_val hp.y hr.y, at_y hm hp]
      show _ - (toR zero + _) = _
      rw [zero_val]; grind
  rw [e]
def stepPt (a b : Pt) : Pt := ⟨b.x.sub a.x, b.y.sub a.y⟩
theorem stepPt_minus (a b : Pt) : stepPt a b = minus b a := rfl
def sqM (a b : Pt) : Q := ((stepPt a b).x.mul (stepPt a b).x).add ((stepPt a b).y.mul (stepPt a b).y)
theorem sqM_sqr {a b : Pt} (ha : RedP a) (hb : RedP b) : sqM a b = sqr (minus a b) := by
  have h1 := sub_red hb.x ha.x
  have h2 := sub_red hb.y ha.y
  have h3 := sub_red ha.x hb.x
  have h4 := sub_red ha.y hb.y
  refine toR_inj (add_red (mul_red h1 h1) (mul_red h2 h2)) (add_red (mul_red h3 h3) (mul_red h4 h4)) ?_
  show toR (((b.x.sub a.x).mul (b.x.sub a.x)).add ((b.y.sub a.y).mul (b.y.sub a.y))) = toR (((a.x.sub b.x).mul (a.x.sub b.x)).add ((a.y.sub b.y).mul (a.y.sub b.y)))
  rw [add_val (mul_red h1 h1) (mul_red h2 h2), add_val (mul_red h3 h3) (mul_red h4 h4), mul_val h1 h1, mul_val h2 h2, mul_val h3 h3, mul_val h4 h4, sub_val hb.x ha.x, sub_val hb.y ha.y, sub_val ha.x hb.x, sub_val ha.y hb.y]
  grind
/-! ### sizes: below 2 ^ b -/
structure Sm (b : Nat) (q : Q) : Prop where
  n : q.n.natAbs < 2 ^ b
  d : q.d < 2 ^ b
theorem Sm.mono {a b : Nat} {q : Q} (h : Sm a q) (l : a ≤ b) : Sm b q :=
  ⟨Nat.lt_of_lt_of_le h.n (Nat.pow_le_pow_right (by decide) l), Nat.lt_of_lt_of_le h.d (Nat.pow_le_pow_right (by decide) l)⟩
theorem frac_n_le {n d : Int} (h : d ≠ 0) : (frac n d).n.natAbs ≤ n.natAbs := by
  rw [frac_fst h]
  show (n / (Int.gcd n d : Int) * d.sign).natAbs ≤ _
  rw [Int.natAbs_mul, Int.natAbs_sign_of_ne_zero h, Nat.mul_one, Int.natAbs_ediv_of_dvd (Int.gcd_dvd_left n d)]
  exact Nat.div_le_self _ _
theorem frac_d_le {n d : Int} (h : d ≠ 0) : (frac n d).d ≤ d.natAbs := by
  rw [frac_fst h]
  exact Nat.div_le_self _ _
theorem frac_sm {n d : Int} {b : Nat} (h : d ≠ 0) (hn : n.natAbs < 2 ^ b) (hd : d.natAbs < 2 ^ b) : Sm b (frac n d) :=
  ⟨Nat.lt_of_le_of_lt (frac_n_le h) hn, Nat.lt_of_le_of_lt (frac_d_le h) hd⟩
theorem mul_lt {x y a b : Nat} (hx : x < 2 ^ a) (hy : y < 2 ^ b) : x * y < 2 ^ (a + b) := by
  rw [Nat.pow_add]
  exact Nat.mul_lt_mul'' hx hy
theorem lt_succ_pow {x b c : Nat} (h : x < 2 ^ b) (l : b ≤ c) : x < 2 ^ c := Nat.lt_of_lt_of_le h (Nat.pow_le_pow_right (by decide) l)
theorem add_lt {x y b : Nat} (hx : x < 2 ^ b) (hy : y < 2 ^ b) : x + y < 2 ^ (b + 1) := by
  rw [Nat.pow_succ]; omega
section
variable {p q : Q} {a b : Nat}
theorem num_lt (hp : Sm a p) (hq : Sm b q) : (p.n * q.d + q.n * p.d).natAbs < 2 ^ (a + b + 1) := by
  have h1 : (p.n * (q.d : Int)).natAbs < 2 ^ (a + b) := by rw [Int.natAbs_mul, Int.natAbs_natCast]; exact mul_lt hp.n hq.d
  have h2 : (q.n * (p.d : Int)).natAbs < 2 ^ (a + b) := by rw [Int.natAbs_mul, Int.natAbs_natCast, Nat.add_comm]; exact mul_lt hq.n hp.d
  have h3 := add_lt h1 h2
  have h4 := Int.natAbs_add_le (p.n * (q.d : Int)) (q.n * (p.d : Int))
  omega
theorem den_lt (hp : Sm a p) (hq : Sm b q) : ((p.d : Int) * (q.d : Int)).natAbs < 2 ^ (a + b) := by
  rw [Int.natAbs_mul, Int.natAbs_natCast, Int.natAbs_natCast]; exact mul_lt hp.d hq.d
theorem add_sm (rp : Red p) (rq : Red q) (hp : Sm a p) (hq : Sm b q) : Sm (a + b + 1) (p.add q) :=
  frac_sm (mul_ne (red_ne rp) (red_ne rq)) (num_lt hp hq) (lt_succ_pow (den_lt hp hq) (Nat.le_succ _))
theorem neg_sm (hp : Sm a p) : Sm a p.neg := ⟨by show (-p.n).natAbs < _; rw [Int.natAbs_neg]; exact hp.n, hp.d⟩
theorem sub_sm (rp : Red p) (rq : Red q) (hp : Sm a p) (hq : Sm b q) : Sm (a + b + 1) (p.sub q) := add_sm rp (neg_red rq) hp (neg_sm hq)
theorem mul_sm (rp : Red p) (rq : Red q) (hp : Sm a p) (hq : Sm b q) : Sm (a + b) (p.mul q) :=
  frac_sm (mul_ne (red_ne rp) (red_ne rq)) (by rw [Int.natAbs_mul]; exact mul_lt hp.n hq.n) (den_lt hp hq)
end
theorem zero_sm : Sm 1 zero := ⟨by decide, by decide⟩
theorem one_sm : Sm 1 one := ⟨by decide, by decide⟩
structure SmP (b : Nat) (p : Pt) : Prop where
  x : Sm b p.x
  y : Sm b p.y
structure SmM (b : Nat) (m : Map) : Prop where
  size : Sm b m.size
  shift : SmP b m.shift
theorem SmP.mono {a b : Nat} {q : Pt} (h : SmP a q) (l : a ≤ b) : SmP b q := ⟨h.x.mono l, h.y.mono l⟩
theorem SmM.mono {a b : Nat} {q : Map} (h : SmM a q) (l : a ≤ b) : SmM b q := ⟨h.size.mono l, h.shift.mono l⟩
theorem side_red {m : Map} (h : Red m.size) : Red (side m) := by
  rw [side_eq h]; split
  · exact neg_red h
  · exact h
theorem side_sm {m : Map} {b : Nat} (h : Red m.size) (s : Sm b m.size) : Sm b (side m) := by
  rw [side_eq h]; split
  · exact neg_sm s
  · exact s
theorem moved_sm {m : Map} {p : Pt} {a b : Nat} (hm : RedM m) (hp : RedP p) (sm : SmM a m) (sp : SmP b p) : SmP (2 * a + b + 1) (at_ m p) := by
  rw [← moved_at hm.size]
  refine ⟨(add_sm (mul_red (side_red hm.size) hp.x) hm.shift.x (mul_sm (side_red hm.size) hp.x (side_sm hm.size sm.size) sp.x) sm.shift.x).mono (by omega), (add_sm (mul_red hm.size hp.y) hm.shift.y (mul_sm hm.size hp.y sm.size sp.y) sm.shift.y).mono (by omega)⟩
theorem andThen_sm {m n : Map} {a b : Nat} (hm : RedM m) (hn : RedM n) (sm : SmM a m) (sn : SmM b n) : SmM (a + 2 * b + 1) (andThen m n) :=
  ⟨(mul_sm hm.size hn.size sm.size sn.size).mono (by omega), (moved_sm hn hm.shift sn sm.shift).mono (by omega)⟩
theorem stay_sm : SmM 1 stay := ⟨one_sm, ⟨zero_sm, zero_sm⟩⟩
/-- a device's own numbers -/
structure SmD (e : Device) : Prop where
  pivot : SmP 7 e.pivot
  size : Sm 4 e.size
theorem copy_sm {e : Device} {p : Pt} {b : Nat} (he : RedD e) (hp : RedP p) (se : SmD e) (sp : SmP b p) : SmP (b + 20) (copy e p) := by
  have h1 := minus_red hp he.pivot
  have s1 : SmP (b + 8) (minus p e.pivot) := ⟨(sub_sm hp.x he.pivot.x sp.x se.pivot.x).mono (by omega), (sub_sm hp.y he.pivot.y sp.y se.pivot.y).mono (by omega)⟩
  have h2 : RedP (turned e.mirror (minus p e.pivot)) := turned_red h1
  have s2 : SmP (b + 8) (turned e.mirror (minus p e.pivot)) := by
    unfold turned; split
    · exact ⟨neg_sm s1.x, s1.y⟩
    · exact s1
  exact ⟨(add_sm he.pivot.x (mul_red he.size h2.x) se.pivot.x (mul_sm he.size h2.x se.size s2.x)).mono (by omega), (add_sm he.pivot.y (mul_red he.size h2.y) se.pivot.y (mul_sm he.size h2.y se.size s2.y)).mono (by omega)⟩
theorem mapOf_sm {e : Device} (he : RedD e) (se : SmD e) : SmM 21 (mapOf e) := ⟨se.size.mono (by omega), (copy_sm he zero_redP se ⟨zero_sm, zero_sm⟩).mono (by omega)⟩
theorem fold_sm : ∀ (l : List Device) (m : Map) (a : Nat), (∀ e ∈ l, RedD e ∧ SmD e) → RedM m → SmM a m → SmM (a + 43 * l.length) (l.foldl stepM m)
  | [], m, a, _, _, s => s.mono (by omega)
  | e :: l, m, a, h, hm, s => by
    obtain ⟨he, se⟩ := h e List.mem_cons_self
    have hm' := mapOf_red he
    have := fold_sm l (stepM m e) (a + 2 * 21 + 1) (fun x hx => h x (List.mem_cons_of_mem _ hx)) (andThen_red hm hm') (andThen_sm hm hm' s (mapOf_sm he se))
    exact this.mono (by simp only [List.length_cons]; omega)
theorem row_sm {l : List Device} (h : ∀ e ∈ l, RedD e ∧ SmD e) : SmM (1 + 43 * l.length) (row l) := fold_sm l stay 1 h stay_red stay_sm
end Cr
end
section
set_option linter.all false
namespace Cr
open Mu52
theorem abs_gcd (n d : Int) : Int.gcd (if n < 0 then -n else n) (if d < 0 then -d else d) = Int.gcd n d := by
  split <;> split <;> simp
theorem fd_pos {n d : Int} (h : 0 < d) : n.fdiv (Int.gcd n d : Int) = (frac n d).n ∧ d.fdiv (Int.gcd n d : Int) = ((frac n d).d : Int) := by
  have hd : d ≠ 0 := by omega
  rw [frac_fst hd]
  have hg := gcd_pos' (n := n) hd
  rw [Int.fdiv_eq_ediv_of_nonneg _ (by omega), Int.fdiv_eq_ediv_of_nonneg _ (by omega)]
  refine ⟨?_, ?_⟩
  · show _ = n / (Int.gcd n d : Int) * d.sign
    rw [Int.sign_eq_one_of_pos h, Int.mul_one]
  · show _ = ((d.natAbs / Int.gcd n d : Nat) : Int)
    rw [Int.natCast_ediv]
    have : (d.natAbs : Int) = d := by omega
    rw [this]
theorem fd_neg {n d : Int} (h : d < 0) : n.fdiv (-(Int.gcd n d : Int)) = (frac n d).n ∧ d.fdiv (-(Int.gcd n d : Int)) = ((frac n d).d : Int) := by
  have hd : d ≠ 0 := by omega
  rw [frac_fst hd]
  have hg := gcd_pos' (n := n) hd
  obtain ⟨a, ha⟩ := Int.gcd_dvd_left n d
  obtain ⟨b, hb⟩ := Int.gcd_dvd_right n d
  generalize Int.gcd n d = g at *
  have hg' : (g : Int) ≠ 0 := by omega
  have e1 : n / (g : Int) = a := by rw [ha]; exact Int.mul_ediv_cancel_left a hg'
  refine ⟨?_, ?_⟩
  · show _ = n / (g : Int) * d.sign
    rw [Int.sign_eq_neg_one_of_neg h, e1, ha]
    have : (g : Int) * a = (-a) * (-(g : Int)) := by rw [Int.neg_mul_neg, Int.mul_comm]
    rw [this, Int.mul_fdiv_cancel _ (by omega)]; omega
  · show _ = ((d.natAbs / g : Nat) : Int)
    rw [Int.natCast_ediv]
    have h1 : (d.natAbs : Int) = -d := by omega
    have h2 : d = (-b) * (-(g : Int)) := by rw [Int.neg_mul_neg, Int.mul_comm]; exact hb
    rw [h1]
    rw [show d.fdiv (-(g : Int)) = -b by
      rw [h2, Int.mul_fdiv_cancel _ (by omega)]]
    rw [show -d = (g : Int) * (-b) by rw [hb]; simp [Int.mul_neg], Int.mul_ediv_cancel_left _ hg']
theorem log2_lt_of {x b c : Nat} (h : x < 2 ^ b) (l : b ≤ c) (hc : 0 < c) : x.log2 < c := by
  by_cases h0 : x = 0
  · subst h0; simpa using hc
  · exact (Nat.log2_lt h0).mpr (lt_succ_pow h l)
theorem gcd_log {n d : Int} {b : Nat} (h : d ≠ 0) (hd : d.natAbs.log2 < b) : (Int.gcd n d).log2 < b := by
  have hg := gcd_pos' (n := n) h
  have h1 : Int.gcd n d ≤ d.natAbs := Nat.le_of_dvd (by omega) (Int.gcd_dvd_natAbs_right n d)
  have h2 : d.natAbs < 2 ^ b := (Nat.log2_lt (by omega)).mp hd
  exact (Nat.log2_lt (by omega)).mpr (Nat.lt_of_le_of_lt h1 h2)
end Cr
end
section
set_option Elab.async false
set_option linter.all false
set_option maxRecDepth 100000
set_option maxHeartbeats 2000000
namespace Cr
open PySem PySem.Spec PyProof.Rows L2
open Mu52 (Q Pt Map)
def top (i : Nat) : Stmt := PySem.Challenge.pw_copyrods_s01_answers.main.body.getD i (.Pass ⟨0, 0, 0, 0⟩)
/-- a def of the text that keeps its promise -/
structure Def (P : Program) (w : World) (K : PySem.W.Frag) (mg : Str → Option Value) (base : Heap) (k : Nat) (x : Str) (ps : List Str) (sp : Sp) : Prop where
  ex : ∃ (f : Addr) (fd : FuncData), FnOk P w K mg base CX0 k f fd ps sp ∧ mg x = some (.ref f) ∧ PySem.W.keepIn K (.ref f) = true ∧ Binds K fd ps []
/-- a def of the text -/
structure Txt (K : PySem.W.Frag) (mg : Str → Option Value) (x : Str) (st : Stmt) (ps : List Str) : Prop where
  ex : ∃ (f : Addr) (fd : FuncData), Fun K x x st f fd ∧ mg x = some (.ref f) ∧ Binds K fd ps []
section
variable {P : Program} {w : World} {K : PySem.W.Frag} {mg : Str → Option Value} {base : Heap}
theorem Txt.ok {x : Str} {st : Stmt} {N ps : List Str} {k : Nat} {sp : Sp} (F : Txt K mg x st ps) (S : FnScope N ps (defScope st)) (len : ∀ vs H Q E, sp vs H Q E → vs.length = ps.length)
    (hbody : ∀ (f : Addr) (cdv : Value) (A : Around) (outer : List Env) (s : Shared) (H : Hp) (vs : List V) (Q : VK) (E : XK), Room k (A.deeper (envOfC x (defScope st) s.heap.objs.size f cdv)) → sp vs H Q E →
      ∃ t, PSs (cxOf CX0 P w K mg base N x (defScope st) f cdv A outer s H E).nox (defBody st) t ∧ t { nx := fun _ H' => Q .non H', rt := Q } (start N vs) H) : Def P w K mg base (k + 1) x ps sp := by
  obtain ⟨f, fd, h1, h2, h3⟩ := F.ex
  exact ⟨f, fd, h1.ok S len (fun cdv A outer s H vs Q E => hbody f cdv A outer s H vs Q E), h2, h1.kp, h3⟩
end
section
variable {X : Cx} {k : Nat} {ps : List Str} {sp : Sp} {x : Str} {p pos : Pos} {e : Expr} {es : List Expr} {t : TA}
theorem pe_def (F : Def X.prog X.w X.K X.mg X.base k x ps sp) (hr : Room k X.A) (hg : Gl X x) (ha : PA X (e :: es) t) (hdb : (x == ("__debug__" : Str)) = false := by decide)
    (he : starEach (e :: es) X.env = (false, eval e X.env) :: starEach es X.env := by rfl) (hpl : (backTo pos (starEach es X.env)).any (·.1) = false := by rfl) :
    PE X (.Call (.Name x p) (e :: es) [] pos) (tCall sp [] E0 t) := by
  obtain ⟨f, fd, h1, h2, h3, h4⟩ := F.ex
  exact pe_call h1 hr hg h2 h3 h4 .nil pass0 ha hdb he hpl
theorem pe_def0 (F : Def X.prog X.w X.K X.mg X.base k x ps sp) (hr : Room k X.A) (hg : Gl X x) (hdb : (x == ("__debug__" : Str)) = false := by decide) :
    PE X (.Call (.Name x p) [] [] pos) (tCall sp [] E0 tNil) := by
  obtain ⟨f, fd, h1, h2, h3, h4⟩ := F.ex
  exact pe_call0 h1 hr hg h2 h3 h4 .nil pass0 hdb
end
/-! ### // by any divisor, * -/
def CDivX (i j : Int) : Prop := j ≠ 0 ∧ j.natAbs.log2 < 9000
theorem op_fdivX {X : Cx} : OpR X (binaryOp .FloorDiv) (rI CDivX fun i j => .int (i.fdiv j)) := opI fun _ j _ _ _ _ _ hc q => floordiv_int hc.1 q (.inl (PyProof.noPylong_of_log2 hc.2))
def CMulX (i j : Int) : Prop := ∃ m n : Nat, i.natAbs < 2 ^ m ∧ j.natAbs < 2 ^ n ∧ m + n ≤ 134217728
theorem op_mulX {X : Cx} : OpR X (binaryOp .Mult) (rI CMulX fun i j => .int (i * j)) := opI fun _ _ _ _ _ _ _ hc q => mul_int q (by
  obtain ⟨m, n, h1, h2, h3⟩ := hc
  exact PyProof.Rows.mulOk_of_bits (intBits_le h1) (intBits_le h2) h3)
theorem Same.tup {K : PySem.W.Frag} {H H' : Hp} {a : Addr} {xs : List V} (e : Same H H') (h : SqT K H a xs) : SqT K H' a xs := by
  rcases h with (h | ⟨o, h⟩) | h
  · exact .inl (.inl (e _ _ h))
  · exact .inl (.inr ⟨o, e _ _ h⟩)
  · exact .inr h
theorem Same.new {H : Hp} {a : Addr} {o : HO} (h : H a = Option.none) : Same H (upd H a o) := fun b u e => by
  rw [upd_ne (ne_of_none e h)]; exact e
/-! ### common_divisor -/
abbrev sGcd : Stmt := top 4
def spGcd : Sp := fun vs H Q _ => ∃ a b : Int, vs = [.int a, .int b] ∧ 0 ≤ a ∧ 0 ≤ b ∧ Q (.int (Int.gcd a b)) H
theorem scGcd : FnScope ["one", "other", "rest"] ["one", "other"] (defScope sGcd) := ⟨rfl, rfl, rfl, by decide +kernel, rfl, by decide +kernel, by decide +kernel⟩
def muGcd : L2.St → Hp → Nat := fun σ _ => match σ with
  | [_, some (.int y), _] => y.toNat
  | _ => 0
theorem gcd_step {x y : Int} (hx : 0 ≤ x) (hy : 0 ≤ y) : Int.gcd y (x % y) = Int.gcd x y := by
  obtain ⟨m, rfl⟩ := Int.eq_ofNat_of_zero_le hx
  obtain ⟨n, rfl⟩ := Int.eq_ofNat_of_zero_le hy
  show Nat.gcd n (m % n) = Nat.gcd m n
  rw [Nat.gcd_comm n, ← Nat.gcd_rec, Nat.gcd_comm]
section
variable {P : Program} {w : World} {K : PySem.W.Frag} {mg : Str → Option Value} {base : Heap}
theorem ok_gcd (F : Txt K mg "common_divisor" sGcd ["one", "other"]) : Def P w K mg base 1 "common_divisor" ["one", "other"] spGcd := by
  refine F.ok scGcd (fun vs H Q E h => ?_) (fun f cdv A outer s H vs Q E hr h => ?_)
  · obtain ⟨a, b, rfl, _⟩ := h
    rfl
  · obtain ⟨a, b, rfl, ha, hb, q⟩ := h
    refine ⟨_, pss_cons (ps_while PassesOwn.never (pt_cmpR op_ne (pv 1) pe_int (nomark _))
      (pss_cons (ps_set (i := 2) scGcd.nd rfl (Or.inl rfl) (pe_op op_mod (pv 0) (pv 1)))
      (pss_cons (ps_set (i := 0) scGcd.nd rfl (Or.inl rfl) (pv 1))
      (pss_one (ps_set (i := 1) scGcd.nd rfl (Or.inl rfl) (pv 2))))))
      (pss_one (ps_ret (pv 0))), ?_⟩
    refine while_by (fun σ H' => ∃ (x y : Int) (r : Option V), σ = [some (.int x), some (.int y), r] ∧ H' = H ∧ 0 ≤ x ∧ 0 ≤ y ∧ Int.gcd x y = Int.gcd a b) muGcd ⟨a, b, _, rfl, rfl, ha, hb, rfl⟩ ?_ ?_
    · rintro σ H' ⟨x, y, r, rfl, rfl, hx, hy, e⟩
      refine ⟨_, rfl, rfl, _, rfl, ?_⟩
      refine ite2 (fun hc => ?_) (fun hc => ?_)
      · have hy0 : y ≠ 0 := by simpa using hc
        refine ⟨_, rfl, _, rfl, _, _, rfl, rfl, (by show (0 : Int) < y; omega), _, rfl, _, rfl, ?_⟩
        refine ⟨⟨y, x % y, _, rfl, rfl, hy, Int.emod_nonneg _ hy0, by rw [gcd_step hx hy, e]⟩, ?_⟩
        show (x % y).toNat < y.toNat
        have := Int.emod_lt_of_pos x (show 0 < y by omega)
        omega
      · have hy0 : y = 0 := by simpa using hc
        subst hy0
        refine ⟨_, rfl, ?_⟩
        have e2 : (Int.gcd x 0 : Int) = x := by rw [Int.gcd_zero_right]; omega
        rw [← e, e2] at q
        exact q
    · intro σ H' Q1 Q2 hm hq
      obtain ⟨v, h1, h2, b, h3, h4⟩ := hq
      exact ⟨v, h1, h2, b, h3, hm _ _ h4⟩
end
end Cr
end
section
set_option Elab.async false
set_option linter.all false
set_option maxRecDepth 100000
set_option maxHeartbeats 2000000
namespace Cr
open PySem PySem.Spec PyProof.Rows L2
open Mu52 (Q Pt Map frac)
/-! ### the data -/
def Fr (K : PySem.W.Frag) (H : Hp) (v : V) (q : Q) : Prop := ∃ p, v = .ref p ∧ SqT K H p [.int q.n, .int q.d]
def PtV (K : PySem.W.Frag) (H : Hp) (v : V) (p : Pt) : Prop := ∃ a x y, v = .ref a ∧ SqT K H a [x, y] ∧ Fr K H x p.x ∧ Fr K H y p.y
theorem Fr.mono {K : PySem.W.Frag} {H H' : Hp} {v : V} {q : Q} (e : Same H H') (h : Fr K H v q) : Fr K H' v q := by
  obtain ⟨p, h1, h2⟩ := h
  exact ⟨p, h1, Same.tup e h2⟩
theorem PtV.mono {K : PySem.W.Frag} {H H' : Hp} {v : V} {p : Pt} (e : Same H H') (h : PtV K H v p) : PtV K H' v p := by
  obtain ⟨a, x, y, h1, h2, h3, h4⟩ := h
  exact ⟨a, x, y, h1, Same.tup e h2, h3.mono e, h4.mono e⟩
/-! ### fraction -/
abbrev sFrac : Stmt := top 5
def spFrac (K : PySem.W.Frag) : Sp := fun vs H Q _ => ∃ n d : Int, vs = [.int n, .int d] ∧ d ≠ 0 ∧ d.natAbs.log2 < 9000 ∧ ∀ v H', Same H H' → Fr K H' v (frac n d) → Q v H'
theorem scFrac : FnScope ["divided", "by", "divisor"] ["divided", "by"] (defScope sFrac) := ⟨rfl, rfl, rfl, by decide +kernel, rfl, by decide +kernel, by decide +kernel⟩
section
variable {P : Program} {w : World} {K : PySem.W.Frag} {mg : Str → Option Value} {base : Heap}
theorem ok_frac (F : Txt K mg "fraction" sFrac ["divided", "by"]) (hab : mg "abs" = none) (G : Def P w K mg base 1 "common_divisor" ["one", "other"] spGcd) : Def P w K mg base 2 "fraction" ["divided", "by"] (spFrac K) := by
  refine F.ok scFrac (fun vs H Q E h => ?_) (fun f cdv A outer s H vs Q E hr h => ?_)
  · obtain ⟨a, b, rfl, _⟩ := h
    rfl
  · obtain ⟨n, d, rfl, hd, hl, q⟩ := h
    refine ⟨_, pss_cons (ps_set (i := 2) scFrac.nd rfl (Or.inl rfl) (pe_def G hr rfl (pa_cons (pe_callB call_abs (by rfl) hab boot_abs (pa_cons (pv 0) pa_nil)) (pa_cons (pe_callB call_abs (by rfl) hab boot_abs (pa_cons (pv 1) pa_nil)) pa_nil))))
      (pss_cons (ps_if (pt_cmpR op_lt (pv 1) pe_int (nomark _)) (pss_one (ps_set (i := 2) scFrac.nd rfl (Or.inl rfl) (pe_un un_neg (pv 2)))) pss_nil)
      (pss_one (ps_ret (pe_tup (pa_cons (pe_op op_fdivX (pv 0) (pv 2)) (pa_cons (pe_op op_fdivX (pv 1) (pv 2)) pa_nil)))))), ?_⟩
    refine ⟨_, rfl, n, rfl, _, rfl, d, rfl, _, _, rfl, by split <;> omega, by split <;> omega, ?_⟩
    rw [abs_gcd]
    have hg := gcd_pos' (n := n) hd
    have hgl := gcd_log (n := n) hd hl
    refine ⟨_, rfl, _, _, rfl, rfl, _, rfl, ?_⟩
    refine ite2 (fun hc => ?_) (fun hc => ?_)
    · have hd0 : d < 0 := by simpa using hc
      obtain ⟨e1, e2⟩ := fd_neg (n := n) hd0
      refine ⟨_, rfl, _, rfl, _, rfl, _, rfl, _, _, rfl, rfl, ⟨by omega, by rw [Int.natAbs_neg, Int.natAbs_natCast]; exact hgl⟩, _, rfl, _, rfl, _, _, rfl, rfl, ⟨by omega, by rw [Int.natAbs_neg, Int.natAbs_natCast]; exact hgl⟩, (by show 2 ≤ sizeLine; decide), fun p hp => ?_⟩
      exact q _ _ (Same.new hp) ⟨p, rfl, SqT.of (by rw [upd_same, ← e1, ← e2])⟩
    · have hd0 : 0 < d := by have : ¬ d < 0 := by simpa using hc
                             omega
      obtain ⟨e1, e2⟩ := fd_pos (n := n) hd0
      refine ⟨_, rfl, _, rfl, _, _, rfl, rfl, ⟨by omega, by rw [Int.natAbs_natCast]; exact hgl⟩, _, rfl, _, rfl, _, _, rfl, rfl, ⟨by omega, by rw [Int.natAbs_natCast]; exact hgl⟩, (by show 2 ≤ sizeLine; decide), fun p hp => ?_⟩
      exact q _ _ (Same.new hp) ⟨p, rfl, SqT.of (by rw [upd_same, ← e1, ← e2])⟩
end
/-! ### plus, minus, times, divided_by -/
def Ok2 (a b : Q) : Prop := Red a ∧ Red b ∧ Sm 4400 a ∧ Sm 4400 b
def spBin (K : PySem.W.Frag) (g : Q → Q → Q) (ok : Q → Q → Prop) : Sp := fun vs H Q _ => ∃ x y a b, vs = [x, y] ∧ Fr K H x a ∧ Fr K H y b ∧ ok a b ∧ ∀ v H', Same H H' → Fr K H' v (g a b) → Q v H'
theorem cmul {i j : Int} {a b : Nat} (h1 : i.natAbs < 2 ^ a) (h2 : j.natAbs < 2 ^ b) (h : a + b ≤ 134217728) : CMulX i j := ⟨a, b, h1, h2, h⟩
theorem natCast_abs {n b : Nat} (h : n < 2 ^ b) : ((n : Int)).natAbs < 2 ^ b := by rw [Int.natAbs_natCast]; exact h
theorem den_log {a b : Q} (h : Ok2 a b) : ((a.d : Int) * (b.d : Int)).natAbs.log2 < 9000 := log2_lt_of (den_lt h.2.2.1 h.2.2.2) (by decide) (by decide)
abbrev sPlus : Stmt := top 6
abbrev sMinus : Stmt := top 7
abbrev sTimes : Stmt := top 8
abbrev sDivBy : Stmt := top 9
theorem scPlus : FnScope ["one", "other"] ["one", "other"] (defScope sPlus) := ⟨rfl, rfl, rfl, by decide +kernel, rfl, by decide +kernel, by decide +kernel⟩
theorem scMinus : FnScope ["one", "other"] ["one", "other"] (defScope sMinus) := ⟨rfl, rfl, rfl, by decide +kernel, rfl, by decide +kernel, by decide +kernel⟩
theorem scTimes : FnScope ["one", "other"] ["one", "other"] (defScope sTimes) := ⟨rfl, rfl, rfl, by decide +kernel, rfl, by decide +kernel, by decide +kernel⟩
theorem scDivBy : FnScope ["one", "other"] ["one", "other"] (defScope sDivBy) := ⟨rfl, rfl, rfl, by decide +kernel, rfl, by decide +kernel, by decide +kernel⟩
section
variable {P : Program} {w : World} {K : PySem.W.Frag} {mg : Str → Option Value} {base : Heap}
/-- x[i] of a tuple in the slot k -/
theorem ixT {X : Cx} (k : Nat) {x : Str} {pos pos' pos2 : Pos} {i : Int} {n : Nat} (hN : X.N[k]? = some x := by rfl) (hv : Vis X.env.scope x := by first | exact Or.inl rfl | exact Or.inr (Or.inl rfl) | exact Or.inr (Or.inr rfl)) (hd : (x == ("__debug__" : Str)) = false := by decide)
    (hcd : (x == ("__classdict__" : Str)) = false := by decide) : PE X (.Subscript (.Name x pos) (.Constant (.int i) n pos') pos2) (tOp (rIxT X.K) (tVar k) (tC (.int i))) := pe_ix ix_tup (pe_var hN hv hd hcd) pe_int (fun _ _ => rfl)
theorem ok_plus (F : Txt K mg "plus" sPlus ["one", "other"]) (G : Def P w K mg base 2 "fraction" ["divided", "by"] (spFrac K)) : Def P w K mg base 3 "plus" ["one", "other"] (spBin K Q.add Ok2) := by
  refine F.ok scPlus (fun vs H Q E h => ?_) (fun f cdv A outer s H vs Q E hr h => ?_)
  · obtain ⟨x, y, a, b, rfl, _⟩ := h
    rfl
  · obtain ⟨x, y, a, b, rfl, ⟨p, rfl, hp⟩, ⟨p', rfl, hp'⟩, hok, q⟩ := h
    refine ⟨_, pss_one (ps_ret (pe_def G hr rfl (pa_cons (pe_op op_add (pe_op op_mulX (ixT 0) (ixT 1)) (pe_op op_mulX (ixT 1) (ixT 0))) (pa_cons (pe_op op_mulX (ixT 0) (ixT 1)) pa_nil)))), ?_⟩
    obtain ⟨ra, rb, sa, sb⟩ := id hok
    refine ⟨_, rfl, p, _, _, _, rfl, rfl, hp, rfl, _, rfl, p', _, _, _, rfl, rfl, hp', rfl, _, _, rfl, rfl, cmul sa.n (natCast_abs sb.d) (by decide), ?_⟩
    refine ⟨_, rfl, p', _, _, _, rfl, rfl, hp', rfl, _, rfl, p, _, _, _, rfl, rfl, hp, rfl, _, _, rfl, rfl, cmul sb.n (natCast_abs sa.d) (by decide), _, _, rfl, rfl, ?_⟩
    refine ⟨_, rfl, p, _, _, _, rfl, rfl, hp, rfl, _, rfl, p', _, _, _, rfl, rfl, hp', rfl, _, _, rfl, rfl, cmul (natCast_abs sa.d) (natCast_abs sb.d) (by decide), ?_⟩
    exact ⟨_, _, rfl, mul_ne (red_ne ra) (red_ne rb), den_log hok, q⟩
theorem ok_minus (F : Txt K mg "minus" sMinus ["one", "other"]) (G : Def P w K mg base 2 "fraction" ["divided", "by"] (spFrac K)) : Def P w K mg base 3 "minus" ["one", "other"] (spBin K Q.sub Ok2) := by
  refine F.ok scMinus (fun vs H Q E h => ?_) (fun f cdv A outer s H vs Q E hr h => ?_)
  · obtain ⟨x, y, a, b, rfl, _⟩ := h
    rfl
  · obtain ⟨x, y, a, b, rfl, ⟨p, rfl, hp⟩, ⟨p', rfl, hp'⟩, hok, q⟩ := h
    refine ⟨_, pss_one (ps_ret (pe_def G hr rfl (pa_cons (pe_op op_sub (pe_op op_mulX (ixT 0) (ixT 1)) (pe_op op_mulX (ixT 1) (ixT 0))) (pa_cons (pe_op op_mulX (ixT 0) (ixT 1)) pa_nil)))), ?_⟩
    obtain ⟨ra, rb, sa, sb⟩ := id hok
    rw [← minus_sub] at q
    refine ⟨_, rfl, p, _, _, _, rfl, rfl, hp, rfl, _, rfl, p', _, _, _, rfl, rfl, hp', rfl, _, _, rfl, rfl, cmul sa.n (natCast_abs sb.d) (by decide), ?_⟩
    refine ⟨_, rfl, p', _, _, _, rfl, rfl, hp', rfl, _, rfl, p, _, _, _, rfl, rfl, hp, rfl, _, _, rfl, rfl, cmul sb.n (natCast_abs sa.d) (by decide), _, _, rfl, rfl, ?_⟩
    refine ⟨_, rfl, p, _, _, _, rfl, rfl, hp, rfl, _, rfl, p', _, _, _, rfl, rfl, hp', rfl, _, _, rfl, rfl, cmul (natCast_abs sa.d) (natCast_abs sb.d) (by decide), ?_⟩
    exact ⟨_, _, rfl, mul_ne (red_ne ra) (red_ne rb), den_log hok, q⟩
theorem ok_times (F : Txt K mg "times" sTimes ["one", "other"]) (G : Def P w K mg base 2 "fraction" ["divided", "by"] (spFrac K)) : Def P w K mg base 3 "times" ["one", "other"] (spBin K Q.mul Ok2) := by
  refine F.ok scTimes (fun vs H Q E h => ?_) (fun f cdv A outer s H vs Q E hr h => ?_)
  · obtain ⟨x, y, a, b, rfl, _⟩ := h
    rfl
  · obtain ⟨x, y, a, b, rfl, ⟨p, rfl, hp⟩, ⟨p', rfl, hp'⟩, hok, q⟩ := h
    refine ⟨_, pss_one (ps_ret (pe_def G hr rfl (pa_cons (pe_op op_mulX (ixT 0) (ixT 1)) (pa_cons (pe_op op_mulX (ixT 0) (ixT 1)) pa_nil)))), ?_⟩
    obtain ⟨ra, rb, sa, sb⟩ := id hok
    refine ⟨_, rfl, p, _, _, _, rfl, rfl, hp, rfl, _, rfl, p', _, _, _, rfl, rfl, hp', rfl, _, _, rfl, rfl, cmul sa.n sb.n (by decide), ?_⟩
    refine ⟨_, rfl, p, _, _, _, rfl, rfl, hp, rfl, _, rfl, p', _, _, _, rfl, rfl, hp', rfl, _, _, rfl, rfl, cmul (natCast_abs sa.d) (natCast_abs sb.d) (by decide), ?_⟩
    exact ⟨_, _, rfl, mul_ne (red_ne ra) (red_ne rb), den_log hok, q⟩
theorem ok_divBy (F : Txt K mg "divided_by" sDivBy ["one", "other"]) (G : Def P w K mg base 2 "fraction" ["divided", "by"] (spFrac K)) : Def P w K mg base 3 "divided_by" ["one", "other"] (spBin K Q.div fun a b => Ok2 a b ∧ b.n ≠ 0) := by
  refine F.ok scDivBy (fun vs H Q E h => ?_) (fun f cdv A outer s H vs Q E hr h => ?_)
  · obtain ⟨x, y, a, b, rfl, _⟩ := h
    rfl
  · obtain ⟨x, y, a, b, rfl, ⟨p, rfl, hp⟩, ⟨p', rfl, hp'⟩, ⟨hok, hn⟩, q⟩ := h
    refine ⟨_, pss_one (ps_ret (pe_def G hr rfl (pa_cons (pe_op op_mulX (ixT 0) (ixT 1)) (pa_cons (pe_op op_mulX (ixT 0) (ixT 1)) pa_nil)))), ?_⟩
    obtain ⟨ra, rb, sa, sb⟩ := id hok
    refine ⟨_, rfl, p, _, _, _, rfl, rfl, hp, rfl, _, rfl, p', _, _, _, rfl, rfl, hp', rfl, _, _, rfl, rfl, cmul sa.n (natCast_abs sb.d) (by decide), ?_⟩
    refine ⟨_, rfl, p, _, _, _, rfl, rfl, hp, rfl, _, rfl, p', _, _, _, rfl, rfl, hp', rfl, _, _, rfl, rfl, cmul (natCast_abs sa.d) sb.n (by decide), ?_⟩
    refine ⟨_, _, rfl, mul_ne (red_ne ra) hn, log2_lt_of (b := 4400 + 4400) (by rw [Int.natAbs_mul]; exact mul_lt (natCast_abs sa.d) sb.n) (by decide) (by decide), q⟩
end
end Cr
end
section
set_option Elab.async false
set_option linter.all false
set_option maxRecDepth 100000
set_option maxHeartbeats 2000000
namespace Cr
open PySem PySem.Spec PyProof.Rows L2
open Mu52 (Q Pt Map frac)
/-! ### classes -/
structure ClsT (K : PySem.W.Frag) (mg : Str → Option Value) (x : Str) (C : Addr) (names : List Str) : Prop where
  cl : Cls K C
  at_ : mg x = some (.ref C)
  na : ∀ f ∈ names, NoAttr K C f
def spNew (C : Addr) (n : Nat) (mk : List V → List (Str × V)) : Sp := fun vs H Q _ => ∃ (p dx : Addr) (us : List V), vs = .ref p :: us ∧ us.length = n ∧ H p = some (.ins C dx []) ∧
  ∀ H' : Hp, H' p = some (.ins C dx (mk us)) → (∀ b o, H b = some o → b ≠ p → H' b = some o) → Q .non H'
structure New (P : Program) (w : World) (K : PySem.W.Frag) (mg : Str → Option Value) (base : Heap) (k : Nat) (x : Str) (C : Addr) (n : Nat) (mk : List V → List (Str × V)) : Prop where
  ex : ∃ (fI : Addr) (fdI : FuncData) (ps : List Str), Mk K C fI ∧ FnOk P w K mg base CX0 k fI fdI ps (spNew C n mk) ∧ Binds K fdI ps []
  at_ : mg x = some (.ref C)
structure TxtI (K : PySem.W.Frag) (mg : Str → Option Value) (x qual : Str) (st : Stmt) (C : Addr) (ps : List Str) : Prop where
  ex : ∃ (f : Addr) (fd : FuncData), Fun K "__init__" qual st f fd ∧ Mk K C f ∧ Binds K fd ps []
  at_ : mg x = some (.ref C)
def tNew (C : Addr) (n : Nat) (mk : List V → List (Str × V)) (t : TA) : TE := fun σ H Q => t σ H fun vs H1 => vs.length = n ∧ ∀ a dx H2, H1 a = none → H2 a = some (.ins C dx (mk vs)) → Same H1 H2 → Q (.ref a) H2
theorem new_of {P : Program} {w : World} {K : PySem.W.Frag} {mg : Str → Option Value} {base : Heap} {C : Addr} {n : Nat} {mk : List V → List (Str × V)} {vs : List V} {H1 : Hp} {Q : VK} (hl : vs.length = n) (h : ∀ a dx H2, H1 a = none → H2 a = some (.ins C dx (mk vs)) → Same H1 H2 → Q (.ref a) H2)
    (x dx : Addr) (hx : H1 x = none) (hd : H1 dx = none) (hne : dx ≠ x) : spNew C n mk (.ref x :: (vs ++ [])) (upd (upd H1 dx (.own x)) x (.ins C dx [])) (fun v H2 => v = .non ∧ Q (.ref x) H2) E0 := by
  rw [List.append_nil]
  exact ⟨x, dx, vs, rfl, hl, upd_same, fun H' h1 h2 => ⟨rfl, h x dx H' hx h1 (Same.made hx hd h2)⟩⟩
section
variable {X : Cx} {k n : Nat} {x : Str} {C : Addr} {mk : List V → List (Str × V)} {p pos : Pos} {e : Expr} {es : List Expr} {t : TA}
theorem pe_new (N : New X.prog X.w X.K X.mg X.base k x C n mk) (hr : Room (k + 1) X.A) (hg : Gl X x) (ha : PA X (e :: es) t) (hdb : (x == ("__debug__" : Str)) = false := by decide)
    (he : starEach (e :: es) X.env = (false, eval e X.env) :: starEach es X.env := by rfl) (hpl : (backTo pos (starEach es X.env)).any (·.1) = false := by rfl) :
    PE X (.Call (.Name x p) (e :: es) [] pos) (tNew C n mk t) := by
  obtain ⟨fI, fdI, ps, h1, h2, h3⟩ := N.ex
  intro pins s σ H Q I h
  refine wpAny_Call_Name_kw (ld_glob I hg N.at_ ?_ hdb)
  refine PySem.W.callWith_K (h₀ := X.base) I.ok.mod.kin h1.kp (thn (ha pos pins s σ H _ I h) fun us s1 ⟨vs, H1, I1, r, ⟨hl, q⟩⟩ => ⟨I1.kIn, ?_⟩) he hpl
  exact run_make h1 h2 hr h3 .nil pass0 I1 r (fun x dx hx hd hne => new_of (P := X.prog) (w := X.w) (K := X.K) (mg := X.mg) (base := X.base) hl q x dx hx hd hne)
theorem pe_new0 (N : New X.prog X.w X.K X.mg X.base k x C n mk) (hr : Room (k + 1) X.A) (hg : Gl X x) (hdb : (x == ("__debug__" : Str)) = false := by decide) :
    PE X (.Call (.Name x p) [] [] pos) (tNew C n mk tNil) := by
  obtain ⟨fI, fdI, ps, h1, h2, h3⟩ := N.ex
  intro pins s σ H Q I h
  obtain ⟨hl, q⟩ := h
  refine wpAny_Call_Name_kw (ld_glob I hg N.at_ ?_ hdb)
  exact PySem.W.callWith_K0 I.kIn h1.kp (run_make (us := []) h1 h2 hr h3 .nil pass0 I .nil (fun x dx hx hd hne => new_of (P := X.prog) (w := X.w) (K := X.K) (mg := X.mg) (base := X.base) hl q x dx hx hd hne))
end
/-! ### lists of ints that are tracked -/
def Ls (H : Hp) (v : V) (ns : List Int) : Prop := ∃ p, v = .ref p ∧ H p = some (.lst (ns.map V.int))
theorem Ls.mono {H H' : Hp} {v : V} {ns : List Int} (e : Same H H') (h : Ls H v ns) : Ls H' v ns := by
  obtain ⟨p, h1, h2⟩ := h
  exact ⟨p, h1, e _ _ h2⟩
/-- a new list -/
def LsN (H H' : Hp) (v : V) (ns : List Int) : Prop := ∃ p, v = .ref p ∧ H p = none ∧ H' p = some (.lst (ns.map V.int))
theorem LsN.ls {H H' : Hp} {v : V} {ns : List Int} (h : LsN H H' v ns) : Ls H' v ns := by
  obtain ⟨p, h1, _, h2⟩ := h
  exact ⟨p, h1, h2⟩
theorem LsN.of {H0 H H' : Hp} {v : V} {ns : List Int} (s : Same H0 H) (h : LsN H H' v ns) : LsN H0 H' v ns := by
  obtain ⟨p, h1, h2, h3⟩ := h
  exact ⟨p, h1, s.free h2, h3⟩
/-! ### points -/
abbrev sWhole : Stmt := top 10
abbrev sStep : Stmt := top 11
abbrev sSquare : Stmt := top 12
abbrev sToldP : Stmt := top 13
def spWhole (K : PySem.W.Frag) : Sp := fun vs H Q _ => ∃ x y : Int, vs = [.int x, .int y] ∧ ∀ v H', Same H H' → PtV K H' v (Mu52.point x y) → Q v H'
def OkP (b : Nat) (p : Pt) : Prop := RedP p ∧ SmP b p
def spStep (K : PySem.W.Frag) : Sp := fun vs H Q _ => ∃ x y a b, vs = [x, y] ∧ PtV K H x a ∧ PtV K H y b ∧ OkP 4400 a ∧ OkP 4400 b ∧ ∀ v H', Same H H' → PtV K H' v (stepPt a b) → Q v H'
def spSquare (K : PySem.W.Frag) : Sp := fun vs H Q _ => ∃ x y a b, vs = [x, y] ∧ PtV K H x a ∧ PtV K H y b ∧ OkP 1000 a ∧ OkP 1000 b ∧ ∀ v H', Same H H' → Fr K H' v (sqM a b) → Q v H'
def spToldP (K : PySem.W.Frag) : Sp := fun vs H Q _ => ∃ x a, vs = [x] ∧ PtV K H x a ∧ ∀ v H', Same H H' → LsN H H' v (Mu52.toldPt a) → Q v H'
theorem scWhole : FnScope ["right", "up"] ["right", "up"] (defScope sWhole) := ⟨rfl, rfl, rfl, by decide +kernel, rfl, by decide +kernel, by decide +kernel⟩
theorem scStep : FnScope ["start", "end"] ["start", "end"] (defScope sStep) := ⟨rfl, rfl, rfl, by decide +kernel, rfl, by decide +kernel, by decide +kernel⟩
theorem scSquare : FnScope ["start", "end", "step"] ["start", "end"] (defScope sSquare) := ⟨rfl, rfl, rfl, by decide +kernel, rfl, by decide +kernel, by decide +kernel⟩
theorem scToldP : FnScope ["point"] ["point"] (defScope sToldP) := ⟨rfl, rfl, rfl, by decide +kernel, rfl, by decide +kernel, by decide +kernel⟩
section
variable {P : Program} {w : World} {K : PySem.W.Frag} {mg : Str → Option Value} {base : Heap}
theorem ok_whole (F : Txt K mg "whole_point" sWhole ["right", "up"]) (G : Def P w K mg base 2 "fraction" ["divided", "by"] (spFrac K)) : Def P w K mg base 3 "whole_point" ["right", "up"] (spWhole K) := by
  refine F.ok scWhole (fun vs H Q E h => ?_) (fun f cdv A outer s H vs Q E hr h => ?_)
  · obtain ⟨x, y, rfl, _⟩ := h
    rfl
  · obtain ⟨x, y, rfl, q⟩ := h
    refine ⟨_, pss_one (ps_ret (pe_tup (pa_cons (pe_def G hr rfl (pa_cons (pv 0) (pa_cons pe_int pa_nil))) (pa_cons (pe_def G hr rfl (pa_cons (pv 1) (pa_cons pe_int pa_nil))) pa_nil)))), ?_⟩
    refine ⟨_, rfl, _, _, rfl, by decide, by decide, fun v1 H1 s1 f1 => ?_⟩
    refine ⟨_, rfl, _, _, rfl, by decide, by decide, fun v2 H2 s2 f2 => ?_⟩
    refine ⟨(by show 2 ≤ sizeLine; decide), fun p hp => ?_⟩
    rw [frac_one] at f1 f2
    have s3 : Same H2 _ := Same.new (o := .tup [v1, v2]) hp
    exact q _ _ ((s1.trans s2).trans s3) ⟨p, v1, v2, rfl, SqT.of upd_same, f1.mono (s2.trans s3), f2.mono s3⟩
theorem ok_step (F : Txt K mg "step_between" sStep ["start", "end"]) (G : Def P w K mg base 3 "minus" ["one", "other"] (spBin K Q.sub Ok2)) : Def P w K mg base 4 "step_between" ["start", "end"] (spStep K) := by
  refine F.ok scStep (fun vs H Q E h => ?_) (fun f cdv A outer s H vs Q E hr h => ?_)
  · obtain ⟨x, y, a, b, rfl, _⟩ := h
    rfl
  · obtain ⟨x, y, a, b, rfl, ⟨p, px, py, rfl, hp, fx, fy⟩, ⟨p', px', py', rfl, hp', fx', fy'⟩, ⟨ra, sa⟩, ⟨rb, sb⟩, q⟩ := h
    refine ⟨_, pss_one (ps_ret (pe_tup (pa_cons (pe_def G hr rfl (pa_cons (ixT 1) (pa_cons (ixT 0) pa_nil))) (pa_cons (pe_def G hr rfl (pa_cons (ixT 1) (pa_cons (ixT 0) pa_nil))) pa_nil)))), ?_⟩
    refine ⟨_, rfl, p', _, _, _, rfl, rfl, hp', rfl, _, rfl, p, _, _, _, rfl, rfl, hp, rfl, _, _, _, _, rfl, fx', fx, ⟨rb.x, ra.x, sb.x, sa.x⟩, fun v1 H1 s1 f1 => ?_⟩
    refine ⟨_, rfl, p', _, _, _, rfl, rfl, Same.tup s1 hp', rfl, _, rfl, p, _, _, _, rfl, rfl, Same.tup s1 hp, rfl, _, _, _, _, rfl, fy'.mono s1, fy.mono s1, ⟨rb.y, ra.y, sb.y, sa.y⟩, fun v2 H2 s2 f2 => ?_⟩
    refine ⟨(by show 2 ≤ sizeLine; decide), fun r hr => ?_⟩
    have s3 : Same H2 _ := Same.new (o := .tup [v1, v2]) hr
    exact q _ _ ((s1.trans s2).trans s3) ⟨r, v1, v2, rfl, SqT.of upd_same, f1.mono (s2.trans s3), f2.mono s3⟩
theorem step_ok {a b : Pt} {n : Nat} (ha : OkP n a) (hb : OkP n b) : OkP (n + n + 1) (stepPt a b) :=
  ⟨⟨sub_red hb.1.x ha.1.x, sub_red hb.1.y ha.1.y⟩, ⟨sub_sm hb.1.x ha.1.x hb.2.x ha.2.x, sub_sm hb.1.y ha.1.y hb.2.y ha.2.y⟩⟩
theorem OkP.mono {a b : Nat} {p : Pt} (h : OkP a p) (l : a ≤ b) : OkP b p := ⟨h.1, h.2.mono l⟩
theorem ok_square (F : Txt K mg "square_between" sSquare ["start", "end"]) (GS : Def P w K mg base 4 "step_between" ["start", "end"] (spStep K)) (GP : Def P w K mg base 3 "plus" ["one", "other"] (spBin K Q.add Ok2))
    (GT : Def P w K mg base 3 "times" ["one", "other"] (spBin K Q.mul Ok2)) : Def P w K mg base 5 "square_between" ["start", "end"] (spSquare K) := by
  refine F.ok scSquare (fun vs H Q E h => ?_) (fun f cdv A outer s H vs Q E hr h => ?_)
  · obtain ⟨x, y, a, b, rfl, _⟩ := h
    rfl
  · obtain ⟨x, y, a, b, rfl, ha, hb, oa, ob, q⟩ := h
    have hr3 : Room 3 _ := hr.mono (by decide)
    refine ⟨_, pss_cons (ps_set (i := 2) scSquare.nd rfl (Or.inl rfl) (pe_def GS hr rfl (pa_cons (pv 0) (pa_cons (pv 1) pa_nil))))
      (pss_one (ps_ret (pe_def GP hr3 rfl (pa_cons (pe_def GT hr3 rfl (pa_cons (ixT 2) (pa_cons (ixT 2) pa_nil))) (pa_cons (pe_def GT hr3 rfl (pa_cons (ixT 2) (pa_cons (ixT 2) pa_nil))) pa_nil))))), ?_⟩
    refine ⟨_, rfl, _, rfl, _, _, _, _, rfl, ha, hb, oa.mono (by decide), ob.mono (by decide), fun v1 H1 s1 f1 => ?_⟩
    obtain ⟨p, px, py, rfl, hp, fx, fy⟩ := f1
    have os := step_ok oa ob
    have o1 : Ok2 (stepPt a b).x (stepPt a b).x := ⟨os.1.x, os.1.x, os.2.x.mono (by decide), os.2.x.mono (by decide)⟩
    have o2 : Ok2 (stepPt a b).y (stepPt a b).y := ⟨os.1.y, os.1.y, os.2.y.mono (by decide), os.2.y.mono (by decide)⟩
    refine ⟨_, rfl, p, _, _, _, rfl, rfl, hp, rfl, _, rfl, p, _, _, _, rfl, rfl, hp, rfl, _, _, _, _, rfl, fx, fx, o1, fun v2 H2 s2 f2 => ?_⟩
    have hp2 := Same.tup s2 hp
    refine ⟨_, rfl, p, _, _, _, rfl, rfl, hp2, rfl, _, rfl, p, _, _, _, rfl, rfl, hp2, rfl, _, _, _, _, rfl, fy.mono s2, fy.mono s2, o2, fun v3 H3 s3 f3 => ?_⟩
    refine ⟨_, _, _, _, rfl, f2.mono s3, f3, ⟨mul_red os.1.x os.1.x, mul_red os.1.y os.1.y, (mul_sm os.1.x os.1.x os.2.x os.2.x).mono (by decide), (mul_sm os.1.y os.1.y os.2.y os.2.y).mono (by decide)⟩, fun v4 H4 s4 f4 => ?_⟩
    exact q _ _ (((s1.trans s2).trans s3).trans s4) f4
theorem ok_toldP (F : Txt K mg "told_point" sToldP ["point"]) (hl : mg "list" = none) : Def P w K mg base 1 "told_point" ["point"] (spToldP K) := by
  refine F.ok scToldP (fun vs H Q E h => ?_) (fun f cdv A outer s H vs Q E hr h => ?_)
  · obtain ⟨x, a, rfl, _⟩ := h
    rfl
  · obtain ⟨x, a, rfl, ⟨p, px, py, rfl, hp, ⟨p1, rfl, fx⟩, ⟨p2, rfl, fy⟩⟩, q⟩ := h
    refine ⟨_, pss_one (ps_ret (pe_op op_cat (pe_callTy call_list_of (by rfl) hl PyProof.Rows.boot_list (pa_cons (ixT 0) pa_nil)) (pe_callTy call_list_of (by rfl) hl PyProof.Rows.boot_list (pa_cons (ixT 0) pa_nil)))), ?_⟩
    refine ⟨_, rfl, p, _, _, _, rfl, rfl, hp, rfl, p1, _, rfl, .inr fx, fun l1 h1 => ?_⟩
    have s1 := Same.new (o := .lst [.int a.x.n, .int a.x.d]) h1
    refine ⟨_, rfl, p, _, _, _, rfl, rfl, Same.tup s1 hp, rfl, p2, _, rfl, .inr (Same.tup s1 fy), fun l2 h2 => ?_⟩
    have s2 := Same.new (o := .lst [.int a.y.n, .int a.y.d]) h2
    refine ⟨l1, l2, _, _, rfl, rfl, s2 _ _ upd_same, upd_same, (by show 4 ≤ sizeLine; decide), fun l3 h3 => ?_⟩
    have s3 := Same.new (o := .lst ([.int a.x.n, .int a.x.d] ++ [.int a.y.n, .int a.y.d])) h3
    exact q _ _ ((s1.trans s2).trans s3) ⟨l3, rfl, (s1.trans s2).free h3, upd_same⟩
end
end Cr
end
section
set_option Elab.async false
set_option linter.all false
set_option maxRecDepth 100000
set_option maxHeartbeats 2000000
namespace Cr
open PySem PySem.Spec PyProof.Rows L2
open Mu52 (Q Pt Map frac)
/-! ### == of int data -/
theorem eqvAll_ints : ∀ l m : List Int, PyData.eqvAll (l.map .int) (m.map .int) = decide (l = m)
  | [], [] => by rfl
  | [], _ :: _ => by rfl
  | _ :: _, [] => by rfl
  | a :: l, b :: m => by
    show (PyData.eqv (.int a) (.int b) && PyData.eqvAll (l.map .int) (m.map .int)) = _
    rw [eqvAll_ints l m]
    show ((a == b) && decide (l = m)) = _
    rw [Bool.eq_iff_iff]; simp
theorem canLayAll_ints : ∀ l : List Int, PyData.canLayAll0 (l.map .int) = true
  | [] => by simp [PyData.canLayAll0]
  | a :: l => by
    rw [List.map_cons, PyData.canLayAll0, canLayAll_ints l]; simp [PyData.canLay0]
theorem depthAll_ints : ∀ l : List Int, PyData.depthAll (l.map .int) = 0
  | [] => by simp [PyData.depthAll]
  | a :: l => by
    rw [List.map_cons, PyData.depthAll, depthAll_ints l]; simp [PyData.depth]
theorem shapedL (l : List Int) : SeqAt.shaped (.list (l.map .int)) = true := by
  unfold SeqAt.shaped
  rw [PyData.canLay0, canLayAll_ints, PyData.depth, depthAll_ints]; decide
theorem shapedT (l : List Int) : SeqAt.shaped (.tuple (l.map .int)) = true := by
  unfold SeqAt.shaped
  rw [PyData.canLay0, canLayAll_ints, PyData.depth, depthAll_ints]; decide
theorem dpAll_ints (K : PySem.W.Frag) (H : Hp) : ∀ l : List Int, DpAll K H (l.map V.int) (l.map .int)
  | [] => .nil
  | a :: l => .cons (.int a) (dpAll_ints K H l)
/-! ### motions -/
def mi (b : Bool) : Int := if b = true then 1 else 0
theorem mi_iff (b : Bool) : mi b = 1 ↔ b = true := by cases b <;> decide
theorem mi_inj {a b : Bool} (h : mi a = mi b) : a = b := by cases a <;> cases b <;> first | rfl | (revert h; decide)
theorem mi_xor (a b : Bool) : (mi a + mi b) % 2 = mi (a != b) := by cases a <;> cases b <;> decide
def moF (i s t : V) : List (Str × V) := putF "shift" t (putF "size" s (putF "mirrors" i []))
theorem moF_mirrors (i s t : V) : (moF i s t).lookup ("mirrors" : Str) = some i := by
  unfold moF
  rw [lookup_putF, if_neg (by decide +kernel), lookup_putF, if_neg (by decide +kernel), lookup_putF, if_pos rfl]
theorem moF_size (i s t : V) : (moF i s t).lookup ("size" : Str) = some s := by
  unfold moF
  rw [lookup_putF, if_neg (by decide +kernel), lookup_putF, if_pos rfl]
theorem moF_shift (i s t : V) : (moF i s t).lookup ("shift" : Str) = some t := by
  unfold moF
  rw [lookup_putF, if_pos rfl]
def MoV (C : Addr) (K : PySem.W.Frag) (H : Hp) (v : V) (m : Map) : Prop := ∃ a dx s t, v = .ref a ∧ H a = some (.ins C dx (moF (.int (mi m.mirror)) s t)) ∧ Fr K H s m.size ∧ PtV K H t m.shift
theorem MoV.mono {C : Addr} {K : PySem.W.Frag} {H H' : Hp} {v : V} {m : Map} (e : Same H H') (h : MoV C K H v m) : MoV C K H' v m := by
  obtain ⟨a, dx, s, t, h1, h2, h3, h4⟩ := h
  exact ⟨a, dx, s, t, h1, e _ _ h2, h3.mono e, h4.mono e⟩
def OkM (b : Nat) (m : Map) : Prop := RedM m ∧ SmM b m
theorem OkM.mono {a b : Nat} {p : Map} (h : OkM a p) (l : a ≤ b) : OkM b p := ⟨h.1, h.2.mono l⟩
theorem OkM.shift {b : Nat} {m : Map} (h : OkM b m) : OkP b m.shift := ⟨h.1.shift, h.2.shift⟩
/-- a module's fraction, a module's point -/
def GFr (K : PySem.W.Frag) (mg : Str → Option Value) (x : Str) (q : Q) : Prop := ∃ a, mg x = some (.ref a) ∧ ∀ H, Fr K H (.ref a) q
def GPt (K : PySem.W.Frag) (mg : Str → Option Value) (x : Str) (q : Pt) : Prop := ∃ a, mg x = some (.ref a) ∧ ∀ H, PtV K H (.ref a) q
def moNames : List Str := ["mirrors", "size", "shift"]
abbrev sMoI : Stmt := inClass (top 14) 0
abbrev sNoMo : Stmt := top 15
abbrev sSide : Stmt := top 16
abbrev sMoved : Stmt := top 17
abbrev sAbout : Stmt := top 18
abbrev sJoined : Stmt := top 19
abbrev sApart : Stmt := top 20
abbrev sToldM : Stmt := top 21
abbrev sRest : Stmt := top 22
abbrev sStay : Stmt := top 23
def mkMo : List V → List (Str × V)
  | [i, s, t] => moF i s t
  | _ => []
theorem scMoI : FnScope ["self", "mirrors", "size", "shift"] ["self", "mirrors", "size", "shift"] (defScope sMoI) := ⟨rfl, rfl, rfl, by decide +kernel, rfl, by decide +kernel, by decide +kernel⟩
theorem scNoMo : FnScope [] [] (defScope sNoMo) := ⟨rfl, rfl, rfl, by decide +kernel, rfl, by decide +kernel, by decide +kernel⟩
theorem scSide : FnScope ["motion"] ["motion"] (defScope sSide) := ⟨rfl, rfl, rfl, by decide +kernel, rfl, by decide +kernel, by decide +kernel⟩
theorem scMoved : FnScope ["motion", "point", "right", "up"] ["motion", "point"] (defScope sMoved) := ⟨rfl, rfl, rfl, by decide +kernel, rfl, by decide +kernel, by decide +kernel⟩
theorem scAbout : FnScope ["pivot", "size", "mirrors", "pivot_copy"] ["pivot", "size", "mirrors"] (defScope sAbout) := ⟨rfl, rfl, rfl, by decide +kernel, rfl, by decide +kernel, by decide +kernel⟩
theorem scJoined : FnScope ["first", "second", "mirrors"] ["first", "second"] (defScope sJoined) := ⟨rfl, rfl, rfl, by decide +kernel, rfl, by decide +kernel, by decide +kernel⟩
theorem scApart : FnScope ["first", "second"] ["first", "second"] (defScope sApart) := ⟨rfl, rfl, rfl, by decide +kernel, rfl, by decide +kernel, by decide +kernel⟩
theorem scToldM : FnScope ["motion"] ["motion"] (defScope sToldM) := ⟨rfl, rfl, rfl, by decide +kernel, rfl, by decide +kernel, by decide +kernel⟩
theorem scRest : FnScope ["size", "shift"] ["size", "shift"] (defScope sRest) := ⟨rfl, rfl, rfl, by decide +kernel, rfl, by decide +kernel, by decide +kernel⟩
theorem scStay : FnScope ["motion", "sideways", "upward", "right_kept", "up_kept"] ["motion"] (defScope sStay) := ⟨rfl, rfl, rfl, by decide +kernel, rfl, by decide +kernel, by decide +kernel⟩
section
variable {P : Program} {w : World} {K : PySem.W.Frag} {mg : Str → Option Value} {base : Heap}
theorem TxtI.ok {x qual : Str} {st : Stmt} {C : Addr} {N ps : List Str} {k n : Nat} {mk : List V → List (Str × V)} (F : TxtI K mg x qual st C ps) (S : FnScope N ps (defScope st)) (hn : n + 1 = ps.length)
    (hbody : ∀ (f : Addr) (cdv : Value) (A : Around) (outer : List Env) (s : Shared) (H : Hp) (p dx : Addr) (us : List V) (Q : VK) (E : XK), Room k (A.deeper (envOfC qual (defScope st) s.heap.objs.size f cdv)) → us.length = n → H p = some (.ins C dx []) →
      (∀ H' : Hp, H' p = some (.ins C dx (mk us)) → (∀ b o, H b = some o → b ≠ p → H' b = some o) → Q .non H') →
      ∃ t, PSs (cxOf CX0 P w K mg base N qual (defScope st) f cdv A outer s H E).nox (defBody st) t ∧ t { nx := fun _ H' => Q .non H', rt := Q } (start N (.ref p :: us)) H) : New P w K mg base (k + 1) x C n mk := by
  obtain ⟨f, fd, h1, h2, h3⟩ := F.ex
  refine ⟨⟨f, fd, ps, h2, h1.ok S (fun vs H Q E h => ?_) (fun cdv A outer s H vs Q E hr h => ?_), h3⟩, F.at_⟩
  · obtain ⟨p, dx, us, rfl, hl, _⟩ := h
    simp only [List.length_cons]; omega
  · obtain ⟨p, dx, us, rfl, hl, h1, h2⟩ := h
    exact hbody f cdv A outer s H p dx us Q E hr hl h1 h2
theorem ok_moI {C : Addr} (F : TxtI K mg "Motion" "Motion.__init__" sMoI C ["self", "mirrors", "size", "shift"]) (T : ClsT K mg "Motion" C moNames) : New P w K mg base 1 "Motion" C 3 mkMo := by
  refine F.ok scMoI rfl (fun f cdv A outer s H p dx us Q E hr hl hp k => ?_)
  match us, hl with
  | [i, sz, sh], _ =>
    refine ⟨_, pss_cons (ps_fld (pv 0) (pv 1) rfl) (pss_cons (ps_fld (pv 0) (pv 2) rfl) (pss_one (ps_fld (pv 0) (pv 3) rfl))), ?_⟩
    refine ⟨_, rfl, _, rfl, p, C, dx, [], rfl, hp, T.cl, T.na _ (by decide +kernel), (by show 0 < 1000; decide), ?_⟩
    refine ⟨_, rfl, _, rfl, p, C, dx, _, rfl, upd_same, T.cl, T.na _ (by decide +kernel), (by show 1 < 1000; decide), ?_⟩
    refine ⟨_, rfl, _, rfl, p, C, dx, _, rfl, upd_same, T.cl, T.na _ (by decide +kernel), (by show 2 < 1000; decide), ?_⟩
    exact k _ upd_same fun b o e hb => by rw [upd_ne hb, upd_ne hb, upd_ne hb]; exact e
def spNoMo (C : Addr) (K : PySem.W.Frag) : Sp := fun vs H Q _ => vs = [] ∧ ∀ v H', Same H H' → MoV C K H' v Mu52.stay → Q v H'
theorem ok_noMo {C : Addr} (F : Txt K mg "no_motion" sNoMo []) (N : New P w K mg base 1 "Motion" C 3 mkMo) (g1 : GFr K mg "ONE" Mu52.one) (g2 : GPt K mg "MIDDLE" ⟨Mu52.zero, Mu52.zero⟩) : Def P w K mg base 3 "no_motion" [] (spNoMo C K) := by
  refine F.ok scNoMo (fun vs H Q E h => ?_) (fun f cdv A outer s H vs Q E hr h => ?_)
  · obtain ⟨rfl, _⟩ := h
    rfl
  · obtain ⟨rfl, q⟩ := h
    obtain ⟨a1, e1, f1⟩ := g1
    obtain ⟨a2, e2, f2⟩ := g2
    refine ⟨_, pss_one (ps_ret (pe_new N hr rfl (pa_cons pe_int (pa_cons (pe_glob (v := .ref a1) rfl e1 rfl) (pa_cons (pe_glob (v := .ref a2) rfl e2 rfl) pa_nil))))), ?_⟩
    refine ⟨rfl, fun a dx H2 h1 h2 s1 => ?_⟩
    exact q _ _ s1 ⟨a, dx, _, _, rfl, h2, f1 _, f2 _⟩
def spSide (C : Addr) (K : PySem.W.Frag) : Sp := fun vs H Q _ => ∃ x m, vs = [x] ∧ MoV C K H x m ∧ Red m.size ∧ Sm 4400 m.size ∧ ∀ v H', Same H H' → Fr K H' v (side m) → Q v H'
theorem ok_side {C : Addr} (F : Txt K mg "sideways_size" sSide ["motion"]) (T : ClsT K mg "Motion" C moNames) (G : Def P w K mg base 3 "minus" ["one", "other"] (spBin K Q.sub Ok2)) (g0 : GFr K mg "ZERO" Mu52.zero) :
    Def P w K mg base 4 "sideways_size" ["motion"] (spSide C K) := by
  refine F.ok scSide (fun vs H Q E h => ?_) (fun f cdv A outer s H vs Q E hr h => ?_)
  · obtain ⟨x, m, rfl, _⟩ := h
    rfl
  · obtain ⟨x, m, rfl, ⟨a, dx, sz, sh, rfl, ha, fs, fh⟩, rs, ss, q⟩ := h
    obtain ⟨a0, e0, f0⟩ := g0
    refine ⟨_, pss_cons (ps_if (pt_cmpR op_eq (pe_fld (pv 0) rfl) pe_int (nomark _)) (pss_one (ps_ret (pe_def G hr rfl (pa_cons (pe_glob (v := .ref a0) rfl e0 rfl) (pa_cons (pe_fld (pv 0) rfl) pa_nil))))) pss_nil) (pss_one (ps_ret (pe_fld (pv 0) rfl))), ?_⟩
    refine ⟨_, rfl, a, C, dx, _, _, rfl, ha, T.cl, T.na _ (by decide +kernel), moF_mirrors _ _ _, rfl, _, rfl, ?_⟩
    refine ite2 (fun hc => ?_) (fun hc => ?_)
    · have hm : m.mirror = true := (mi_iff _).mp (V.int.inj (of_decide_eq_true hc))
      refine ⟨_, rfl, a, C, dx, _, _, rfl, ha, T.cl, T.na _ (by decide +kernel), moF_size _ _ _, _, _, _, _, rfl, f0 _, fs, ⟨zero_red, rs, zero_sm.mono (by decide), ss⟩, fun v H' s1 f1 => ?_⟩
      refine q v H' s1 ?_
      unfold side; rw [if_pos hm]; exact f1
    · have hm : ¬ m.mirror = true := fun e => hc (decide_eq_true (by rw [(mi_iff _).mpr e]))
      refine ⟨_, rfl, a, C, dx, _, _, rfl, ha, T.cl, T.na _ (by decide +kernel), moF_size _ _ _, ?_⟩
      refine q _ _ (Same.refl _) ?_
      unfold side; rw [if_neg hm]; exact fs
def spMoved (C : Addr) (K : PySem.W.Frag) : Sp := fun vs H Q _ => ∃ x y m p, vs = [x, y] ∧ MoV C K H x m ∧ PtV K H y p ∧ OkM 2000 m ∧ OkP 2000 p ∧ ∀ v H', Same H H' → PtV K H' v (Mu52.at_ m p) → Q v H'
theorem ok_moved {C : Addr} (F : Txt K mg "moved" sMoved ["motion", "point"]) (T : ClsT K mg "Motion" C moNames) (GP : Def P w K mg base 3 "plus" ["one", "other"] (spBin K Q.add Ok2)) (GT : Def P w K mg base 3 "times" ["one", "other"] (spBin K Q.mul Ok2))
    (GS : Def P w K mg base 4 "sideways_size" ["motion"] (spSide C K)) : Def P w K mg base 5 "moved" ["motion", "point"] (spMoved C K) := by
  refine F.ok scMoved (fun vs H Q E h => ?_) (fun f cdv A outer s H vs Q E hr h => ?_)
  · obtain ⟨x, y, m, p, rfl, _⟩ := h
    rfl
  · obtain ⟨x, y, m, p, rfl, ⟨a, dx, sz, sh, rfl, ha, fs, fh⟩, ⟨pa, px, py, rfl, hp, fx, fy⟩, ⟨rm, sm⟩, ⟨rp, sp⟩, q⟩ := h
    have hr3 : Room 3 _ := hr.mono (by decide)
    refine ⟨_, pss_cons (ps_set (i := 2) scMoved.nd rfl (Or.inl rfl) (pe_def GP hr3 rfl (pa_cons (pe_def GT hr3 rfl (pa_cons (pe_def GS hr rfl (pa_cons (pv 0) pa_nil)) (pa_cons (ixT 1) pa_nil))) (pa_cons (pe_ix ix_tup (pe_fld (pv 0) rfl) pe_int (fun _ _ => rfl)) pa_nil))))
      (pss_cons (ps_set (i := 3) scMoved.nd rfl (Or.inl rfl) (pe_def GP hr3 rfl (pa_cons (pe_def GT hr3 rfl (pa_cons (pe_fld (pv 0) rfl) (pa_cons (ixT 1) pa_nil))) (pa_cons (pe_ix ix_tup (pe_fld (pv 0) rfl) pe_int (fun _ _ => rfl)) pa_nil))))
      (pss_one (ps_ret (pe_tup (pa_cons (pv 2) (pa_cons (pv 3) pa_nil)))))), ?_⟩
    have hside := side_red rm.size
    have sside := side_sm rm.size sm.size
    refine ⟨_, rfl, _, _, rfl, ⟨a, dx, sz, sh, rfl, ha, fs, fh⟩, rm.size, sm.size.mono (by decide), fun v1 H1 s1 f1 => ?_⟩
    refine ⟨_, rfl, pa, _, _, _, rfl, rfl, Same.tup s1 hp, rfl, _, _, _, _, rfl, f1, fx.mono s1, ⟨hside, rp.x, sside.mono (by decide), sp.x.mono (by decide)⟩, fun v2 H2 s2 f2 => ?_⟩
    have s12 := s1.trans s2
    obtain ⟨ph, hx, hy, rfl, hh, fhx, fhy⟩ := fh
    refine ⟨_, rfl, a, C, dx, _, _, rfl, s12 _ _ ha, T.cl, T.na _ (by decide +kernel), moF_shift _ _ _, ph, _, _, _, rfl, rfl, Same.tup s12 hh, rfl, _, _, _, _, rfl, f2, fhx.mono s12, ⟨mul_red hside rp.x, rm.shift.x, (mul_sm hside rp.x sside sp.x).mono (by decide), sm.shift.x.mono (by decide)⟩, fun v3 H3 s3 f3 => ?_⟩
    have s13 := s12.trans s3
    refine ⟨_, rfl, a, C, dx, _, _, rfl, s13 _ _ ha, T.cl, T.na _ (by decide +kernel), moF_size _ _ _, _, rfl, pa, _, _, _, rfl, rfl, Same.tup s13 hp, rfl, _, _, _, _, rfl, fs.mono s13, fy.mono s13, ⟨rm.size, rp.y, sm.size.mono (by decide), sp.y.mono (by decide)⟩, fun v4 H4 s4 f4 => ?_⟩
    have s14 := s13.trans s4
    refine ⟨_, rfl, a, C, dx, _, _, rfl, s14 _ _ ha, T.cl, T.na _ (by decide +kernel), moF_shift _ _ _, ph, _, _, _, rfl, rfl, Same.tup s14 hh, rfl, _, _, _, _, rfl, f4, fhy.mono s14, ⟨mul_red rm.size rp.y, rm.shift.y, (mul_sm rm.size rp.y sm.size sp.y).mono (by decide), sm.shift.y.mono (by decide)⟩, fun v5 H5 s5 f5 => ?_⟩
    refine ⟨_, rfl, _, rfl, (by show 2 ≤ sizeLine; decide), fun r hr => ?_⟩
    have s6 : Same H5 _ := Same.new (o := .tup [v3, v5]) hr
    refine q _ _ ((s14.trans s5).trans s6) ?_
    rw [← moved_at rm.size]
    exact ⟨r, v3, v5, rfl, SqT.of upd_same, f3.mono ((s4.trans s5).trans s6), f5.mono s6⟩
end
end Cr
end
section
set_option Elab.async false
set_option linter.all false
set_option maxRecDepth 100000
set_option maxHeartbeats 2000000
namespace Cr
open PySem PySem.Spec PyProof.Rows L2
open Mu52 (Q Pt Map frac)
section
variable {P : Program} {w : World} {K : PySem.W.Frag} {mg : Str → Option Value} {base : Heap} {C : Addr}
def spAbout (C : Addr) (K : PySem.W.Frag) : Sp := fun vs H Q _ => ∃ x y p sz b, vs = [x, y, .int (mi b)] ∧ PtV K H x p ∧ Fr K H y sz ∧ OkP 100 p ∧ Red sz ∧ Sm 100 sz ∧ ∀ v H', Same H H' → MoV C K H' v (Mu52.mapOf ⟨p, sz, b⟩) → Q v H'
theorem ok_about (F : Txt K mg "about_pivot" sAbout ["pivot", "size", "mirrors"]) (N : New P w K mg base 1 "Motion" C 3 mkMo) (g2 : GPt K mg "MIDDLE" ⟨Mu52.zero, Mu52.zero⟩)
    (GM : Def P w K mg base 5 "moved" ["motion", "point"] (spMoved C K)) (GS : Def P w K mg base 4 "step_between" ["start", "end"] (spStep K)) : Def P w K mg base 6 "about_pivot" ["pivot", "size", "mirrors"] (spAbout C K) := by
  refine F.ok scAbout (fun vs H Q E h => ?_) (fun f cdv A outer s H vs Q E hr h => ?_)
  · obtain ⟨x, y, p, sz, b, rfl, _⟩ := h
    rfl
  · obtain ⟨x, y, p, sz, b, rfl, fp, fs, op, rs, ss, q⟩ := h
    obtain ⟨a2, e2, f2⟩ := g2
    have hr2 : Room 2 _ := hr.mono (by decide)
    have hr4 : Room 4 _ := hr.mono (by decide)
    refine ⟨_, pss_cons (ps_set (i := 3) scAbout.nd rfl (Or.inl rfl) (pe_def GM hr rfl (pa_cons (pe_new N hr2 rfl (pa_cons (pv 2) (pa_cons (pv 1) (pa_cons (pe_glob (v := .ref a2) rfl e2 rfl) pa_nil)))) (pa_cons (pv 0) pa_nil))))
      (pss_one (ps_ret (pe_new N hr2 rfl (pa_cons (pv 2) (pa_cons (pv 1) (pa_cons (pe_def GS hr4 rfl (pa_cons (pv 3) (pa_cons (pv 0) pa_nil))) pa_nil)))))), ?_⟩
    refine ⟨_, rfl, _, rfl, rfl, fun a dx H1 hn h1 s1 => ?_⟩
    have hm0 : OkM 100 ⟨b, sz, ⟨Mu52.zero, Mu52.zero⟩⟩ := ⟨⟨rs, zero_redP⟩, ⟨ss, ⟨zero_sm.mono (by decide), zero_sm.mono (by decide)⟩⟩⟩
    have hm1 : MoV C K H1 (.ref a) ⟨b, sz, ⟨Mu52.zero, Mu52.zero⟩⟩ := ⟨a, dx, y, .ref a2, rfl, h1, fs.mono s1, f2 _⟩
    refine ⟨_, rfl, _, _, _, _, rfl, hm1, fp.mono s1, hm0.mono (by decide), op.mono (by decide), fun v2 H2 s2 f2' => ?_⟩
    have s12 := s1.trans s2
    have o2 : OkP 4400 (Mu52.at_ ⟨b, sz, ⟨Mu52.zero, Mu52.zero⟩⟩ p) := ⟨at_red hm0.1 op.1, (moved_sm hm0.1 op.1 hm0.2 op.2).mono (by decide)⟩
    refine ⟨_, rfl, _, rfl, _, rfl, _, rfl, _, _, _, _, rfl, f2', fp.mono s12, o2, op.mono (by decide), fun v3 H3 s3 f3 => ?_⟩
    refine ⟨rfl, fun a' dx' H4 hn4 h4 s4 => ?_⟩
    have s14 := (s12.trans s3).trans s4
    refine q _ _ s14 ?_
    rw [← about_mapOf op.1 rs]
    refine ⟨a', dx', _, _, rfl, h4, fs.mono s14, ?_⟩
    have : (aboutM p sz b).shift = stepPt (Mu52.at_ ⟨b, sz, ⟨Mu52.zero, Mu52.zero⟩⟩ p) p := by
      unfold aboutM stepPt
      rw [moved_at (m := ⟨b, sz, ⟨Mu52.zero, Mu52.zero⟩⟩) rs]
    rw [this]
    exact f3.mono s4
def spJoined (C : Addr) (K : PySem.W.Frag) : Sp := fun vs H Q _ => ∃ x y m n, vs = [x, y] ∧ MoV C K H x m ∧ MoV C K H y n ∧ OkM 2000 m ∧ OkM 2000 n ∧ ∀ v H', Same H H' → MoV C K H' v (Mu52.andThen m n) → Q v H'
theorem ok_joined (F : Txt K mg "joined" sJoined ["first", "second"]) (T : ClsT K mg "Motion" C moNames) (N : New P w K mg base 1 "Motion" C 3 mkMo) (GT : Def P w K mg base 3 "times" ["one", "other"] (spBin K Q.mul Ok2))
    (GM : Def P w K mg base 5 "moved" ["motion", "point"] (spMoved C K)) : Def P w K mg base 6 "joined" ["first", "second"] (spJoined C K) := by
  refine F.ok scJoined (fun vs H Q E h => ?_) (fun f cdv A outer s H vs Q E hr h => ?_)
  · obtain ⟨x, y, m, n, rfl, _⟩ := h
    rfl
  · obtain ⟨x, y, m, n, rfl, ⟨a, dx, sz, sh, rfl, ha, fs, fh⟩, hn, om, on, q⟩ := h
    obtain ⟨a', dx', sz', sh', rfl, ha', fs', fh'⟩ := id hn
    have hr2 : Room 2 _ := hr.mono (by decide)
    have hr3 : Room 3 _ := hr.mono (by decide)
    refine ⟨_, pss_cons (ps_set (i := 2) scJoined.nd rfl (Or.inl rfl) (pe_op op_mod (pe_op op_add (pe_fld (pv 0) rfl) (pe_fld (pv 1) rfl)) pe_int))
      (pss_one (ps_ret (pe_new N hr2 rfl (pa_cons (pv 2) (pa_cons (pe_def GT hr3 rfl (pa_cons (pe_fld (pv 0) rfl) (pa_cons (pe_fld (pv 1) rfl) pa_nil))) (pa_cons (pe_def GM hr rfl (pa_cons (pv 1) (pa_cons (pe_fld (pv 0) rfl) pa_nil))) pa_nil)))))), ?_⟩
    refine ⟨_, rfl, a, C, dx, _, _, rfl, ha, T.cl, T.na _ (by decide +kernel), moF_mirrors _ _ _, _, rfl, a', C, dx', _, _, rfl, ha', T.cl, T.na _ (by decide +kernel), moF_mirrors _ _ _, _, _, rfl, rfl, _, _, rfl, rfl, (by show (0 : Int) < 2; decide), ?_⟩
    refine ⟨_, rfl, _, rfl, a, C, dx, _, _, rfl, ha, T.cl, T.na _ (by decide +kernel), moF_size _ _ _, _, rfl, a', C, dx', _, _, rfl, ha', T.cl, T.na _ (by decide +kernel), moF_size _ _ _, _, _, _, _, rfl, fs, fs', ⟨om.1.size, on.1.size, om.2.size.mono (by decide), on.2.size.mono (by decide)⟩, fun v1 H1 s1 f1 => ?_⟩
    refine ⟨_, rfl, _, rfl, a, C, dx, _, _, rfl, s1 _ _ ha, T.cl, T.na _ (by decide +kernel), moF_shift _ _ _, _, _, _, _, rfl, hn.mono s1, fh.mono s1, on, om.shift, fun v2 H2 s2 f2 => ?_⟩
    refine ⟨rfl, fun b db H3 hb h3 s3 => ?_⟩
    refine q _ _ ((s1.trans s2).trans s3) ⟨b, db, v1, v2, rfl, ?_, f1.mono (s2.trans s3), f2.mono s3⟩
    rw [h3]
    show some (HO.ins C db (moF (.int ((mi m.mirror + mi n.mirror) % 2)) v1 v2)) = _
    rw [mi_xor]; rfl
def spApart (C : Addr) (K : PySem.W.Frag) : Sp := fun vs H Q _ => ∃ x y m n, vs = [x, y] ∧ MoV C K H x m ∧ MoV C K H y n ∧ OkM 500 m ∧ OkM 500 n ∧ ∀ v H', Same H H' → PtV K H' v (Mu52.minus (Mu52.andThen m n).shift (Mu52.andThen n m).shift) → Q v H'
theorem joined_ok {m n : Map} {a b : Nat} (hm : OkM a m) (hn : OkM b n) : OkM (a + 2 * b + 1) (Mu52.andThen m n) := ⟨andThen_red hm.1 hn.1, andThen_sm hm.1 hn.1 hm.2 hn.2⟩
theorem ok_apart (F : Txt K mg "shift_apart" sApart ["first", "second"]) (T : ClsT K mg "Motion" C moNames) (GS : Def P w K mg base 4 "step_between" ["start", "end"] (spStep K))
    (GJ : Def P w K mg base 6 "joined" ["first", "second"] (spJoined C K)) : Def P w K mg base 7 "shift_apart" ["first", "second"] (spApart C K) := by
  refine F.ok scApart (fun vs H Q E h => ?_) (fun f cdv A outer s H vs Q E hr h => ?_)
  · obtain ⟨x, y, m, n, rfl, _⟩ := h
    rfl
  · obtain ⟨x, y, m, n, rfl, hm, hn, om, on, q⟩ := h
    have hr4 : Room 4 _ := hr.mono (by decide)
    refine ⟨_, pss_one (ps_ret (pe_def GS hr4 rfl (pa_cons (pe_fld (pe_def GJ hr rfl (pa_cons (pv 1) (pa_cons (pv 0) pa_nil))) rfl) (pa_cons (pe_fld (pe_def GJ hr rfl (pa_cons (pv 0) (pa_cons (pv 1) pa_nil))) rfl) pa_nil)))), ?_⟩
    refine ⟨_, rfl, _, rfl, _, _, _, _, rfl, hn, hm, on.mono (by decide), om.mono (by decide), fun v1 H1 s1 f1 => ?_⟩
    obtain ⟨a, dx, sz, sh, rfl, ha, fs, fh⟩ := f1
    refine ⟨a, C, dx, _, _, rfl, ha, T.cl, T.na _ (by decide +kernel), moF_shift _ _ _, ?_⟩
    refine ⟨_, rfl, _, rfl, _, _, _, _, rfl, hm.mono s1, hn.mono s1, om.mono (by decide), on.mono (by decide), fun v2 H2 s2 f2 => ?_⟩
    obtain ⟨a', dx', sz', sh', rfl, ha', fs', fh'⟩ := f2
    refine ⟨a', C, dx', _, _, rfl, ha', T.cl, T.na _ (by decide +kernel), moF_shift _ _ _, ?_⟩
    refine ⟨_, _, _, _, rfl, fh.mono s2, fh', (joined_ok on om).shift.mono (by decide), (joined_ok om on).shift.mono (by decide), fun v3 H3 s3 f3 => ?_⟩
    exact q _ _ ((s1.trans s2).trans s3) f3
def toldM (m : Map) : List Int := mi m.mirror :: Mu52.told m.size ++ Mu52.toldPt m.shift
def spToldM (C : Addr) (K : PySem.W.Frag) : Sp := fun vs H Q _ => ∃ x m, vs = [x] ∧ MoV C K H x m ∧ ∀ v H', Same H H' → LsN H H' v (toldM m) → Q v H'
theorem ok_toldM (F : Txt K mg "told_motion" sToldM ["motion"]) (T : ClsT K mg "Motion" C moNames) (hl : mg "list" = none) (G : Def P w K mg base 1 "told_point" ["point"] (spToldP K)) : Def P w K mg base 2 "told_motion" ["motion"] (spToldM C K) := by
  refine F.ok scToldM (fun vs H Q E h => ?_) (fun f cdv A outer s H vs Q E hr h => ?_)
  · obtain ⟨x, m, rfl, _⟩ := h
    rfl
  · obtain ⟨x, m, rfl, ⟨a, dx, sz, sh, rfl, ha, ⟨ps, rfl, fs⟩, fh⟩, q⟩ := h
    refine ⟨_, pss_one (ps_ret (pe_op op_cat (pe_op op_cat (pe_lst (pa_cons (pe_fld (pv 0) rfl) pa_nil)) (pe_callTy call_list_of (by rfl) hl PyProof.Rows.boot_list (pa_cons (pe_fld (pv 0) rfl) pa_nil))) (pe_def G hr rfl (pa_cons (pe_fld (pv 0) rfl) pa_nil)))), ?_⟩
    refine ⟨_, rfl, a, C, dx, _, _, rfl, ha, T.cl, T.na _ (by decide +kernel), moF_mirrors _ _ _, (by show 1 ≤ sizeLine; decide), fun l1 h1 => ?_⟩
    have s1 := Same.new (o := .lst [.int (mi m.mirror)]) h1
    refine ⟨_, rfl, a, C, dx, _, _, rfl, s1 _ _ ha, T.cl, T.na _ (by decide +kernel), moF_size _ _ _, ps, _, rfl, .inr (Same.tup s1 fs), fun l2 h2 => ?_⟩
    have s2 := Same.new (o := .lst [.int m.size.n, .int m.size.d]) h2
    refine ⟨l1, l2, _, _, rfl, rfl, s2 _ _ upd_same, upd_same, (by show 3 ≤ sizeLine; decide), fun l3 h3 => ?_⟩
    have s3 := Same.new (o := .lst ([.int (mi m.mirror)] ++ [.int m.size.n, .int m.size.d])) h3
    have s13 := (s1.trans s2).trans s3
    refine ⟨_, rfl, a, C, dx, _, _, rfl, s13 _ _ ha, T.cl, T.na _ (by decide +kernel), moF_shift _ _ _, _, _, rfl, fh.mono s13, fun v4 H4 s4 f4 => ?_⟩
    obtain ⟨l4, rfl, _, h4⟩ := f4
    refine ⟨l3, l4, _, _, rfl, rfl, s4 _ _ upd_same, h4, (by show 7 ≤ sizeLine; decide), fun l5 h5 => ?_⟩
    have s5 := Same.new (o := .lst (([.int (mi m.mirror)] ++ [.int m.size.n, .int m.size.d]) ++ (Mu52.toldPt m.shift).map V.int)) h5
    exact q _ _ ((s13.trans s4).trans s5) ⟨l5, rfl, (s13.trans s4).free h5, upd_same⟩
def spRest (K : PySem.W.Frag) : Sp := fun vs H Q _ => ∃ x y a b, vs = [x, y] ∧ Fr K H x a ∧ Fr K H y b ∧ Red a ∧ Red b ∧ Sm 1000 a ∧ Sm 1000 b ∧ (Mu52.one.sub a).n ≠ 0 ∧ ∀ v H', Same H H' → Fr K H' v (b.div (Mu52.one.sub a)) → Q v H'
theorem ok_rest (F : Txt K mg "resting_place" sRest ["size", "shift"]) (GD : Def P w K mg base 3 "divided_by" ["one", "other"] (spBin K Q.div fun a b => Ok2 a b ∧ b.n ≠ 0)) (GM : Def P w K mg base 3 "minus" ["one", "other"] (spBin K Q.sub Ok2))
    (g1 : GFr K mg "ONE" Mu52.one) : Def P w K mg base 4 "resting_place" ["size", "shift"] (spRest K) := by
  refine F.ok scRest (fun vs H Q E h => ?_) (fun f cdv A outer s H vs Q E hr h => ?_)
  · obtain ⟨x, y, a, b, rfl, _⟩ := h
    rfl
  · obtain ⟨x, y, a, b, rfl, fa, fb, ra, rb, sa, sb, hn, q⟩ := h
    obtain ⟨a1, e1, f1⟩ := g1
    refine ⟨_, pss_one (ps_ret (pe_def GD hr rfl (pa_cons (pv 1) (pa_cons (pe_def GM hr rfl (pa_cons (pe_glob (v := .ref a1) rfl e1 rfl) (pa_cons (pv 0) pa_nil))) pa_nil)))), ?_⟩
    refine ⟨_, rfl, _, rfl, _, _, _, _, rfl, f1 _, fa, ⟨one_red, ra, one_sm.mono (by decide), sa.mono (by decide)⟩, fun v1 H1 s1 f1 => ?_⟩
    exact ⟨_, _, _, _, rfl, fb.mono s1, f1, ⟨⟨rb, sub_red one_red ra, sb.mono (by decide), (sub_sm one_red ra one_sm sa).mono (by decide)⟩, hn⟩, fun v2 H2 s2 f2 => q _ _ (s1.trans s2) f2⟩
end
end Cr
end
section
set_option Elab.async false
set_option linter.all false
set_option maxRecDepth 100000
set_option maxHeartbeats 2000000
namespace Cr
open PySem PySem.Spec PyProof.Rows L2
open Mu52 (Q Pt Map frac)
theorem beqQ (a b : Q) : (a == b) = decide (a = b) := by
  rw [Bool.eq_iff_iff, decide_eq_true_iff]
  cases a; cases b
  show ((_ == _ && _ == _) = true) ↔ _
  simp
theorem beqP (a b : Pt) : (a == b) = decide (a = b) := by
  rw [Bool.eq_iff_iff, decide_eq_true_iff]
  cases a; cases b
  show ((_ == _ && _ == _) = true) ↔ _
  rw [beqQ, beqQ]; simp
theorem beqM (a b : Map) : (a == b) = decide (a = b) := by
  rw [Bool.eq_iff_iff, decide_eq_true_iff]
  cases a; cases b
  show ((_ == _ && (_ == _ && _ == _)) = true) ↔ _
  rw [beqQ, beqP]; simp
def dF (a : Q) : PyData := .tuple ([a.n, (a.d : Int)].map .int)
theorem dpF {K : PySem.W.Frag} {H : Hp} {x : V} {a : Q} (h : Fr K H x a) : Dp K H x (dF a) := by
  obtain ⟨p, rfl, h1⟩ := h
  exact .tup h1 (dpAll_ints _ _ [a.n, (a.d : Int)])
theorem shF (a : Q) : SeqAt.shaped (dF a) = true := shapedT _
theorem eqvF (a b : Q) : PyData.eqv (dF a) (dF b) = decide (a = b) := by
  show PyData.eqvAll _ _ = _
  rw [eqvAll_ints, Bool.eq_iff_iff]
  cases a; cases b; simp; intro _; omega
theorem dpL {K : PySem.W.Frag} {H : Hp} {x : V} {a : List Int} (h : Ls H x a) : Dp K H x (.list (a.map .int)) := by
  obtain ⟨p, rfl, h1⟩ := h
  exact .lst (SqL.of h1) (dpAll_ints _ _ _)
theorem eqvL (a b : List Int) : PyData.eqv (.list (a.map .int)) (.list (b.map .int)) = decide (a = b) := eqvAll_ints a b
theorem rest_ne {a : Q} (ra : Red a) (h : a ≠ Mu52.one) : (Mu52.one.sub a).n ≠ 0 := by
  intro e
  have h1 : toR (Mu52.one.sub a) = 0 := by
    unfold toR; rw [e]
    have : ((0 : Int) : Rat) = 0 := rfl
    rw [this]; grind
  rw [sub_val one_red ra] at h1
  exact h (toR_inj ra one_red (by grind))
def toldS : Mu52.Stays → List Int
  | .none_ => [0]
  | .one p => 1 :: Mu52.toldPt p
  | .upright x => 2 :: Mu52.told x
  | .level y => 3 :: Mu52.told y
  | .all => [4]
theorem stays_eq {m : Map} (h : Red m.size) : Mu52.stays m =
    if side m = Mu52.one ∧ m.shift.x ≠ Mu52.zero then .none_ else if m.size = Mu52.one ∧ m.shift.y ≠ Mu52.zero then .none_ else if side m = Mu52.one ∧ m.size = Mu52.one then .all
    else if side m = Mu52.one then .level (m.shift.y.div (Mu52.one.sub m.size)) else if m.size = Mu52.one then .upright (m.shift.x.div (Mu52.one.sub (side m)))
    else .one ⟨m.shift.x.div (Mu52.one.sub (side m)), m.shift.y.div (Mu52.one.sub m.size)⟩ := by
  unfold Mu52.stays
  simp only [← side_eq h, beqQ, decide_eq_true_iff]
theorem tAnd_pure {t u : TT} {σ : L2.St} {H : Hp} {Q : Bool → Hp → Prop} (b c : Bool) (ht : ∀ Q : Bool → Hp → Prop, Q b H → t σ H Q) (hu : ∀ Q : Bool → Hp → Prop, Q c H → u σ H Q) (q : Q (b && c) H) : tAnd t u σ H Q := by
  refine ht _ ?_
  cases b
  · exact iteF q
  · exact iteT (hu _ q)
theorem tOr_pure {t u : TT} {σ : L2.St} {H : Hp} {Q : Bool → Hp → Prop} (b c : Bool) (ht : ∀ Q : Bool → Hp → Prop, Q b H → t σ H Q) (hu : ∀ Q : Bool → Hp → Prop, Q c H → u σ H Q) (q : Q (b || c) H) : tOr t u σ H Q := by
  refine ht _ ?_
  cases b
  · exact iteF (hu _ q)
  · exact iteT q
section
variable {P : Program} {w : World} {K : PySem.W.Frag} {mg : Str → Option Value} {base : Heap} {C : Addr}
def spStay (C : Addr) (K : PySem.W.Frag) : Sp := fun vs H Q _ => ∃ x m, vs = [x] ∧ MoV C K H x m ∧ OkM 1000 m ∧ ∀ v H', Same H H' → LsN H H' v (toldS (Mu52.stays m)) → Q v H'
theorem ok_stay (F : Txt K mg "told_staying" sStay ["motion"]) (T : ClsT K mg "Motion" C moNames) (hl : mg "list" = none) (g0 : GFr K mg "ZERO" Mu52.zero) (g1 : GFr K mg "ONE" Mu52.one) (GS : Def P w K mg base 4 "sideways_size" ["motion"] (spSide C K))
    (GR : Def P w K mg base 4 "resting_place" ["size", "shift"] (spRest K)) (GP : Def P w K mg base 1 "told_point" ["point"] (spToldP K)) : Def P w K mg base 5 "told_staying" ["motion"] (spStay C K) := by
  refine F.ok scStay (fun vs H Q E h => ?_) (fun f cdv A outer s H vs Q E hr h => ?_)
  · obtain ⟨x, m, rfl, _⟩ := h
    rfl
  · obtain ⟨x, m, rfl, hm, om, q⟩ := h
    obtain ⟨a, dx, sz, sh, rfl, ha, fs, fh⟩ := id hm
    obtain ⟨ph, hx, hy, rfl, hh, fhx, fhy⟩ := id fh
    obtain ⟨a0, e0, f0⟩ := g0
    obtain ⟨a1, e1, f1⟩ := g1
    have hu := hr.units
    have hr1 : Room 1 _ := hr.mono (by decide)
    refine ⟨_, pss_cons (ps_set (i := 1) scStay.nd rfl (Or.inl rfl) (pe_def GS hr rfl (pa_cons (pv 0) pa_nil)))
      (pss_cons (ps_set (i := 2) scStay.nd rfl (Or.inl rfl) (pe_fld (pv 0) rfl))
      (pss_cons (ps_set (i := 3) scStay.nd rfl (Or.inl rfl) (pe_cmpR (op_eqD hu) (pv 1) (pe_glob (v := .ref a1) rfl e1 rfl) (nomark _)))
      (pss_cons (ps_set (i := 4) scStay.nd rfl (Or.inl rfl) (pe_cmpR (op_eqD hu) (pv 2) (pe_glob (v := .ref a1) rfl e1 rfl) (nomark _)))
      (pss_cons (ps_if (pw_or (pw_and (pt_val (pv 3)) (pw_and1 (pt_cmpR (op_neD hu) (pe_ix ix_tup (pe_fld (pv 0) rfl) pe_int (fun _ _ => rfl)) (pe_glob (v := .ref a0) (by rfl) e0 rfl) (nomark _)))).pt (pw_or1 (pw_and (pt_val (pv 4)) (pw_and1 (pt_cmpR (op_neD hu) (pe_ix ix_tup (pe_fld (pv 0) rfl) pe_int (fun _ _ => rfl)) (pe_glob (v := .ref a0) (by rfl) e0 rfl) (nomark _)))).pt)).pt (pss_one (ps_ret (pe_lst (pa_cons pe_int pa_nil)))) pss_nil)
      (pss_cons (ps_if (pw_and (pt_val (pv 3)) (pw_and1 (pt_val (pv 4)))).pt (pss_one (ps_ret (pe_lst (pa_cons pe_int pa_nil)))) pss_nil)
      (pss_cons (ps_if (pt_val (pv 3)) (pss_one (ps_ret (pe_op op_cat (pe_lst (pa_cons pe_int pa_nil)) (pe_callTy call_list_of (by rfl) hl PyProof.Rows.boot_list (pa_cons (pe_def GR hr rfl (pa_cons (pv 2) (pa_cons (pe_ix ix_tup (pe_fld (pv 0) rfl) pe_int (fun _ _ => rfl)) pa_nil))) pa_nil))))) pss_nil)
      (pss_cons (ps_if (pt_val (pv 4)) (pss_one (ps_ret (pe_op op_cat (pe_lst (pa_cons pe_int pa_nil)) (pe_callTy call_list_of (by rfl) hl PyProof.Rows.boot_list (pa_cons (pe_def GR hr rfl (pa_cons (pv 1) (pa_cons (pe_ix ix_tup (pe_fld (pv 0) rfl) pe_int (fun _ _ => rfl)) pa_nil))) pa_nil))))) pss_nil)
      (pss_one (ps_ret (pe_op op_cat (pe_lst (pa_cons pe_int pa_nil)) (pe_def GP hr1 rfl (pa_cons (pe_tup (pa_cons (pe_def GR hr rfl (pa_cons (pv 1) (pa_cons (pe_ix ix_tup (pe_fld (pv 0) rfl) pe_int (fun _ _ => rfl)) pa_nil))) (pa_cons (pe_def GR hr rfl (pa_cons (pv 2) (pa_cons (pe_ix ix_tup (pe_fld (pv 0) rfl) pe_int (fun _ _ => rfl)) pa_nil))) pa_nil))) pa_nil)))))))))))), ?_⟩
    have rm := om.1
    have sm := om.2
    have hside := side_red rm.size
    have sside := side_sm rm.size sm.size
    refine ⟨_, rfl, _, _, rfl, hm, rm.size, sm.size.mono (by decide), fun v1 H1 s1 fv => ?_⟩
    have ha1 := s1 _ _ ha
    have hh1 := Same.tup s1 hh
    refine ⟨_, rfl, a, C, dx, _, _, rfl, ha1, T.cl, T.na _ (by decide +kernel), moF_size _ _ _, ?_⟩
    refine ⟨_, rfl, dF _, dF _, dpF fv, dpF (f1 _), shF _, shF _, ?_⟩
    rw [eqvF]
    refine ⟨_, rfl, dF _, dF _, dpF (fs.mono s1), dpF (f1 _), shF _, shF _, ?_⟩
    rw [eqvF]
    rw [stays_eq rm.size] at q
    dsimp only [gName, tSeq, tIfS, tNext]
    refine tOr_pure (decide (side m = Mu52.one) && !decide (m.shift.x = Mu52.zero)) (decide (m.size = Mu52.one) && !decide (m.shift.y = Mu52.zero)) (fun Q' q' => ?_) (fun Q' q' => ?_) ?_
    · refine tAnd_pure _ _ (fun Q2 q2 => ⟨_, rfl, _, rfl, q2⟩) (fun Q2 q2 => ?_) q'
      exact ⟨_, rfl, a, C, dx, _, _, rfl, ha1, T.cl, T.na _ (by decide +kernel), moF_shift _ _ _, ph, _, _, _, rfl, rfl, hh1, rfl, dF _, dF _, dpF (fhx.mono s1), dpF (f0 _), shF _, shF _, _, rfl, by rw [eqvF]; exact q2⟩
    · refine tAnd_pure _ _ (fun Q2 q2 => ⟨_, rfl, _, rfl, q2⟩) (fun Q2 q2 => ?_) q'
      exact ⟨_, rfl, a, C, dx, _, _, rfl, ha1, T.cl, T.na _ (by decide +kernel), moF_shift _ _ _, ph, _, _, _, rfl, rfl, hh1, rfl, dF _, dF _, dpF (fhy.mono s1), dpF (f0 _), shF _, shF _, _, rfl, by rw [eqvF]; exact q2⟩
    refine ite2 (fun hc => ?_) (fun hc => ?_)
    · refine ⟨(by show 1 ≤ sizeLine; decide), fun l h1 => ?_⟩
      refine q _ _ (s1.trans (Same.new h1)) ⟨l, rfl, s1.free h1, ?_⟩
      rw [upd_same]
      simp only [Bool.or_eq_true, Bool.and_eq_true, decide_eq_true_iff, Bool.not_eq_true', decide_eq_false_iff_not] at hc
      rcases hc with hc | hc
      · rw [if_pos hc]; rfl
      · by_cases h3 : side m = Mu52.one ∧ m.shift.x ≠ Mu52.zero
        · rw [if_pos h3]; rfl
        · rw [if_neg h3, if_pos hc]; rfl
    · simp only [Bool.or_eq_true, Bool.and_eq_true, decide_eq_true_iff, Bool.not_eq_true', decide_eq_false_iff_not, not_or] at hc
      rw [if_neg hc.1, if_neg hc.2] at q
      refine tAnd_pure (decide (side m = Mu52.one)) (decide (m.size = Mu52.one)) (fun Q2 q2 => ⟨_, rfl, _, rfl, q2⟩) (fun Q2 q2 => ⟨_, rfl, _, rfl, q2⟩) ?_
      refine ite2 (fun hc2 => ?_) (fun hc2 => ?_)
      · simp only [Bool.and_eq_true, decide_eq_true_iff] at hc2
        rw [if_pos hc2] at q
        refine ⟨(by show 1 ≤ sizeLine; decide), fun l h1 => ?_⟩
        exact q _ _ (s1.trans (Same.new h1)) ⟨l, rfl, s1.free h1, by rw [upd_same]; rfl⟩
      · simp only [Bool.and_eq_true, decide_eq_true_iff] at hc2
        rw [if_neg hc2] at q
        refine ⟨_, rfl, _, rfl, ite2 (fun hc3 => ?_) (fun hc3 => ?_)⟩
        · have hc3 := of_decide_eq_true hc3
          rw [if_pos hc3] at q
          have hy1 : m.size ≠ Mu52.one := fun e => hc2 ⟨hc3, e⟩
          refine ⟨(by show 1 ≤ sizeLine; decide), fun l h1 => ?_⟩
          have s2 := s1.trans (Same.new (o := .lst [.int 3]) h1)
          refine ⟨_, rfl, _, rfl, a, C, dx, _, _, rfl, s2 _ _ ha, T.cl, T.na _ (by decide +kernel), moF_shift _ _ _, ph, _, _, _, rfl, rfl, Same.tup s2 hh, rfl, _, _, _, _, rfl, fs.mono s2, fhy.mono s2, rm.size, rm.shift.y, sm.size, sm.shift.y, rest_ne rm.size hy1, fun v2 H2 s3 f2 => ?_⟩
          obtain ⟨p2, rfl, hp2⟩ := f2
          refine ⟨p2, _, rfl, .inr hp2, fun l2 h2 => ?_⟩
          have s4 := Same.new (o := .lst [.int (m.shift.y.div (Mu52.one.sub m.size)).n, .int (m.shift.y.div (Mu52.one.sub m.size)).d]) h2
          refine ⟨l, l2, _, _, rfl, rfl, s4 _ _ (s3 _ _ upd_same), upd_same, (by show 3 ≤ sizeLine; decide), fun l3 h3 => ?_⟩
          exact q _ _ (((s2.trans s3).trans s4).trans (Same.new h3)) ⟨l3, rfl, ((s2.trans s3).trans s4).free h3, by rw [upd_same]; rfl⟩
        · have hc3 : ¬ side m = Mu52.one := fun e => hc3 (decide_eq_true e)
          rw [if_neg hc3] at q
          refine ⟨_, rfl, _, rfl, ite2 (fun hc4 => ?_) (fun hc4 => ?_)⟩
          · have hc4 := of_decide_eq_true hc4
            rw [if_pos hc4] at q
            refine ⟨(by show 1 ≤ sizeLine; decide), fun l h1 => ?_⟩
            have s2' := Same.new (o := .lst [.int 2]) h1
            have s2 := s1.trans s2'
            refine ⟨_, rfl, _, rfl, a, C, dx, _, _, rfl, s2 _ _ ha, T.cl, T.na _ (by decide +kernel), moF_shift _ _ _, ph, _, _, _, rfl, rfl, Same.tup s2 hh, rfl, _, _, _, _, rfl, fv.mono s2', fhx.mono s2, hside, rm.shift.x, sside, sm.shift.x, rest_ne hside hc3, fun v2 H2 s3 f2 => ?_⟩
            obtain ⟨p2, rfl, hp2⟩ := f2
            refine ⟨p2, _, rfl, .inr hp2, fun l2 h2 => ?_⟩
            have s4 := Same.new (o := .lst [.int (m.shift.x.div (Mu52.one.sub (side m))).n, .int (m.shift.x.div (Mu52.one.sub (side m))).d]) h2
            refine ⟨l, l2, _, _, rfl, rfl, s4 _ _ (s3 _ _ upd_same), upd_same, (by show 3 ≤ sizeLine; decide), fun l3 h3 => ?_⟩
            exact q _ _ (((s2.trans s3).trans s4).trans (Same.new h3)) ⟨l3, rfl, ((s2.trans s3).trans s4).free h3, by rw [upd_same]; rfl⟩
          · have hc4 : ¬ m.size = Mu52.one := fun e => hc4 (decide_eq_true e)
            rw [if_neg hc4] at q
            refine ⟨(by show 1 ≤ sizeLine; decide), fun l h1 => ?_⟩
            have s2' := Same.new (o := .lst [.int 1]) h1
            have s2 := s1.trans s2'
            refine ⟨_, rfl, _, rfl, a, C, dx, _, _, rfl, s2 _ _ ha, T.cl, T.na _ (by decide +kernel), moF_shift _ _ _, ph, _, _, _, rfl, rfl, Same.tup s2 hh, rfl, _, _, _, _, rfl, fv.mono s2', fhx.mono s2, hside, rm.shift.x, sside, sm.shift.x, rest_ne hside hc3, fun v2 H2 s3 f2 => ?_⟩
            have s23 := s2.trans s3
            refine ⟨_, rfl, _, rfl, a, C, dx, _, _, rfl, s23 _ _ ha, T.cl, T.na _ (by decide +kernel), moF_shift _ _ _, ph, _, _, _, rfl, rfl, Same.tup s23 hh, rfl, _, _, _, _, rfl, fs.mono s23, fhy.mono s23, rm.size, rm.shift.y, sm.size, sm.shift.y, rest_ne rm.size hc4, fun v3 H3 s4 f3 => ?_⟩
            refine ⟨(by show 2 ≤ sizeLine; decide), fun t ht => ?_⟩
            have s5 := Same.new (o := .tup [v2, v3]) ht
            refine ⟨_, ⟨m.shift.x.div (Mu52.one.sub (side m)), m.shift.y.div (Mu52.one.sub m.size)⟩, rfl, ⟨t, v2, v3, rfl, SqT.of upd_same, f2.mono (s4.trans s5), f3.mono s5⟩, fun v6 H6 s6 f6 => ?_⟩
            obtain ⟨l6, rfl, _, h6⟩ := f6
            refine ⟨l, l6, _, _, rfl, rfl, s6 _ _ (s5 _ _ (s4 _ _ (s3 _ _ upd_same))), h6, (by show 5 ≤ sizeLine; decide), fun l7 h7 => ?_⟩
            exact q _ _ ((((s23.trans s4).trans s5).trans s6).trans (Same.new h7)) ⟨l7, rfl, (((s23.trans s4).trans s5).trans s6).free h7, by rw [upd_same]; rfl⟩
end
end Cr
end
section
set_option linter.all false
namespace Cr
open Mu52
open Mu52Neutral (nats)
theorem fm_congr {α β : Type} : ∀ {l : List α} {f g : α → List β}, (∀ x ∈ l, f x = g x) → l.flatMap f = l.flatMap g
  | [], _, _, _ => rfl
  | a :: l, f, g, h => by
    rw [List.flatMap_cons, List.flatMap_cons, h a List.mem_cons_self, fm_congr fun x hx => h x (List.mem_cons_of_mem _ hx)]
/-! ### rows of numbers -/
def InR (n : Nat) (ns : List Int) : Prop := ∀ z ∈ ns, 0 ≤ z ∧ z < n
def rowM (es : List Device) (ns : List Int) : Map := row (pick es (nats ns))
theorem pick_append (es : List Device) (a b : List Nat) : pick es (a ++ b) = pick es a ++ pick es b := List.filterMap_append
theorem nats_append (a b : List Int) : nats (a ++ b) = nats a ++ nats b := List.map_append
theorem row_snoc (l : List Device) (e : Device) : row (l ++ [e]) = andThen (row l) (mapOf e) := by
  show (l ++ [e]).foldl stepM stay = _
  rw [List.foldl_append]; rfl
theorem rowM_snoc {es : List Device} {ns : List Int} {z : Int} {e : Device} (h : es[z.toNat]? = some e) : rowM es (ns ++ [z]) = andThen (rowM es ns) (mapOf e) := by
  unfold rowM
  rw [nats_append, pick_append]
  have : pick es (nats [z]) = [e] := by
    show List.filterMap _ [z.toNat] = _
    rw [List.filterMap_cons, h]; rfl
  rw [this, row_snoc]
theorem pick_mem {es : List Device} {l : List Nat} {e : Device} (h : e ∈ pick es l) : e ∈ es := by
  obtain ⟨i, _, hi⟩ := List.mem_filterMap.mp h
  exact List.mem_of_getElem? hi
theorem pick_len (es : List Device) (l : List Nat) : (pick es l).length ≤ l.length := List.length_filterMap_le _ _
/-! ### longer by one -/
def ext (es : List Device) (t : List Int × Map) : List (List Int × Map) := es.zipIdx.map fun x => (t.1 ++ [(x.2 : Int)], andThen t.2 (mapOf x.1))
def longerM (es : List Device) (ts : List (List Int × Map)) : List (List Int × Map) := ts.flatMap (ext es)
theorem ext_get {es : List Device} {t : List Int × Map} {j : Nat} {e : Device} (h : es[j]? = some e) : (ext es t)[j]? = some (t.1 ++ [(j : Int)], andThen t.2 (mapOf e)) := by
  unfold ext
  rw [List.getElem?_map, List.getElem?_zipIdx, h]
  simp
theorem ext_len (es : List Device) (t : List Int × Map) : (ext es t).length = es.length := by unfold ext; simp
theorem longer_len (es : List Device) : ∀ ts : List (List Int × Map), (longerM es ts).length = ts.length * es.length
  | [] => by simp [longerM]
  | t :: ts => by
    show (List.flatMap (ext es) (t :: ts)).length = _
    rw [List.flatMap_cons, List.length_append, ext_len, List.length_cons, Nat.succ_mul, Nat.add_comm]
    have := longer_len es ts
    unfold longerM at this
    rw [this]
theorem ext_map (es : List Device) (t : List Int × Map) : ext es t = (List.range es.length).flatMap fun i : Nat => (es[i]?.toList).map fun e => (t.1 ++ [(i : Int)], andThen t.2 (mapOf e)) := by
  unfold ext
  have gen : ∀ (l : List Device) (k : Nat), (l.zipIdx k).map (fun x => (t.1 ++ [(x.2 : Int)], andThen t.2 (mapOf x.1))) = (List.range' k l.length).flatMap fun i : Nat => (l[i - k]?.toList).map fun e => (t.1 ++ [(i : Int)], andThen t.2 (mapOf e)) := by
    intro l
    induction l with
    | nil => intro k; simp
    | cons e l ih =>
      intro k
      rw [List.zipIdx_cons, List.map_cons, ih (k + 1), List.length_cons, List.range'_succ, List.flatMap_cons, Nat.sub_self]
      simp only [List.getElem?_cons_zero, Option.toList_some, List.map_cons, List.map_nil, List.singleton_append]
      congr 1
      apply fm_congr
      intro i hi
      have h1 : k + 1 ≤ i := (List.mem_range'_1.mp hi).1
      have h2 : i - k = (i - (k + 1)) + 1 := by omega
      rw [h2, List.getElem?_cons_succ]
  have := gen es 0
  rw [this, List.range_eq_range']
  rfl
/-! ### the levels -/
def tr (es : List Device) (m : Map) : Nat → List (List Int × Map)
  | 0 => [([], m)]
  | k + 1 => longerM es (tr es m k)
theorem tr_len (es : List Device) (m : Map) : ∀ k, (tr es m k).length = es.length ^ k
  | 0 => rfl
  | k + 1 => by show (longerM es (tr es m k)).length = _; rw [longer_len, tr_len es m k, Nat.pow_succ]
theorem rowsOf_snoc (n : Nat) : ∀ k, rowsOf n (k + 1) = (rowsOf n k).flatMap fun r => (List.range n).map fun i => r ++ [i]
  | 0 => by
    show (List.range n).flatMap (fun i => [[i]]) = _
    simp [rowsOf, List.flatMap_singleton', List.flatMap_def]
    rw [← List.flatMap_def]
    induction (List.range n) with
    | nil => rfl
    | cons a l ih => simp [List.flatMap_cons, ih]
  | k + 1 => by
    show (List.range n).flatMap (fun i : Nat => (rowsOf n (k + 1)).map fun l => i :: l) = ((List.range n).flatMap (fun i : Nat => (rowsOf n k).map fun l => i :: l)).flatMap fun r => (List.range n).map fun i => r ++ [i]
    rw [rowsOf_snoc n k]
    rw [List.flatMap_assoc]
    apply fm_congr
    intro i _
    rw [List.map_flatMap, List.flatMap_map]
    apply fm_congr
    intro r _
    rw [List.map_map]
    rfl
def rmk (es : List Device) (m : Map) (r : List Nat) : List Int × Map := (nums r, andThen m (row (pick es r)))
theorem rowsOf_mem {n : Nat} : ∀ {k : Nat} {r : List Nat}, r ∈ rowsOf n k → r.length = k ∧ ∀ i ∈ r, i < n
  | 0, r, h => by
    have : r = [] := by simpa [rowsOf] using h
    subst this; simp
  | k + 1, r, h => by
    obtain ⟨i, hi, h2⟩ := List.mem_flatMap.mp h
    obtain ⟨l, hl, rfl⟩ := List.mem_map.mp h2
    obtain ⟨h3, h4⟩ := rowsOf_mem hl
    refine ⟨by simp [h3], fun j hj => ?_⟩
    rcases List.mem_cons.mp hj with rfl | hj
    · exact List.mem_range.mp hi
    · exact h4 j hj
theorem tr_rows {es : List Device} {m : Map} (hes : ∀ e ∈ es, RedD e) (hm : RedM m) : ∀ k, tr es m k = (rowsOf es.length k).map (rmk es m)
  | 0 => by
    show [([], m)] = [rmk es m []]
    unfold rmk
    show _ = [(_, andThen m stay)]
    rw [andThen_stay hm]; rfl
  | k + 1 => by
    show longerM es (tr es m k) = _
    rw [tr_rows hes hm k, rowsOf_snoc]
    unfold longerM
    rw [List.flatMap_map, List.map_flatMap]
    apply fm_congr
    intro r _
    rw [ext_map, List.map_map]
    rw [← List.flatMap_singleton' (List.map _ _), List.flatMap_map]
    apply fm_congr
    intro i hi
    have hi := List.mem_range.mp hi
    rw [List.getElem?_eq_getElem hi]
    show [((rmk es m r).1 ++ [(i : Int)], andThen (rmk es m r).2 (mapOf es[i]))] = [rmk es m (r ++ [i])]
    have e1 : nums (r ++ [i]) = nums r ++ [(i : Int)] := by unfold nums; rw [List.map_append]; rfl
    have e2 : pick es (r ++ [i]) = pick es r ++ [es[i]] := by
      rw [pick_append]
      show _ ++ List.filterMap _ [i] = _
      rw [List.filterMap_cons, List.getElem?_eq_getElem hi]; rfl
    have hp : ∀ e ∈ pick es r, RedD e := fun e he => hes e (pick_mem he)
    have hei : RedD es[i] := hes _ (List.getElem_mem hi)
    unfold rmk
    rw [e1, e2, row_snoc, andThen_assoc hm (row_red hp) (mapOf_red hei)]
theorem tr_ok {es : List Device} {m : Map} {b : Nat} (hes : ∀ e ∈ es, RedD e ∧ SmD e) (hm : RedM m) (sm : SmM b m) : ∀ k, ∀ t ∈ tr es m k, RedM t.2 ∧ SmM (b + 43 * k) t.2
  | 0, t, ht => by
    have : t = ([], m) := by simpa [tr] using ht
    subst this; exact ⟨hm, sm⟩
  | k + 1, t, ht => by
    obtain ⟨t', h1, h2⟩ := List.mem_flatMap.mp (show t ∈ (tr es m k).flatMap (ext es) from ht)
    obtain ⟨r', s'⟩ := tr_ok hes hm sm k t' h1
    obtain ⟨x, hx, rfl⟩ := List.mem_map.mp h2
    have hxe : x.1 ∈ es := by
      obtain ⟨_, _, h3⟩ := List.mem_zipIdx hx
      rw [h3]; exact List.getElem_mem _
    obtain ⟨re, se⟩ := hes _ hxe
    refine ⟨andThen_red r' (mapOf_red re), (andThen_sm r' (mapOf_red re) s' (mapOf_sm re se)).mono (by omega)⟩
def foundM (es : List Device) (m : Map) (p : List Int × Map → Bool) : Option (List Int × Map) := (tr es m 0 ++ (tr es m 1 ++ (tr es m 2 ++ tr es m 3))).find? p
theorem foundM_rows {es : List Device} {m : Map} (hes : ∀ e ∈ es, RedD e) (hm : RedM m) (p : List Int × Map → Bool) : foundM es m p = ((shortRows es.length).find? fun r => p (rmk es m r)).map (rmk es m) := by
  unfold foundM shortRows
  rw [tr_rows hes hm, tr_rows hes hm, tr_rows hes hm, tr_rows hes hm, ← List.map_append, ← List.map_append, ← List.map_append, List.find?_map]
  have : [0, 1, 2, 3].flatMap (rowsOf es.length) = rowsOf es.length 0 ++ (rowsOf es.length 1 ++ (rowsOf es.length 2 ++ rowsOf es.length 3)) := by
    simp [List.flatMap_cons]
  rw [this]
  rfl
theorem find_at {α : Type} {p : α → Bool} : ∀ {l : List α} {i : Nat} {x : α}, (∀ (j : Nat) (y : α), j < i → l[j]? = some y → p y = false) → l[i]? = some x → p x = true → l.find? p = some x
  | [], i, x, _, h, _ => by simp at h
  | a :: l, 0, x, _, h, hp => by
    have e : a = x := by simpa using h
    subst e
    rw [List.find?_cons, hp]
  | a :: l, i + 1, x, h0, h, hp => by
    rw [List.find?_cons, h0 0 a (by omega) rfl]
    exact find_at (fun j y hj hy => h0 (j + 1) y (by omega) hy) h hp
theorem find_not {α : Type} {p : α → Bool} {l : List α} (h : ∀ (j : Nat) (y : α), l[j]? = some y → p y = false) : l.find? p = none := by
  rw [List.find?_eq_none]
  intro x hx
  obtain ⟨j, hj⟩ := List.mem_iff_getElem?.mp hx
  rw [h j x hj]; decide
end Cr
end
section
set_option Elab.async false
set_option linter.all false
set_option maxRecDepth 100000
set_option maxHeartbeats 2000000
namespace Cr
open PySem PySem.Spec PyProof.Rows L2
open Mu52 (Q Pt Map frac Device)
/-! ### lists of things -/
structure Zip {α : Type} (R : V → α → Prop) (vs : List V) (xs : List α) : Prop where
  len : vs.length = xs.length
  get : ∀ (i : Nat) (v : V) (x : α), vs[i]? = some v → xs[i]? = some x → R v x
theorem Zip.mono {α : Type} {R S : V → α → Prop} {vs : List V} {xs : List α} (h : Zip R vs xs) (f : ∀ v x, R v x → S v x) : Zip S vs xs := ⟨h.len, fun i v x a b => f _ _ (h.get i v x a b)⟩
theorem Zip.nil {α : Type} {R : V → α → Prop} : Zip R [] [] := ⟨rfl, fun i v x a _ => by simp at a⟩
theorem Zip.snoc {α : Type} {R : V → α → Prop} {vs : List V} {xs : List α} {v : V} {x : α} (h : Zip R vs xs) (r : R v x) : Zip R (vs ++ [v]) (xs ++ [x]) := by
  refine ⟨by simp [h.len], fun i u y a b => ?_⟩
  rw [List.getElem?_append] at a b
  rw [h.len] at a
  split at a
  · rename_i hi
    rw [if_pos hi] at b
    exact h.get i u y a b
  · rename_i hi
    rw [if_neg hi] at b
    generalize i - xs.length = j at a b
    cases j with
    | zero =>
      have e1 : v = u := by simpa using a
      have e2 : x = y := by simpa using b
      subst e1; subst e2; exact r
    | succ j => simp at a
theorem Zip.item {α : Type} {R : V → α → Prop} {vs : List V} {xs : List α} (h : Zip R vs xs) {i : Nat} {v : V} (e : vs[i]? = some v) : ∃ x, xs[i]? = some x ∧ R v x := by
  have hi : i < vs.length := (List.getElem?_eq_some_iff.mp e).1
  have hi2 : i < xs.length := by rw [← h.len]; exact hi
  exact ⟨xs[i], List.getElem?_eq_getElem hi2, h.get i v _ e (List.getElem?_eq_getElem hi2)⟩
theorem Zip.item' {α : Type} {R : V → α → Prop} {vs : List V} {xs : List α} (h : Zip R vs xs) {i : Nat} {x : α} (e : xs[i]? = some x) : ∃ v, vs[i]? = some v ∧ R v x := by
  have hi : i < xs.length := (List.getElem?_eq_some_iff.mp e).1
  have hi2 : i < vs.length := by rw [h.len]; exact hi
  exact ⟨vs[i], List.getElem?_eq_getElem hi2, h.get i _ x (List.getElem?_eq_getElem hi2) e⟩
theorem Zip.append {α : Type} {R : V → α → Prop} {vs us : List V} {xs ys : List α} (h : Zip R vs xs) (h' : Zip R us ys) : Zip R (vs ++ us) (xs ++ ys) := by
  refine ⟨by simp [h.len, h'.len], fun i u y a b => ?_⟩
  rw [List.getElem?_append] at a b
  rw [h.len] at a
  split at a
  · rename_i hi
    rw [if_pos hi] at b
    exact h.get i u y a b
  · rename_i hi
    rw [if_neg hi] at b
    exact h'.get _ u y a b
/-! ### devices, trials -/
def devF (p m : V) : List (Str × V) := putF "motion" m (putF "pivot" p [])
theorem devF_pivot (p m : V) : (devF p m).lookup ("pivot" : Str) = some p := by
  unfold devF
  rw [lookup_putF, if_neg (by decide +kernel), lookup_putF, if_pos rfl]
theorem devF_motion (p m : V) : (devF p m).lookup ("motion" : Str) = some m := by
  unfold devF
  rw [lookup_putF, if_pos rfl]
def triF (r m : V) : List (Str × V) := putF "motion" m (putF "row" r [])
theorem triF_row (p m : V) : (triF p m).lookup ("row" : Str) = some p := by
  unfold triF
  rw [lookup_putF, if_neg (by decide +kernel), lookup_putF, if_pos rfl]
theorem triF_motion (p m : V) : (triF p m).lookup ("motion" : Str) = some m := by
  unfold triF
  rw [lookup_putF, if_pos rfl]
/-- the classes' addresses -/
structure Cs where
  mo : Addr
  dev : Addr
  tri : Addr
  call : Addr
  work : Addr
def DevV (c : Cs) (K : PySem.W.Frag) (H : Hp) (v : V) (e : Device) : Prop := ∃ a dx p m, v = .ref a ∧ H a = some (.ins c.dev dx (devF p m)) ∧ PtV K H p e.pivot ∧ MoV c.mo K H m (Mu52.mapOf e)
theorem DevV.mono {c : Cs} {K : PySem.W.Frag} {H H' : Hp} {v : V} {m : Device} (e : Same H H') (h : DevV c K H v m) : DevV c K H' v m := by
  obtain ⟨a, dx, s, t, h1, h2, h3, h4⟩ := h
  exact ⟨a, dx, s, t, h1, e _ _ h2, h3.mono e, h4.mono e⟩
def TriV (c : Cs) (K : PySem.W.Frag) (H : Hp) (v : V) (t : List Int × Map) : Prop := ∃ a dx r m, v = .ref a ∧ H a = some (.ins c.tri dx (triF r m)) ∧ Ls H r t.1 ∧ MoV c.mo K H m t.2
theorem TriV.mono {c : Cs} {K : PySem.W.Frag} {H H' : Hp} {v : V} {m : List Int × Map} (e : Same H H') (h : TriV c K H v m) : TriV c K H' v m := by
  obtain ⟨a, dx, s, t, h1, h2, h3, h4⟩ := h
  exact ⟨a, dx, s, t, h1, e _ _ h2, h3.mono e, h4.mono e⟩
/-- the heap without one object -/
def hide (p : Addr) (H : Hp) : Hp := fun b => if b = p then none else H b
theorem hide_at {p b : Addr} {H : Hp} (h : b ≠ p) : hide p H b = H b := if_neg h
theorem hide_same {p : Addr} {H : Hp} : Same (hide p H) H := fun b o e => by
  unfold hide at e
  split at e
  · cases e
  · exact e
theorem Same.hide {p : Addr} {H H' : Hp} (s : Same H H') : Same (hide p H) (hide p H') := fun b o e => by
  unfold Cr.hide at e ⊢
  split at e
  · cases e
  · rename_i h
    rw [if_neg h]; exact s b o e
theorem hide_upd {p : Addr} {H : Hp} {o : HO} : hide p (upd H p o) = hide p H := by
  funext b
  unfold hide
  split
  · rfl
  · rename_i h
    exact upd_ne h
theorem SqT.hide {K : PySem.W.Frag} {H : Hp} {a l : Addr} {xs vl : List V} (hl : H l = some (.lst vl)) (h : SqT K H a xs) : SqT K (hide l H) a xs := by
  rcases h with (h | ⟨o, h⟩) | h
  · exact .inl (.inl (by rw [hide_at (ne_of h hl (by intro z; cases z))]; exact h))
  · exact .inl (.inr ⟨o, by rw [hide_at (ne_of h hl (by intro z; cases z))]; exact h⟩)
  · exact .inr h
theorem Fr.hide {K : PySem.W.Frag} {H : Hp} {l : Addr} {vl : List V} {v : V} {q : Q} (hl : H l = some (.lst vl)) (h : Fr K H v q) : Fr K (hide l H) v q := by
  obtain ⟨p, h1, h2⟩ := h
  exact ⟨p, h1, SqT.hide hl h2⟩
theorem PtV.hide {K : PySem.W.Frag} {H : Hp} {l : Addr} {vl : List V} {v : V} {q : Pt} (hl : H l = some (.lst vl)) (h : PtV K H v q) : PtV K (hide l H) v q := by
  obtain ⟨p, x, y, h1, h2, h3, h4⟩ := h
  exact ⟨p, x, y, h1, SqT.hide hl h2, Fr.hide hl h3, Fr.hide hl h4⟩
theorem MoV.hide {C : Addr} {K : PySem.W.Frag} {H : Hp} {l : Addr} {vl : List V} {v : V} {q : Map} (hl : H l = some (.lst vl)) (h : MoV C K H v q) : MoV C K (hide l H) v q := by
  obtain ⟨p, dx, x, y, h1, h2, h3, h4⟩ := h
  exact ⟨p, dx, x, y, h1, by rw [hide_at (ne_of h2 hl (by intro z; cases z))]; exact h2, Fr.hide hl h3, PtV.hide hl h4⟩
theorem DevV.hide {c : Cs} {K : PySem.W.Frag} {H : Hp} {l : Addr} {vl : List V} {v : V} {q : Device} (hl : H l = some (.lst vl)) (h : DevV c K H v q) : DevV c K (hide l H) v q := by
  obtain ⟨p, dx, x, y, h1, h2, h3, h4⟩ := h
  exact ⟨p, dx, x, y, h1, by rw [hide_at (ne_of h2 hl (by intro z; cases z))]; exact h2, PtV.hide hl h3, MoV.hide hl h4⟩
theorem Ls.hide {H : Hp} {l p : Addr} {ns : List Int} (hne : p ≠ l) (h : H p = some (.lst (ns.map V.int))) : Ls (hide l H) (.ref p) ns := ⟨p, rfl, by rw [hide_at hne]; exact h⟩
/-- a tracked list of things at an address; the things don't lean on the list -/
def LsV {α : Type} (R : Hp → V → α → Prop) (H : Hp) (p : Addr) (xs : List α) : Prop := ∃ vs, H p = some (.lst vs) ∧ Zip (R (hide p H)) vs xs
def Mo {α : Type} (R : Hp → V → α → Prop) : Prop := ∀ H H' v x, Same H H' → R H v x → R H' v x
theorem LsV.mono {α : Type} {R : Hp → V → α → Prop} {H H' : Hp} {p : Addr} {xs : List α} (m : Mo R) (e : Same H H') (h : LsV R H p xs) : LsV R H' p xs := by
  obtain ⟨vs, h1, h2⟩ := h
  exact ⟨vs, e _ _ h1, h2.mono fun v x z => m _ _ v x (Same.hide e) z⟩
theorem LsV.read {α : Type} {R : Hp → V → α → Prop} {H : Hp} {p : Addr} {xs : List α} (m : Mo R) (h : LsV R H p xs) : ∃ vs, H p = some (.lst vs) ∧ Zip (R H) vs xs := by
  obtain ⟨vs, h1, h2⟩ := h
  exact ⟨vs, h1, h2.mono fun v x z => m _ _ v x hide_same z⟩
theorem LsV.nil {α : Type} {R : Hp → V → α → Prop} {H : Hp} {p : Addr} (h : H p = some (.lst [])) : LsV R H p [] := ⟨[], h, Zip.nil⟩
/-- one more thing is put behind -/
theorem LsV.snoc {α : Type} {R : Hp → V → α → Prop} {H : Hp} {p : Addr} {xs : List α} {vs : List V} {v : V} {x : α} (z : Zip (R (hide p H)) vs xs) (r : R (hide p H) v x) : LsV R (upd H p (.lst (vs ++ [v]))) p (xs ++ [x]) :=
  ⟨vs ++ [v], upd_same, by rw [hide_upd]; exact z.snoc r⟩
theorem moDev {c : Cs} {K : PySem.W.Frag} : Mo (DevV c K) := fun _ _ _ _ e h => DevV.mono e h
theorem moTri {c : Cs} {K : PySem.W.Frag} : Mo (TriV c K) := fun _ _ _ _ e h => TriV.mono e h
theorem moLs : Mo Ls := fun _ _ _ _ e h => Ls.mono e h
abbrev Devs (c : Cs) (K : PySem.W.Frag) (H : Hp) (p : Addr) (es : List Device) : Prop := LsV (DevV c K) H p es
abbrev Tris (c : Cs) (K : PySem.W.Frag) (H : Hp) (p : Addr) (ts : List (List Int × Map)) : Prop := LsV (TriV c K) H p ts
abbrev Rows (H : Hp) (p : Addr) (ts : List (List Int)) : Prop := LsV Ls H p ts
structure OkD (e : Device) : Prop where
  red : RedD e
  sm : SmD e
def GInt (mg : Str → Option Value) (x : Str) (i : Int) : Prop := ∃ t, mg x = some (.int i t)
theorem pe_gint {X : Cx} {x : Str} {i : Int} {pos : Pos} (h : GInt X.mg x i) (hg : Gl X x) (hd : (x == ("__debug__" : Str)) = false := by decide) : PE X (.Name x pos) (tC (.int i)) := by
  obtain ⟨t, e⟩ := h
  exact pe_glob hg e ⟨t, rfl⟩ hd
theorem tAndV_pure {t u : TE} {σ : L2.St} {H : Hp} {Q : VK} (b c : Bool) (ht : ∀ Q : VK, Q (.bl b) H → t σ H Q) (hu : ∀ Q : VK, Q (.bl c) H → u σ H Q) (q : Q (.bl (b && c)) H) : tAndV t u σ H Q := by
  refine ht _ ⟨b, rfl, ?_⟩
  cases b
  · exact iteF q
  · exact iteT (hu _ q)
/-- rules whose reading names K alone (inside a comprehension) -/
def rLen (K : PySem.W.Frag) : List V → Hp → VK → Prop := fun xs H Q => ∃ p ys, xs = [.ref p] ∧ (SqL K H p ys ∨ SqT K H p ys) ∧ Q (.int ys.length) H
theorem call_lenK {X : Cx} {K : PySem.W.Frag} (h : X.K = K) : CallR X (.builtin "len") (rLen K) := by
  subst h; exact call_len_seq
abbrev sSheet : Stmt := top 51
abbrev sPart : Stmt := top 52
abbrev sIsRow : Stmt := top 53
abbrev sBuild : Stmt := top 54
abbrev sSizeOf : Stmt := top 55
theorem scSheet : FnScope ["number"] ["number"] (defScope sSheet) := ⟨rfl, rfl, rfl, by decide +kernel, rfl, by decide +kernel, by decide +kernel⟩
theorem scPart : FnScope ["number"] ["number"] (defScope sPart) := ⟨rfl, rfl, rfl, by decide +kernel, rfl, by decide +kernel, by decide +kernel⟩
theorem scIsRow : FnScope ["devices", "row", "number"] ["devices", "row"] (defScope sIsRow) := ⟨rfl, rfl, rfl, by decide +kernel, rfl, by decide +kernel, by decide +kernel⟩
theorem scBuild : FnScope ["build"] ["build"] (defScope sBuild) := ⟨rfl, rfl, rfl, by decide +kernel, rfl, by decide +kernel, by decide +kernel⟩
theorem scSizeOf : FnScope ["build"] ["build"] (defScope sSizeOf) := ⟨rfl, rfl, rfl, by decide +kernel, rfl, by decide +kernel, by decide +kernel⟩
def spSheet : Sp := fun vs H Q _ => ∃ z : Int, vs = [.int z] ∧ Q (.bl (Mu52.near z)) H
def part (z : Int) : Bool := decide (1 ≤ z) && decide (z ≤ 9)
def spPart : Sp := fun vs H Q _ => ∃ z : Int, vs = [.int z] ∧ Q (.bl (part z)) H
def buildB (a b u m : Int) : Bool := part a && (part b && (decide (u ≤ 1) && decide (m ≤ 1)))
def spBuild : Sp := fun vs H Q _ => ∃ x a b u m, vs = [x] ∧ Ls H x [a, b, u, m] ∧ Q (.bl (buildB a b u m)) H
def spSizeOf (K : PySem.W.Frag) : Sp := fun vs H Q _ => ∃ x a b u m, vs = [x] ∧ Ls H x [a, b, u, m] ∧ 1 ≤ b ∧ b ≤ 9 ∧ ∀ v H', Same H H' → Fr K H' v (frac (if u = 1 then -a else a) b) → Q v H'
theorem ixL {X : Cx} (k : Nat) {x : Str} {pos pos' pos2 : Pos} {i : Int} {n : Nat} (hN : X.N[k]? = some x := by rfl) (hv : Vis X.env.scope x := by first | exact Or.inl rfl | exact Or.inr (Or.inl rfl) | exact Or.inr (Or.inr rfl)) (hd : (x == ("__debug__" : Str)) = false := by decide)
    (hcd : (x == ("__classdict__" : Str)) = false := by decide) : PE X (.Subscript (.Name x pos) (.Constant (.int i) n pos') pos2) (tOp (rIxL X.K) (tVar k) (tC (.int i))) := pe_ix ix_list (pe_var hN hv hd hcd) pe_int (fun _ _ => rfl)
section
variable {P : Program} {w : World} {K : PySem.W.Frag} {mg : Str → Option Value} {base : Heap} {c : Cs}
theorem ok_sheet (F : Txt K mg "is_on_sheet" sSheet ["number"]) (g : GInt mg "SHEET_EDGE" 100) : Def P w K mg base 1 "is_on_sheet" ["number"] spSheet := by
  refine F.ok scSheet (fun vs H Q E h => ?_) (fun f cdv A outer s H vs Q E hr h => ?_)
  · obtain ⟨z, rfl, _⟩ := h
    rfl
  · obtain ⟨z, rfl, q⟩ := h
    refine ⟨_, pss_one (ps_ret (pe_chain op_le op_le (pe_un un_neg (pe_gint g rfl)) (pv 0) (pe_gint g rfl))), ?_⟩
    refine ⟨_, rfl, _, rfl, _, _, rfl, rfl, _, rfl, ite2 (fun hc => ?_) (fun hc => ?_)⟩
    · refine ⟨_, _, rfl, rfl, ?_⟩
      have e : Mu52.near z = decide (z ≤ 100) := by unfold Mu52.near; rw [hc]; rfl
      rw [e] at q; exact q
    · have e : Mu52.near z = false := by unfold Mu52.near; rw [Bool.not_eq_true] at hc; rw [hc]; rfl
      rw [e] at q; exact q
theorem ok_part (F : Txt K mg "is_size_part" sPart ["number"]) (g : GInt mg "SIZE_MOST" 9) : Def P w K mg base 1 "is_size_part" ["number"] spPart := by
  refine F.ok scPart (fun vs H Q E h => ?_) (fun f cdv A outer s H vs Q E hr h => ?_)
  · obtain ⟨z, rfl, _⟩ := h
    rfl
  · obtain ⟨z, rfl, q⟩ := h
    refine ⟨_, pss_one (ps_ret (pe_chain op_le op_le pe_int (pv 0) (pe_gint g rfl))), ?_⟩
    refine ⟨_, rfl, _, _, rfl, rfl, _, rfl, ite2 (fun hc => ?_) (fun hc => ?_)⟩
    · refine ⟨_, _, rfl, rfl, ?_⟩
      have e : part z = decide (z ≤ 9) := by unfold part; rw [hc]; rfl
      rw [e] at q; exact q
    · have e : part z = false := by unfold part; rw [Bool.not_eq_true] at hc; rw [hc]; rfl
      rw [e] at q; exact q
theorem ok_build (F : Txt K mg "is_build" sBuild ["build"]) (G : Def P w K mg base 1 "is_size_part" ["number"] spPart) : Def P w K mg base 2 "is_build" ["build"] spBuild := by
  refine F.ok scBuild (fun vs H Q E h => ?_) (fun f cdv A outer s H vs Q E hr h => ?_)
  · obtain ⟨x, a, b, u, m, rfl, _⟩ := h
    rfl
  · obtain ⟨x, a, b, u, m, rfl, ⟨p, rfl, hp⟩, q⟩ := h
    refine ⟨_, pss_one (ps_ret (pe_and (pe_def G hr rfl (pa_cons (ixL 0) pa_nil)) (pe_and (pe_def G hr rfl (pa_cons (ixL 0) pa_nil)) (pe_and (pe_cmpR op_le (ixL 0) pe_int (nomark _)) (pe_one (pe_cmpR op_le (ixL 0) pe_int (nomark _))))))), ?_⟩
    refine tAndV_pure (part a) _ (fun Q' q' => ?_) (fun Q' q' => ?_) q
    · exact ⟨_, rfl, p, _, _, _, rfl, rfl, SqL.of hp, rfl, _, rfl, q'⟩
    · refine tAndV_pure (part b) _ (fun Q' q' => ?_) (fun Q' q' => ?_) q'
      · exact ⟨_, rfl, p, _, _, _, rfl, rfl, SqL.of hp, rfl, _, rfl, q'⟩
      · refine tAndV_pure (decide (u ≤ 1)) _ (fun Q' q' => ?_) (fun Q' q' => ?_) q'
        · exact ⟨_, rfl, p, _, _, _, rfl, rfl, SqL.of hp, rfl, _, _, rfl, rfl, q'⟩
        · exact ⟨_, rfl, p, _, _, _, rfl, rfl, SqL.of hp, rfl, _, _, rfl, rfl, q'⟩
theorem ok_sizeOf (F : Txt K mg "size_of" sSizeOf ["build"]) (G : Def P w K mg base 2 "fraction" ["divided", "by"] (spFrac K)) : Def P w K mg base 3 "size_of" ["build"] (spSizeOf K) := by
  refine F.ok scSizeOf (fun vs H Q E h => ?_) (fun f cdv A outer s H vs Q E hr h => ?_)
  · obtain ⟨x, a, b, u, m, rfl, _⟩ := h
    rfl
  · obtain ⟨x, a, b, u, m, rfl, ⟨p, rfl, hp⟩, hb1, hb9, q⟩ := h
    have hl : b.natAbs.log2 < 9000 := log2_lt_of (b := 4) (show b.natAbs < 2 ^ 4 by omega) (by decide) (by decide)
    refine ⟨_, pss_one (ps_ret (pe_def G hr rfl (pa_cons (pe_ifExp (pt_cmpR op_eq (ixL 0) pe_int (nomark _)) (pe_un un_neg (ixL 0)) (ixL 0)) (pa_cons (ixL 0) pa_nil)))), ?_⟩
    refine ⟨_, rfl, p, _, _, _, rfl, rfl, SqL.of hp, rfl, rfl, _, rfl, ite2 (fun hc => ?_) (fun hc => ?_)⟩
    · have hu : u = 1 := V.int.inj (of_decide_eq_true hc)
      rw [if_pos hu] at q
      exact ⟨_, rfl, p, _, _, _, rfl, rfl, SqL.of hp, rfl, _, rfl, _, rfl, p, _, _, _, rfl, rfl, SqL.of hp, rfl, _, _, rfl, by omega, hl, q⟩
    · have hu : ¬ u = 1 := fun e => hc (decide_eq_true (by rw [e]))
      rw [if_neg hu] at q
      exact ⟨_, rfl, p, _, _, _, rfl, rfl, SqL.of hp, rfl, _, rfl, p, _, _, _, rfl, rfl, SqL.of hp, rfl, _, _, rfl, by omega, hl, q⟩
def isRowB (n : Nat) (ns : List Int) : Bool := decide (ns.length ≤ 5) && ns.all fun z => decide (z < n)
def spIsRow (c : Cs) (K : PySem.W.Frag) : Sp := fun vs H Q _ => ∃ d x es ns, vs = [.ref d, x] ∧ Devs c K H d es ∧ Ls H x ns ∧ ns.length ≤ 1200 ∧ ∀ H', Same H H' → Q (.bl (isRowB es.length ns)) H'
theorem take_snoc {α : Type} : ∀ {l : List α} {i : Nat} {x : α}, l[i]? = some x → l.take (i + 1) = l.take i ++ [x]
  | [], i, x, h => by simp at h
  | a :: l, 0, x, h => by
    have e : a = x := Option.some.inj h
    subst e
    rfl
  | a :: l, i + 1, x, h => by
    have ih := take_snoc (l := l) (i := i) (x := x) h
    show a :: l.take (i + 1) = a :: l.take i ++ [x]
    rw [ih]
    rfl
theorem map_get {α : Type} {g : α → V} {l : List α} {i : Nat} {y : V} (h : (l.map g)[i]? = some y) : ∃ z, l[i]? = some z ∧ y = g z := by
  rw [List.getElem?_map] at h
  cases e : l[i]? with
  | none => rw [e] at h; cases h
  | some z => rw [e] at h; exact ⟨z, rfl, (Option.some.inj h).symm⟩
theorem ok_isRow (F : Txt K mg "is_row" sIsRow ["devices", "row"]) (g : GInt mg "ROW_MOST" 5) (hlen : mg "len" = none) (hall : mg "all" = none) : Def P w K mg base 1 "is_row" ["devices", "row"] (spIsRow c K) := by
  refine F.ok scIsRow (fun vs H Q E h => ?_) (fun f cdv A outer s H vs Q E hr h => ?_)
  · obtain ⟨d, x, es, ns, rfl, _⟩ := h
    rfl
  · obtain ⟨d, x, es, ns, rfl, ⟨ds, hd, zd⟩, ⟨p, rfl, hp⟩, hn, q⟩ := h
    refine ⟨_, pss_one (ps_ret (pe_and (pe_cmpR op_le (pe_callB call_len_seq (by rfl) hlen PySem.boot_len (pa_cons (pv 1) pa_nil)) (pe_gint g rfl) (nomark _)) (pe_one (pe_callB (cr_all rfl) (by rfl) hall PyProof.Rows.boot_all
      (pa_cons (pe_lc (own := [("number", 2)]) rfl scIsRow.nd (pi_list (pv 1)) (blkOk_by (N := ["devices", "row", "number"]) (sc := defScope sIsRow) (by decide +kernel)) (fun _ _ _ _ _ => pg_name (i := 2) scIsRow.nd rfl (Or.inl rfl)) (fun _ _ _ _ _ => pts_nil)
        (fun _ _ _ _ _ => pe_cmpR op_lt (pv 2) (pe_callB (call_lenK (K := K) rfl) (by rfl) hlen PySem.boot_len (pa_cons (pv 0) pa_nil)) (nomark _))) pa_nil))))), ?_⟩
    refine ⟨_, rfl, p, _, rfl, .inl (SqL.of hp), _, _, rfl, rfl, _, rfl, ite2 (fun hc => ?_) (fun hc => ?_)⟩
    · have h5 : ns.length ≤ 5 := by
        have := of_decide_eq_true hc
        rw [List.length_map] at this; omega
      have e : isRowB es.length ns = ns.all fun z => decide (z < es.length) := by
        unfold isRowB
        rw [decide_eq_true h5, Bool.true_and]
      refine ⟨_, rfl, p, rfl, ⟨_, SqL.of hp⟩, fun D hD => ?_⟩
      have s0 := Same.new (o := .lst []) hD
      refine lc_list (xs := ns.map V.int) (fun i H' => Same H H' ∧ H' D = some (.lst (((ns.take i).map fun z : Int => decide (z < (es.length : Int))).map V.bl))) ⟨s0, upd_same⟩ (fun i H' _ h => SqL.of (h.1 _ _ hp)) ?_ ?_
      · rintro i y H' hy ⟨s1, h1⟩
        obtain ⟨z, hz, rfl⟩ := map_get hy
        refine ⟨rfl, _, rfl, _, rfl, d, _, rfl, .inl (SqL.of (s1 _ _ hd)), _, _, rfl, rfl, _, h1, ?_, fun b o e => ?_, ?_⟩
        · rw [List.length_map, List.length_map, List.length_take]
          exact small1000 (by omega)
        · rw [upd_ne (ne_of_none e hD)]; exact s1 b o e
        · rw [upd_same, take_snoc hz, List.map_append, List.map_append, zd.len]; rfl
      · rintro H' ⟨s1, h1⟩
        rw [List.length_map, List.take_length] at h1
        refine ⟨D, _, rfl, SqL.of h1, ?_⟩
        rw [List.all_map]
        rw [e] at q
        exact q H' s1
    · have e : isRowB es.length ns = false := by
        have h5 : ¬ ns.length ≤ 5 := fun h => hc (decide_eq_true (by rw [List.length_map]; omega))
        unfold isRowB
        rw [decide_eq_false h5, Bool.false_and]
      rw [e] at q
      exact q _ (Same.refl _)
end
end Cr
end
section
set_option Elab.async false
set_option linter.all false
set_option maxRecDepth 100000
set_option maxHeartbeats 2000000
namespace Cr
open PySem PySem.Spec PyProof.Rows L2
open Mu52 (Q Pt Map frac Device)
open Mu52Neutral (nats)
/-! ### classes -/
def calF (n ns rs e : V) : List (Str × V) := putF "end" e (putF "rows" rs (putF "numbers" ns (putF "number" n [])))
theorem calF_number (n ns rs e : V) : (calF n ns rs e).lookup ("number" : Str) = some n := by
  unfold calF
  rw [lookup_putF, if_neg (by decide +kernel), lookup_putF, if_neg (by decide +kernel), lookup_putF, if_neg (by decide +kernel), lookup_putF, if_pos rfl]
theorem calF_numbers (n ns rs e : V) : (calF n ns rs e).lookup ("numbers" : Str) = some ns := by
  unfold calF
  rw [lookup_putF, if_neg (by decide +kernel), lookup_putF, if_neg (by decide +kernel), lookup_putF, if_pos rfl]
theorem calF_rows (n ns rs e : V) : (calF n ns rs e).lookup ("rows" : Str) = some rs := by
  unfold calF
  rw [lookup_putF, if_neg (by decide +kernel), lookup_putF, if_pos rfl]
theorem calF_end (n ns rs e : V) : (calF n ns rs e).lookup ("end" : Str) = some e := by
  unfold calF
  rw [lookup_putF, if_pos rfl]
def worF (d : V) : List (Str × V) := putF "devices" d []
theorem worF_devices (d : V) : (worF d).lookup ("devices" : Str) = some d := by
  unfold worF
  rw [lookup_putF, if_pos rfl]
theorem worF_put (d e : V) : putF "devices" e (worF d) = worF e := by
  show (if ("devices" : Str) = "devices" then [(("devices" : Str), e)] else _) = [(("devices" : Str), e)]
  rw [if_pos rfl]
def mkDev : List V → List (Str × V)
  | [p, m] => devF p m
  | _ => []
def mkTri : List V → List (Str × V)
  | [r, m] => triF r m
  | _ => []
def mkCal : List V → List (Str × V)
  | [n, ns, rs, e] => calF n ns rs e
  | _ => []
def mkWor : List V → List (Str × V) := fun _ => worF .non
abbrev sCalI : Stmt := inClass (top 46) 0
abbrev sDevI : Stmt := inClass (top 47) 0
abbrev sWorI : Stmt := inClass (top 48) 0
abbrev sTriI : Stmt := inClass (top 49) 0
def devNames : List Str := ["pivot", "motion"]
def triNames : List Str := ["row", "motion"]
def calNames : List Str := ["number", "numbers", "rows", "end"]
def worNames : List Str := ["devices"]
theorem scCalI : FnScope ["self", "number", "numbers", "rows", "end"] ["self", "number", "numbers", "rows", "end"] (defScope sCalI) := ⟨rfl, rfl, rfl, by decide +kernel, rfl, by decide +kernel, by decide +kernel⟩
theorem scDevI : FnScope ["self", "pivot", "motion"] ["self", "pivot", "motion"] (defScope sDevI) := ⟨rfl, rfl, rfl, by decide +kernel, rfl, by decide +kernel, by decide +kernel⟩
theorem scWorI : FnScope ["self"] ["self"] (defScope sWorI) := ⟨rfl, rfl, rfl, by decide +kernel, rfl, by decide +kernel, by decide +kernel⟩
theorem scTriI : FnScope ["self", "row", "motion"] ["self", "row", "motion"] (defScope sTriI) := ⟨rfl, rfl, rfl, by decide +kernel, rfl, by decide +kernel, by decide +kernel⟩
section
variable {P : Program} {w : World} {K : PySem.W.Frag} {mg : Str → Option Value} {base : Heap} {c : Cs} {C : Addr}
theorem ok_calI (F : TxtI K mg "Call" "Call.__init__" sCalI C ["self", "number", "numbers", "rows", "end"]) (T : ClsT K mg "Call" C calNames) : New P w K mg base 1 "Call" C 4 mkCal := by
  refine F.ok scCalI rfl (fun f cdv A outer s H p dx us Q E hr hl hp k => ?_)
  match us, hl with
  | [n, ns, rs, e], _ =>
    refine ⟨_, pss_cons (ps_fld (pv 0) (pv 1) rfl) (pss_cons (ps_fld (pv 0) (pv 2) rfl) (pss_cons (ps_fld (pv 0) (pv 3) rfl) (pss_one (ps_fld (pv 0) (pv 4) rfl)))), ?_⟩
    refine ⟨_, rfl, _, rfl, p, C, dx, [], rfl, hp, T.cl, T.na _ (by decide +kernel), (by show 0 < 1000; decide), ?_⟩
    refine ⟨_, rfl, _, rfl, p, C, dx, _, rfl, upd_same, T.cl, T.na _ (by decide +kernel), (by show 1 < 1000; decide), ?_⟩
    refine ⟨_, rfl, _, rfl, p, C, dx, _, rfl, upd_same, T.cl, T.na _ (by decide +kernel), (by show 2 < 1000; decide), ?_⟩
    refine ⟨_, rfl, _, rfl, p, C, dx, _, rfl, upd_same, T.cl, T.na _ (by decide +kernel), (by show 3 < 1000; decide), ?_⟩
    exact k _ upd_same fun b o e hb => by rw [upd_ne hb, upd_ne hb, upd_ne hb, upd_ne hb]; exact e
theorem ok_devI (F : TxtI K mg "Device" "Device.__init__" sDevI C ["self", "pivot", "motion"]) (T : ClsT K mg "Device" C devNames) : New P w K mg base 1 "Device" C 2 mkDev := by
  refine F.ok scDevI rfl (fun f cdv A outer s H p dx us Q E hr hl hp k => ?_)
  match us, hl with
  | [r, m], _ =>
    refine ⟨_, pss_cons (ps_fld (pv 0) (pv 1) rfl) (pss_one (ps_fld (pv 0) (pv 2) rfl)), ?_⟩
    refine ⟨_, rfl, _, rfl, p, C, dx, [], rfl, hp, T.cl, T.na _ (by decide +kernel), (by show 0 < 1000; decide), ?_⟩
    refine ⟨_, rfl, _, rfl, p, C, dx, _, rfl, upd_same, T.cl, T.na _ (by decide +kernel), (by show 1 < 1000; decide), ?_⟩
    exact k _ upd_same fun b o e hb => by rw [upd_ne hb, upd_ne hb]; exact e
theorem ok_triI (F : TxtI K mg "Trial" "Trial.__init__" sTriI C ["self", "row", "motion"]) (T : ClsT K mg "Trial" C triNames) : New P w K mg base 1 "Trial" C 2 mkTri := by
  refine F.ok scTriI rfl (fun f cdv A outer s H p dx us Q E hr hl hp k => ?_)
  match us, hl with
  | [r, m], _ =>
    refine ⟨_, pss_cons (ps_fld (pv 0) (pv 1) rfl) (pss_one (ps_fld (pv 0) (pv 2) rfl)), ?_⟩
    refine ⟨_, rfl, _, rfl, p, C, dx, [], rfl, hp, T.cl, T.na _ (by decide +kernel), (by show 0 < 1000; decide), ?_⟩
    refine ⟨_, rfl, _, rfl, p, C, dx, _, rfl, upd_same, T.cl, T.na _ (by decide +kernel), (by show 1 < 1000; decide), ?_⟩
    exact k _ upd_same fun b o e hb => by rw [upd_ne hb, upd_ne hb]; exact e
theorem ok_worI (F : TxtI K mg "Workshop" "Workshop.__init__" sWorI C ["self"]) (T : ClsT K mg "Workshop" C worNames) : New P w K mg base 1 "Workshop" C 0 mkWor := by
  refine F.ok scWorI rfl (fun f cdv A outer s H p dx us Q E hr hl hp k => ?_)
  match us, hl with
  | [], _ =>
    refine ⟨_, pss_one (ps_fld (pv 0) pe_non rfl), ?_⟩
    refine ⟨_, rfl, p, C, dx, [], rfl, hp, T.cl, T.na _ (by decide +kernel), (by show 0 < 1000; decide), ?_⟩
    exact k _ upd_same fun b o e hb => by rw [upd_ne hb]; exact e
/-! ### row_motion -/
abbrev sRowM : Stmt := top 57
abbrev sLonger : Stmt := top 58
abbrev sFirst : Stmt := top 59
abbrev sFound : Stmt := top 60
theorem scRowM : FnScope ["devices", "row", "motion", "number"] ["devices", "row"] (defScope sRowM) := ⟨rfl, rfl, rfl, by decide +kernel, rfl, by decide +kernel, by decide +kernel⟩
theorem scLonger : FnScope ["devices", "trials", "longer", "trial", "number"] ["devices", "trials"] (defScope sLonger) := ⟨rfl, rfl, rfl, by decide +kernel, rfl, by decide +kernel, by decide +kernel⟩
theorem scFirst : FnScope ["trials", "wanted", "trial"] ["trials", "wanted"] (defScope sFirst) := ⟨rfl, rfl, rfl, by decide +kernel, rfl, by decide +kernel, by decide +kernel⟩
theorem scFound : FnScope ["devices", "start", "wanted", "trials", "found", "length"] ["devices", "start", "wanted"] (defScope sFound) := ⟨rfl, rfl, rfl, by decide +kernel, rfl, by decide +kernel, by decide +kernel⟩
theorem rowM_ok {es : List Device} {ns : List Int} (h : ∀ e ∈ es, OkD e) : OkM (1 + 43 * ns.length) (rowM es ns) := by
  refine ⟨row_red fun e he => (h e (pick_mem he)).red, (row_sm fun e he => ⟨(h e (pick_mem he)).red, (h e (pick_mem he)).sm⟩).mono ?_⟩
  have h1 := pick_len es (nats ns)
  have h2 : (nats ns).length = ns.length := List.length_map ..
  omega
theorem mapOf_ok {e : Device} (h : OkD e) : OkM 21 (Mu52.mapOf e) := ⟨mapOf_red h.red, mapOf_sm h.red h.sm⟩
def spRowM (c : Cs) (K : PySem.W.Frag) : Sp := fun vs H Q _ => ∃ d x es ns, vs = [.ref d, x] ∧ Devs c K H d es ∧ Ls H x ns ∧ (∀ e ∈ es, OkD e) ∧ InR es.length ns ∧ ns.length ≤ 8 ∧ ∀ v H', Same H H' → MoV c.mo K H' v (rowM es ns) → Q v H'
theorem ok_rowM (F : Txt K mg "row_motion" sRowM ["devices", "row"]) (TD : ClsT K mg "Device" c.dev devNames) (GN : Def P w K mg base 3 "no_motion" [] (spNoMo c.mo K)) (GJ : Def P w K mg base 6 "joined" ["first", "second"] (spJoined c.mo K)) :
    Def P w K mg base 7 "row_motion" ["devices", "row"] (spRowM c K) := by
  refine F.ok scRowM (fun vs H Q E h => ?_) (fun f cdv A outer s H vs Q E hr h => ?_)
  · obtain ⟨d, x, es, ns, rfl, _⟩ := h
    rfl
  · obtain ⟨d, x, es, ns, rfl, hD, ⟨p, rfl, hp⟩, hes, hin, hn, q⟩ := h
    obtain ⟨ds, hd, zd⟩ := LsV.read moDev hD
    have hr3 : Room 3 _ := hr.mono (by decide)
    refine ⟨_, pss_cons (ps_set (i := 2) scRowM.nd rfl (Or.inl rfl) (pe_def0 GN hr3 rfl))
      (pss_cons (ps_for PassesOwn.never rfl (pi_list (pv 1)) (pg_name (i := 3) scRowM.nd rfl (Or.inl rfl))
        (pss_one (ps_set (i := 2) scRowM.nd rfl (Or.inl rfl) (pe_def GJ hr rfl (pa_cons (pv 2) (pa_cons (pe_fld (pe_ix ix_list (pv 0) (pv 3) (fun _ _ => rfl)) rfl) pa_nil))))))
      (pss_one (ps_ret (pv 2)))), ?_⟩
    refine ⟨rfl, fun v0 H0 s0 m0 => ?_⟩
    refine ⟨_, rfl, p, rfl, ⟨_, SqL.of (s0 _ _ hp)⟩, for_list (K := K) (a := p) (xs := ns.map V.int) (fun i σ H' => ∃ v y, σ = [some (.ref d), some (.ref p), some v, y] ∧ Same H H' ∧ MoV c.mo K H' v (rowM es (ns.take i)))
      ⟨v0, _, rfl, s0, m0⟩ (fun i σ H' _ ⟨_, _, _, s1, _⟩ => SqL.of (s1 _ _ hp)) ?_ ?_⟩
    · rintro i y σ H' hi ⟨v, z0, rfl, s1, m1⟩
      obtain ⟨z, hz, rfl⟩ := map_get hi
      have hzr := hin z (List.mem_of_getElem? hz)
      obtain ⟨e, he⟩ : ∃ e, es[z.toNat]? = some e := ⟨_, List.getElem?_eq_getElem (by omega)⟩
      obtain ⟨ve, hve, a, dx, vp, vm, rfl, ha, fp, fm⟩ := zd.item' he
      refine ⟨_, rfl, _, rfl, _, rfl, d, _, _, _, rfl, rfl, SqL.of (s1 _ _ hd), at_of (j := z.toNat) (by omega) hve, a, c.dev, dx, _, _, rfl, s1 _ _ ha, TD.cl, TD.na _ (by decide +kernel), devF_motion _ _, _, _, _, _, rfl, m1, fm.mono s1, (rowM_ok hes).mono (by rw [List.length_take]; omega), (mapOf_ok (hes e (List.mem_of_getElem? he))).mono (by decide), fun v2 H2 s2 m2 => ?_⟩
      refine ⟨v2, _, rfl, s1.trans s2, ?_⟩
      rw [take_snoc hz, rowM_snoc he]; exact m2
    · rintro σ H' ⟨v, z0, rfl, s1, m1⟩
      rw [List.length_map, List.take_length] at m1
      exact ⟨_, rfl, q _ _ s1 m1⟩
/-! ### longer_by_one -/
def spLonger (c : Cs) (K : PySem.W.Frag) : Sp := fun vs H Q _ => ∃ d t es ts, vs = [.ref d, .ref t] ∧ Devs c K H d es ∧ Tris c K H t ts ∧ (∀ e ∈ es, OkD e) ∧ es.length ≤ 6 ∧ ts.length ≤ 36 ∧ (∀ x ∈ ts, OkM 1000 x.2 ∧ x.1.length ≤ 10) ∧
  ∀ l H', Same H H' → Tris c K H' l (longerM es ts) → Q (.ref l) H'
theorem take_flat {α β : Type} {f : α → List β} {l : List α} {i : Nat} {x : α} (h : l[i]? = some x) : (l.take (i + 1)).flatMap f = (l.take i).flatMap f ++ f x := by
  rw [take_snoc h, List.flatMap_append]; simp
theorem ok_longer (F : Txt K mg "longer_by_one" sLonger ["devices", "trials"]) (hrange : mg "range" = none) (hlen : mg "len" = none) (TD : ClsT K mg "Device" c.dev devNames) (TT : ClsT K mg "Trial" c.tri triNames) (N : New P w K mg base 1 "Trial" c.tri 2 mkTri)
    (GJ : Def P w K mg base 6 "joined" ["first", "second"] (spJoined c.mo K)) : Def P w K mg base 7 "longer_by_one" ["devices", "trials"] (spLonger c K) := by
  refine F.ok scLonger (fun vs H Q E h => ?_) (fun f cdv A outer s H vs Q E hr h => ?_)
  · obtain ⟨d, t, es, ts, rfl, _⟩ := h
    rfl
  · obtain ⟨d, t, es, ts, rfl, hD, hT, hes, he6, ht36, hts, q⟩ := h
    obtain ⟨ds, hd, zd⟩ := LsV.read moDev hD
    obtain ⟨us, ht, zt⟩ := LsV.read moTri hT
    have hr2 : Room 2 _ := hr.mono (by decide)
    refine ⟨_, pss_cons (ps_set (i := 2) scLonger.nd rfl (Or.inl rfl) (pe_lst pa_nil))
      (pss_cons (ps_for PassesOwn.never rfl (pi_list (pv 1)) (pg_name (i := 3) scLonger.nd rfl (Or.inl rfl))
        (pss_one (ps_for PassesOwn.never rfl (pi_range1 rfl hrange (pa_cons (pe_callB call_len_seq (by rfl) hlen PySem.boot_len (pa_cons (pv 0) pa_nil)) pa_nil)) (pg_name (i := 4) scLonger.nd rfl (Or.inl rfl))
          (pss_one (ps_expr (pe_bm PySem.F.plainAttrs_list PySem.F.slot_list_append PySem.F.type_list_append mt_append (pv 2)
            (pa_cons (pe_new N hr2 rfl (pa_cons (pe_op op_cat (pe_fld (pv 3) rfl) (pe_lst (pa_cons (pv 4) pa_nil))) (pa_cons (pe_def GJ hr rfl (pa_cons (pe_fld (pv 3) rfl) (pa_cons (pe_fld (pe_ix ix_list (pv 0) (pv 4) (fun _ _ => rfl)) rfl) pa_nil))) pa_nil))) pa_nil)))))))
      (pss_one (ps_ret (pv 2)))), ?_⟩
    refine ⟨Nat.zero_le _, fun l hl => ?_⟩
    have s0 := Same.new (o := .lst []) hl
    refine ⟨_, rfl, t, rfl, ⟨_, SqL.of (s0 _ _ ht)⟩, for_list (K := K) (a := t) (xs := us) (fun i σ H' => ∃ y z, σ = [some (.ref d), some (.ref t), some (.ref l), y, z] ∧ Same H H' ∧ Tris c K H' l ((ts.take i).flatMap (ext es)))
      ⟨_, _, rfl, s0, LsV.nil upd_same⟩ (fun i σ H' _ ⟨_, _, _, s1, _⟩ => SqL.of (s1 _ _ ht)) ?_ ?_⟩
    · rintro i y σ H1 hi ⟨y0, z0, rfl, s1, hl1⟩
      obtain ⟨x, hx, hv⟩ := zt.item hi
      have htx := hts x (List.mem_of_getElem? hx)
      obtain ⟨a, dx, vr, vm, rfl, ha, ⟨pr, rfl, hpr⟩, fm⟩ := id hv
      refine ⟨_, rfl, d, _, rfl, .inl (SqL.of (s1 _ _ hd)), (ds.length : Int), rfl, by omega, ?_, ?_⟩
      · have : ds.length ≤ 6 := by rw [zd.len]; exact he6
        omega
      refine for_range (lo := 0) (n := (ds.length : Int).toNat) (fun j σ H' => ∃ z, σ = [some (.ref d), some (.ref t), some (.ref l), some (.ref a), z] ∧ Same H H' ∧ Tris c K H' l ((ts.take i).flatMap (ext es) ++ (ext es x).take j)) ⟨z0, rfl, s1, by simpa using hl1⟩ ?_ ?_
      · rintro j σ H2 hj ⟨z, rfl, s2, vl, h2, z2⟩
        have hj' : j < es.length := by rw [← zd.len]; omega
        obtain ⟨e, he⟩ : ∃ e, es[j]? = some e := ⟨_, List.getElem?_eq_getElem hj'⟩
        obtain ⟨ve, hve, a', dx', vp, vm', rfl, ha', fp', fm'⟩ := zd.item' he
        refine ⟨_, rfl, .inl ⟨rfl, _, SqL.of h2⟩, _, rfl, a, c.tri, dx, _, _, rfl, s2 _ _ ha, TT.cl, TT.na _ (by decide +kernel), triF_row _ _, _, rfl, (by show 1 ≤ sizeLine; decide), fun l1 hl1 => ?_⟩
        have s3 := Same.new (o := .lst [.int (0 + (j : Int))]) hl1
        refine ⟨pr, l1, _, _, rfl, rfl, s3 _ _ (s2 _ _ hpr), upd_same, ?_, fun l2 hl2 => ?_⟩
        · rw [List.length_map]
          exact Nat.le_of_lt (small1000 (by simp only [List.length_cons, List.length_nil]; omega))
        have s4 := Same.new (o := .lst (x.1.map V.int ++ [.int (0 + (j : Int))])) hl2
        have s24 := (s2.trans s3).trans s4
        refine ⟨_, rfl, a, c.tri, dx, _, _, rfl, s24 _ _ ha, TT.cl, TT.na _ (by decide +kernel), triF_motion _ _, _, rfl, _, rfl, d, _, _, _, rfl, rfl, SqL.of (s24 _ _ hd), at_of (j := j) (by omega) hve, a', c.dev, dx', _, _, rfl, s24 _ _ ha', TD.cl, TD.na _ (by decide +kernel), devF_motion _ _, _, _, _, _, rfl, fm.mono s24, fm'.mono s24, htx.1.mono (by decide), (mapOf_ok (hes e (List.mem_of_getElem? he))).mono (by decide), fun v5 H5 s5 m5 => ?_⟩
        refine ⟨rfl, fun b db H6 hb h6 s6 => ?_⟩
        have s26 := ((s3.trans s4).trans s5).trans s6
        have hlen2 : vl.length ≤ 300 := by
          rw [z2.len, List.length_append, List.length_take, ext_len]
          have h7 := longer_len es (ts.take i)
          unfold longerM at h7
          rw [h7, List.length_take]
          have : min i ts.length * es.length ≤ 36 * 6 := Nat.mul_le_mul (by omega) he6
          omega
        refine ⟨l, _, _, rfl, rfl, s26 _ _ h2, small1000 (by omega), ?_⟩
        have hnl : ∀ b o, H b = some o → b ≠ l := fun b o e => ne_of_none e hl
        refine ⟨_, rfl, fun b' o e' => by rw [upd_ne (hnl b' o e')]; exact s26 _ _ (s2 _ _ e'), ?_⟩
        rw [take_snoc (ext_get he), ← List.append_assoc]
        have h2l : H6 l = some (.lst vl) := s26 _ _ h2
        have hbl : b ≠ l := (ne_of_none ((s3.trans s4 |>.trans s5) _ _ h2) hb).symm
        have hl2l : l2 ≠ l := (ne_of_none (s3 _ _ h2) hl2).symm
        refine LsV.snoc (z2.mono fun v y h => TriV.mono (Same.hide s26) h) ⟨b, db, .ref l2, v5, rfl, by rw [hide_at hbl]; exact h6, ?_, MoV.hide h2l (m5.mono s6)⟩
        refine Ls.hide hl2l ?_
        rw [s6 _ _ (s5 _ _ upd_same), List.map_append]
        simp
      · rintro σ H2 ⟨z, rfl, s2, h2⟩
        refine ⟨_, _, rfl, s2, ?_⟩
        rw [take_flat hx]
        have e1 : (ext es x).take (ds.length : Int).toNat = ext es x := List.take_of_length_le (by rw [ext_len, Int.toNat_natCast, zd.len]; omega)
        rw [e1] at h2
        exact h2
    · rintro σ H' ⟨y, z, rfl, s1, h1⟩
      rw [zt.len, List.take_length] at h1
      exact ⟨_, rfl, q _ _ s1 h1⟩
end
end Cr
end
section
set_option Elab.async false
set_option linter.all false
set_option maxRecDepth 100000
set_option maxHeartbeats 2000000
namespace Cr
open PySem PySem.Spec PyProof.Rows L2
open Mu52 (Q Pt Map frac Device)
open Mu52Neutral (nats)
section
variable {P : Program} {w : World} {K : PySem.W.Frag} {mg : Str → Option Value} {base : Heap} {c : Cs}
def want (ws : List Int) (t : List Int × Map) : Bool := decide ((toldM t.2).take ws.length = ws)
def spFirst (c : Cs) (K : PySem.W.Frag) : Sp := fun vs H Q _ => ∃ d x ts ws, vs = [.ref d, x] ∧ Tris c K H d ts ∧ Ls H x ws ∧ ws.length ≤ 100 ∧
  ∀ v H', Same H H' → (match ts.find? (want ws) with | some t => TriV c K H' v t | none => v = .non) → Q v H'
theorem cut_take (xs : List V) (n : Nat) : cutV xs none (some (n : Int)) = xs.take n := by
  unfold cutV
  rw [HT.sIx_nat]
  show (xs.drop 0).take (min n xs.length - 0) = xs.take n
  rw [List.drop_zero, Nat.sub_zero]
  by_cases h : n ≤ xs.length
  · rw [Nat.min_eq_left h]
  · rw [Nat.min_eq_right (by omega), List.take_length, List.take_of_length_le (by omega)]
theorem ok_first (F : Txt K mg "first_with" sFirst ["trials", "wanted"]) (hlen : mg "len" = none) (TT : ClsT K mg "Trial" c.tri triNames) (GT : Def P w K mg base 2 "told_motion" ["motion"] (spToldM c.mo K)) :
    Def P w K mg base 3 "first_with" ["trials", "wanted"] (spFirst c K) := by
  refine F.ok scFirst (fun vs H Q E h => ?_) (fun f cdv A outer s H vs Q E hr h => ?_)
  · obtain ⟨d, x, ts, ws, rfl, _⟩ := h
    rfl
  · obtain ⟨t, x, ts, ws, rfl, hT, ⟨pw, rfl, hpw⟩, hws, q⟩ := h
    obtain ⟨us, ht, zt⟩ := LsV.read moTri hT
    have hu := hr.units
    refine ⟨_, pss_cons (ps_for PassesOwn.never rfl (pi_list (pv 0)) (pg_name (i := 2) scFirst.nd rfl (Or.inl rfl))
        (pss_one (ps_if (pt_cmpR (op_eqD hu) (pe_slice sl_list (pe_def GT hr rfl (pa_cons (pe_fld (pv 2) rfl) pa_nil)) po_none (po_some (pe_callB call_len_seq (by rfl) hlen PySem.boot_len (pa_cons (pv 1) pa_nil)))) (pv 1) (nomark _))
          (pss_one (ps_ret (pv 2))) pss_nil)))
      (pss_one (ps_ret pe_non)), ?_⟩
    refine ⟨_, rfl, t, rfl, ⟨_, SqL.of ht⟩, for_list (K := K) (a := t) (xs := us) (fun i σ H' => ∃ y, σ = [some (.ref t), some (.ref pw), y] ∧ Same H H' ∧ ∀ (j : Nat) (y : List Int × Map), j < i → ts[j]? = some y → want ws y = false)
      ⟨_, rfl, Same.refl _, fun j y hj => absurd hj (Nat.not_lt_zero _)⟩ (fun i σ H' _ ⟨_, _, s1, _⟩ => SqL.of (s1 _ _ ht)) ?_ ?_⟩
    · rintro i y σ H1 hi ⟨y0, rfl, s1, no⟩
      obtain ⟨x, hx, hv⟩ := zt.item hi
      obtain ⟨a, dx, vr, vm, rfl, ha, fr, fm⟩ := id hv
      refine ⟨_, rfl, a, c.tri, dx, _, _, rfl, s1 _ _ ha, TT.cl, TT.na _ (by decide +kernel), triF_motion _ _, _, _, rfl, fm.mono s1, fun v2 H2 s2 l2 => ?_⟩
      obtain ⟨p2, rfl, _, h2⟩ := l2
      have s12 := s1.trans s2
      refine ⟨_, rfl, pw, _, rfl, .inl (SqL.of (s12 _ _ hpw)), _, rfl, p2, _, rfl, SqL.of h2, fun p3 h3 => ?_⟩
      rw [cut_take, List.length_map, ← List.map_take]
      have s3 := Same.new (o := .lst (((toldM x.2).take ws.length).map V.int)) h3
      refine ⟨_, rfl, .list (((toldM x.2).take ws.length).map .int), .list (ws.map .int), dpL ⟨p3, rfl, upd_same⟩, dpL ⟨pw, rfl, s3 _ _ (s12 _ _ hpw)⟩, shapedL _, shapedL _, _, rfl, ?_⟩
      rw [eqvL]
      refine ite2 (fun hc => ?_) (fun hc => ?_)
      · have hw : want ws x = true := hc
        have e := find_at no hx hw
        rw [e] at q
        exact ⟨_, rfl, q _ _ (s12.trans s3) (hv.mono (s12.trans s3))⟩
      · refine ⟨_, rfl, s12.trans s3, fun j y hj hy => ?_⟩
        by_cases hji : j = i
        · subst hji
          rw [hx] at hy; cases hy
          exact Bool.not_eq_true _ ▸ hc
        · exact no j y (by omega) hy
    · rintro σ H' ⟨y, rfl, s1, no⟩
      have e : ts.find? (want ws) = none := find_not fun j y hy => no j y (by
        have := (List.getElem?_eq_some_iff.mp hy).1
        rw [zt.len]; exact this) hy
      rw [e] at q
      exact q _ _ s1 rfl
/-! ### answer_found_row -/
def toldF : Option (List Int × Map) → List Int
  | some t => (t.1.length : Int) :: t.1
  | none => [-6]
def spFound (c : Cs) (K : PySem.W.Frag) : Sp := fun vs H Q _ => ∃ d x y es m ws, vs = [.ref d, x, y] ∧ Devs c K H d es ∧ MoV c.mo K H x m ∧ Ls H y ws ∧ (∀ e ∈ es, OkD e) ∧ es.length ≤ 6 ∧ OkM 500 m ∧ ws.length ≤ 100 ∧
  ∀ v H', Same H H' → LsN H H' v (toldF (foundM es m (want ws))) → Q v H'
def muFound : L2.St → Hp → Nat := fun σ _ => match σ with
  | [_, _, _, _, _, some (.int y)] => (3 - y).toNat
  | _ => 0
theorem tr_rowlen {es : List Device} {m : Map} : ∀ k, ∀ t ∈ tr es m k, t.1.length = k
  | 0, t, ht => by
    have : t = ([], m) := by simpa [tr] using ht
    subst this; rfl
  | k + 1, t, ht => by
    obtain ⟨t', h1, h2⟩ := List.mem_flatMap.mp (show t ∈ (tr es m k).flatMap (ext es) from ht)
    obtain ⟨x, hx, rfl⟩ := List.mem_map.mp h2
    have := tr_rowlen k t' h1
    simp [this]
theorem found_at {es : List Device} {m : Map} {p : List Int × Map → Bool} {k : Nat} {t : List Int × Map} (hk : k ≤ 3) (no : ∀ j, j < k → (tr es m j).find? p = none) (h : (tr es m k).find? p = some t) : foundM es m p = some t := by
  unfold foundM
  rw [List.find?_append, List.find?_append, List.find?_append]
  match k, hk, no, h with
  | 0, _, _, h => rw [h]; rfl
  | 1, _, no, h => rw [no 0 (by omega), h]; rfl
  | 2, _, no, h => rw [no 0 (by omega), no 1 (by omega), h]; rfl
  | 3, _, no, h => rw [no 0 (by omega), no 1 (by omega), no 2 (by omega), h]; rfl
theorem found_none {es : List Device} {m : Map} {p : List Int × Map → Bool} (no : ∀ j, j ≤ 3 → (tr es m j).find? p = none) : foundM es m p = none := by
  unfold foundM
  rw [List.find?_append, List.find?_append, List.find?_append, no 0 (by omega), no 1 (by omega), no 2 (by omega), no 3 (by omega)]; rfl
theorem ok_found (F : Txt K mg "answer_found_row" sFound ["devices", "start", "wanted"]) (hlen : mg "len" = none) (TT : ClsT K mg "Trial" c.tri triNames) (N : New P w K mg base 1 "Trial" c.tri 2 mkTri) (g3 : GInt mg "FOUND_ROW_MOST" 3) (g6 : GInt mg "NO_SUCH_ROW" (-6))
    (GF : Def P w K mg base 3 "first_with" ["trials", "wanted"] (spFirst c K)) (GL : Def P w K mg base 7 "longer_by_one" ["devices", "trials"] (spLonger c K)) : Def P w K mg base 8 "answer_found_row" ["devices", "start", "wanted"] (spFound c K) := by
  refine F.ok scFound (fun vs H Q E h => ?_) (fun f cdv A outer s H vs Q E hr h => ?_)
  · obtain ⟨d, x, y, es, m, ws, rfl, _⟩ := h
    rfl
  · obtain ⟨d, x, y, es, m, ws, rfl, hD, hM, hW, hes, he6, om, hws, q⟩ := h
    have hr2 : Room 2 _ := hr.mono (by decide)
    have hr3 : Room 3 _ := hr.mono (by decide)
    refine ⟨_, pss_cons (ps_set (i := 3) scFound.nd rfl (Or.inl rfl) (pe_lst (pa_cons (pe_new N hr2 rfl (pa_cons (pe_lst pa_nil) (pa_cons (pv 1) pa_nil))) pa_nil)))
      (pss_cons (ps_set (i := 4) scFound.nd rfl (Or.inl rfl) (pe_def GF hr3 rfl (pa_cons (pv 3) (pa_cons (pv 2) pa_nil))))
      (pss_cons (ps_set (i := 5) scFound.nd rfl (Or.inl rfl) pe_int)
      (pss_cons (ps_while PassesOwn.never (pw_and (pt_cmp (pc_isN (pv 4))) (pw_and1 (pt_cmpR op_lt (pv 5) (pe_gint g3 (by rfl)) (nomark _)))).pt
        (pss_cons (ps_set (i := 3) scFound.nd rfl (Or.inl rfl) (pe_def GL hr rfl (pa_cons (pv 0) (pa_cons (pv 3) pa_nil))))
        (pss_cons (ps_set (i := 4) scFound.nd rfl (Or.inl rfl) (pe_def GF hr3 rfl (pa_cons (pv 3) (pa_cons (pv 2) pa_nil))))
        (pss_one (ps_set (i := 5) scFound.nd rfl (Or.inl rfl) (pe_op op_add (pv 5) pe_int))))))
      (pss_cons (ps_if (pt_cmp (pc_isN (pv 4))) (pss_one (ps_ret (pe_lst (pa_cons (pe_gint g6 rfl) pa_nil)))) pss_nil)
      (pss_one (ps_ret (pe_op op_cat (pe_lst (pa_cons (pe_callB call_len_seq (by rfl) hlen PySem.boot_len (pa_cons (pe_fld (pv 4) rfl) pa_nil)) pa_nil)) (pe_fld (pv 4) rfl)))))))), ?_⟩
    refine ⟨Nat.zero_le _, fun l0 hl0 => ?_⟩
    have s0 := Same.new (o := .lst []) hl0
    refine ⟨_, rfl, rfl, fun a dx H1 hn h1 s1 => ?_⟩
    refine ⟨(by show 1 ≤ sizeLine; decide), fun l1 hl1 => ?_⟩
    have s2 := Same.new (o := .lst [.ref a]) hl1
    have s02 := (s0.trans s1).trans s2
    have hl01 : l0 ≠ l1 := ne_of_none (s1 _ _ upd_same) hl1
    have hal1 : a ≠ l1 := ne_of_none h1 hl1
    have T0 : Tris c K (upd H1 l1 (.lst [.ref a])) l1 (tr es m 0) := by
      refine ⟨[.ref a], upd_same, ?_⟩
      rw [hide_upd]
      have e0 : hide l1 H1 = H1 := by
        funext b
        unfold hide
        split
        · rename_i hb; rw [hb]; exact hl1.symm
        · rfl
      rw [e0]
      have tv : TriV c K H1 (.ref a) ([], m) := ⟨a, dx, _, _, rfl, h1, ⟨l0, rfl, s1 _ _ upd_same⟩, hM.mono (s0.trans s1)⟩
      exact Zip.nil.snoc tv
    refine ⟨_, rfl, _, rfl, _, _, _, _, rfl, T0, hW.mono s02, hws, fun v3 H3 s3 f3 => ?_⟩
    have s03 := s02.trans s3
    refine while_by (fun σ H' => ∃ (k : Nat) (l : Addr) (v : V), σ = [some (.ref d), some x, some y, some (.ref l), some v, some (.int k)] ∧ Same H H' ∧ k ≤ 3 ∧ Tris c K H' l (tr es m k) ∧ (∀ j, j < k → (tr es m j).find? (want ws) = none) ∧ (match (tr es m k).find? (want ws) with | some t => TriV c K H' v t | none => v = .non))
      muFound ⟨0, l1, v3, rfl, s03, by omega, T0.mono moTri s3, fun j hj => absurd hj (Nat.not_lt_zero _), f3⟩ ?_ ?_
    · rintro σ H' ⟨k, l, v, rfl, s4, hk, hT, no, hv⟩
      have hnon : ∀ t, (tr es m k).find? (want ws) = some t → v ≠ .non := fun t e z => by
        rw [e] at hv
        obtain ⟨a', dx', r', m', e', _⟩ := hv
        rw [z] at e'; cases e'
      refine tAnd_pure (decide (v = .non)) (decide ((k : Int) < 3)) (fun Q' q' => ⟨_, rfl, _, rfl, q'⟩) (fun Q' q' => ⟨_, rfl, _, _, rfl, rfl, _, rfl, q'⟩) ?_
      refine ite2 (fun hc => ?_) (fun hc => ?_)
      · rw [Bool.and_eq_true] at hc
        have h1 := of_decide_eq_true hc.1
        have h2 := of_decide_eq_true hc.2
        have hfn : (tr es m k).find? (want ws) = none := by
          cases e : (tr es m k).find? (want ws) with
          | none => rfl
          | some t => exact absurd h1 (hnon t e)
        have htl : (tr es m k).length ≤ 36 := by
          rw [tr_len]
          have : es.length ^ k ≤ 6 ^ k := Nat.pow_le_pow_left he6 k
          have : (6 : Nat) ^ k ≤ 6 ^ 2 := Nat.pow_le_pow_right (by decide) (by omega)
          omega
        refine ⟨_, rfl, _, rfl, _, _, _, _, rfl, hD.mono moDev s4, hT, hes, he6, htl, fun t ht => ?_, fun l5 H5 s5 T5 => ?_⟩
        · obtain ⟨r1, r2⟩ := tr_ok (fun e he => ⟨(hes e he).red, (hes e he).sm⟩) om.1 om.2 k t ht
          exact ⟨⟨r1, r2.mono (by omega)⟩, by rw [tr_rowlen k t ht]; omega⟩
        · have s45 := s4.trans s5
          refine ⟨_, rfl, _, rfl, _, _, _, _, rfl, T5, hW.mono s45, hws, fun v6 H6 s6 f6 => ?_⟩
          refine ⟨_, rfl, _, _, rfl, rfl, ?_⟩
          refine ⟨⟨k + 1, l5, v6, rfl, s45.trans s6, by omega, T5.mono moTri s6, fun j hj => ?_, f6⟩, ?_⟩
          · by_cases hjk : j = k
            · subst hjk; exact hfn
            · exact no j (by omega)
          · show (3 - ((k : Int) + 1)).toNat < (3 - (k : Int)).toNat
            omega
      · refine ⟨_, rfl, _, rfl, ite2 (fun hc2 => ?_) (fun hc2 => ?_)⟩
        · have h1 := of_decide_eq_true hc2
          have hfn : (tr es m k).find? (want ws) = none := by
            cases e : (tr es m k).find? (want ws) with
            | none => rfl
            | some t => exact absurd h1 (hnon t e)
          have hk3 : k = 3 := by
            rw [Bool.and_eq_true] at hc
            have : ¬ (k : Int) < 3 := fun z => hc ⟨hc2, decide_eq_true z⟩
            omega
          subst hk3
          have e := found_none (es := es) (m := m) (p := want ws) fun j hj => by
            by_cases hjk : j = 3
            · subst hjk; exact hfn
            · exact no j (by omega)
          rw [e] at q
          refine ⟨(by show 1 ≤ sizeLine; decide), fun l5 h5 => ?_⟩
          exact q _ _ (s4.trans (Same.new h5)) ⟨l5, rfl, s4.free h5, by rw [upd_same]; rfl⟩
        · have hv0 : v ≠ .non := fun z => hc2 (decide_eq_true z)
          cases e : (tr es m k).find? (want ws) with
          | none => rw [e] at hv; exact absurd hv hv0
          | some t =>
            rw [e] at hv
            rw [found_at hk no e] at q
            obtain ⟨a', dx', r', m', rfl, ha', ⟨pr, rfl, hpr⟩, fm'⟩ := hv
            have hlen3 := tr_rowlen k t (List.mem_of_find?_eq_some e)
            refine ⟨_, rfl, a', c.tri, dx', _, _, rfl, ha', TT.cl, TT.na _ (by decide +kernel), triF_row _ _, pr, _, rfl, .inl (SqL.of hpr), (by show 1 ≤ sizeLine; decide), fun l5 h5 => ?_⟩
            have s5 := Same.new (o := .lst [.int ((t.1.map V.int).length : Int)]) h5
            refine ⟨_, rfl, a', c.tri, dx', _, _, rfl, s5 _ _ ha', TT.cl, TT.na _ (by decide +kernel), triF_row _ _, l5, pr, _, _, rfl, rfl, upd_same, s5 _ _ hpr, ?_, fun l6 h6 => ?_⟩
            · rw [List.length_map]
              exact Nat.le_of_lt (small1000 (by simp only [List.length_cons, List.length_nil]; omega))
            · refine q _ _ ((s4.trans s5).trans (Same.new h6)) ⟨l6, rfl, (s4.trans s5).free h6, ?_⟩
              rw [upd_same, List.length_map]; rfl
    · intro σ H' Q1 Q2 hm hq
      obtain ⟨v, h1, b, h2, h3⟩ := hq
      refine ⟨v, h1, b, h2, ?_⟩
      split at h3
      · rename_i hb
        rw [if_pos hb]
        obtain ⟨v', g1, i, j, g2, g3, k, g4, g5⟩ := h3
        exact ⟨v', g1, i, j, g2, g3, k, g4, hm _ _ g5⟩
      · rename_i hb
        rw [if_neg hb]
        exact hm _ _ h3
end
end Cr
end
section
set_option Elab.async false
set_option linter.all false
set_option maxRecDepth 100000
set_option maxHeartbeats 2000000
namespace Cr
open PySem PySem.Spec PyProof.Rows L2
open Mu52 (Q Pt Map frac Device)
open Mu52Neutral (nats)
abbrev sMake : Stmt := top 61
abbrev sFar : Stmt := top 64
abbrev sLook : Stmt := top 65
abbrev sTwo : Stmt := top 66
abbrev sDevice : Stmt := top 56
theorem scMake : FnScope ["devices", "build"] ["devices", "build"] (defScope sMake) := ⟨rfl, rfl, rfl, by decide +kernel, rfl, by decide +kernel, by decide +kernel⟩
theorem scFar : FnScope ["motion", "numbers", "one_copy", "other_copy"] ["motion", "numbers"] (defScope sFar) := ⟨rfl, rfl, rfl, by decide +kernel, rfl, by decide +kernel, by decide +kernel⟩
theorem scLook : FnScope ["devices", "told", "device"] ["devices"] (defScope sLook) := ⟨rfl, rfl, rfl, by decide +kernel, rfl, by decide +kernel, by decide +kernel⟩
theorem scTwo : FnScope ["number", "first", "second"] ["number", "first", "second"] (defScope sTwo) := ⟨rfl, rfl, rfl, by decide +kernel, rfl, by decide +kernel, by decide +kernel⟩
theorem scDevice : FnScope ["devices", "numbers", "build", "pivot"] ["devices", "numbers"] (defScope sDevice) := ⟨rfl, rfl, rfl, by decide +kernel, rfl, by decide +kernel, by decide +kernel⟩
section
variable {P : Program} {w : World} {K : PySem.W.Frag} {mg : Str → Option Value} {base : Heap} {c : Cs}
theorem buildB_b {a b u m : Int} (h : buildB a b u m = true) : (1 ≤ a ∧ a ≤ 9) ∧ (1 ≤ b ∧ b ≤ 9) ∧ u ≤ 1 ∧ m ≤ 1 := by
  unfold buildB part at h
  simp only [Bool.and_eq_true, decide_eq_true_eq] at h
  exact ⟨h.1, h.2.1, h.2.2.1, h.2.2.2⟩
/-! ### answer_make -/
def makeA (es : List Device) (a b u m : Int) : List Int := if buildB a b u m = true then toldF (foundM es Mu52.stay (want (m :: Mu52.told (frac (if u = 1 then -a else a) b)))) else [-1]
def spMake (c : Cs) (K : PySem.W.Frag) : Sp := fun vs H Q _ => ∃ d x es a b u m, vs = [.ref d, x] ∧ Devs c K H d es ∧ Ls H x [a, b, u, m] ∧ (∀ e ∈ es, OkD e) ∧ es.length ≤ 6 ∧ ∀ v H', Same H H' → LsN H H' v (makeA es a b u m) → Q v H'
theorem ok_make (F : Txt K mg "answer_make" sMake ["devices", "build"]) (hl : mg "list" = none) (gw : GInt mg "WRONG_NUMBER" (-1)) (GB : Def P w K mg base 2 "is_build" ["build"] spBuild) (GF : Def P w K mg base 8 "answer_found_row" ["devices", "start", "wanted"] (spFound c K))
    (GN : Def P w K mg base 3 "no_motion" [] (spNoMo c.mo K)) (GS : Def P w K mg base 3 "size_of" ["build"] (spSizeOf K)) : Def P w K mg base 9 "answer_make" ["devices", "build"] (spMake c K) := by
  refine F.ok scMake (fun vs H Q E h => ?_) (fun f cdv A outer s H vs Q E hr h => ?_)
  · obtain ⟨d, x, es, a, b, u, m, rfl, _⟩ := h
    rfl
  · obtain ⟨d, x, es, a, b, u, m, rfl, hD, hX, hes, he6, q⟩ := h
    obtain ⟨p, rfl, hp⟩ := id hX
    have hr2 : Room 2 _ := hr.mono (by decide)
    have hr3 : Room 3 _ := hr.mono (by decide)
    refine ⟨_, pss_cons (ps_if (pt_not (pt_val (pe_def GB hr2 rfl (pa_cons (pv 1) pa_nil)))) (pss_one (ps_ret (pe_lst (pa_cons (pe_gint gw rfl) pa_nil)))) pss_nil)
      (pss_one (ps_ret (pe_def GF hr rfl (pa_cons (pv 0) (pa_cons (pe_def0 GN hr3 rfl) (pa_cons (pe_op op_cat (pe_lst (pa_cons (ixL 1) pa_nil)) (pe_callTy call_list_of (by rfl) hl PyProof.Rows.boot_list (pa_cons (pe_def GS hr3 rfl (pa_cons (pv 1) pa_nil)) pa_nil))) pa_nil)))))), ?_⟩
    refine ⟨_, rfl, _, _, _, _, _, rfl, hX, _, rfl, ite2 (fun hc => ?_) (fun hc => ?_)⟩
    · have hb : ¬ buildB a b u m = true := by simpa using hc
      unfold makeA at q
      rw [if_neg hb] at q
      exact ⟨(by show 1 ≤ sizeLine; decide), fun l h1 => q _ _ (Same.new h1) ⟨l, rfl, h1, by rw [upd_same]; rfl⟩⟩
    · have hb : buildB a b u m = true := by simpa using hc
      obtain ⟨hA, hB, _⟩ := buildB_b hb
      unfold makeA at q
      rw [if_pos hb] at q
      refine ⟨_, rfl, rfl, fun v1 H1 s1 m1 => ?_⟩
      refine ⟨_, rfl, p, _, _, _, rfl, rfl, SqL.of (s1 _ _ hp), rfl, (by show 1 ≤ sizeLine; decide), fun l2 h2 => ?_⟩
      have s2 := Same.new (o := .lst [.int m]) h2
      have s12 := s1.trans s2
      refine ⟨_, rfl, _, _, _, _, _, rfl, hX.mono s12, hB.1, hB.2, fun v3 H3 s3 f3 => ?_⟩
      obtain ⟨p3, rfl, hp3⟩ := f3
      refine ⟨p3, _, rfl, .inr hp3, fun l4 h4 => ?_⟩
      have s4 := Same.new (o := .lst [.int (frac (if u = 1 then -a else a) b).n, .int (frac (if u = 1 then -a else a) b).d]) h4
      refine ⟨l2, l4, _, _, rfl, rfl, s4 _ _ (s3 _ _ upd_same), upd_same, (by show 3 ≤ sizeLine; decide), fun l5 h5 => ?_⟩
      have s5 := Same.new (o := .lst ([.int m] ++ [.int (frac (if u = 1 then -a else a) b).n, .int (frac (if u = 1 then -a else a) b).d])) h5
      have s15 := (s12.trans s3 |>.trans s4).trans s5
      have s25 := (s2.trans s3 |>.trans s4).trans s5
      refine ⟨_, _, _, _, _, m :: Mu52.told (frac (if u = 1 then -a else a) b), rfl, hD.mono moDev s15, m1.mono s25, ⟨l5, rfl, upd_same⟩, hes, he6, ⟨stay_red, stay_sm.mono (by decide)⟩, ?_, fun v6 H6 s6 f6 => ?_⟩
      · show 3 ≤ 100
        decide
      · exact q _ _ (s15.trans s6) (f6.of s15)
/-! ### answer_far -/
def spFar (c : Cs) (K : PySem.W.Frag) : Sp := fun vs H Q _ => ∃ x y m a b a' b', vs = [x, y] ∧ MoV c.mo K H x m ∧ Ls H y [a, b, a', b'] ∧ OkM 300 m ∧ (a.natAbs < 2 ^ 7 ∧ b.natAbs < 2 ^ 7 ∧ a'.natAbs < 2 ^ 7 ∧ b'.natAbs < 2 ^ 7) ∧
  ∀ v H', Same H H' → LsN H H' v (Mu52.told (sqM (Mu52.at_ m (Mu52.point a b)) (Mu52.at_ m (Mu52.point a' b')))) → Q v H'
theorem point_ok {a b : Int} (h : a.natAbs < 2 ^ 7) (h' : b.natAbs < 2 ^ 7) : OkP 7 (Mu52.point a b) := ⟨⟨whole_red _, whole_red _⟩, ⟨⟨h, by show 1 < 2 ^ 7; decide⟩, ⟨h', by show 1 < 2 ^ 7; decide⟩⟩⟩
theorem at_ok {m : Map} {p : Pt} {a b : Nat} (hm : OkM a m) (hp : OkP b p) : OkP (2 * a + b + 1) (Mu52.at_ m p) := ⟨at_red hm.1 hp.1, moved_sm hm.1 hp.1 hm.2 hp.2⟩
theorem ok_far (F : Txt K mg "answer_far" sFar ["motion", "numbers"]) (hl : mg "list" = none) (GM : Def P w K mg base 5 "moved" ["motion", "point"] (spMoved c.mo K)) (GW : Def P w K mg base 3 "whole_point" ["right", "up"] (spWhole K))
    (GS : Def P w K mg base 5 "square_between" ["start", "end"] (spSquare K)) : Def P w K mg base 6 "answer_far" ["motion", "numbers"] (spFar c K) := by
  refine F.ok scFar (fun vs H Q E h => ?_) (fun f cdv A outer s H vs Q E hr h => ?_)
  · obtain ⟨x, y, m, a, b, a', b', rfl, _⟩ := h
    rfl
  · obtain ⟨x, y, m, a, b, a', b', rfl, hM, ⟨p, rfl, hp⟩, om, ⟨g1, g2, g3, g4⟩, q⟩ := h
    have hr3 : Room 3 _ := hr.mono (by decide)
    refine ⟨_, pss_cons (ps_set (i := 2) scFar.nd rfl (Or.inl rfl) (pe_def GM hr rfl (pa_cons (pv 0) (pa_cons (pe_def GW hr3 rfl (pa_cons (ixL 1) (pa_cons (ixL 1) pa_nil))) pa_nil))))
      (pss_cons (ps_set (i := 3) scFar.nd rfl (Or.inl rfl) (pe_def GM hr rfl (pa_cons (pv 0) (pa_cons (pe_def GW hr3 rfl (pa_cons (ixL 1) (pa_cons (ixL 1) pa_nil))) pa_nil))))
      (pss_one (ps_ret (pe_callTy call_list_of (by rfl) hl PyProof.Rows.boot_list (pa_cons (pe_def GS hr rfl (pa_cons (pv 2) (pa_cons (pv 3) pa_nil))) pa_nil))))), ?_⟩
    have o1 := point_ok g1 g2
    have o2 := point_ok g3 g4
    refine ⟨_, rfl, _, rfl, p, _, _, _, rfl, rfl, SqL.of hp, rfl, _, rfl, p, _, _, _, rfl, rfl, SqL.of hp, rfl, _, _, rfl, fun v1 H1 s1 f1 => ?_⟩
    refine ⟨_, _, _, _, rfl, hM.mono s1, f1, om.mono (by decide), o1.mono (by decide), fun v2 H2 s2 f2 => ?_⟩
    have s12 := s1.trans s2
    refine ⟨_, rfl, _, rfl, p, _, _, _, rfl, rfl, SqL.of (s12 _ _ hp), rfl, _, rfl, p, _, _, _, rfl, rfl, SqL.of (s12 _ _ hp), rfl, _, _, rfl, fun v3 H3 s3 f3 => ?_⟩
    have s13 := s12.trans s3
    refine ⟨_, _, _, _, rfl, hM.mono s13, f3, om.mono (by decide), o2.mono (by decide), fun v4 H4 s4 f4 => ?_⟩
    have s34 := s3.trans s4
    refine ⟨_, rfl, _, rfl, _, _, _, _, rfl, f2.mono s34, f4, (at_ok om o1).mono (by decide), (at_ok om o2).mono (by decide), fun v5 H5 s5 f5 => ?_⟩
    obtain ⟨p5, rfl, h5⟩ := f5
    refine ⟨p5, _, rfl, .inr h5, fun l6 h6 => ?_⟩
    exact q _ _ (((s13.trans s4).trans s5).trans (Same.new h6)) ⟨l6, rfl, ((s13.trans s4).trans s5).free h6, by rw [upd_same]; rfl⟩
/-! ### answer_look -/
def toldD (e : Device) : List Int := Mu52.toldPt e.pivot ++ Mu52.told e.size ++ [mi e.mirror]
def spLook (c : Cs) (K : PySem.W.Frag) : Sp := fun vs H Q _ => ∃ d es, vs = [.ref d] ∧ Devs c K H d es ∧ es.length ≤ 6 ∧ ∀ v H', Same H H' → LsN H H' v ((es.length : Int) :: es.flatMap toldD) → Q v H'
theorem flat_len (es : List Device) : ((es.flatMap toldD)).length = 7 * es.length := by
  induction es with
  | nil => rfl
  | cons e es ih => rw [List.flatMap_cons, List.length_append, ih, List.length_cons]; show 7 + _ = _; omega
theorem ok_look (F : Txt K mg "answer_look" sLook ["devices"]) (hlen : mg "len" = none) (hl : mg "list" = none) (TD : ClsT K mg "Device" c.dev devNames) (TM : ClsT K mg "Motion" c.mo moNames) (GP : Def P w K mg base 1 "told_point" ["point"] (spToldP K)) :
    Def P w K mg base 2 "answer_look" ["devices"] (spLook c K) := by
  refine F.ok scLook (fun vs H Q E h => ?_) (fun f cdv A outer s H vs Q E hr h => ?_)
  · obtain ⟨d, es, rfl, _⟩ := h
    rfl
  · obtain ⟨d, es, rfl, hD, he6, q⟩ := h
    obtain ⟨ds, hd, zd⟩ := LsV.read moDev hD
    refine ⟨_, pss_cons (ps_set (i := 1) scLook.nd rfl (Or.inl rfl) (pe_lst (pa_cons (pe_callB call_len_seq (by rfl) hlen PySem.boot_len (pa_cons (pv 0) pa_nil)) pa_nil)))
      (pss_cons (ps_for PassesOwn.never rfl (pi_list (pv 0)) (pg_name (i := 2) scLook.nd rfl (Or.inl rfl))
        (pss_one (ps_expr (pe_bm PySem.F.plainAttrs_list PySem.F.slot_list_extend PySem.F.type_list_extend mt_extend (pv 1) (pa_cons (pe_op op_cat (pe_op op_cat (pe_def GP hr rfl (pa_cons (pe_fld (pv 2) rfl) pa_nil)) (pe_callTy call_list_of (by rfl) hl PyProof.Rows.boot_list (pa_cons (pe_fld (pe_fld (pv 2) rfl) rfl) pa_nil))) (pe_lst (pa_cons (pe_fld (pe_fld (pv 2) rfl) rfl) pa_nil))) pa_nil)))))
      (pss_one (ps_ret (pv 1)))), ?_⟩
    refine ⟨_, rfl, d, _, rfl, .inl (SqL.of hd), (by show 1 ≤ sizeLine; decide), fun l hl => ?_⟩
    have s0 := Same.new (o := .lst [.int (ds.length : Int)]) hl
    have hnl : ∀ b o, H b = some o → b ≠ l := fun b o e => ne_of_none e hl
    refine ⟨_, rfl, d, rfl, ⟨_, SqL.of (s0 _ _ hd)⟩, for_list (K := K) (a := d) (xs := ds) (fun i σ H' => ∃ y, σ = [some (.ref d), some (.ref l), y] ∧ Same H H' ∧ H' l = some (.lst (((es.length : Int) :: (es.take i).flatMap toldD).map V.int)))
      ⟨_, rfl, s0, by rw [upd_same, zd.len]; rfl⟩ (fun i σ H' _ ⟨_, _, s1, _⟩ => SqL.of (s1 _ _ hd)) ?_ ?_⟩
    · rintro i y σ H1 hi ⟨y0, rfl, s1, h1⟩
      obtain ⟨e, he, hv⟩ := zd.item hi
      obtain ⟨a, dx, vp, vm, rfl, ha, fp, ⟨am, dm, vs, vt, rfl, hm, ⟨ps, rfl, fs⟩, ft⟩⟩ := id hv
      refine ⟨_, rfl, .inl ⟨rfl, _, SqL.of h1⟩, _, rfl, a, c.dev, dx, _, _, rfl, s1 _ _ ha, TD.cl, TD.na _ (by decide +kernel), devF_pivot _ _, _, _, rfl, fp.mono s1, fun v2 H2 s2 l2 => ?_⟩
      obtain ⟨p2, rfl, _, h2⟩ := l2
      have s12 := s1.trans s2
      refine ⟨_, rfl, a, c.dev, dx, _, _, rfl, s12 _ _ ha, TD.cl, TD.na _ (by decide +kernel), devF_motion _ _, am, c.mo, dm, _, _, rfl, s12 _ _ hm, TM.cl, TM.na _ (by decide +kernel), moF_size _ _ _, ps, _, rfl, .inr (Same.tup s12 fs), fun l3 h3 => ?_⟩
      have s3 := Same.new (o := .lst [.int e.size.n, .int e.size.d]) h3
      refine ⟨p2, l3, _, _, rfl, rfl, s3 _ _ h2, upd_same, (by show 6 ≤ sizeLine; decide), fun l4 h4 => ?_⟩
      have s4 := Same.new (o := .lst ((Mu52.toldPt e.pivot).map V.int ++ [.int e.size.n, .int e.size.d])) h4
      have s14 := (s12.trans s3).trans s4
      refine ⟨_, rfl, a, c.dev, dx, _, _, rfl, s14 _ _ ha, TD.cl, TD.na _ (by decide +kernel), devF_motion _ _, am, c.mo, dm, _, _, rfl, s14 _ _ hm, TM.cl, TM.na _ (by decide +kernel), moF_mirrors _ _ _, (by show 1 ≤ sizeLine; decide), fun l5 h5 => ?_⟩
      have s5 := Same.new (o := .lst [.int (mi e.mirror)]) h5
      refine ⟨l4, l5, _, _, rfl, rfl, s5 _ _ upd_same, upd_same, (by show 7 ≤ sizeLine; decide), fun l6 h6 => ?_⟩
      have s6 := Same.new (o := .lst (((Mu52.toldPt e.pivot).map V.int ++ [.int e.size.n, .int e.size.d]) ++ [.int (mi e.mirror)])) h6
      have s26 := (((s2.trans s3).trans s4).trans s5).trans s6
      have hi6 : i < 6 := by
        have := (List.getElem?_eq_some_iff.mp he).1
        omega
      refine ⟨l, l6, _, _, rfl, rfl, s26 _ _ h1, upd_same, ?_, ?_⟩
      · rw [List.length_map, List.length_cons, flat_len, List.length_take]
        refine Nat.le_of_lt (small1000 ?_)
        show _ + 7 ≤ 1000
        omega
      · refine ⟨_, rfl, fun b o e' => by rw [upd_ne (hnl b o e')]; exact s26 _ _ (s1 _ _ e'), ?_⟩
        rw [upd_same, take_flat he, List.map_cons, List.map_cons, List.map_append]
        rfl
    · rintro σ H' ⟨y, rfl, s1, h1⟩
      rw [zd.len, List.take_length] at h1
      exact ⟨_, rfl, q _ _ s1 ⟨l, rfl, hl, h1⟩⟩
/-! ### answer_two_rows -/
def twoA (n : Int) (m m' : Map) : List Int := if n = 5 then [if m = m' then 1 else 0] else 0 :: Mu52.toldPt (Mu52.minus (Mu52.andThen m m').shift (Mu52.andThen m' m).shift)
theorem qext {a b : Q} (h : a.n = b.n) (h' : (a.d : Int) = (b.d : Int)) : a = b := by
  have e := Int.ofNat.inj h'
  cases a; cases b; simp only at h e; subst h; subst e; rfl
theorem toldM_inj {m m' : Map} (h : toldM m = toldM m') : m = m' := by
  unfold toldM Mu52.told Mu52.toldPt Mu52.told at h
  simp only [List.cons_append, List.nil_append, List.cons.injEq, and_true] at h
  obtain ⟨h1, h2, h3, h4, h5, h6, h7⟩ := h
  have e1 := mi_inj h1
  have e2 := qext h2 h3
  have e3 := qext h4 h5
  have e4 := qext h6 h7
  cases m with | mk b s t => cases m' with | mk b' s' t' =>
  cases t; cases t'
  simp only at e1 e2 e3 e4
  subst e1; subst e2; subst e3; subst e4
  rfl
def spTwo (c : Cs) (K : PySem.W.Frag) : Sp := fun vs H Q _ => ∃ n x y m m', vs = [.int n, x, y] ∧ MoV c.mo K H x m ∧ MoV c.mo K H y m' ∧ OkM 300 m ∧ OkM 300 m' ∧ ∀ v H', Same H H' → LsN H H' v (twoA n m m') → Q v H'
theorem ok_two (F : Txt K mg "answer_two_rows" sTwo ["number", "first", "second"]) (g5 : GInt mg "SAME" 5) (GT : Def P w K mg base 2 "told_motion" ["motion"] (spToldM c.mo K)) (GP : Def P w K mg base 1 "told_point" ["point"] (spToldP K))
    (GA : Def P w K mg base 7 "shift_apart" ["first", "second"] (spApart c.mo K)) : Def P w K mg base 8 "answer_two_rows" ["number", "first", "second"] (spTwo c K) := by
  refine F.ok scTwo (fun vs H Q E h => ?_) (fun f cdv A outer s H vs Q E hr h => ?_)
  · obtain ⟨n, x, y, m, m', rfl, _⟩ := h
    rfl
  · obtain ⟨n, x, y, m, m', rfl, hM, hM', om, om', q⟩ := h
    have hu := hr.units
    have hr1 : Room 1 _ := hr.mono (by decide)
    have hr2 : Room 2 _ := hr.mono (by decide)
    refine ⟨_, pss_cons (ps_if (pt_cmpR op_eq (pv 0) (pe_gint g5 rfl) (nomark _)) (pss_one (ps_ret (pe_lst (pa_cons (pe_ifExp (pt_cmpR (op_eqD hu) (pe_def GT hr2 rfl (pa_cons (pv 1) pa_nil)) (pe_def GT hr2 rfl (pa_cons (pv 2) pa_nil)) (nomark _)) pe_int pe_int) pa_nil)))) pss_nil)
      (pss_one (ps_ret (pe_op op_cat (pe_lst (pa_cons pe_int pa_nil)) (pe_def GP hr1 rfl (pa_cons (pe_def GA hr rfl (pa_cons (pv 1) (pa_cons (pv 2) pa_nil))) pa_nil))))), ?_⟩
    refine ⟨_, rfl, rfl, _, rfl, ite2 (fun hc => ?_) (fun hc => ?_)⟩
    · have hn : n = 5 := V.int.inj (of_decide_eq_true hc)
      unfold twoA at q
      rw [if_pos hn] at q
      refine ⟨_, rfl, _, _, rfl, hM, fun v1 H1 s1 l1 => ?_⟩
      refine ⟨_, rfl, _, _, rfl, hM'.mono s1, fun v2 H2 s2 l2 => ?_⟩
      refine ⟨.list ((toldM m).map .int), .list ((toldM m').map .int), dpL (l1.ls.mono s2), dpL l2.ls, shapedL _, shapedL _, _, rfl, ?_⟩
      rw [eqvL]
      refine ite2 (fun hc2 => ?_) (fun hc2 => ?_)
      · have e := toldM_inj (of_decide_eq_true hc2)
        rw [if_pos e] at q
        exact ⟨(by show 1 ≤ sizeLine; decide), fun l h3 => q _ _ ((s1.trans s2).trans (Same.new h3)) ⟨l, rfl, (s1.trans s2).free h3, by rw [upd_same]; rfl⟩⟩
      · have e : ¬ m = m' := fun z => hc2 (decide_eq_true (by rw [z]))
        rw [if_neg e] at q
        exact ⟨(by show 1 ≤ sizeLine; decide), fun l h3 => q _ _ ((s1.trans s2).trans (Same.new h3)) ⟨l, rfl, (s1.trans s2).free h3, by rw [upd_same]; rfl⟩⟩
    · have hn : ¬ n = 5 := fun e => hc (decide_eq_true (by rw [e]))
      unfold twoA at q
      rw [if_neg hn] at q
      refine ⟨(by show 1 ≤ sizeLine; decide), fun l0 h0 => ?_⟩
      have s0 := Same.new (o := .lst [.int 0]) h0
      refine ⟨_, rfl, _, rfl, _, _, _, _, rfl, hM.mono s0, hM'.mono s0, om.mono (by decide), om'.mono (by decide), fun v1 H1 s1 f1 => ?_⟩
      refine ⟨_, _, rfl, f1, fun v2 H2 s2 l2 => ?_⟩
      obtain ⟨p2, rfl, _, h2⟩ := l2
      refine ⟨l0, p2, _, _, rfl, rfl, s2 _ _ (s1 _ _ upd_same), h2, (by show 5 ≤ sizeLine; decide), fun l3 h3 => ?_⟩
      exact q _ _ (((s0.trans s1).trans s2).trans (Same.new h3)) ⟨l3, rfl, ((s0.trans s1).trans s2).free h3, by rw [upd_same]; rfl⟩
/-! ### answer_device -/
/-- all but one object as it was -/
def SameX (d : Addr) (H H' : Hp) : Prop := ∀ b o, H b = some o → b ≠ d → H' b = some o
def devA (es : List Device) (x y a b u m : Int) : List Device × List Int :=
  if (Mu52.near x && (Mu52.near y && buildB a b u m)) = false then (es, [-1]) else if 6 ≤ es.length then (es, [-5]) else (es ++ [⟨Mu52.point x y, frac (if u = 1 then -a else a) b, m == 1⟩], [(es.length : Int)])
def spDevice (c : Cs) (K : PySem.W.Frag) : Sp := fun vs H Q _ => ∃ d z es x y a b u m, vs = [.ref d, z] ∧ Devs c K H d es ∧ Ls H z [x, y, a, b, u, m] ∧ (∀ e ∈ es, OkD e) ∧ es.length ≤ 6 ∧ 0 ≤ u ∧ 0 ≤ m ∧
  ∀ v H', SameX d H H' → Devs c K H' d (devA es x y a b u m).1 → (∀ e ∈ (devA es x y a b u m).1, OkD e) → (devA es x y a b u m).1.length ≤ 6 → LsN H H' v (devA es x y a b u m).2 → v ≠ .ref d → Q v H'
theorem near_lt {x : Int} (h : Mu52.near x = true) : x.natAbs < 2 ^ 7 := by
  unfold Mu52.near at h
  simp only [Bool.and_eq_true, decide_eq_true_eq] at h
  show x.natAbs < 128
  omega
theorem new_ok {x y a b u m : Int} (h1 : Mu52.near x = true) (h2 : Mu52.near y = true) (h3 : buildB a b u m = true) : OkD ⟨Mu52.point x y, frac (if u = 1 then -a else a) b, m == 1⟩ := by
  obtain ⟨hA, hB, _⟩ := buildB_b h3
  have hb : b ≠ 0 := by omega
  have o := point_ok (near_lt h1) (near_lt h2)
  refine ⟨⟨o.1, frac_red hb⟩, ⟨o.2, frac_sm hb ?_ ?_⟩⟩
  · show _ < 16
    split <;> omega
  · show _ < 16
    omega
theorem cut_drop (xs : List V) {i : Int} (hi : 0 ≤ i) : cutV xs (some i) none = xs.drop i.toNat := by
  obtain ⟨n, rfl⟩ := Int.eq_ofNat_of_zero_le hi
  unfold cutV
  rw [HT.sIx_nat, Int.toNat_natCast]
  show (xs.drop (min n xs.length)).take (xs.length - min n xs.length) = xs.drop n
  by_cases h : n ≤ xs.length
  · rw [Nat.min_eq_left h, List.take_of_length_le (by rw [List.length_drop]; omega)]
  · rw [Nat.min_eq_right (by omega), List.drop_length, List.drop_eq_nil_of_le (by omega)]; simp
theorem ok_device (F : Txt K mg "answer_device" sDevice ["devices", "numbers"]) (hlen : mg "len" = none) (gw : GInt mg "WRONG_NUMBER" (-1)) (gm : GInt mg "DEVICES_MOST" 6) (gf : GInt mg "WORKSHOP_FULL" (-5)) (N : New P w K mg base 1 "Device" c.dev 2 mkDev)
    (GS : Def P w K mg base 1 "is_on_sheet" ["number"] spSheet) (GB : Def P w K mg base 2 "is_build" ["build"] spBuild) (GW : Def P w K mg base 3 "whole_point" ["right", "up"] (spWhole K)) (GA : Def P w K mg base 6 "about_pivot" ["pivot", "size", "mirrors"] (spAbout c.mo K))
    (GZ : Def P w K mg base 3 "size_of" ["build"] (spSizeOf K)) : Def P w K mg base 7 "answer_device" ["devices", "numbers"] (spDevice c K) := by
  refine F.ok scDevice (fun vs H Q E h => ?_) (fun f cdv A outer s H vs Q E hr h => ?_)
  · obtain ⟨d, z, es, x, y, a, b, u, m, rfl, _⟩ := h
    rfl
  · obtain ⟨d, z, es, x, y, a, b, u, m, rfl, hD, ⟨p, rfl, hp⟩, hes, he6, hu0, hm0, q⟩ := h
    obtain ⟨ds, hd, zd⟩ := id hD
    have hr1 : Room 1 _ := hr.mono (by decide)
    have hr2 : Room 2 _ := hr.mono (by decide)
    have hr3 : Room 3 _ := hr.mono (by decide)
    refine ⟨_, pss_cons (ps_set (i := 2) scDevice.nd rfl (Or.inl rfl) (pe_slice sl_list (pv 1) (po_some pe_int) po_none))
      (pss_cons (ps_if (pt_not (pw_and (pt_val (pe_def GS hr1 (by rfl) (pa_cons (ixL 1) pa_nil))) (pw_and (pt_val (pe_def GS hr1 (by rfl) (pa_cons (ixL 1) pa_nil))) (pw_and1 (pt_val (pe_def GB hr2 (by rfl) (pa_cons (pv 2) pa_nil)))))).pt) (pss_one (ps_ret (pe_lst (pa_cons (pe_gint gw rfl) pa_nil)))) pss_nil)
      (pss_cons (ps_if (pt_cmpR op_eq (pe_callB call_len_seq (by rfl) hlen PySem.boot_len (pa_cons (pv 0) pa_nil)) (pe_gint gm rfl) (nomark _)) (pss_one (ps_ret (pe_lst (pa_cons (pe_gint gf rfl) pa_nil)))) pss_nil)
      (pss_cons (ps_set (i := 3) scDevice.nd rfl (Or.inl rfl) (pe_def GW hr3 rfl (pa_cons (ixL 1) (pa_cons (ixL 1) pa_nil))))
      (pss_cons (ps_expr (pe_bm PySem.F.plainAttrs_list PySem.F.slot_list_append PySem.F.type_list_append mt_append (pv 0) (pa_cons (pe_new N hr2 rfl (pa_cons (pv 3) (pa_cons (pe_def GA hr rfl (pa_cons (pv 3) (pa_cons (pe_def GZ hr3 rfl (pa_cons (pv 2) pa_nil)) (pa_cons (ixL 2) pa_nil)))) pa_nil))) pa_nil)))
      (pss_one (ps_ret (pe_lst (pa_cons (pe_op op_sub (pe_callB call_len_seq (by rfl) hlen PySem.boot_len (pa_cons (pv 0) pa_nil)) pe_int) pa_nil)))))))), ?_⟩
    refine ⟨_, rfl, _, rfl, p, _, rfl, SqL.of hp, fun pb hpb => ?_⟩
    rw [cut_drop _ (by decide)]
    have s0 := Same.new (o := .lst ([a, b, u, m].map V.int)) hpb
    have hX : Ls (upd H pb (.lst ([a, b, u, m].map V.int))) (.ref pb) [a, b, u, m] := ⟨pb, rfl, upd_same⟩
    have hdb : d ≠ pb := ne_of_none hd hpb
    dsimp only [gName, tSeq, tIfS, tNext, tNot]
    refine tAnd_pure (t := tB _) (Mu52.near x) (Mu52.near y && buildB a b u m) (fun Q' q' => ⟨_, rfl, p, _, _, _, rfl, rfl, SqL.of (s0 _ _ hp), rfl, _, rfl, _, rfl, q'⟩) (fun Q' q' => ?_) ?_
    · exact tAnd_pure (t := tB _) (Mu52.near y) (buildB a b u m) (fun Q' q' => ⟨_, rfl, p, _, _, _, rfl, rfl, SqL.of (s0 _ _ hp), rfl, _, rfl, _, rfl, q'⟩) (fun Q' q' => ⟨_, rfl, _, _, _, _, _, rfl, hX, _, rfl, q'⟩) q'
    refine ite2 (fun hc => ?_) (fun hc => ?_)
    · have hb : (Mu52.near x && (Mu52.near y && buildB a b u m)) = false := by rwa [Bool.not_eq_true'] at hc
      have e : devA es x y a b u m = (es, [-1]) := by unfold devA; rw [if_pos hb]
      rw [e] at q
      refine ⟨(by show 1 ≤ sizeLine; decide), fun l h1 => ?_⟩
      have s1 := s0.trans (Same.new (o := .lst [.int (-1)]) h1)
      exact q _ _ (fun b o e _ => s1 _ _ e) (hD.mono moDev s1) hes he6 ⟨l, rfl, s0.free h1, by rw [upd_same]; rfl⟩ (fun z => ne_of_none (s0 _ _ hd) h1 (V.ref.inj z).symm)
    · have hb : (Mu52.near x && (Mu52.near y && buildB a b u m)) = true := by simpa using hc
      have hb' := hb
      rw [Bool.and_eq_true, Bool.and_eq_true] at hb'
      obtain ⟨hx, hy, hbu⟩ := hb'
      obtain ⟨hA, hB, hu1, hm1⟩ := buildB_b hbu
      refine ⟨_, rfl, d, _, rfl, .inl (SqL.of (s0 _ _ hd)), rfl, _, rfl, ite2 (fun hc2 => ?_) (fun hc2 => ?_)⟩
      · have h6 : (ds.length : Int) = 6 := V.int.inj (of_decide_eq_true hc2)
        have e : devA es x y a b u m = (es, [-5]) := by
          unfold devA
          rw [if_neg (by rw [hb]; decide), if_pos (by rw [← zd.len]; omega)]
        rw [e] at q
        refine ⟨(by show 1 ≤ sizeLine; decide), fun l h1 => ?_⟩
        have s1 := s0.trans (Same.new (o := .lst [.int (-5)]) h1)
        exact q _ _ (fun b o e _ => s1 _ _ e) (hD.mono moDev s1) hes he6 ⟨l, rfl, s0.free h1, by rw [upd_same]; rfl⟩ (fun z => ne_of_none (s0 _ _ hd) h1 (V.ref.inj z).symm)
      · have h6 : ¬ (ds.length : Int) = 6 := fun z => hc2 (decide_eq_true (by rw [z]))
        have h6' : es.length < 6 := by
          have := zd.len
          omega
        have e : devA es x y a b u m = (es ++ [⟨Mu52.point x y, frac (if u = 1 then -a else a) b, m == 1⟩], [(es.length : Int)]) := by
          unfold devA
          rw [if_neg (by rw [hb]; decide), if_neg (by omega)]
        rw [e] at q
        have hnew := new_ok hx hy hbu
        have hmi : mi (m == 1) = m := by
          have : m = 0 ∨ m = 1 := by omega
          rcases this with rfl | rfl <;> decide
        refine ⟨_, rfl, p, _, _, _, rfl, rfl, SqL.of (s0 _ _ hp), rfl, _, rfl, p, _, _, _, rfl, rfl, SqL.of (s0 _ _ hp), rfl, _, _, rfl, fun v1 H1 s1 f1 => ?_⟩
        have s01 := s0.trans s1
        refine ⟨_, rfl, .inl ⟨rfl, _, SqL.of (s01 _ _ hd)⟩, _, rfl, _, rfl, _, rfl, _, _, _, _, _, rfl, hX.mono s1, hB.1, hB.2, fun v2 H2 s2 f2 => ?_⟩
        have s02 := s01.trans s2
        have hpb2 : H2 pb = some (.lst ([a, b, u, m].map V.int)) := s2 _ _ (s1 _ _ upd_same)
        refine ⟨_, rfl, pb, _, _, _, rfl, rfl, SqL.of hpb2, rfl, v1, v2, Mu52.point x y, frac (if u = 1 then -a else a) b, (m == 1), by rw [hmi]; rfl, f1.mono s2, f2, (point_ok (near_lt hx) (near_lt hy)).mono (by decide), hnew.red.size, hnew.sm.size.mono (by decide), fun v3 H3 s3 f3 => ?_⟩
        refine ⟨rfl, fun ad dx H4 hn4 h4 s4 => ?_⟩
        have s04 := (s02.trans s3).trans s4
        have hd4 : H4 d = some (.lst ds) := s04 _ _ hd
        refine ⟨d, ds, _, rfl, rfl, hd4, small1000 (by rw [zd.len]; omega), ?_⟩
        refine ⟨_, rfl, d, _, rfl, .inl (SqL.of upd_same), _, _, rfl, rfl, (by show 1 ≤ sizeLine; decide), fun l hl => ?_⟩
        have s5 := Same.new (o := .lst [.int (((ds ++ [V.ref ad]).length : Int) - 1)]) hl
        have hld : l ≠ d := (ne_of_none (upd_same) hl).symm
        have D5 : Devs c K (upd H4 d (.lst (ds ++ [.ref ad]))) d (es ++ [⟨Mu52.point x y, frac (if u = 1 then -a else a) b, m == 1⟩]) := by
          refine LsV.snoc (zd.mono fun v y h => DevV.mono (Same.hide s04) h) (DevV.hide hd4 ⟨ad, dx, v1, v3, rfl, h4, f1.mono ((s2.trans s3).trans s4), f3.mono s4⟩)
        refine q _ _ (fun b o e hb => s5 _ _ (by rw [upd_ne hb]; exact s04 _ _ e)) (D5.mono moDev s5) ?_ ?_ ⟨l, rfl, s04.free (by rw [upd_ne hld] at hl; exact hl), ?_⟩ (fun z => hld (V.ref.inj z))
        · intro e he
          rcases List.mem_append.mp he with he | he
          · exact hes e he
          · rw [List.mem_singleton] at he
            subst he; exact hnew
        · simp only [List.length_append, List.length_cons, List.length_nil]; omega
        · rw [upd_same]
          have : ((ds ++ [V.ref ad]).length : Int) - 1 = (es.length : Int) := by
            simp only [List.length_append, List.length_cons, List.length_nil, zd.len]; omega
          show some (HO.lst [V.int (((ds ++ [V.ref ad]).length : Int) - 1)]) = _
          rw [this]; rfl
end
end Cr
end
section
set_option Elab.async false
set_option linter.all false
set_option maxRecDepth 100000
set_option maxHeartbeats 2000000
namespace Cr
open PySem PySem.Spec PyProof.Rows L2
open Mu52 (Q Pt Map frac Device)
open Mu52Neutral (nats)
abbrev sRead : Stmt := top 50
theorem scRead : FnScope ["calls", "start", "form", "end", "numbers", "rows", "row_start"] ["calls", "start"] (defScope sRead) := ⟨rfl, rfl, rfl, by decide +kernel, rfl, by decide +kernel, by decide +kernel⟩
def CallV (c : Cs) (H : Hp) (v : V) (cl : List (List Int)) (e : Nat) : Prop := ∃ a dx p nums rows vn r, v = .ref a ∧ cl = (p :: nums) :: rows ∧ H a = some (.ins c.call dx (calF (.int p) vn (.ref r) (.int e))) ∧ Ls H vn nums ∧ Rows H r rows
def GForms (K : PySem.W.Frag) (mg : Str → Option Value) : Prop := ∃ a, mg "CALL_FORMS" = some (.ref a) ∧ ∃ vs : List V, (∀ H, SqT K H a vs) ∧ ∀ p n k, PyMu52.shape p = some (n, k) → ∃ b, atI vs p = some (.ref b) ∧ ∀ H, SqT K H b [.int (n : Int), .int (k : Int)]
def spRead (c : Cs) (K : PySem.W.Frag) : Sp := fun vs H Q _ => ∃ (a : Addr) (j : Nat) (ns : List Int) (cl : List (List Int)) (rest : List Int), vs = [.ref a, .int j] ∧ SqL K H a (ns.map V.int) ∧ ns.length ≤ 1200 ∧ PyFlat.call PyMu52.shape (ns.drop j) = some (cl, rest) ∧
  ∀ v H' e, Same H H' → CallV c H' v cl e → ns.drop e = rest → e ≤ ns.length → j < e → Q v H'
theorem cut_mid (xs : List V) {i j : Int} (hi : 0 ≤ i) (hij : i ≤ j) (hj : j.toNat ≤ xs.length) : cutV xs (some i) (some j) = (xs.drop i.toNat).take (j.toNat - i.toNat) := by
  obtain ⟨n, rfl⟩ := Int.eq_ofNat_of_zero_le hi
  obtain ⟨m, rfl⟩ := Int.eq_ofNat_of_zero_le (Int.le_trans hi hij)
  unfold cutV
  rw [HT.sIx_nat, HT.sIx_nat, Int.toNat_natCast, Int.toNat_natCast]
  rw [Int.toNat_natCast] at hj
  have : n ≤ m := by omega
  rw [Nat.min_eq_left hj, Nat.min_eq_left (show n ≤ xs.length by omega)]
theorem drop_cons {α : Type} {l : List α} {j : Nat} {p : α} {r : List α} (h : l.drop j = p :: r) : l[j]? = some p ∧ l.drop (j + 1) = r ∧ j < l.length := by
  have hj : j < l.length := by
    have := congrArg List.length h
    rw [List.length_drop, List.length_cons] at this; omega
  rw [List.drop_eq_getElem_cons hj] at h
  injection h with h1 h2
  exact ⟨by rw [List.getElem?_eq_getElem hj, h1], h2, hj⟩
theorem call_inv {l : List Int} {cl : List (List Int)} {rest : List Int} (h : PyFlat.call PyMu52.shape l = some (cl, rest)) : ∃ p r n k xs, l = p :: r ∧ PyMu52.shape p = some (n, k) ∧ n ≤ r.length ∧ PyFlat.rows k (r.drop n) = some (xs, rest) ∧ cl = (p :: r.take n) :: xs := by
  cases l with
  | nil => simp [PyFlat.call] at h
  | cons p r =>
    unfold PyFlat.call at h
    dsimp only at h
    cases e : PyMu52.shape p with
    | none => rw [e] at h; cases h
    | some nk =>
      obtain ⟨n, k⟩ := nk
      rw [e] at h
      simp only at h
      split at h
      · cases h
      · rename_i hn
        cases e2 : PyFlat.rows k (r.drop n) with
        | none => rw [e2] at h; cases h
        | some xt =>
          obtain ⟨xs, t⟩ := xt
          rw [e2] at h
          simp only [Option.some.injEq, Prod.mk.injEq] at h
          obtain ⟨rfl, rfl⟩ := h
          exact ⟨p, r, n, k, xs, rfl, e, by omega, e2, rfl⟩
theorem rows_inv {k : Nat} {l : List Int} {xs : List (List Int)} {t : List Int} (h : PyFlat.rows (k + 1) l = some (xs, t)) : ∃ n r ys, l = n :: r ∧ 0 ≤ n ∧ n.toNat ≤ r.length ∧ PyFlat.rows k (r.drop n.toNat) = some (ys, t) ∧ xs = r.take n.toNat :: ys := by
  unfold PyFlat.rows at h
  cases l with
  | nil => simp [PyFlat.row] at h
  | cons n r =>
    unfold PyFlat.row at h
    dsimp only at h
    by_cases hn : 0 ≤ n ∧ n.toNat ≤ r.length
    · rw [if_pos hn] at h
      simp only at h
      cases e2 : PyFlat.rows k (r.drop n.toNat) with
      | none => rw [e2] at h; cases h
      | some xt =>
        obtain ⟨ys, t'⟩ := xt
        rw [e2] at h
        simp only [Option.some.injEq, Prod.mk.injEq] at h
        obtain ⟨rfl, rfl⟩ := h
        exact ⟨n, r, ys, rfl, hn.1, hn.2, e2, rfl⟩
    · rw [if_neg hn] at h
      cases h
theorem rows_zero {l : List Int} {xs : List (List Int)} {t : List Int} (h : PyFlat.rows 0 l = some (xs, t)) : xs = [] ∧ t = l := by
  unfold PyFlat.rows at h
  simp only [Option.some.injEq, Prod.mk.injEq] at h
  exact ⟨h.1.symm, h.2.symm⟩
theorem shape_k {p : Int} {n k : Nat} (h : PyMu52.shape p = some (n, k)) : n ≤ 6 ∧ k ≤ 2 := by
  unfold PyMu52.shape at h
  repeat (split at h; · (cases h; decide))
  cases h
section
variable {P : Program} {w : World} {K : PySem.W.Frag} {mg : Str → Option Value} {base : Heap} {c : Cs}
theorem ok_read (F : Txt K mg "read_call" sRead ["calls", "start"]) (hlen : mg "len" = none) (gf : GForms K mg) (N : New P w K mg base 1 "Call" c.call 4 mkCal) : Def P w K mg base 3 "read_call" ["calls", "start"] (spRead c K) := by
  refine F.ok scRead (fun vs H Q E h => ?_) (fun f cdv A outer s H vs Q E hr h => ?_)
  · obtain ⟨a, j, ns, cl, rest, rfl, _⟩ := h
    rfl
  · obtain ⟨a, j, ns, cl, rest, rfl, hS, hn, hc, q⟩ := h
    obtain ⟨p, r, n, k, xs, e1, e2, e3, e4, rfl⟩ := call_inv hc
    obtain ⟨g1, g2, g3⟩ := drop_cons e1
    obtain ⟨af, ef, vf, sf, tf⟩ := gf
    obtain ⟨bf, tb, hb⟩ := tf p n k e2
    refine ⟨_, pss_cons (ps_set (i := 2) scRead.nd rfl (Or.inl rfl) (pe_ix ix_tup (pe_glob (v := .ref af) rfl ef rfl) (pe_ix ix_list (pv 0) (pv 1) (fun _ _ => rfl)) (fun _ _ => rfl)))
      (pss_cons (ps_set (i := 3) scRead.nd rfl (Or.inl rfl) (pe_op op_add (pe_op op_add (pv 1) pe_int) (ixT 2)))
      (pss_cons (ps_set (i := 4) scRead.nd rfl (Or.inl rfl) (pe_slice sl_list (pv 0) (po_some (pe_op op_add (pv 1) pe_int)) (po_some (pv 3))))
      (pss_cons (ps_set (i := 5) scRead.nd rfl (Or.inl rfl) (pe_lst pa_nil))
      (pss_cons (ps_while PassesOwn.never (pt_cmpR op_lt (pe_callB call_len_seq (by rfl) hlen PySem.boot_len (pa_cons (pv 5) pa_nil)) (ixT 2) (nomark _))
        (pss_cons (ps_set (i := 6) scRead.nd rfl (Or.inl rfl) (pe_op op_add (pv 3) pe_int))
        (pss_cons (ps_set (i := 3) scRead.nd rfl (Or.inl rfl) (pe_op op_add (pv 6) (pe_ix ix_list (pv 0) (pv 3) (fun _ _ => rfl))))
        (pss_one (ps_expr (pe_bm PySem.F.plainAttrs_list PySem.F.slot_list_append PySem.F.type_list_append mt_append (pv 5) (pa_cons (pe_slice sl_list (pv 0) (po_some (pv 6)) (po_some (pv 3))) pa_nil)))))))
      (pss_one (ps_ret (pe_new N hr rfl (pa_cons (pe_ix ix_list (pv 0) (pv 1) (fun _ _ => rfl)) (pa_cons (pv 4) (pa_cons (pv 5) (pa_cons (pv 3) pa_nil))))))))))), ?_⟩
    have hp : atI (ns.map V.int) (j : Int) = some (.int p) := atI_nat (by rw [List.getElem?_map, g1]; rfl)
    have hrl : r.length = ns.length - (j + 1) := by rw [← g2, List.length_drop]
    refine ⟨_, rfl, _, rfl, a, _, _, _, rfl, rfl, hS, hp, af, _, _, _, rfl, rfl, sf _, tb, ?_⟩
    refine ⟨_, rfl, _, _, rfl, rfl, _, rfl, bf, _, _, _, rfl, rfl, hb _, rfl, _, _, rfl, rfl, ?_⟩
    refine ⟨_, rfl, _, rfl, _, _, rfl, rfl, _, rfl, _, rfl, _, rfl, a, _, rfl, hS, fun ln hln => ?_⟩
    rw [cut_mid _ (by omega) (by omega) (by rw [List.length_map]; omega)]
    have es : ((ns.map V.int).drop ((j : Int) + 1).toNat).take (((j : Int) + 1 + (n : Int)).toNat - ((j : Int) + 1).toNat) = (r.take n).map V.int := by
      rw [show ((j : Int) + 1).toNat = j + 1 by omega, show ((j : Int) + 1 + (n : Int)).toNat - (j + 1) = n by omega, ← List.map_drop, g2, List.map_take]
    rw [es]
    have s0 := Same.new (o := .lst ((r.take n).map V.int)) hln
    refine ⟨Nat.zero_le _, fun lr hlr => ?_⟩
    have s1 := s0.trans (Same.new (o := .lst []) hlr)
    have hlnr : ln ≠ lr := ne_of_none upd_same hlr
    refine while_by (fun σ H' => ∃ (e : Nat) (z : Int) (rs rest' : List (List Int)) (y : Option V), σ = [some (.ref a), some (.int j), some (.ref bf), some (.int z), some (.ref ln), some (.ref lr), y] ∧ z = (e : Int) ∧ Same H H' ∧ H' ln = some (.lst ((r.take n).map V.int)) ∧ Rows H' lr rs ∧
        PyFlat.rows (k - rs.length) (ns.drop e) = some (rest', rest) ∧ xs = rs ++ rest' ∧ rs.length ≤ k ∧ e ≤ ns.length ∧ j < e)
      (fun _ H' => match H' lr with | some (.lst l) => k - l.length | _ => 0) ?_ ?_ ?_
    · refine ⟨j + 1 + n, _, [], xs, _, rfl, by omega, s1, ?_, LsV.nil upd_same, ?_, rfl, Nat.zero_le _, by omega, by omega⟩
      · rw [upd_ne hlnr]; exact upd_same
      · rw [List.length_nil, Nat.sub_zero, ← List.drop_drop, g2]; exact e4
    · rintro σ H' ⟨e, z, rs, rest', y, rfl, rfl, s2, h2, ⟨vr, h3, z3⟩, h4, h5, h6, h7, h8⟩
      refine ⟨_, rfl, lr, _, rfl, .inl (SqL.of h3), _, rfl, bf, _, _, _, rfl, rfl, hb _, rfl, _, _, rfl, rfl, _, rfl, ite2 (fun hc => ?_) (fun hc => ?_)⟩
      · have hlt : (vr.length : Int) < (k : Int) := of_decide_eq_true hc
        have hk : k - rs.length = (k - (rs.length + 1)) + 1 := by have := z3.len; omega
        rw [hk] at h4
        obtain ⟨m, t, ys, f1, f2, f3, f4, f5⟩ := rows_inv h4
        obtain ⟨k1, k2, k3⟩ := drop_cons f1
        have htl : t.length = ns.length - (e + 1) := by rw [← k2, List.length_drop]
        have hm : atI (ns.map V.int) (e : Int) = some (.int m) := atI_nat (by rw [List.getElem?_map, k1]; rfl)
        refine ⟨_, rfl, _, _, rfl, rfl, ?_⟩
        refine ⟨_, rfl, _, rfl, _, rfl, a, _, _, _, rfl, rfl, s2.seq hS, hm, _, _, rfl, rfl, ?_⟩
        refine ⟨_, rfl, .inl ⟨rfl, _, SqL.of h3⟩, _, rfl, _, rfl, _, rfl, _, rfl, _, rfl, a, _, rfl, s2.seq hS, fun l5 hl5 => ?_⟩
        rw [cut_mid _ (by omega) (by omega) (by rw [List.length_map]; omega)]
        have es : ((ns.map V.int).drop ((e : Int) + 1).toNat).take (((e : Int) + 1 + m).toNat - ((e : Int) + 1).toNat) = (t.take m.toNat).map V.int := by
          rw [show ((e : Int) + 1).toNat = e + 1 by omega, show ((e : Int) + 1 + m).toNat - (e + 1) = m.toNat by omega, ← List.map_drop, k2, List.map_take]
        rw [es]
        have s5 := Same.new (o := .lst ((t.take m.toNat).map V.int)) hl5
        have hlr5 : lr ≠ l5 := ne_of_none h3 hl5
        refine ⟨lr, vr, _, rfl, rfl, s5 _ _ h3, small1000 ?_, ?_⟩
        · have hk2 := (shape_k e2).2
          omega
        · have hnl : ∀ b o, H b = some o → b ≠ lr := fun b o e => ne_of_none (s0 _ _ e) hlr
          refine ⟨⟨e + 1 + m.toNat, _, rs ++ [t.take m.toNat], ys, _, rfl, by omega, fun b o e => by rw [upd_ne (hnl b o e)]; exact s5 _ _ (s2 _ _ e), ?_, ?_, ?_, ?_, ?_, by omega, by omega⟩, ?_⟩
          · rw [upd_ne hlnr]; exact s5 _ _ h2
          · exact LsV.snoc (z3.mono fun v y h => Ls.mono (Same.hide s5) h) (Ls.hide hlr5.symm upd_same)
          · rw [List.length_append, List.length_singleton, ← List.drop_drop, k2]; exact f4
          · rw [h5, f5, List.append_assoc]; rfl
          · have := z3.len
            rw [List.length_append, List.length_singleton]; omega
          · show (match upd _ lr (.lst (vr ++ [.ref l5])) lr with | some (.lst l) => k - l.length | _ => 0) < (match H' lr with | some (.lst l) => k - l.length | _ => 0)
            rw [upd_same, h3]
            simp only [List.length_append, List.length_singleton]
            omega
      · have hge : ¬ (vr.length : Int) < (k : Int) := fun z => hc (decide_eq_true z)
        have hk : k - rs.length = 0 := by have := z3.len; omega
        rw [hk] at h4
        obtain ⟨rfl, h4'⟩ := rows_zero h4
        rw [List.append_nil] at h5
        refine ⟨_, rfl, _, rfl, a, _, _, _, rfl, rfl, s2.seq hS, hp, _, rfl, _, rfl, _, rfl, rfl, fun ac dx H6 hn6 h6' s6 => ?_⟩
        refine q _ _ e (s2.trans s6) ⟨ac, dx, p, r.take n, xs, .ref ln, lr, rfl, rfl, h6', ⟨ln, rfl, s6 _ _ h2⟩, ?_⟩ h4'.symm h7 h8
        rw [h5]
        exact LsV.mono moLs s6 ⟨vr, h3, z3⟩
    · intro σ H' Q1 Q2 hm hq
      obtain ⟨v, h1, p', ys, h2, h3, v', h4, p2, xs2, i2, v2, h5, h6, h7, h8, i3, j3, h9, h10, k3, h11, h12⟩ := hq
      exact ⟨v, h1, p', ys, h2, h3, v', h4, p2, xs2, i2, v2, h5, h6, h7, h8, i3, j3, h9, h10, k3, h11, hm _ _ h12⟩
end
end Cr
end
section
set_option linter.all false
set_option maxRecDepth 100000
namespace Cr
open PySem PySem.SetTable
/-! ### the road that a search takes through the table -/
def advM (mask : Nat) (p : Probe) : Probe :=
  if p.more > 0 then { p with j := p.j + 1, more := p.more - 1 } else
  { p with j := (leap mask p.i p.perturb).1, more := runEnd mask (leap mask p.i p.perturb).1 - (leap mask p.i p.perturb).1, i := (leap mask p.i p.perturb).1, perturb := (leap mask p.i p.perturb).2 }
theorem adv_eq (t : SetTable) (p : Probe) : t.advance p = advM t.mask p := rfl
def at0 (mask i perturb : Nat) : Probe := { j := i, more := runEnd mask i - i, i := i, perturb := perturb, dummy := none }
def pth (mask : Nat) (h : Int) : Nat → Probe
  | 0 => at0 mask (bits h % (mask + 1)) (bits h)
  | n + 1 => advM mask (pth mask h n)
theorem start_eq (t : SetTable) (h : Int) : t.probeStart h = pth t.mask h 0 := rfl
theorem more_le (mask i : Nat) : runEnd mask i - i ≤ 9 := by unfold runEnd; split <;> omega
theorem run_le {mask i : Nat} (h : i ≤ mask) : i + (runEnd mask i - i) ≤ mask := by unfold runEnd; split <;> omega
def go (mask : Nat) (h : Int) : Nat → Nat × Nat
  | 0 => (bits h % (mask + 1), bits h)
  | r + 1 => leap mask (go mask h r).1 (go mask h r).2
theorem go_le (mask : Nat) (h : Int) : ∀ r, (go mask h r).1 ≤ mask
  | 0 => Nat.lt_succ_iff.mp (Nat.mod_lt _ (Nat.succ_pos _))
  | r + 1 => by
    show ((go mask h r).1 * 5 + 1 + (go mask h r).2 / 32) % (mask + 1) ≤ mask
    exact Nat.lt_succ_iff.mp (Nat.mod_lt _ (Nat.succ_pos _))
/-- steps within a run -/
theorem pth_run {mask : Nat} {h : Int} {n i pt : Nat} (e : pth mask h n = at0 mask i pt) : ∀ k, k ≤ runEnd mask i - i → pth mask h (n + k) = { j := i + k, more := runEnd mask i - i - k, i := i, perturb := pt, dummy := none }
  | 0, _ => by rw [Nat.add_zero, e]; rfl
  | k + 1, hk => by
    show advM mask (pth mask h (n + k)) = _
    rw [pth_run e k (by omega)]
    unfold advM
    rw [if_pos (by show runEnd mask i - i - k > 0; omega)]
    simp only [Probe.mk.injEq, and_true, true_and]
    omega
theorem pth_leap {mask : Nat} {h : Int} {n i pt : Nat} (e : pth mask h n = at0 mask i pt) : pth mask h (n + (runEnd mask i - i) + 1) = at0 mask (leap mask i pt).1 (leap mask i pt).2 := by
  show advM mask (pth mask h (n + (runEnd mask i - i))) = _
  rw [pth_run e _ (Nat.le_refl _)]
  unfold advM
  rw [if_neg (by show ¬ (runEnd mask i - i - (runEnd mask i - i) > 0); omega)]
  rfl
/-- the place on the road where the r-th run begins -/
def beg (mask : Nat) (h : Int) : Nat → Nat
  | 0 => 0
  | r + 1 => beg mask h r + (runEnd mask (go mask h r).1 - (go mask h r).1) + 1
theorem beg_at (mask : Nat) (h : Int) : ∀ r, pth mask h (beg mask h r) = at0 mask (go mask h r).1 (go mask h r).2
  | 0 => rfl
  | r + 1 => pth_leap (beg_at mask h r)
theorem beg_le (mask : Nat) (h : Int) : ∀ r, beg mask h r ≤ 10 * r
  | 0 => Nat.le_refl _
  | r + 1 => by
    have := beg_le mask h r
    have := more_le mask (go mask h r).1
    show beg mask h r + _ + 1 ≤ _
    omega
/-- every place of the road lies in a run -/
theorem pth_in (mask : Nat) (h : Int) : ∀ n, ∃ r k, k ≤ runEnd mask (go mask h r).1 - (go mask h r).1 ∧ n = beg mask h r + k
  | 0 => ⟨0, 0, Nat.zero_le _, rfl⟩
  | n + 1 => by
    obtain ⟨r, k, hk, e⟩ := pth_in mask h n
    by_cases hlt : k < runEnd mask (go mask h r).1 - (go mask h r).1
    · exact ⟨r, k + 1, hlt, by omega⟩
    · refine ⟨r + 1, 0, Nat.zero_le _, ?_⟩
      show _ = beg mask h r + _ + 1 + 0
      omega
theorem pth_j (mask : Nat) (h : Int) {r k : Nat} (hk : k ≤ runEnd mask (go mask h r).1 - (go mask h r).1) : (pth mask h (beg mask h r + k)).j = (go mask h r).1 + k := by
  rw [pth_run (beg_at mask h r) k hk]
theorem pth_le (mask : Nat) (h : Int) (n : Nat) : (pth mask h n).j ≤ mask := by
  obtain ⟨r, k, hk, rfl⟩ := pth_in mask h n
  rw [pth_j mask h hk]
  have := run_le (go_le mask h r)
  omega
theorem pth_dummy (mask : Nat) (h : Int) (n : Nat) : (pth mask h n).dummy = none := by
  obtain ⟨r, k, hk, rfl⟩ := pth_in mask h n
  rw [pth_run (beg_at mask h r) k hk]
/-! ### it comes to every place -/
theorem perturb_at (mask : Nat) (h : Int) : ∀ r, (go mask h r).2 = bits h / 32 ^ r
  | 0 => by simp [go]
  | r + 1 => by
    show (go mask h r).2 / 32 = _
    rw [perturb_at mask h r, Nat.div_div_eq_div_mul, Nat.pow_succ]
theorem bits_lt (h : Int) : bits h < 2 ^ 64 := by
  unfold bits
  have h1 := Int.emod_nonneg h (show (2 ^ 64 : Int) ≠ 0 by decide)
  have h2 := Int.emod_lt_of_pos h (show (0 : Int) < 2 ^ 64 by decide)
  omega
theorem perturb_zero (mask : Nat) (h : Int) {r : Nat} (hr : 13 ≤ r) : (go mask h r).2 = 0 := by
  rw [perturb_at]
  refine Nat.div_eq_of_lt ?_
  have h1 : (32 : Nat) ^ 13 ≤ 32 ^ r := Nat.pow_le_pow_right (by decide) hr
  have h2 := bits_lt h
  have h3 : (2 : Nat) ^ 64 ≤ 32 ^ 13 := by decide
  omega
def lcg (m x : Nat) : Nat := (x * 5 + 1) % m
def orb (m : Nat) : Nat → Nat → Nat
  | 0, x => x
  | n + 1, x => lcg m (orb m n x)
theorem go_lcg (mask : Nat) (h : Int) : ∀ n, (go mask h (13 + n)).1 = orb (mask + 1) n (go mask h 13).1
  | 0 => rfl
  | n + 1 => by
    show ((go mask h (13 + n)).1 * 5 + 1 + (go mask h (13 + n)).2 / 32) % (mask + 1) = lcg (mask + 1) (orb (mask + 1) n _)
    rw [perturb_zero mask h (by omega), go_lcg mask h n]
    rfl
theorem orb_add (m : Nat) : ∀ a b x, orb m (a + b) x = orb m a (orb m b x)
  | 0, b, x => by rw [Nat.zero_add]; rfl
  | a + 1, b, x => by
    rw [Nat.succ_add]
    show lcg m (orb m (a + b) x) = lcg m (orb m a (orb m b x))
    rw [orb_add m a b x]
def orbL (m : Nat) : Nat → Nat → List Nat
  | 0, _ => []
  | n + 1, x => x :: orbL m n (lcg m x)
theorem orb_succ' (m : Nat) : ∀ n x, orb m (n + 1) x = orb m n (lcg m x)
  | 0, _ => rfl
  | n + 1, x => by
    show lcg m (orb m (n + 1) x) = lcg m (orb m n (lcg m x))
    rw [orb_succ' m n x]
theorem mem_orbL (m : Nat) : ∀ n x y, y ∈ orbL m n x → ∃ k, k < n ∧ orb m k x = y
  | 0, x, y, h => by cases h
  | n + 1, x, y, h => by
    rcases List.mem_cons.mp h with rfl | h
    · exact ⟨0, by omega, rfl⟩
    · obtain ⟨k, hk, e⟩ := mem_orbL m n (lcg m x) y h
      exact ⟨k + 1, by omega, by rw [orb_succ']; exact e⟩
/-- a table's size for which the road comes to every place -/
def Full (mask : Nat) : Prop := orb (mask + 1) (mask + 1) 0 = 0 ∧ ∀ y, y ≤ mask → ∃ k, k ≤ mask ∧ orb (mask + 1) k 0 = y
theorem full_of {mask : Nat} (h1 : orb (mask + 1) (mask + 1) 0 = 0) (h2 : ((List.range (mask + 1)).all fun y => (orbL (mask + 1) (mask + 1) 0).contains y) = true) : Full mask := by
  refine ⟨h1, fun y hy => ?_⟩
  have := List.all_eq_true.mp h2 y (List.mem_range.mpr (by omega))
  obtain ⟨k, hk, e⟩ := mem_orbL (mask + 1) (mask + 1) 0 y (by simpa using this)
  exact ⟨k, by omega, e⟩
theorem full7 : Full 7 := full_of (by decide +kernel) (by decide +kernel)
theorem full31 : Full 31 := full_of (by decide +kernel) (by decide +kernel)
theorem full127 : Full 127 := full_of (by decide +kernel) (by decide +kernel)
theorem full511 : Full 511 := full_of (by decide +kernel) (by decide +kernel)
theorem Full.cover {mask : Nat} (F : Full mask) (h : Int) {y : Nat} (hy : y ≤ mask) : ∃ r, r ≤ mask + 13 ∧ (go mask h r).1 = y := by
  obtain ⟨a, ha, ea⟩ := F.2 _ (go_le mask h 13)
  obtain ⟨b, hb, eb⟩ := F.2 y hy
  by_cases hab : a ≤ b
  · refine ⟨13 + (b - a), by omega, ?_⟩
    rw [go_lcg, ← ea, ← orb_add, show b - a + a = b by omega, eb]
  · refine ⟨13 + (mask + 1 - a + b), by omega, ?_⟩
    rw [go_lcg, ← ea, ← orb_add, show mask + 1 - a + b + a = b + (mask + 1) by omega, orb_add, F.1, eb]
theorem Full.visits {mask : Nat} (F : Full mask) (h : Int) {y : Nat} (hy : y ≤ mask) : ∃ n, n ≤ 10 * (mask + 13) ∧ (pth mask h n).j = y := by
  obtain ⟨r, hr, e⟩ := F.cover h hy
  refine ⟨beg mask h r, Nat.le_trans (beg_le mask h r) (by omega), ?_⟩
  rw [beg_at]; exact e
theorem least {p : Nat → Prop} [DecidablePred p] : ∀ {B : Nat}, (∃ n, n ≤ B ∧ p n) → ∃ N, N ≤ B ∧ p N ∧ ∀ m, m < N → ¬ p m
  | 0, ⟨n, hn, hp⟩ => ⟨0, Nat.le_refl _, by rw [show n = 0 by omega] at hp; exact hp, fun m hm => absurd hm (Nat.not_lt_zero _)⟩
  | B + 1, ⟨n, hn, hp⟩ => by
    by_cases h : ∃ n, n ≤ B ∧ p n
    · obtain ⟨N, h1, h2, h3⟩ := least h
      exact ⟨N, by omega, h2, h3⟩
    · have hnB : n = B + 1 := by
        apply Classical.byContradiction
        intro z
        exact h ⟨n, by omega, hp⟩
      subst hnB
      exact ⟨B + 1, Nat.le_refl _, hp, fun m hm z => h ⟨m, by omega, z⟩⟩
theorem len_le {α : Type} [DecidableEq α] : ∀ {l l' : List α}, l.Nodup → (∀ a ∈ l, a ∈ l') → l.length ≤ l'.length
  | [], _, _, _ => Nat.zero_le _
  | a :: l, l', hn, h => by
    obtain ⟨h1, h2⟩ := List.nodup_cons.mp hn
    have := len_le (l := l) (l' := l'.erase a) h2 fun b hb => by
      have hne : b ≠ a := fun e => h1 (e ▸ hb)
      exact (List.mem_erase_of_ne hne).mpr (h b (List.mem_cons_of_mem _ hb))
    rw [List.length_erase_of_mem (h a List.mem_cons_self)] at this
    have : 0 < l'.length := List.length_pos_of_mem (h a List.mem_cons_self)
    simp only [List.length_cons]
    omega
theorem free_slot {mask : Nat} {ps : List Nat} (h : ps.length ≤ mask) : ∃ y, y ≤ mask ∧ y ∉ ps := by
  apply Classical.byContradiction
  intro z
  have : ∀ a ∈ List.range (mask + 1), a ∈ ps := fun a ha => by
    apply Classical.byContradiction
    intro w
    exact z ⟨a, by have := List.mem_range.mp ha; omega, w⟩
  have := len_le List.nodup_range this
  rw [List.length_range] at this
  omega
/-- the first place on the road that is not taken -/
theorem Full.first {mask : Nat} (F : Full mask) (h : Int) {ps : List Nat} (hl : ps.length ≤ mask) : ∃ N, N ≤ 10 * (mask + 13) ∧ (pth mask h N).j ∉ ps ∧ ∀ m, m < N → (pth mask h m).j ∈ ps := by
  obtain ⟨y, hy, hn⟩ := free_slot hl
  obtain ⟨n, hn1, e⟩ := F.visits h hy
  obtain ⟨N, h1, h2, h3⟩ := least (p := fun n => (pth mask h n).j ∉ ps) ⟨n, hn1, by rw [e]; exact hn⟩
  exact ⟨N, h1, h2, fun m hm => Classical.byContradiction fun z => h3 m hm z⟩
end Cr
end
section
set_option linter.all false
set_option maxRecDepth 100000
namespace Cr
open PySem PySem.SetTable
/-! ### the lower bound in a rising array -/
def Lb (xs : List Nat) (j r : Nat) : Prop := r ≤ xs.length ∧ (∀ k v, k < r → xs[k]? = some v → v < j) ∧ ∀ k v, r ≤ k → xs[k]? = some v → j ≤ v
theorem below_go (xs : Array Nat) (j : Nat) (hs : xs.toList.Pairwise (· < ·)) : ∀ (fuel lo hi : Nat), hi - lo ≤ fuel → lo ≤ hi → hi ≤ xs.size → (∀ (k : Nat) v, k < lo → xs[k]? = some v → v < j) → (∀ (k : Nat) v, hi ≤ k → xs[k]? = some v → j ≤ v) →
    ∃ r, below.go xs j fuel lo hi = r ∧ r ≤ xs.size ∧ (∀ (k : Nat) v, k < r → xs[k]? = some v → v < j) ∧ ∀ (k : Nat) v, r ≤ k → xs[k]? = some v → j ≤ v
  | 0, lo, hi, h1, h2, h3, h4, h5 => ⟨lo, rfl, by omega, h4, fun k v hk => h5 k v (by omega)⟩
  | fuel + 1, lo, hi, h1, h2, h3, h4, h5 => by
    unfold below.go
    by_cases hlt : lo < hi
    · rw [if_pos hlt]
      have hm : (lo + hi) / 2 < xs.size := by omega
      have hx : xs[(lo + hi) / 2]? = some xs[(lo + hi) / 2] := Array.getElem?_eq_getElem hm
      have hg : xs.getD ((lo + hi) / 2) j = xs[(lo + hi) / 2] := by rw [Array.getD_eq_getD_getElem?, hx]; rfl
      have mono : ∀ (a b : Nat) (u v : Nat), a < b → xs[a]? = some u → xs[b]? = some v → u < v := fun a b u v hab ha hb => by
        rw [← Array.getElem?_toList] at ha hb
        obtain ⟨ha1, ha2⟩ := List.getElem?_eq_some_iff.mp ha
        obtain ⟨hb1, hb2⟩ := List.getElem?_eq_some_iff.mp hb
        have := List.pairwise_iff_getElem.mp hs a b ha1 hb1 hab
        rw [ha2, hb2] at this
        exact this
      dsimp only
      rw [hg]
      by_cases hc : xs[(lo + hi) / 2] < j
      · rw [if_pos hc]
        refine below_go xs j hs fuel _ _ (by omega) (by omega) h3 (fun k v hk hv => ?_) h5
        by_cases hkm : k = (lo + hi) / 2
        · subst hkm
          rw [hx] at hv; cases hv; exact hc
        · exact Nat.lt_trans (mono k _ v _ (by omega) hv hx) hc
      · rw [if_neg hc]
        refine below_go xs j hs fuel _ _ (by omega) (by omega) (by omega) h4 (fun k v hk hv => ?_)
        by_cases hkm : k = (lo + hi) / 2
        · subst hkm
          rw [hx] at hv; cases hv; omega
        · have := mono _ k _ v (by omega) hx hv
          omega
    · rw [if_neg hlt]
      exact ⟨lo, rfl, by omega, h4, fun k v hk => h5 k v (by omega)⟩
theorem below_lb (xs : List Nat) (j : Nat) (hs : xs.Pairwise (· < ·)) : Lb xs j (below xs.toArray j) := by
  unfold below
  obtain ⟨r, e, h1, h2, h3⟩ := below_go xs.toArray j hs xs.toArray.size 0 xs.toArray.size (by omega) (by omega) (by omega) (fun k v hk => absurd hk (Nat.not_lt_zero _)) (fun k v hk hv => by
    have : k < xs.toArray.size := (Array.getElem?_eq_some_iff.mp hv).1
    omega)
  rw [e]
  exact ⟨by simpa using h1, fun k v hk hv => h2 k v hk (by simpa using hv), fun k v hk hv => h3 k v hk (by simpa using hv)⟩
/-- the place of an element that is there -/
theorem lb_mem {xs : List Nat} {j r : Nat} (hs : xs.Pairwise (· < ·)) (h : Lb xs j r) (hm : j ∈ xs) : xs[r]? = some j := by
  obtain ⟨i, hi⟩ := List.mem_iff_getElem?.mp hm
  have h1 : r ≤ i := by
    apply Classical.byContradiction
    intro z
    have := h.2.1 i j (by omega) hi
    omega
  have hil := (List.getElem?_eq_some_iff.mp hi).1
  by_cases e : r = i
  · rw [e]; exact hi
  · have hr : r < xs.length := by omega
    have h2 := h.2.2 r xs[r] (Nat.le_refl _) (List.getElem?_eq_getElem hr)
    have h3 := List.pairwise_iff_getElem.mp hs r i hr hil (by omega)
    have h4 : xs[i] = j := (List.getElem?_eq_some_iff.mp hi).2
    omega
theorem lb_not {xs : List Nat} {j r : Nat} (hm : j ∉ xs) : xs[r]? ≠ some j := fun e => hm (List.mem_of_getElem? e)
/-! ### the table as a list of rows: its place, its hash, its element -/
abbrev Row := Nat × Int × Value
structure Tab (mask : Nat) (L : List Row) (t : SetTable) (es : Array (Int × Value)) : Prop where
  mask : t.mask = mask
  place : t.place = (L.map (·.1)).toArray
  dum : t.dummies = #[]
  es : es = (L.map (·.2)).toArray
structure Good (mask : Nat) (L : List Row) : Prop where
  full : Full mask
  odd : mask % 2 = 1
  rise : (L.map (·.1)).Pairwise (· < ·)
  le : ∀ z ∈ L, z.1 ≤ mask
  road : ∀ z ∈ L, ∃ n, (pth mask z.2.1 n).j = z.1 ∧ ∀ m, m < n → (pth mask z.2.1 m).j ∈ L.map (·.1)
  room : L.length ≤ mask
section
variable {mask : Nat} {L : List Row} {t : SetTable} {es : Array (Int × Value)}
theorem has_none (j : Nat) : has #[] j = false := by
  unfold has
  simp
theorem Tab.slot_live (T : Tab mask L t es) (G : Good mask L) {j : Nat} (h : j ∈ L.map (·.1)) : ∃ i, t.slot j = .live i ∧ ∃ hv : Int × Value, L[i]? = some (j, hv.1, hv.2) ∧ es[i]? = some hv := by
  have lb := below_lb (L.map (·.1)) j G.rise
  have hm := lb_mem G.rise lb h
  refine ⟨below t.place j, ?_, ?_⟩
  · unfold slot
    dsimp only
    rw [if_pos]
    rw [T.place]
    simp only [List.getElem?_toArray]
    rw [hm]; exact beq_self_eq_true _
  · rw [T.place]
    rw [List.getElem?_map] at hm
    obtain ⟨z, hz, e⟩ := Option.map_eq_some_iff.mp hm
    refine ⟨z.2, ?_, ?_⟩
    · rw [hz, ← e]
    · rw [T.es]
      simp only [List.getElem?_toArray, List.getElem?_map]
      rw [hz]; rfl
theorem Tab.slot_empty (T : Tab mask L t es) (G : Good mask L) {j : Nat} (h : j ∉ L.map (·.1)) : t.slot j = .empty := by
  unfold slot
  dsimp only
  rw [if_neg, if_neg]
  · rw [T.dum, has_none]; decide
  · rw [T.place]
    simp only [List.getElem?_toArray]
    intro z
    exact lb_not h (eq_of_beq z)
theorem Tab.live_at (T : Tab mask L t es) (G : Good mask L) {j i : Nat} (h : t.slot j = .live i) : ∃ hv : Int × Value, L[i]? = some (j, hv.1, hv.2) ∧ es[i]? = some hv := by
  by_cases hm : j ∈ L.map (·.1)
  · obtain ⟨i', e, r⟩ := T.slot_live G hm
    rw [h] at e
    injection e with e
    rw [e]; exact r
  · rw [T.slot_empty G hm] at h; cases h
/-! ### what a search meets -/
def hashAt (es : Array (Int × Value)) (i : Nat) : Int := (es[i]?.map (·.1)).getD 0
inductive Meets (mask : Nat) (L : List Row) (h : Int) (n N : Nat) : Met → Prop where
  | free : (∀ m, n ≤ m → m < N → ∀ z ∈ L, z.1 = (pth mask h m).j → z.2.1 ≠ h) → Meets mask L h n N (.empty (pth mask h N).j none)
  | cand (m i : Nat) (x : Value) : n ≤ m → m < N → L[i]? = some ((pth mask h m).j, h, x) → (∀ m', n ≤ m' → m' < m → ∀ z ∈ L, z.1 = (pth mask h m').j → z.2.1 ≠ h) → Meets mask L h n N (.candidate (pth mask h m).j i (pth mask h (m + 1)))
theorem same_row (G : Good mask L) {z y : Row} (hz : z ∈ L) (hy : y ∈ L) (e : z.1 = y.1) : z = y := by
  obtain ⟨i, hi⟩ := List.mem_iff_getElem?.mp hz
  obtain ⟨j, hj⟩ := List.mem_iff_getElem?.mp hy
  obtain ⟨hi1, hi2⟩ := List.getElem?_eq_some_iff.mp hi
  obtain ⟨hj1, hj2⟩ := List.getElem?_eq_some_iff.mp hj
  have key : ∀ a b : Nat, ∀ (ha : a < L.length) (hb : b < L.length), a < b → (L[a]).1 < (L[b]).1 := fun a b ha hb hab => by
    have := List.pairwise_iff_getElem.mp G.rise a b (by simpa using ha) (by simpa using hb) hab
    simpa using this
  by_cases h1 : i < j
  · have := key i j hi1 hj1 h1
    rw [hi2, hj2] at this; omega
  · by_cases h2 : j < i
    · have := key j i hj1 hi1 h2
      rw [hi2, hj2] at this; omega
    · have : i = j := by omega
      subst this
      rw [hi] at hj; exact Option.some.inj hj
theorem probe_go (T : Tab mask L t es) (G : Good mask L) {h : Int} {N : Nat} (hN : (pth mask h N).j ∉ L.map (·.1)) (hb : ∀ m, m < N → (pth mask h m).j ∈ L.map (·.1)) :
    ∀ (d n fuel : Nat), n + d = N → d < fuel → ∃ met, probe.go t (hashAt es) h fuel (pth mask h n) = some met ∧ Meets mask L h n N met
  | d, n, 0, _, hf => absurd hf (Nat.not_lt_zero _)
  | 0, n, fuel + 1, e, _ => by
    have e' : n = N := by omega
    subst e'
    refine ⟨_, ?_, .free fun m h1 h2 => absurd h2 (by omega)⟩
    unfold probe.go
    rw [T.slot_empty G hN, pth_dummy]
  | d + 1, n, fuel + 1, e, hf => by
    obtain ⟨i, h1, hv, h2, h3⟩ := T.slot_live G (hb n (by omega))
    have ha : hashAt es i = hv.1 := by unfold hashAt; rw [h3]; rfl
    by_cases hc : hv.1 = h
    · refine ⟨.candidate (pth mask h n).j i (pth mask h (n + 1)), ?_, .cand n i hv.2 (Nat.le_refl _) (by omega) (by rw [h2, hc]) fun m' a b => absurd b (by omega)⟩
      unfold probe.go
      rw [h1]
      dsimp only
      rw [ha, if_pos (by rw [hc]; exact beq_self_eq_true _), adv_eq, T.mask]
      rfl
    · obtain ⟨met, g1, g2⟩ := probe_go T G hN hb d (n + 1) fuel (by omega) (by omega)
      refine ⟨met, ?_, ?_⟩
      · unfold probe.go
        rw [h1]
        dsimp only
        rw [ha, if_neg (by intro z; exact hc (eq_of_beq z)), adv_eq, T.mask]
        exact g1
      · have hn : ∀ z ∈ L, z.1 = (pth mask h n).j → z.2.1 ≠ h := fun z hz e1 e2 => by
          have := same_row G hz (List.mem_of_getElem? h2) e1
          rw [this] at e2
          exact hc e2
        cases g2 with
        | free g =>
          refine .free fun m a b => ?_
          by_cases hm : m = n
          · subst hm; exact hn
          · exact g m (by omega) b
        | cand m i' x a b c g =>
          refine .cand m i' x (by omega) b c fun m' a' b' => ?_
          by_cases hm : m' = n
          · subst hm; exact hn
          · exact g m' (by omega) b'
/-! ### one more row -/
theorem put_rows (T : Tab mask L t es) (G : Good mask L) {h : Int} {x : Value} {N : Nat} (hN : (pth mask h N).j ∉ L.map (·.1)) (hb : ∀ m, m < N → (pth mask h m).j ∈ L.map (·.1)) (hroom : L.length + 1 ≤ mask) :
    ∃ L' : List Row, Tab mask L' (t.put (pth mask h N).j).1 (insertAt es (t.put (pth mask h N).j).2 (h, x)) ∧ Good mask L' ∧ L'.length = L.length + 1 ∧ ∀ z, z ∈ L' ↔ z ∈ L ∨ z = ((pth mask h N).j, h, x) := by
  have lb := below_lb (L.map (·.1)) (pth mask h N).j G.rise
  generalize hj : (pth mask h N).j = j at *
  generalize hr : below (L.map (·.1)).toArray j = r at *
  have hp : (t.put j).2 = r := by unfold put; dsimp only; rw [T.place, hr]
  have hrl : r ≤ L.length := by have := lb.1; rwa [List.length_map] at this
  have hmem : ∀ z, z ∈ L.take r ++ (j, h, x) :: L.drop r ↔ z ∈ L ∨ z = (j, h, x) := fun z => by
    rw [List.mem_append, List.mem_cons]
    constructor
    · rintro (h1 | h1 | h1)
      · exact .inl (List.mem_of_mem_take h1)
      · exact .inr h1
      · exact .inl (List.mem_of_mem_drop h1)
    · rintro (h1 | h1)
      · rw [← List.take_append_drop r L, List.mem_append] at h1
        rcases h1 with h1 | h1
        · exact .inl h1
        · exact .inr (.inr h1)
      · exact .inr (.inl h1)
  refine ⟨L.take r ++ (j, h, x) :: L.drop r, ⟨?_, ?_, ?_, ?_⟩, ⟨G.full, G.odd, ?_, ?_, ?_, ?_⟩, ?_, hmem⟩
  · unfold put; exact T.mask
  · unfold put
    dsimp only
    rw [T.place, hr]
    apply Array.toList_inj.mp
    rw [toList_insertAt]
    simp [List.map_take, List.map_drop]
  · unfold put
    dsimp only
    rw [T.dum, has_none]; rfl
  · rw [hp, T.es]
    apply Array.toList_inj.mp
    rw [toList_insertAt]
    simp [List.map_take, List.map_drop]
  · rw [List.map_append, List.map_cons, List.pairwise_append, List.pairwise_cons]
    have hpw := G.rise
    rw [← List.take_append_drop r L, List.map_append, List.pairwise_append] at hpw
    have h1 : ∀ a ∈ (L.take r).map (·.1), a < j := fun a ha => by
      rw [List.map_take] at ha
      obtain ⟨k, hk⟩ := List.mem_iff_getElem?.mp ha
      have hk2 : k < r := by
        have := (List.getElem?_eq_some_iff.mp hk).1
        rw [List.length_take] at this; omega
      rw [List.getElem?_take_of_lt hk2] at hk
      exact lb.2.1 k a hk2 hk
    have h2 : ∀ a ∈ (L.drop r).map (·.1), j < a := fun a ha => by
      have ha' : a ∈ L.map (·.1) := by
        rw [List.map_drop] at ha
        exact List.mem_of_mem_drop ha
      rw [List.map_drop] at ha
      obtain ⟨k, hk⟩ := List.mem_iff_getElem?.mp ha
      rw [List.getElem?_drop] at hk
      have h3 := lb.2.2 (r + k) a (by omega) hk
      have h4 : j ≠ a := fun e => hN (e ▸ ha')
      omega
    refine ⟨hpw.1, ⟨fun a ha => h2 a ha, hpw.2.1⟩, fun a ha b hb' => ?_⟩
    rcases List.mem_cons.mp hb' with e | hb'
    · rw [e]; exact h1 a ha
    · exact hpw.2.2 a ha b hb'
  · intro z hz
    rcases (hmem z).mp hz with hz | rfl
    · exact G.le z hz
    · show j ≤ mask
      rw [← hj]; exact pth_le mask h N
  · have up : ∀ a, a ∈ L.map (·.1) → a ∈ (L.take r ++ (j, h, x) :: L.drop r).map (·.1) := fun a ha => by
      obtain ⟨z, hz, e⟩ := List.mem_map.mp ha
      exact List.mem_map.mpr ⟨z, (hmem z).mpr (.inl hz), e⟩
    intro z hz
    rcases (hmem z).mp hz with hz | rfl
    · obtain ⟨n, e, hm⟩ := G.road z hz
      exact ⟨n, e, fun m hmn => up _ (hm m hmn)⟩
    · exact ⟨N, hj, fun m hmn => up _ (hb m hmn)⟩
  · simp only [List.length_append, List.length_take, List.length_cons, List.length_drop]; omega
  · simp only [List.length_append, List.length_take, List.length_cons, List.length_drop]; omega
end
end Cr
end
section
set_option linter.all false
set_option maxRecDepth 100000
namespace Cr
open PySem PySem.SetTable
theorem beg_lt (mask : Nat) (h : Int) (r : Nat) : beg mask h r < beg mask h (r + 1) := by
  show _ < beg mask h r + _ + 1
  omega
theorem beg_mono (mask : Nat) (h : Int) : ∀ {a b : Nat}, a ≤ b → beg mask h a ≤ beg mask h b
  | a, 0, hab => by rw [show a = 0 by omega]; exact Nat.le_refl _
  | a, b + 1, hab => by
    by_cases e : a = b + 1
    · rw [e]; exact Nat.le_refl _
    · exact Nat.le_of_lt (Nat.lt_of_le_of_lt (beg_mono mask h (show a ≤ b by omega)) (beg_lt mask h b))
theorem Full.first' {mask : Nat} (F : Full mask) (h : Int) {ps : List Nat} (hl : ps.length ≤ mask) :
    ∃ R k, k ≤ runEnd mask (go mask h R).1 - (go mask h R).1 ∧ R ≤ mask + 13 ∧ (pth mask h (beg mask h R + k)).j ∉ ps ∧ ∀ m, m < beg mask h R + k → (pth mask h m).j ∈ ps := by
  obtain ⟨y, hy, hn⟩ := free_slot hl
  obtain ⟨r, hr, e⟩ := F.cover h hy
  have hat : (pth mask h (beg mask h r)).j ∉ ps := by rw [beg_at]; show (go mask h r).1 ∉ ps; rw [e]; exact hn
  obtain ⟨N, h1, h2, h3⟩ := least (p := fun n => (pth mask h n).j ∉ ps) ⟨beg mask h r, Nat.le_refl _, hat⟩
  obtain ⟨R, k, hk, e2⟩ := pth_in mask h N
  subst e2
  refine ⟨R, k, hk, ?_, h2, fun m hm => Classical.byContradiction fun z => h3 m hm z⟩
  apply Classical.byContradiction
  intro z
  have := beg_mono mask h (show r + 1 ≤ R by omega)
  have := beg_lt mask h r
  omega
def Taken (owner : Array (Option Nat)) (j : Nat) : Prop := ∃ q, owner[j]? = some (some q)
theorem find_first {p : Nat → Bool} : ∀ {n k : Nat}, k < n → p k = true → (∀ m, m < k → p m = false) → (List.range n).find? p = some k := by
  intro n k hk hp hm
  rw [List.find?_range_eq_some]
  refine ⟨hp, by simpa using hk, fun j hj => by rw [hm j hj]; rfl⟩
theorem find_no {p : Nat → Bool} {n : Nat} (h : ∀ m, m < n → p m = false) : (List.range n).find? p = none := by
  rw [List.find?_eq_none]
  intro x hx
  rw [h x (List.mem_range.mp hx)]; decide
theorem own_get {owner : Array (Option Nat)} {j : Nat} (hj : j < owner.size) : (owner.getD j (some 0)).isNone = true ↔ ¬ Taken owner j := by
  have e : owner[j]? = some owner[j] := Array.getElem?_eq_getElem hj
  rw [Array.getD_eq_getD_getElem?, e]
  unfold Taken
  rw [e]
  show (owner[j]).isNone = true ↔ _
  cases owner[j] with
  | none => simp
  | some q => simp
/-- the place that laying finds is the first one on the road that is not taken -/
theorem free_at {mask : Nat} {h : Int} {owner : Array (Option Nat)} (hs : owner.size = mask + 1) {R k : Nat} (hk : k ≤ runEnd mask (go mask h R).1 - (go mask h R).1) (hn : ¬ Taken owner (pth mask h (beg mask h R + k)).j)
    (ht : ∀ m, m < beg mask h R + k → Taken owner (pth mask h m).j) : ∀ (d r fuel : Nat), r + d = R → d < fuel → layClean.free mask owner fuel (go mask h r).1 (go mask h r).2 = some (pth mask h (beg mask h R + k)).j
  | d, r, 0, _, hf => absurd hf (Nat.not_lt_zero _)
  | 0, r, fuel + 1, e, _ => by
    have e' : r = R := by omega
    subst e'
    have hle := run_le (go_le mask h r)
    unfold layClean.free
    have hge : (go mask h r).1 ≤ runEnd mask (go mask h r).1 := by unfold runEnd; split <;> omega
    rw [find_first (k := k) (by omega)]
    · rw [pth_j mask h hk]
    · refine (own_get (by rw [hs]; omega)).mpr ?_
      rw [← pth_j mask h hk]; exact hn
    · intro m hm
      rw [Bool.eq_false_iff]
      intro z
      refine (own_get (by rw [hs]; omega)).mp z ?_
      rw [← pth_j mask h (show m ≤ _ by omega)]
      exact ht _ (by omega)
  | d + 1, r, fuel + 1, e, hf => by
    have hle := run_le (go_le mask h r)
    unfold layClean.free
    have hge : (go mask h r).1 ≤ runEnd mask (go mask h r).1 := by unfold runEnd; split <;> omega
    rw [find_no]
    · exact free_at hs hk hn ht d (r + 1) fuel (by omega) (by omega)
    · intro m hm
      have hm' : m ≤ runEnd mask (go mask h r).1 - (go mask h r).1 := by omega
      rw [Bool.eq_false_iff]
      intro z
      refine (own_get (by rw [hs]; omega)).mp z ?_
      rw [← pth_j mask h hm']
      refine ht _ ?_
      have h1 : beg mask h (r + 1) = beg mask h r + (runEnd mask (go mask h r).1 - (go mask h r).1) + 1 := rfl
      have h2 := beg_mono mask h (show r + 1 ≤ R by omega)
      omega
structure Own (mask : Nat) (hs : List Int) (owner : Array (Option Nat)) : Prop where
  size : owner.size = mask + 1
  ps : ∃ ps : List Nat, ps.length = hs.length ∧ ∀ j, Taken owner j ↔ j ∈ ps
  all : ∀ q : Nat, q < hs.length → ∃ j : Nat, owner[j]? = some (some q)
  lt : ∀ (j q : Nat), owner[j]? = some (some q) → q < hs.length
  road : ∀ (j q : Nat) (h : Int), owner[j]? = some (some q) → hs[q]? = some h → ∃ n, (pth mask h n).j = j ∧ ∀ m, m < n → Taken owner (pth mask h m).j
  inj : ∀ (j j' q : Nat), owner[j]? = some (some q) → owner[j']? = some (some q) → j = j'
theorem own_nil (mask : Nat) : Own mask [] (Array.replicate (mask + 1) none) := by
  have h0 : ∀ (j q : Nat), (Array.replicate (mask + 1) (none : Option Nat))[j]? ≠ some (some q) := fun j q e => by
    rw [Array.getElem?_replicate] at e
    split at e <;> simp at e
  exact ⟨by simp, ⟨[], rfl, fun j => ⟨fun ⟨q, e⟩ => absurd e (h0 j q), fun z => by cases z⟩⟩, fun q hq => absurd hq (Nat.not_lt_zero _), fun j q e => absurd e (h0 j q), fun j q h e => absurd e (h0 j q), fun j j' q e => absurd e (h0 j q)⟩
theorem own_snoc {mask : Nat} {hs : List Int} {owner : Array (Option Nat)} (F : Full mask) (O : Own mask hs owner) (h : Int) (hl : hs.length ≤ mask) :
    ∃ j, layClean.free mask owner (turns mask) (bits h % (mask + 1)) (bits h) = some j ∧ Own mask (hs ++ [h]) (owner.setIfInBounds j (some hs.length)) := by
  obtain ⟨ps, hp1, hp2⟩ := O.ps
  obtain ⟨R, k, hk, hR, hn, ht⟩ := F.first' h (ps := ps) (by omega)
  have hn' : ¬ Taken owner (pth mask h (beg mask h R + k)).j := fun z => hn ((hp2 _).mp z)
  have ht' : ∀ m, m < beg mask h R + k → Taken owner (pth mask h m).j := fun m hm => (hp2 _).mpr (ht m hm)
  refine ⟨_, free_at O.size hk hn' ht' R 0 (turns mask) (by omega) (by unfold turns; omega), ?_⟩
  generalize hN : beg mask h R + k = N at *
  generalize hj : (pth mask h N).j = j at *
  have hjs : j < owner.size := by rw [O.size, ← hj]; exact Nat.lt_succ_of_le (pth_le mask h N)
  have get_j : (owner.setIfInBounds j (some hs.length))[j]? = some (some hs.length) := by
    rw [Array.getElem?_setIfInBounds_self_of_lt hjs]
  have get_ne : ∀ i, i ≠ j → (owner.setIfInBounds j (some hs.length))[i]? = owner[i]? := fun i hi => Array.getElem?_setIfInBounds_ne (Ne.symm hi)
  have tk : ∀ i, Taken (owner.setIfInBounds j (some hs.length)) i ↔ Taken owner i ∨ i = j := fun i => by
    by_cases hi : i = j
    · subst hi; exact ⟨fun _ => .inr rfl, fun _ => ⟨_, get_j⟩⟩
    · unfold Taken
      rw [get_ne i hi]
      exact ⟨.inl, fun z => z.elim id fun e => absurd e hi⟩
  have hold : ∀ (i q : Nat), (owner.setIfInBounds j (some hs.length))[i]? = some (some q) → (i = j ∧ q = hs.length) ∨ (i ≠ j ∧ owner[i]? = some (some q)) := fun i q e => by
    by_cases hi : i = j
    · subst hi
      rw [get_j] at e
      exact .inl ⟨rfl, by injection e with e; injection e with e; exact e.symm⟩
    · rw [get_ne i hi] at e
      exact .inr ⟨hi, e⟩
  refine ⟨by simp [O.size], ⟨j :: ps, by simp [hp1], fun i => ?_⟩, fun q hq => ?_, fun i q e => ?_, fun i q g e e2 => ?_, fun i i' q e e' => ?_⟩
  · rw [tk, hp2, List.mem_cons]
    exact ⟨fun z => z.elim .inr .inl, fun z => z.elim .inr .inl⟩
  · rw [List.length_append, List.length_singleton] at hq
    by_cases hq2 : q = hs.length
    · exact ⟨j, by rw [hq2]; exact get_j⟩
    · obtain ⟨i, hi⟩ := O.all q (by omega)
      have : i ≠ j := fun e => hn' (by rw [e] at hi; exact ⟨q, hi⟩)
      exact ⟨i, by rw [get_ne i this]; exact hi⟩
  · rw [List.length_append, List.length_singleton]
    rcases hold i q e with ⟨_, rfl⟩ | ⟨_, e⟩
    · omega
    · have := O.lt i q e
      omega
  · rcases hold i q e with ⟨rfl, rfl⟩ | ⟨_, e⟩
    · have : g = h := by
        rw [List.getElem?_append_right (Nat.le_refl _), Nat.sub_self] at e2
        simpa using e2.symm
      subst this
      exact ⟨N, hj, fun m hm => (tk _).mpr (.inl (ht' m hm))⟩
    · have hq := O.lt i q e
      rw [List.getElem?_append_left hq] at e2
      obtain ⟨n, h1, h2⟩ := O.road i q g e e2
      exact ⟨n, h1, fun m hm => (tk _).mpr (.inl (h2 m hm))⟩
  · rcases hold i q e with ⟨rfl, rfl⟩ | ⟨hi, e0⟩
    · rcases hold i' _ e' with ⟨rfl, _⟩ | ⟨_, e'⟩
      · rfl
      · exact absurd (O.lt i' _ e') (Nat.lt_irrefl _)
    · rcases hold i' q e' with ⟨_, hq⟩ | ⟨_, e2⟩
      · exact absurd (hq ▸ O.lt i _ e0) (Nat.lt_irrefl _)
      · exact O.inj i i' q e0 e2
theorem lay_fold {mask : Nat} (F : Full mask) : ∀ (l hs : List Int) (owner : Array (Option Nat)), Own mask hs owner → hs.length + l.length ≤ mask + 1 →
    ∃ owner', l.foldl (fun (acc : Option (Array (Option Nat) × Nat)) h => do
      let (owner, k) ← acc
      let j ← layClean.free mask owner (turns mask) (bits h % (mask + 1)) (bits h)
      pure (owner.setIfInBounds j (some k), k + 1)) (some (owner, hs.length)) = some (owner', (hs ++ l).length) ∧ Own mask (hs ++ l) owner'
  | [], hs, owner, O, _ => ⟨owner, by simp, by simpa using O⟩
  | h :: l, hs, owner, O, hl => by
    rw [List.length_cons] at hl
    obtain ⟨j, e, O2⟩ := own_snoc F O h (by omega)
    obtain ⟨owner', e', O'⟩ := lay_fold F l (hs ++ [h]) _ O2 (by simp only [List.length_append, List.length_singleton]; omega)
    refine ⟨owner', ?_, by simpa using O'⟩
    rw [List.foldl_cons]
    have e3 : (do
      let (owner, k) ← (some (owner, hs.length) : Option (Array (Option Nat) × Nat))
      let j ← layClean.free mask owner (turns mask) (bits h % (mask + 1)) (bits h)
      pure (owner.setIfInBounds j (some k), k + 1) : Option (Array (Option Nat) × Nat)) = some (owner.setIfInBounds j (some hs.length), (hs ++ [h]).length) := by
      show (layClean.free mask owner (turns mask) (bits h % (mask + 1)) (bits h)).bind _ = _
      rw [e]
      simp
    rw [e3, e']
    simp
theorem lay_ok {mask : Nat} (F : Full mask) (hs : List Int) (hl : hs.length ≤ mask + 1) : ∃ owner, layClean mask hs.toArray = some owner ∧ Own mask hs owner := by
  obtain ⟨owner, e, O⟩ := lay_fold F hs [] _ (own_nil mask) (by simpa using hl)
  refine ⟨owner, ?_, by simpa using O⟩
  unfold layClean
  rw [← Array.foldl_toList]
  have := congrArg (Option.map (·.1)) e
  exact this
/-! ### all rows laid anew -/
def liveOf (mask : Nat) (owner : Array (Option Nat)) : List (Nat × Nat) := (List.range (mask + 1)).filterMap fun j => (owner.getD j none).map (j, ·)
theorem live_mem {mask : Nat} {owner : Array (Option Nat)} (hs : owner.size = mask + 1) {j q : Nat} : (j, q) ∈ liveOf mask owner ↔ owner[j]? = some (some q) := by
  unfold liveOf
  rw [List.mem_filterMap]
  constructor
  · rintro ⟨i, hi, e⟩
    have hi := List.mem_range.mp hi
    obtain ⟨q', hq, e'⟩ := Option.map_eq_some_iff.mp e
    injection e' with e1 e2
    subst e1; subst e2
    rw [Array.getD_eq_getD_getElem?] at hq
    have h1 : owner[i]? = some owner[i] := Array.getElem?_eq_getElem (by omega)
    rw [h1] at hq ⊢
    exact congrArg some hq
  · intro e
    have hj : j < owner.size := (Array.getElem?_eq_some_iff.mp e).1
    refine ⟨j, List.mem_range.mpr (by omega), ?_⟩
    rw [Array.getD_eq_getD_getElem?, e]; rfl
theorem live_rise (mask : Nat) (owner : Array (Option Nat)) : ((liveOf mask owner).map (·.1)).Pairwise (· < ·) := by
  unfold liveOf
  rw [List.map_filterMap, List.pairwise_filterMap]
  refine List.Pairwise.imp ?_ List.pairwise_lt_range
  intro a b hab x hx y hy
  have e1 : ∀ {c z : Nat}, ((owner.getD c none).map (c, ·)).map (fun x : Nat × Nat => x.1) = some z → z = c := fun {c z} e => by
    rw [Option.map_map] at e
    obtain ⟨_, _, e⟩ := Option.map_eq_some_iff.mp e
    exact e.symm
  rw [e1 hx, e1 hy]; exact hab
theorem relay_rows {mask' : Nat} {L : List Row} (F : Full mask') (ho : mask' % 2 = 1) (hl : L.length ≤ mask') {finger moves : Nat} {led plain : Bool} :
    ∃ (t' : SetTable) (order : Array Nat) (L' : List Row), laid mask' finger moves led plain ((L.map (·.2)).toArray.map (·.1)) = some (t', order) ∧ Tab mask' L' t' (order.filterMap ((L.map (·.2)).toArray[·]?)) ∧ Good mask' L' ∧ L'.length = L.length ∧
      ∀ hv, (∃ j, (j, hv) ∈ L') ↔ ∃ j, (j, hv) ∈ L := by
  have hh : ((L.map (·.2)).toArray.map (·.1)) = ((L.map fun z => z.2.1)).toArray := by simp
  obtain ⟨owner, e, O⟩ := lay_ok F (L.map fun z => z.2.1) (by rw [List.length_map]; omega)
  have hOl : (L.map fun z => z.2.1).length = L.length := List.length_map ..
  have hq : ∀ p ∈ liveOf mask' owner, ∃ z, L[p.2]? = some z := fun p hp => by
    have h1 := O.lt _ _ ((live_mem O.size).mp hp)
    rw [hOl] at h1
    exact ⟨_, List.getElem?_eq_getElem h1⟩
  -- the rows: each place with what stands in it
  have hL : ∃ L' : List Row, L'.map (·.1) = (liveOf mask' owner).map (·.1) ∧ L'.map (·.2) = ((liveOf mask' owner).map (·.2)).filterMap ((L.map (·.2))[·]?) ∧ (∀ j hv, (j, hv) ∈ L' ↔ ∃ q, (j, q) ∈ liveOf mask' owner ∧ (L.map (·.2))[q]? = some hv) := by
    generalize liveOf mask' owner = lv at hq
    induction lv with
    | nil => exact ⟨[], rfl, rfl, fun j hv => by simp⟩
    | cons p lv ih =>
      obtain ⟨L', h1, h2, h3⟩ := ih fun p hp => hq p (List.mem_cons_of_mem _ hp)
      obtain ⟨z, hz⟩ := hq p List.mem_cons_self
      have hz2 : (L.map (·.2))[p.2]? = some z.2 := by rw [List.getElem?_map, hz]; rfl
      refine ⟨(p.1, z.2) :: L', by simp [h1], ?_, fun j hv => ?_⟩
      · rw [List.map_cons, List.map_cons, List.filterMap_cons, hz2, h2]
      · rw [List.mem_cons, h3]
        constructor
        · rintro (e | ⟨q, h4, h5⟩)
          · injection e with e1 e2
            exact ⟨p.2, by rw [e1]; exact List.mem_cons_self, by rw [hz2, e2]⟩
          · exact ⟨q, List.mem_cons_of_mem _ h4, h5⟩
        · rintro ⟨q, h4, h5⟩
          rcases List.mem_cons.mp h4 with e | h4
          · subst e
            have : z.2 = hv := by
              rw [hz2] at h5; exact Option.some.inj h5
            exact .inl (by rw [this])
          · exact .inr ⟨q, h4, h5⟩
  obtain ⟨L', h1, h2, h3⟩ := hL
  have hmemp : ∀ j, j ∈ L'.map (·.1) ↔ Taken owner j := fun j => by
    rw [h1, List.mem_map]
    constructor
    · rintro ⟨p, hp, rfl⟩
      exact ⟨p.2, (live_mem O.size).mp hp⟩
    · rintro ⟨q, hq⟩
      exact ⟨(j, q), (live_mem O.size).mpr hq, rfl⟩
  have hlen : L'.length = L.length := by
    have e1 : L'.length = (liveOf mask' owner).length := by
      have := congrArg List.length h1
      simpa using this
    have nd : ((liveOf mask' owner).map (·.2)).Nodup := by
      have r := live_rise mask' owner
      rw [List.pairwise_map] at r
      unfold List.Nodup
      rw [List.pairwise_map]
      refine List.Pairwise.imp_of_mem (fun {a b} ha hb hab e => ?_) r
      have h4 := (live_mem O.size).mp ha
      have h5 := (live_mem O.size).mp hb
      rw [← e] at h5
      have := O.inj _ _ _ h4 h5
      omega
    have a1 := len_le nd (l' := List.range L.length) fun q hq => by
      obtain ⟨p, hp, rfl⟩ := List.mem_map.mp hq
      have := O.lt _ _ ((live_mem O.size).mp hp)
      rw [hOl] at this
      exact List.mem_range.mpr this
    have a2 := len_le (l := List.range L.length) (l' := (liveOf mask' owner).map (·.2)) List.nodup_range fun q hq => by
      obtain ⟨j, hj⟩ := O.all q (by rw [hOl]; exact List.mem_range.mp hq)
      exact List.mem_map.mpr ⟨(j, q), (live_mem O.size).mpr hj, rfl⟩
    simp only [List.length_map, List.length_range] at a1 a2
    omega
  refine ⟨_, _, L', by rw [hh]; unfold laid; rw [e]; rfl, ⟨rfl, ?_, rfl, ?_⟩, ⟨F, ho, by rw [h1]; exact live_rise _ _, fun z hz => ?_, fun z hz => ?_, by omega⟩, hlen, fun hv => ?_⟩
  · rw [h1]; rfl
  · apply Array.toList_inj.mp
    rw [Array.toList_filterMap]
    simp only [List.getElem?_toArray]
    rw [h2]; rfl
  · obtain ⟨q, hq⟩ := (hmemp z.1).mp (List.mem_map.mpr ⟨z, hz, rfl⟩)
    have := (Array.getElem?_eq_some_iff.mp hq).1
    rw [O.size] at this
    omega
  · obtain ⟨j, hv⟩ := z
    obtain ⟨q, h4, h5⟩ := (h3 j hv).mp hz
    have h6 := (live_mem O.size).mp h4
    rw [List.getElem?_map] at h5
    obtain ⟨y, hy, e5⟩ := Option.map_eq_some_iff.mp h5
    obtain ⟨n, g1, g2⟩ := O.road j q hv.1 h6 (by rw [List.getElem?_map, hy, ← e5]; rfl)
    exact ⟨n, g1, fun m hm => (hmemp _).mpr (g2 m hm)⟩
  · constructor
    · rintro ⟨j, hj⟩
      obtain ⟨q, h4, h5⟩ := (h3 j hv).mp hj
      rw [List.getElem?_map] at h5
      obtain ⟨y, hy, e5⟩ := Option.map_eq_some_iff.mp h5
      refine ⟨y.1, ?_⟩
      rw [← e5]
      exact List.mem_of_getElem? hy
    · rintro ⟨j, hj⟩
      obtain ⟨q, hq⟩ := List.mem_iff_getElem?.mp hj
      have hql := (List.getElem?_eq_some_iff.mp hq).1
      obtain ⟨i, hi⟩ := O.all q (by rw [hOl]; exact hql)
      exact ⟨i, (h3 i hv).mpr ⟨q, (live_mem O.size).mpr hi, by rw [List.getElem?_map, hq]; rfl⟩⟩
end Cr
end
section
set_option linter.all false
set_option maxRecDepth 100000
namespace Cr
open PySem PySem.SetTable
section
variable {prog : Program} {w : World} {A : Around} {E : Value → Shared → Prop} {s : Shared}
abbrev IsK (prog : Program) (w : World) (h : Heap) (k : List Int) (a : Addr) : Prop := IsTupleKey (intKind prog w) h k a
abbrev hsh (prog : Program) (w : World) (k : List Int) : Int := tupleKeyHash (intKind prog w) k
theorem items_int : ∀ {ks : List Int} {vs : List Value}, ItemsAre (intKind prog w) ks vs → ∀ v ∈ vs, ∃ i t, v = Value.int i t
  | _, _, .nil, v, h => by cases h
  | _, _, .cons (k := k) (v := u) h1 h2, v, h => by
    rcases List.mem_cons.mp h with rfl | h
    · obtain ⟨t, e⟩ := Value.isInt_shape (k := k) (v := v) h1
      exact ⟨k, t, e⟩
    · exact items_int h2 v h
theorem ofAClass_tuple {k : List Int} {a : Addr} {Q : Bool → Shared → Prop} (hk : IsK prog w s.heap k a) (h : Q false s) : wpAny (model prog w) A (ofAClassStatement 8 (.ref a)) Q E s := by
  have hT := hk.typeIs
  obtain ⟨o, items, n, ho, _, hd, hi⟩ := hk
  unfold ofAClassStatement
  refine wpAny_bind (wpAny_typeOf hT ?_)
  dsimp only
  rw [if_pos (by decide)]
  refine wpAny_bind (wpAny_pure ?_)
  simp only [Bool.not_true, Bool.false_eq_true, if_false]
  refine wpAny_bind (wpAny_seqItems ho hd ?_)
  dsimp only
  refine wpAny_bind ?_
  rw [← Array.forIn_toList]
  refine wpAny_forIn_list _ (fun rest r s' => r.1 = none ∧ s' = s ∧ ∀ v ∈ rest, ∃ i t, v = Value.int i t) _ ?_ ?_ _ _ ⟨rfl, rfl, items_int hi⟩
  · rintro v rest r s' ⟨hr, rfl, hall⟩
    obtain ⟨i, t, rfl⟩ := hall v List.mem_cons_self
    have e : ofAClassStatement 7 (.int i t) = pure false := by unfold ofAClassStatement; rfl
    rw [e]
    refine wpAny_bind (wpAny_pure ?_)
    simp only [Bool.false_eq_true, if_false]
    exact wpAny_pure ⟨rfl, rfl, fun u hu => hall u (List.mem_cons_of_mem _ hu)⟩
  · rintro ⟨r1, r2⟩ s' ⟨hr, rfl, _⟩
    simp only at hr
    subst hr
    exact wpAny_pure h
theorem hashBy_tuple {k : List Int} {a : Addr} {Q : Bool → Shared → Prop} (hk : IsK prog w s.heap k a) (h : Q true s) : wpAny (model prog w) A (hashByValue 8 (.ref a)) Q E s := by
  have hT := hk.typeIs
  obtain ⟨o, items, n, ho, _, hd, hi⟩ := hk
  unfold hashByValue
  refine wpAny_bind (wpAny_specialOf hT F.slot_tuple_hash.lookup ?_)
  dsimp only
  refine wpAny_bind (wpAny_seqItems ho hd ?_)
  refine wpAny_bind ?_
  show wpAny _ _ (forIn items _ _) _ _ s
  rw [← Array.forIn_toList]
  refine wpAny_forIn_list _ (fun rest r s' => r.1 = none ∧ s' = s ∧ ∀ v ∈ rest, ∃ i t, v = Value.int i t) _ ?_ ?_ _ _ ⟨rfl, rfl, items_int hi⟩
  · rintro v rest r s' ⟨hr, rfl, hall⟩
    obtain ⟨i, t, rfl⟩ := hall v List.mem_cons_self
    have e : hashByValue 7 (.int i t) = pure true := by unfold hashByValue; rfl
    rw [e]
    refine wpAny_bind (wpAny_pure ?_)
    simp only [Bool.not_true, Bool.false_eq_true, if_false]
    exact wpAny_pure ⟨rfl, rfl, fun u hu => hall u (List.mem_cons_of_mem _ hu)⟩
  · rintro ⟨r1, r2⟩ s' ⟨hr, rfl, _⟩
    simp only at hr
    subst hr
    exact wpAny_pure h
theorem seen_tuple {k : List Int} {a : Addr} {l : List Value} {Q : Bool → Shared → Prop} (hk : IsK prog w s.heap k a) (hl : ∀ v ∈ l, ∃ k' b, v = .ref b ∧ IsK prog w s.heap k' b) (h : Q false s) :
    wpAny (model prog w) A (searchCouldBeSeen (.ref a) l) Q E s := by
  unfold searchCouldBeSeen
  refine wpAny_bind ?_
  refine wpAny_forIn_list _ (fun rest r s' => r.1 = none ∧ s' = s ∧ ∀ v ∈ rest, ∃ k' b, v = .ref b ∧ IsK prog w s.heap k' b) _ ?_ ?_ _ _ ⟨rfl, rfl, hl⟩
  · rintro v rest r s' ⟨hr, rfl, hall⟩
    obtain ⟨k', b, rfl, hb⟩ := hall v List.mem_cons_self
    have next : ∀ u ∈ rest, ∃ k' b, u = .ref b ∧ IsK prog w s'.heap k' b := fun u hu => hall u (List.mem_cons_of_mem _ hu)
    dsimp only
    have ec : (carriedByValue (.ref a) && carriedByValue (.ref b)) = false := rfl
    rw [ec, Bool.or_false]
    by_cases hab : (a == b) = true
    · rw [if_pos hab]
      exact wpAny_pure ⟨rfl, rfl, next⟩
    · rw [if_neg hab]
      refine wpAny_bind (wpAny_eqIsQuiet_tuple hk ?_)
      simp only [Bool.not_true, Bool.false_eq_true, if_false]
      refine wpAny_bind (wpAny_eqIsQuiet_tuple hb ?_)
      simp only [Bool.not_true, Bool.false_eq_true, if_false]
      refine wpAny_bind (ofAClass_tuple hk ?_)
      simp only [Bool.false_eq_true, if_false]
      refine wpAny_bind (ofAClass_tuple hb ?_)
      simp only [Bool.false_eq_true, if_false]
      exact wpAny_pure ⟨rfl, rfl, next⟩
  · rintro ⟨r1, r2⟩ s' ⟨hr, rfl, _⟩
    simp only at hr
    subst hr
    exact wpAny_pure h
end
end Cr
end
section
set_option linter.all false
set_option maxRecDepth 100000
namespace Cr
open PySem PySem.SetTable
section
variable {prog : Program} {w : World} {A : Around} {E : Value → Shared → Prop} {s : Shared}
/-- each row is a tuple of ints with its hash -/
def RowsOk (prog : Program) (w : World) (h : Heap) (L : List Row) : Prop := ∀ z ∈ L, ∃ k b, z.2.2 = .ref b ∧ IsK prog w h k b ∧ z.2.1 = hsh prog w k
theorem key_of_row {h : Heap} {L : List Row} (R : RowsOk prog w h L) {z : Row} (hz : z ∈ L) {b : Addr} {k : List Int} (e : z.2.2 = .ref b) (hk : IsK prog w h k b) : z.2.1 = hsh prog w k := by
  obtain ⟨k', b', e', hk', hh⟩ := R z hz
  rw [e] at e'
  cases e'
  rw [hk.inj hk']; exact hh
theorem gave_no {t : SetTable} (h : t.mask % 2 = 1) : t.gaveWay = false := by
  unfold gaveWay; rw [h]; rfl
theorem hashAt_eq (es : Array (Int × Value)) : (fun i => (es[i]?.map (·.1)).getD 0) = hashAt es := rfl
theorem search_from {a : Addr} {o : Obj} {es : Array (Int × Value)} {ep : Nat} {t : SetTable} {mask : Nat} {L : List Row} {k : List Int} {x : Addr} {Q : SetFound → Shared → Prop} (hu : A.units < cLine)
    (ho : s.heap.get? a = some o) (hd : o.data = .set es ep t) (hf : t.fits es.size = true) (T : Tab mask L t es) (G : Good mask L) (R : RowsOk prog w s.heap L) (hk : IsK prog w s.heap k x)
    {N : Nat} (hNb : N ≤ 10 * (mask + 13)) (hN : (pth mask (hsh prog w k) N).j ∉ L.map (·.1)) (hb : ∀ m, m < N → (pth mask (hsh prog w k) m).j ∈ L.map (·.1))
    (h1 : (∃ z ∈ L, ∃ b, z.2.2 = .ref b ∧ IsK prog w s.heap k b) → Q (.there none) s) (h2 : (¬ ∃ z ∈ L, ∃ b, z.2.2 = .ref b ∧ IsK prog w s.heap k b) → Q (.free (pth mask (hsh prog w k) N).j false) s) :
    ∀ (d n fuel : Nat) (st : Option Probe), n + d = N → d < fuel → st.getD (t.probeStart (hsh prog w k)) = pth mask (hsh prog w k) n →
      (∀ m, m < n → ∀ z ∈ L, z.1 = (pth mask (hsh prog w k) m).j → ∀ b, z.2.2 = .ref b → ¬ IsK prog w s.heap k b) →
      wpAny (model prog w) A (setSearchFrom a (.ref x) (hsh prog w k) true fuel st) Q E s := by
  intro d
  induction d using Nat.strongRecOn with
  | _ d ih =>
    intro n fuel st e hfu hst hno
    match fuel, hfu with
    | fuel + 1, hfu =>
      unfold setSearchFrom
      refine wpAny_bind (wpAny_setState_of ho hd hf ?_)
      dsimp only
      rw [gave_no (by rw [T.mask]; exact G.odd)]
      simp only [Bool.false_eq_true, if_false]
      obtain ⟨met, g1, g2⟩ := probe_go T G hN hb d n (10 * turns t.mask) e (by rw [T.mask]; unfold turns; omega)
      have gp : t.probe (hashAt es) (hsh prog w k) (st.getD (t.probeStart (hsh prog w k))) = some met := by rw [hst]; exact g1
      have gp' := gp
      show wpAny _ _ (match t.probe (hashAt es) (hsh prog w k) (st.getD (t.probeStart (hsh prog w k))) with | some met => _ | _ => _) _ _ _
      rw [gp']
      dsimp only
      cases g2 with
      | free g =>
        dsimp only
        refine wpAny_pure (h2 ?_)
        rintro ⟨z, hz, b, eb, kb⟩
        have hh := key_of_row R hz eb kb
        obtain ⟨m, em, hm⟩ := G.road z hz
        rw [hh] at em hm
        have hmN : m < N := by
          apply Classical.byContradiction
          intro c
          by_cases c2 : m = N
          · subst c2
            exact hN (by rw [em]; exact List.mem_map.mpr ⟨z, hz, rfl⟩)
          · exact hN (hm N (by omega))
        by_cases hmn : m < n
        · exact hno m hmn z hz em.symm b eb kb
        · exact g m (by omega) hmN z hz em.symm hh
      | cand m i y a1 a2 a3 a4 =>
        have hrow := List.mem_of_getElem? a3
        obtain ⟨k', b', e1, e2, e3⟩ := R _ hrow
        have hes : es[i]? = some (hsh prog w k, y) := by
          rw [T.es]
          simp only [List.getElem?_toArray, List.getElem?_map]
          rw [a3]; rfl
        dsimp only at e1 e3
        subst e1
        dsimp only
        have tail : wpAny (model prog w) A (do
            let some (_, y) := es[i]? | unsupported "internal:set-entry"
            let equal ← holding [y] (eqBool y (.ref x))
            let (es', _, t') ← setState a
            if true && equal then return .there none
            let some same := t'.sameMemory t.moves t.mask | unsupported "set.changed-during-lookup:is-the-new-block-at-the-old-address"
            let still ← match (if same then t'.slot (pth mask (hsh prog w k) m).j else .empty) with
              | .live i' => match es'[i']? with
                | some (_, y') => do pure (if ← isSame y' y then some i' else none)
                | none => pure none
              | _ => pure none
            match still with
            | none => rule "set.search.anew"; setSearchFrom a (.ref x) (hsh prog w k) true fuel none
            | some i' => if equal then return .there (some i') else setSearchFrom a (.ref x) (hsh prog w k) true fuel (some (pth mask (hsh prog w k) (m + 1)))) Q E s := by
          rw [hes]
          dsimp only
          refine wpAny_bind (wpAny_holding (wpAny_eqBool_tuple hu e2 hk ?_))
          refine wpAny_bind (wpAny_setState_of ho hd hf ?_)
          dsimp only
          by_cases hkk : k' = k
          · subst hkk
            rw [decide_eq_true rfl]
            simp only [Bool.and_self, if_true]
            exact wpAny_pure (h1 ⟨_, hrow, b', rfl, e2⟩)
          · rw [decide_eq_false hkk]
            simp only [Bool.and_false, Bool.false_eq_true, if_false]
            have hsm : t.sameMemory t.moves t.mask = some true := by unfold sameMemory; rw [if_pos (beq_self_eq_true _)]
            rw [hsm]
            dsimp only
            rw [if_pos rfl]
            obtain ⟨i', s1, hv, s2, s3⟩ := T.slot_live G (hb m a2)
            have hrows := same_row G (List.mem_of_getElem? s2) hrow rfl
            have hy : hv.2 = .ref b' := by
              have := congrArg (fun z : Row => z.2.2) hrows
              exact this
            rw [s1]
            dsimp only
            rw [s3]
            obtain ⟨hv1, hv2⟩ := hv
            dsimp only at hy
            subst hy
            dsimp only
            refine wpAny_bind (wpAny_isSame_ref_self ?_)
            rw [if_pos rfl]
            refine wpAny_bind (wpAny_pure ?_)
            dsimp only
            refine ih (N - (m + 1)) (by omega) (m + 1) fuel _ (by omega) (by omega) rfl ?_
            intro m' hm' z hz ez b eb kb
            have hh := key_of_row R hz eb kb
            by_cases hmn : m' < n
            · exact hno m' hmn z hz ez b eb kb
            · by_cases hmm : m' = m
              · subst hmm
                have hzr := same_row G hz hrow ez
                rw [hzr] at eb
                cases eb
                exact hkk (e2.inj kb)
              · exact a4 m' (by omega) (by omega) z hz ez hh
        by_cases hled : t.led = true
        · simp only [hled, Bool.not_true, Bool.false_eq_true, if_false]
          exact tail
        · simp only [hled, Bool.not_false, if_true]
          refine wpAny_bind (seen_tuple hk ?_ ?_)
          · intro v hv
            rw [List.mem_map] at hv
            obtain ⟨z, hz, rfl⟩ := hv
            have hz' := (Array.mem_filter.mp (Array.mem_toList_iff.mp hz)).1
            rw [T.es] at hz'
            obtain ⟨row, hr1, rfl⟩ := List.mem_map.mp (List.mem_toArray.mp hz')
            obtain ⟨k2, b2, f1, f2, _⟩ := R row hr1
            exact ⟨k2, b2, f1, f2⟩
          · simp only [Bool.false_eq_true, if_false]
            exact tail
end
end Cr
end
section
set_option linter.all false
set_option maxRecDepth 100000
namespace Cr
open PySem PySem.SetTable
def MaskOk (m : Nat) : Prop := m = 7 ∨ m = 31 ∨ m = 127 ∨ m = 511
theorem MaskOk.full {m : Nat} (h : MaskOk m) : Full m ∧ m % 2 = 1 := by
  rcases h with rfl | rfl | rfl | rfl
  · exact ⟨full7, rfl⟩
  · exact ⟨full31, rfl⟩
  · exact ⟨full127, rfl⟩
  · exact ⟨full511, rfl⟩
theorem mask_next {m n : Nat} (h : MaskOk m) (h1 : (n - 1) * 5 < m * 3) (h2 : m * 3 ≤ n * 5) (h3 : n ≤ 200) : MaskOk (sizeAbove (grown n) - 1) ∧ sizeAbove (grown n) ≤ 512 ∧ n * 5 < (sizeAbove (grown n) - 1) * 3 := by
  rcases h with rfl | rfl | rfl | rfl
  · have : n = 5 := by omega
    subst this; exact ⟨by unfold MaskOk; decide, by decide, by decide⟩
  · have : n = 19 := by omega
    subst this; exact ⟨by unfold MaskOk; decide, by decide, by decide⟩
  · have : n = 77 := by omega
    subst this; exact ⟨by unfold MaskOk; decide, by decide, by decide⟩
  · omega
section
variable {prog : Program} {w : World} {A : Around} {E : Value → Shared → Prop} {s : Shared}
def Has (prog : Program) (w : World) (h : Heap) (L : List Row) (k : List Int) : Prop := ∃ z ∈ L, ∃ b, z.2.2 = .ref b ∧ IsK prog w h k b
/-- a set of tuples of ints: its members, each once -/
def TSet (prog : Program) (w : World) (h : Heap) (a : Addr) (ks : List (List Int)) : Prop :=
  ∃ o es ep t mask L, h.get? a = some o ∧ o.ExactSet ∧ o.data = .set es ep t ∧ MaskOk mask ∧ Tab mask L t es ∧ Good mask L ∧ RowsOk prog w h L ∧ (∀ k, Has prog w h L k ↔ k ∈ ks) ∧ L.length = ks.length ∧ L.length * 5 < mask * 3
theorem Tab.len {mask : Nat} {L : List Row} {t : SetTable} {es : Array (Int × Value)} (T : Tab mask L t es) : es.size = L.length := by rw [T.es]; simp
theorem Tab.fits {mask : Nat} {L : List Row} {t : SetTable} {es : Array (Int × Value)} (T : Tab mask L t es) (G : Good mask L) : t.fits es.size = true := by
  unfold SetTable.fits SetTable.fill
  rw [T.len, T.place, T.dum, T.mask]
  have := G.room
  simp [this]
theorem isK_keep {h h' : Heap} {a b : Addr} {k : List Int} {o : Obj} {es ep t} (ho : h.get? a = some o) (hd : o.data = .set es ep t) (hs : Heap.SameBut a h h') (hk : IsK prog w h k b) : IsK prog w h' k b := by
  obtain ⟨o', items, n, ho', hc, hd', hi⟩ := hk
  have hne : b ≠ a := by
    rintro rfl
    obtain rfl : o' = o := Option.some.inj (ho'.symm.trans ho)
    rw [hd] at hd'; exact nomatch hd'
  exact ⟨o', items, n, (hs.2 b hne).trans ho', hc, hd', hi⟩
theorem isK_back {h h' : Heap} {a b : Addr} {k : List Int} {o : Obj} {es ep t} (ho : h'.get? a = some o) (hd : o.data = .set es ep t) (hs : Heap.SameBut a h h') (hk : IsK prog w h' k b) : IsK prog w h k b := by
  obtain ⟨o', items, n, ho', hc, hd', hi⟩ := hk
  have hne : b ≠ a := by
    rintro rfl
    obtain rfl : o' = o := Option.some.inj (ho'.symm.trans ho)
    rw [hd] at hd'; exact nomatch hd'
  exact ⟨o', items, n, (hs.2 b hne).symm.trans ho', hc, hd', hi⟩
/-- the set's object is stored anew -/
theorem stored {h : Heap} {a : Addr} {o : Obj} {es es' : Array (Int × Value)} {ep : Nat} {t t' : SetTable} (ho : h.get? a = some o) (hd : o.data = .set es ep t) :
    (h.update a (Obj.putSet es' t')).get? a = some { o with data := .set es' (ep + 1) t' } := by
  have := Heap.get?_update_self (Obj.putSet es' t') ho (by rw [putSet_of es' t' hd]; rfl)
  rw [putSet_of es' t' hd] at this; exact this
theorem relay_tuple {a : Addr} {o : Obj} {es : Array (Int × Value)} {ep : Nat} {t : SetTable} {mask : Nat} {L : List Row} {Q : Unit → Shared → Prop} {wanted : Nat}
    (ho : s.heap.get? a = some o) (hd : o.data = .set es ep t) (T : Tab mask L t es) (G : Good mask L) (hm : MaskOk (sizeAbove wanted - 1)) (hsz : sizeAbove wanted ≤ 512) (hl : L.length ≤ sizeAbove wanted - 1)
    (h : ∀ (t' : SetTable) (es' : Array (Int × Value)) (L' : List Row), Tab (sizeAbove wanted - 1) L' t' es' → Good (sizeAbove wanted - 1) L' → L'.length = L.length → (∀ hv, (∃ j, (j, hv) ∈ L') ↔ ∃ j, (j, hv) ∈ L) → Q () { s with heap := s.heap.update a (Obj.putSet es' t') }) :
    wpAny (model prog w) A (setRelay a wanted) Q E s := by
  unfold setRelay
  refine wpAny_bind (wpAny_setState_of ho hd (T.fits G) ?_)
  dsimp only
  rw [if_neg (by rw [sizeLine_eq]; omega)]
  obtain ⟨t', order, L', e1, T', G', e2, e3⟩ := relay_rows (mask' := sizeAbove wanted - 1) (L := L) hm.full.1 hm.full.2 hl (finger := t.finger) (moves := t.movedTo (sizeAbove wanted - 1)) (led := t.led) (plain := t.plain)
  have er : t.relaid (es.map (·.1)) wanted = some (t', order) := by
    unfold relaid
    rw [T.es]; exact e1
  show wpAny (model prog w) A ((match t.relaid (es.map (·.1)) wanted with
    | some (t, order) => (do
      if (order.filterMap (es[·]?)).size != es.size then unsupported "internal:set-table-lost-an-element"
      pure (order.filterMap (es[·]?), t))
    | _ => unsupported "internal:set-table-without-room") >>= fun x => storeSet a x.1 x.2) Q E s
  rw [er]
  dsimp only
  have hes : order.filterMap (es[·]?) = order.filterMap ((L.map (·.2)).toArray[·]?) := by rw [T.es]
  have hsz2 : (order.filterMap (es[·]?)).size = es.size := by rw [hes, T'.len, e2, T.len]
  have hne : ((order.filterMap (es[·]?)).size != es.size) = false := by rw [hsz2]; simp
  rw [hne]
  simp only [Bool.false_eq_true, if_false]
  refine wpAny_bind (wpAny_pure ?_)
  refine wpAny_storeSet_of ho hd ?_ (by rw [hsz2, T.len, sizeLine_eq]; omega)
  rw [hes]
  exact h t' _ L' T' G' e2 e3
theorem add_tuple {a x : Addr} {k : List Int} {ks : List (List Int)} {Q : Bool → Shared → Prop} (hu : A.units < cLine) (hS : TSet prog w s.heap a ks) (hk : IsK prog w s.heap k x) (hl : ks.length + 1 ≤ 200)
    (h : ∀ h' b, Heap.SameBut a s.heap h' → TSet prog w h' a (if k ∈ ks then ks else ks ++ [k]) → Q b { s with heap := h' }) :
    wpAny (model prog w) A (setAddHashed a (.ref x) (hsh prog w k)) Q E s := by
  obtain ⟨o, es, ep, t, mask, L, ho, hex, hd, hm, T, G, R, hmem, hlen, hroom⟩ := id hS
  have hf := T.fits G
  have hmk : 7 ≤ mask := by rcases hm with rfl | rfl | rfl | rfl <;> decide
  obtain ⟨N, n1, n2, n3⟩ := G.full.first (hsh prog w k) (ps := L.map (·.1)) (by rw [List.length_map]; exact G.room)
  unfold setAddHashed setAddHashedIn
  refine wpAny_holding (wpAny_bind (wpAny_setState_of ho hd hf ?_))
  dsimp only
  have hbs : byScan (.ref x) es = false := by unfold byScan; rfl
  rw [hbs]
  simp only [Bool.false_eq_true, if_false]
  unfold setSearch
  refine wpAny_bind (search_from hu ho hd hf T G R hk n1 n2 n3 (fun hh => ?_) (fun hh => ?_) N 0 100000 none (by omega) (by rcases hm with rfl | rfl | rfl | rfl <;> omega) (by rw [← T.mask]; rfl) fun m hm => absurd hm (Nat.not_lt_zero _))
  · dsimp only
    have hin : k ∈ ks := (hmem k).mp hh
    rw [if_pos hin] at h
    have := h s.heap false (Heap.SameBut.refl a s.heap) hS
    exact wpAny_pure this
  · have hin : k ∉ ks := fun z => hh ((hmem k).mpr z)
    rw [if_neg hin] at h
    dsimp only
    refine wpAny_bind (wpAny_setState_of ho hd hf ?_)
    dsimp only
    obtain ⟨L1, T1, G1, l1, m1⟩ := put_rows (x := .ref x) T G n2 n3 (by rcases hm with rfl | rfl | rfl | rfl <;> omega)
    have body : wpAny (model prog w) A (do
        storeSet a (insertAt es (t.put (pth mask (hsh prog w k) N).j).2 (hsh prog w k, .ref x)) (t.put (pth mask (hsh prog w k) N).j).1
        if !false && (t.put (pth mask (hsh prog w k) N).j).1.tooFull then setRelay a (grown (es.size + 1))
        return true) Q E s := by
      generalize (t.put (pth mask (hsh prog w k) N).j).1 = t1 at *
      generalize insertAt es (t.put (pth mask (hsh prog w k) N).j).2 (hsh prog w k, .ref x) = es1 at *
      refine wpAny_bind (wpAny_storeSet_of ho hd ?_ (by rw [T1.len, l1, sizeLine_eq]; omega))
      have g1 := stored (es' := es1) (t' := t1) ho hd
      have sb1 := Heap.SameBut.update s.heap a (Obj.putSet es1 t1)
      -- what holds of any set whose rows are these
      have fin : ∀ (h' : Heap) (o' : Obj) (es' : Array (Int × Value)) (ep' : Nat) (t' : SetTable) (mask' : Nat) (L' : List Row), Heap.SameBut a s.heap h' → h'.get? a = some o' → o'.ExactSet → o'.data = .set es' ep' t' → MaskOk mask' → Tab mask' L' t' es' → Good mask' L' → L'.length = L.length + 1 →
          (∀ hv, (∃ j, (j, hv) ∈ L') ↔ ∃ j, (j, hv) ∈ L1) → L'.length * 5 < mask' * 3 → TSet prog w h' a (ks ++ [k]) := by
        intro h' o' es' ep' t' mask' L' sb g' ex' d' hm' T' G' l' m' r'
        have hk' : ∀ {k2 : List Int} {b2 : Addr}, IsK prog w s.heap k2 b2 → IsK prog w h' k2 b2 := fun z => isK_keep ho hd sb z
        have hb' : ∀ {k2 : List Int} {b2 : Addr}, IsK prog w h' k2 b2 → IsK prog w s.heap k2 b2 := fun z => isK_back g' d' sb z
        have hin' : ∀ z : Row, z ∈ L' → ∃ j, (j, z.2) ∈ L1 := fun z hz => (m' z.2).mp ⟨z.1, hz⟩
        refine ⟨o', es', ep', t', mask', L', g', ex', d', hm', T', G', fun z hz => ?_, fun k2 => ?_, by rw [l', List.length_append, List.length_singleton, hlen], r'⟩
        · obtain ⟨j, hj⟩ := hin' z hz
          rcases (m1 _).mp hj with hj | hj
          · obtain ⟨k2, b2, f1, f2, f3⟩ := R _ hj
            exact ⟨k2, b2, f1, hk' f2, f3⟩
          · injection hj with _ e2
            rw [e2]
            exact ⟨k, x, rfl, hk' hk, rfl⟩
        · constructor
          · rintro ⟨z, hz, b2, f1, f2⟩
            obtain ⟨j, hj⟩ := hin' z hz
            rcases (m1 _).mp hj with hj | hj
            · exact List.mem_append_left _ ((hmem k2).mp ⟨_, hj, b2, f1, hb' f2⟩)
            · injection hj with _ e2
              rw [e2] at f1
              cases f1
              have : k2 = k := (hb' f2).inj hk
              rw [this]; exact List.mem_append_right _ (List.mem_singleton.mpr rfl)
          · intro hk2
            rcases List.mem_append.mp hk2 with hk2 | hk2
            · obtain ⟨z, hz, b2, f1, f2⟩ := (hmem k2).mpr hk2
              obtain ⟨j, hj⟩ := (m' z.2).mpr ⟨z.1, (m1 z).mpr (.inl hz)⟩
              exact ⟨_, hj, b2, f1, hk' f2⟩
            · rw [List.mem_singleton] at hk2
              subst hk2
              obtain ⟨j, hj⟩ := (m' (hsh prog w k2, .ref x)).mpr ⟨_, (m1 _).mpr (.inr rfl)⟩
              exact ⟨_, hj, x, rfl, hk' hk⟩
      have ht : t1.tooFull = decide ((L.length + 1) * 5 ≥ mask * 3) := by
        unfold SetTable.tooFull SetTable.fill
        rw [T1.place, T1.dum, T1.mask]
        simp [l1]
      simp only [Bool.not_false, Bool.true_and]
      rw [ht]
      by_cases hc : (L.length + 1) * 5 ≥ mask * 3
      · rw [decide_eq_true hc]
        simp only [if_true]
        obtain ⟨q1, q2, q3⟩ := mask_next hm (n := L.length + 1) (by omega) hc (by omega)
        refine wpAny_bind (relay_tuple (s := { s with heap := s.heap.update a (Obj.putSet es1 t1) }) g1 rfl T1 G1 (by rw [T.len]; exact q1) (by rw [T.len]; exact q2) (by rw [T.len, l1]; omega) fun t2 es2 L2 T2 G2 l2 m2 => ?_)
        rw [T.len] at T2 G2
        refine wpAny_pure (h _ _ (sb1.trans (Heap.SameBut.update _ a _)) ?_)
        exact fin _ _ es2 _ t2 _ L2 (sb1.trans (Heap.SameBut.update _ a _)) (stored g1 rfl) hex rfl q1 T2 G2 (by rw [l2, l1]) m2 (by rw [l2, l1]; exact q3)
      · rw [decide_eq_false hc]
        simp only [Bool.false_eq_true, if_false]
        refine wpAny_pure (h _ _ sb1 ?_)
        exact fin _ _ es1 _ t1 mask L1 sb1 g1 hex rfl hm T1 G1 l1 (fun hv => Iff.rfl) (by omega)
    by_cases hp : (t.put (pth mask (hsh prog w k) N).j).1.plain = true
    · rw [hp]
      simp only [if_true]
      refine wpAny_bind (hashBy_tuple hk ?_)
      simp only [if_true]
      exact body
    · rw [Bool.not_eq_true] at hp
      rw [hp]
      simp only [Bool.false_eq_true, if_false]
      refine wpAny_bind (wpAny_pure ?_)
      simp only [if_true]
      exact body
end
end Cr
end
section
set_option linter.all false
set_option maxRecDepth 100000
namespace Cr
open PySem PySem.SetTable
/-- each key once, in the order in which they are met -/
def ddStep (acc : List (List Int)) (k : List Int) : List (List Int) := if k ∈ acc then acc else acc ++ [k]
def dd (ks : List (List Int)) : List (List Int) := ks.foldl ddStep []
theorem dd_snoc (ks : List (List Int)) (k : List Int) : dd (ks ++ [k]) = ddStep (dd ks) k := by unfold dd; rw [List.foldl_append]; rfl
theorem dd_len : ∀ (l acc : List (List Int)), (l.foldl ddStep acc).length ≤ acc.length + l.length
  | [], acc => Nat.le_refl _
  | k :: l, acc => by
    refine Nat.le_trans (dd_len l (ddStep acc k)) ?_
    unfold ddStep
    split <;> simp <;> omega
theorem takeS {l : List (List Int)} {i : Nat} {x : List Int} (h : l[i]? = some x) : l.take (i + 1) = l.take i ++ [x] := by
  obtain ⟨h1, h2⟩ := List.getElem?_eq_some_iff.mp h
  rw [← h2]
  exact (List.take_append_getElem h1).symm
section
variable {prog : Program} {w : World} {A : Around} {E : Value → Shared → Prop} {s : Shared}
theorem isK_on {h h' : Heap} {b : Addr} {k : List Int} (hk : IsK prog w h k b) (e : ∀ o, h.get? b = some o → o.cls = .type "tuple" → h'.get? b = some o) : IsK prog w h' k b := by
  obtain ⟨o, items, n, ho, hc, hd, hi⟩ := hk
  exact ⟨o, items, n, e o ho hc, hc, hd, hi⟩
theorem TSet.on {h h' : Heap} {a : Addr} {ks : List (List Int)} (hS : TSet prog w h a ks) (ea : ∀ o, h.get? a = some o → h'.get? a = some o) (e : ∀ b o, h.get? b = some o → o.cls = .type "tuple" → h'.get? b = some o) : TSet prog w h' a ks := by
  obtain ⟨o, es, ep, t, mask, L, ho, hex, hd, hm, T, G, R, hmem, hlen, hroom⟩ := hS
  refine ⟨o, es, ep, t, mask, L, ea o ho, hex, hd, hm, T, G, fun z hz => ?_, fun k => ⟨fun ⟨z, hz, b, e1, e2⟩ => (hmem k).mp ?_, fun hk => ?_⟩, hlen, hroom⟩
  · obtain ⟨k, b, e1, e2, e3⟩ := R z hz
    exact ⟨k, b, e1, isK_on e2 (e b), e3⟩
  · obtain ⟨k', b', e1', e2', _⟩ := R z hz
    rw [e1] at e1'
    cases e1'
    have := e2.inj (isK_on e2' (e b))
    subst this
    exact ⟨z, hz, b, e1, e2'⟩
  · obtain ⟨z, hz, b, e1, e2⟩ := (hmem k).mpr hk
    exact ⟨z, hz, b, e1, isK_on e2 (e b)⟩
theorem iter_cls {h : Heap} {i l : Addr} {n : Nat} (st : h.IsListIter i l n) {o : Obj} (e : h.get? i = some o) : o.cls ≠ .type "tuple" := by
  obtain ⟨o', e1, e2, _⟩ := st
  rw [e] at e1
  cases e1
  intro z
  rw [z] at e2
  revert e2
  simp
theorem loop_tuples {l itr S : Addr} {items : Array Value} {ks : List (List Int)} {R : Result → Shared → Prop} (hh : A.in1.handled = none) (hu : A.units + 1 < cLine) (hli : l ≠ itr) (hSi : S ≠ itr) (hSl : S ≠ l) (hlen : items.size = ks.length) (h200 : ks.length + 1 ≤ 200) :
    ∀ (m i : Nat) (s : Shared), items.size - i = m → i ≤ items.size → s.heap.IsListIter itr l i → s.heap.IsList l items → TSet prog w s.heap S (dd (ks.take i)) →
      (∀ (j : Nat) v, items[j]? = some v → ∃ b k, v = .ref b ∧ ks[j]? = some k ∧ IsK prog w s.heap k b) →
      (∀ s', Moved [S, itr] (fun a b => b = a) s s' → TSet prog w s'.heap S (dd ks) → R (.ok (.ret .none)) s') →
      codeAny (model prog w) A (.builtin "set.update.loop" ⟨[.ref S, .ref itr], []⟩) R s := by
  have W := Walks.list (prog := prog) (w := w) (A := A.in1) hh itr l hli items
  have kept : ∀ {s s' : Shared} {i : Nat}, s.heap.IsListIter itr l i → Moved [itr] (fun a b => b = a) s s' → ∀ b o, s.heap.get? b = some o → o.cls = .type "tuple" → s'.heap.get? b = some o := fun {s s' i} st hm b o e hc =>
    hm.heap b o (fun z => by
      rw [List.mem_singleton] at z
      subst z
      exact iter_cls st e hc) e
  intro m
  induction m with
  | zero =>
    intro i s hk hi st hl hS hK hR
    have hin : i = items.size := by omega
    subst hin
    refine codeAny_builtin PyProof.Rows.F.entry_set_update_loop ?_
    rw [Around.under_plainId PyProof.Rows.F.plain_set_update_loop _]
    refine wpAny_bind (W.toS.done s _ _ ⟨st, hl⟩ fun s' hm => ?_)
    refine wpAny_pure (hR s' (hm.mono fun b hb => List.mem_cons_of_mem _ hb) ?_)
    rw [hlen, List.take_length] at hS
    exact hS.on (fun o e => hm.heap S o (by rw [List.mem_singleton]; exact hSi) e) (kept st hm)
  | succ m ih =>
    intro i s hk hi st hl hS hK hR
    have hlt : i < items.size := by omega
    refine codeAny_builtin PyProof.Rows.F.entry_set_update_loop ?_
    rw [Around.under_plainId PyProof.Rows.F.plain_set_update_loop _]
    refine wpAny_bind (W.toS.item i s _ _ hlt ⟨st, hl⟩ fun v s' hP hst' hm => ?_)
    obtain ⟨b, k, rfl, hk1, hkb⟩ := hK i v hP
    have hkb' : IsK prog w s'.heap k b := isK_on hkb (kept st hm b)
    have hS' : TSet prog w s'.heap S (dd (ks.take i)) := hS.on (fun o e => hm.heap S o (by rw [List.mem_singleton]; exact hSi) e) (kept st hm)
    refine wpAny_bind (wpAny_holding ?_)
    unfold setAdd
    refine wpAny_holding ?_
    refine wpAny_bind (wpAny_pyHash_tuple hu hkb' ?_)
    have hl2 : (dd (ks.take i)).length + 1 ≤ 200 := by
      have := dd_len (ks.take i) []
      have : (ks.take i).length ≤ ks.length := by rw [List.length_take]; omega
      unfold dd
      simp only [List.length_nil] at *
      omega
    refine add_tuple (s := { s' with toks := s'.toks + (k.length + 1) }) hu hS' hkb' hl2 fun h' bb sb hS2 => ?_
    have hS3 : TSet prog w h' S (dd (ks.take (i + 1))) := by rw [takeS hk1, dd_snoc]; exact hS2
    obtain ⟨oS, eS, epS, tS, _, _, gS, _, dS, _⟩ := hS'
    have keep2 : ∀ c o, c ≠ S → s'.heap.get? c = some o → h'.get? c = some o := fun c o hc e => (sb.2 c hc).trans e
    have tupS : ∀ c o, s'.heap.get? c = some o → o.cls = .type "tuple" → h'.get? c = some o := fun c o e hc => keep2 c o (fun z => by
      obtain ⟨_, _, _, _, _, _, gS2, hex2, _⟩ := hS2
      subst z
      obtain ⟨oS', _, _, _, _, _, gS', hexS, _⟩ := hS.on (h' := s'.heap) (fun o e => hm.heap c o (by rw [List.mem_singleton]; exact hSi) e) (kept st hm)
      rw [e] at gS'
      cases gS'
      rw [hexS.1] at hc
      revert hc
      simp) e
    refine wpAny_pure ⟨plainId_quiet PyProof.Rows.F.plain_set_update_loop _, ih (i + 1) _ (by omega) hlt ?_ ?_ hS3 ?_ fun s'' hm'' hS'' => ?_⟩
    · exact hst'.1.at fun o e => keep2 itr o (Ne.symm hSi) e
    · exact hst'.2.at fun o e => keep2 l o (Ne.symm hSl) e
    · intro j u hj
      obtain ⟨b2, k2, e1, e2, e3⟩ := hK j u hj
      exact ⟨b2, k2, e1, e2, isK_on (isK_on e3 (kept st hm b2)) (tupS b2)⟩
    · refine hR s'' (Moved.trans (fun _ _ _ x y => y.trans x) ((hm.mono fun b hb => List.mem_cons_of_mem _ hb).then_heap (Nat.le_add_right _ _) fun c o hc e => ?_) hm'') hS''
      exact keep2 c o (fun z => hc (by rw [z]; exact List.mem_cons_self)) e
end
end Cr
end
section
set_option linter.all false
set_option maxRecDepth 100000
namespace Cr
open PySem PySem.SetTable
section
variable {prog : Program} {w : World} {A : Around} {E : Value → Shared → Prop} {s : Shared}
theorem tset_new {h : Heap} {a : Addr} {led : Bool} (e : h.get? a = some { cls := .type "set", dict := none, data := .set #[] 0 (.fresh 0 0 led) }) : TSet prog w h a [] := by
  have no : ∀ z : Row, z ∉ ([] : List Row) := fun z hz => by cases hz
  refine ⟨_, #[], 0, .fresh 0 0 led, 7, [], e, ⟨rfl, rfl, rfl⟩, rfl, .inl rfl, ⟨rfl, rfl, rfl, rfl⟩, ⟨full7, rfl, .nil, fun z hz => absurd hz (no z), fun z hz => absurd hz (no z), by decide⟩, fun z hz => absurd hz (no z), fun k => ⟨fun ⟨z, hz, _⟩ => absurd hz (no z), fun z => (by cases z)⟩, rfl, by decide⟩
set_option maxHeartbeats 3200000 in
theorem call_set_tuples {l : Addr} {items : Array Value} {ks : List (List Int)} {Q : Value → Shared → Prop} (hh : A.handled = none) (hu : A.units + 10 < cLine) (hl : s.heap.IsList l items) (hlen : items.size = ks.length) (h200 : ks.length + 1 ≤ 200)
    (hK : ∀ (j : Nat) v, items[j]? = some v → ∃ b k, v = .ref b ∧ ks[j]? = some k ∧ IsK prog w s.heap k b)
    (h : ∀ (h' : Heap) (tk : Nat), TSet prog w h' s.heap.objs.size (dd ks) → (∀ b o, b < s.heap.objs.size → s.heap.get? b = some o → h'.get? b = some o) → Q (.ref s.heap.objs.size) { s with heap := h', toks := tk }) :
    wpAny (model prog w) A (call (.type "set") [.ref l]) Q E s := by
  obtain ⟨c0, tl0, hmro0⟩ := F.called_set.mro
  have hmade0 := F.called_set.made
  have hsub0 := F.called_set.sub
  refine wpAny_call (codeAny_of_tree (show wpAny _ _ (callAny (.type "set") _) _ _ _ from ?_))
  refine wpAny_pure ⟨Code.quiet_builtin _ (by decide +kernel), codeAny_builtin F.entry_type_call ?_⟩
  rw [Around.under_plain (weight_type_call_type "set" [.ref l] []) rfl]
  have n1 := F.called_set.notType
  have n2 := F.called_set.canCreate
  have n3 := F.typeCall_set_1 (.ref l)
  repeat (any_goals (first | assumption | wp_step))
  refine codeAny_mono (code_set_new_1 (.ref l) (E := E) (Q₁ := fun obj s1 => ∃ led : Bool, obj = .ref s.heap.objs.size ∧ s1 = { s with heap := s.heap.push { cls := .type "set", dict := none, data := .set #[] 0 (.fresh 0 0 led) } }) fun led => ⟨led, rfl, rfl⟩) fun r s1 hr => ?_
  cases r with
  | error e => exact hr
  | ok fl =>
    cases fl with
    | ret obj =>
      obtain ⟨led, rfl, rfl⟩ := hr
      have gS : (s.heap.push { cls := .type "set", dict := none, data := .set #[] 0 (.fresh 0 0 led) }).get? s.heap.objs.size = some { cls := .type "set", dict := none, data := .set #[] 0 (.fresh 0 0 led) } := Heap.get?_push_size _ rfl
      have tS : Shared.TypeIs { s with heap := s.heap.push { cls := .type "set", dict := none, data := .set #[] 0 (.fresh 0 0 led) } } (.ref s.heap.objs.size) "set" := ⟨_, gS, rfl⟩
      have n4 := F.called_set.init.lookup
      have n5 := F.called_set.init.bind (.ref s.heap.objs.size)
      repeat (any_goals (first | assumption | wp_step))
      refine codeAny_mono (codeAny_call_builtin (R := wants (fun r s2 => r = .none ∧ ∃ h' tk, s2 = { s with heap := h', toks := tk } ∧ TSet prog w h' s.heap.objs.size (dd ks) ∧
          (∀ b o, b < s.heap.objs.size → s.heap.get? b = some o → h'.get? b = some o)) E) F.called_set.init.plain F.entry_set_init (check_set_init_1 tS ?_)) fun r2 s2 hr2 => ?_
      · obtain ⟨ol, gl, cl, nl, dl⟩ := hl
        obtain ⟨k0, k1, k2, k3⟩ := ol
        simp only at cl dl
        subst cl; subst dl
        have gl1 : (s.heap.push { cls := .type "set", dict := none, data := .set #[] 0 (.fresh 0 0 led) }).get? l = some { cls := .type "list", dict := k1, data := .seq items nl, slots := k3 } := Heap.get?_push_of_some _ gl
        have p1 := F.sub_list_set
        have p2 := F.sub_list_frozenset
        have p3 : (Value.type "list" == Value.type "dict") = false := by decide
        have il : (s.heap.push { cls := .type "set", dict := none, data := .set #[] 0 (.fresh 0 0 led) }).IsList l items := ⟨_, gl1, rfl, nl, rfl⟩
        unfold Builtin.«set.__init__» noKeywords Builtin.Frozenset.updateFrom
        generalize hpi : pyIter = pI
        wp_walk
        subst hpi
        refine wpAny_pyIter_list il (wpAny_bind (wpAny_runValue ?_))
        have lS : l < s.heap.objs.size := Heap.lt_size gl
        have sz : (s.heap.push { cls := .type "set", dict := none, data := .set #[] 0 (.fresh 0 0 led) }).objs.size = s.heap.objs.size + 1 := Heap.size_push ..
        refine loop_tuples (ks := ks) (by simp [hh]) (by simp only [Around.in1_units]; omega) (Nat.ne_of_lt (by rw [sz]; exact Nat.lt_succ_of_lt lS)) (Nat.ne_of_lt (by rw [sz]; exact Nat.lt_succ_self _)) (Nat.ne_of_gt lS) hlen h200 (items.size - 0) 0 _ (by omega) (Nat.zero_le _) ⟨_, Heap.get?_push_size _ rfl, rfl, rfl⟩ (il.push _) ?g0 ?gK ?gR
        case g0 =>
          rw [List.take_zero]
          exact tset_new (led := led) (Heap.get?_push_of_some _ gS)
        case gK =>
          intro j v hv
          obtain ⟨b, k, e1, e2, e3⟩ := hK j v hv
          exact ⟨b, k, e1, e2, isK_on e3 fun o e _ => Heap.get?_push_of_some _ (Heap.get?_push_of_some _ e)⟩
        case gR =>
          intro s' hm hS'
          obtain ⟨h', g', d', tk', os'⟩ := s'
          have eg : g' = s.gens := hm.gens
          have ed : d' = s.drawn := hm.drawn
          have eo : os' = s.os := hm.os
          subst eg; subst ed; subst eo
          refine wpAny_pure (wpAny_pure ⟨rfl, h', tk', rfl, hS', fun b o hb e => ?_⟩)
          refine hm.heap b o (fun z => ?_) (Heap.get?_push_of_some _ (Heap.get?_push_of_some _ e))
          simp only [List.mem_cons, List.not_mem_nil, or_false, sz] at z
          rcases z with z | z
          · exact absurd hb (by rw [z]; exact Nat.lt_irrefl _)
          · exact absurd (Nat.lt_succ_of_lt hb) (by rw [z]; exact Nat.lt_irrefl _)
      · cases r2 with
        | error e => exact hr2
        | ok fl2 =>
          cases fl2 with
          | ret r =>
            obtain ⟨rfl, h', tk, rfl, hS', hk'⟩ := hr2
            repeat (any_goals (first | assumption | wp_step))
            exact h _ _ hS' hk'
          | _ => exact hr2.elim
    | _ => exact hr.elim
end
end Cr
end
section
set_option Elab.async false
set_option linter.all false
set_option maxRecDepth 100000
set_option maxHeartbeats 2000000
namespace Cr
open PySem PySem.Spec PyProof.Rows L2
open Mu52 (Q Pt Map frac Device)
open Mu52Neutral (nats)
/-! ### a set, by its size -/
def SetN (a : Addr) (n : Nat) : HO := .ext fun h => ∃ o es ep t, h.get? a = some o ∧ o.ExactSet ∧ o.data = .set es ep t ∧ t.fits es.size = true ∧ es.size = n
theorem items_of {P : Program} {w : World} : ∀ {ks : List Int} {us : List Value}, Vals (ks.map V.int) us → ItemsAre (intKind P w) ks us
  | [], _, h => by cases h; exact .nil
  | k :: ks, _, h => by
    cases h with
    | cons r t =>
      obtain ⟨tk, rfl⟩ := r
      exact .cons (intKind_is _ _ _ _) (items_of t)
section
variable {X : Cx}
def rSet (K : PySem.W.Frag) : List V → Hp → VK → Prop := fun xs H Q => ∃ p vs ks, xs = [.ref p] ∧ SqL K H p vs ∧ Zip (fun v k => ∃ b, v = .ref b ∧ SqT K H b (k.map V.int)) vs ks ∧ ks.length + 1 ≤ 200 ∧ ∀ a, H a = none → Q (.ref a) (upd H a (SetN a (dd ks).length))
theorem call_setT (hc : X.calm = true) (hu : X.A.units + 10 < cLine) : CallR X (.type "set") (rSet X.K) := by
  intro pins s σ H xs us Q I r h
  obtain ⟨p, vs, ks, rfl, hq, z, hl, q⟩ := h
  obtain ⟨u, rfl, ru⟩ := vals1 r
  cases ru
  obtain ⟨its, rv, pl, hz⟩ := I.list hq
  have hlen := rv.length
  refine call_set_tuples (I.ok.hd hc) hu pl.isList (by rw [List.size_toArray, ← hlen, z.len]) hl (fun j v hv => ?_) fun h' tk hS hk => ?_
  · have hv' : its[j]? = some v := by simpa using hv
    have hj : j < vs.length := by rw [hlen]; exact (List.getElem?_eq_some_iff.mp hv').1
    obtain ⟨k, hk, b, eb, hb⟩ := z.item (List.getElem?_eq_getElem hj)
    obtain ⟨u, hu1, hu2⟩ := rv.get (List.getElem?_eq_getElem hj)
    rw [hv'] at hu1
    cases hu1
    rw [eb] at hu2
    obtain rfl : v = Value.ref b := hu2
    obtain ⟨its2, r2, ⟨o, ho, hcl, n, hd⟩, _⟩ := I.tuple hb
    exact ⟨b, k, rfl, hk, o, its2.toArray, n, ho, hcl, hd, by simpa using items_of r2⟩
  · refine ⟨.ref s.heap.objs.size, _, I.laid (t' := tk) (o := SetN s.heap.objs.size (dd ks).length) (fun b o e => hk b o (Heap.lt_size e) e) (Nat.le_refl _) ?_, rfl, q _ (I.hok.fresh (Nat.le_refl _))⟩
    obtain ⟨o, es, ep, t, mask, L, ho, hex, hd, hm, T, G, R, hmem, hlen2, hroom⟩ := hS
    refine ⟨⟨o, es, ep, t, ho, hex, hd, T.fits G, by rw [T.len, hlen2]⟩, ⟨o, ho⟩, ?_⟩
    rintro h1 h2 ⟨o', es', ep', t', e1, e2⟩ k
    exact ⟨o', es', ep', t', k _ e1, e2⟩
def rLenS : List V → Hp → VK → Prop := fun xs H Q => ∃ a n, xs = [.ref a] ∧ H a = some (SetN a n) ∧ n < 1000000 ∧ Q (.int n) H
theorem call_lenS : CallR X (.builtin "len") rLenS := by
  intro pins s σ H xs us Q I r h
  obtain ⟨a, n, rfl, ha, hn, q⟩ := h
  obtain ⟨u, rfl, ru⟩ := vals1 r
  cases ru
  obtain ⟨⟨o, es, ep, t, ho, hex, hd, hf, rfl⟩, _⟩ := I.hok a _ ha
  exact call_len_set ho hex hd hf (by omega) ⟨.int es.size, H, I.tok _, ⟨_, rfl⟩, q⟩
def rSlLK (K : PySem.W.Frag) : V → Option Int → Option Int → Hp → VK → Prop := rSlL K
theorem sl_listK {K : PySem.W.Frag} (h : X.K = K) : SlR X (rSlLK K) := by
  subst h; exact sl_list
end
/-! ### all_orders -/
def insI (z : Int) (l : List Int) : List (List Int) := (List.range (l.length + 1)).map fun i => (l.take i ++ [z]) ++ l.drop i
def ordI (ns : List Int) : List (List Int) := ns.foldl (fun acc z => acc.flatMap (insI z)) [[]]
theorem ordI_snoc (ns : List Int) (z : Int) : ordI (ns ++ [z]) = (ordI ns).flatMap (insI z) := by unfold ordI; rw [List.foldl_append]; rfl
theorem insI_get {z : Int} {l : List Int} {i : Nat} (h : i < l.length + 1) : (insI z l)[i]? = some ((l.take i ++ [z]) ++ l.drop i) := by
  unfold insI
  rw [List.getElem?_map, List.getElem?_range h]; rfl
theorem insI_len (z : Int) (l : List Int) : (insI z l).length = l.length + 1 := by unfold insI; simp
theorem insI_mem {z : Int} {l r : List Int} (h : r ∈ insI z l) : r.length = l.length + 1 := by
  obtain ⟨i, hi, rfl⟩ := List.mem_map.mp h
  have := List.mem_range.mp hi
  simp only [List.length_append, List.length_take, List.length_drop, List.length_singleton]; omega
theorem flat_const {α β : Type} {f : α → List β} {n : Nat} : ∀ {l : List α}, (∀ x ∈ l, (f x).length = n) → (l.flatMap f).length = l.length * n
  | [], _ => by simp
  | a :: l, h => by
    rw [List.flatMap_cons, List.length_append, h a List.mem_cons_self, flat_const fun x hx => h x (List.mem_cons_of_mem _ hx), List.length_cons, Nat.succ_mul, Nat.add_comm]
def fct : Nat → Nat
  | 0 => 1
  | n + 1 => fct n * (n + 1)
theorem ordI_len : ∀ (n : Nat) (ns : List Int), ns.length = n → (ordI ns).length = fct n ∧ ∀ r ∈ ordI ns, r.length = n
  | 0, ns, h => by
    have : ns = [] := List.length_eq_zero_iff.mp h
    subst this
    exact ⟨rfl, fun r hr => by have : r = [] := by simpa [ordI] using hr
                               rw [this]; rfl⟩
  | n + 1, ns, h => by
    have hne : ns ≠ [] := fun e => by rw [e] at h; cases h
    have e := List.dropLast_concat_getLast hne
    have hl : ns.dropLast.length = n := by rw [List.length_dropLast, h]; rfl
    obtain ⟨h1, h2⟩ := ordI_len n ns.dropLast hl
    rw [← e, ordI_snoc]
    refine ⟨?_, fun r hr => ?_⟩
    · rw [flat_const (n := n + 1) (fun x hx => by rw [insI_len, h2 x hx]), h1]; rfl
    · obtain ⟨x, hx, hr⟩ := List.mem_flatMap.mp hr
      rw [insI_mem hr, h2 x hx]
theorem fct_le {n : Nat} (h : n ≤ 5) : fct n ≤ 120 := by
  match n, h with
  | 0, _ => decide
  | 1, _ => decide
  | 2, _ => decide
  | 3, _ => decide
  | 4, _ => decide
  | 5, _ => decide
abbrev sAllO : Stmt := top 62
theorem scAllO : FnScope ["row", "orders", "number", "longer", "order", "place"] ["row"] (defScope sAllO) := ⟨rfl, rfl, rfl, by decide +kernel, rfl, by decide +kernel, by decide +kernel⟩
def spAllO : Sp := fun vs H Q _ => ∃ x ns, vs = [x] ∧ Ls H x ns ∧ ns.length ≤ 5 ∧ ∀ l H', Same H H' → Rows H' l (ordI ns) → Q (.ref l) H'
section
variable {P : Program} {w : World} {K : PySem.W.Frag} {mg : Str → Option Value} {base : Heap} {c : Cs}
theorem ok_allO (F : Txt K mg "all_orders" sAllO ["row"]) (hlen : mg "len" = none) (hrange : mg "range" = none) : Def P w K mg base 1 "all_orders" ["row"] spAllO := by
  refine F.ok scAllO (fun vs H Q E h => ?_) (fun f cdv A outer s H vs Q E hr h => ?_)
  · obtain ⟨x, ns, rfl, _⟩ := h
    rfl
  · obtain ⟨x, ns, rfl, ⟨p, rfl, hp⟩, h5, q⟩ := h
    refine ⟨_, pss_cons (ps_set (i := 1) scAllO.nd rfl (Or.inl rfl) (pe_lst (pa_cons (pe_lst pa_nil) pa_nil)))
      (pss_cons (ps_for PassesOwn.never rfl (pi_list (pv 0)) (pg_name (i := 2) scAllO.nd rfl (Or.inr rfl))
        (pss_cons (ps_set (i := 3) scAllO.nd rfl (Or.inl rfl) (pe_lst pa_nil))
        (pss_cons (ps_for PassesOwn.never rfl (pi_list (pv 1)) (pg_name (i := 4) scAllO.nd rfl (Or.inr rfl))
          (pss_one (ps_expr (pe_bm PySem.F.plainAttrs_list PySem.F.slot_list_extend PySem.F.type_list_extend mt_extend (pv 3)
            (pa_cons (pe_lc (own := [("place", 5)]) rfl scAllO.nd (pi_range1 rfl hrange (pa_cons (pe_op op_add (pe_callB call_len_seq (by rfl) hlen PySem.boot_len (pa_cons (pv 4) pa_nil)) pe_int) pa_nil))
              (blkOk_by (N := ["row", "orders", "number", "longer", "order", "place"]) (sc := defScope sAllO) (by decide +kernel)) (fun _ _ _ _ _ => pg_name (i := 5) scAllO.nd rfl (Or.inl rfl)) (fun _ _ _ _ _ => pts_nil)
              (fun _ _ _ _ _ => pe_op op_cat (pe_op op_cat (pe_slice (sl_listK (K := K) rfl) (pv 4) po_none (po_some (pv 5))) (pe_lst (pa_cons (pv 2) pa_nil))) (pe_slice (sl_listK (K := K) rfl) (pv 4) (po_some (pv 5)) po_none))) pa_nil)))))
        (pss_one (ps_set (i := 1) scAllO.nd rfl (Or.inl rfl) (pv 3))))))
      (pss_one (ps_ret (pv 1)))), ?_⟩
    refine ⟨Nat.zero_le _, fun e0 he0 => ?_⟩
    have t0 := Same.new (o := .lst []) he0
    refine ⟨(by show 1 ≤ sizeLine; decide), fun l0 hl0 => ?_⟩
    have t1 := Same.new (o := .lst [.ref e0]) hl0
    have h0 : Rows (upd (upd H e0 (.lst [])) l0 (.lst [.ref e0])) l0 (ordI (ns.take 0)) := by
      have hne : e0 ≠ l0 := ne_of_none upd_same hl0
      refine ⟨[.ref e0], upd_same, ?_⟩
      exact Zip.nil.snoc (Ls.hide hne (by rw [upd_ne hne]; exact upd_same))
    refine ⟨_, rfl, p, rfl, ⟨_, SqL.of (t1 _ _ (t0 _ _ hp))⟩, for_list (K := K) (a := p) (xs := ns.map V.int) (fun i σ H' => ∃ l y2 y3 y4 y5, σ = [some (.ref p), some (.ref l), y2, y3, y4, y5] ∧ Same H H' ∧ Rows H' l (ordI (ns.take i)))
      ⟨l0, _, _, _, _, rfl, t0.trans t1, h0⟩ (fun i σ H' _ ⟨_, _, _, _, _, _, s1, _⟩ => SqL.of (s1 _ _ hp)) ?_ ?_⟩
    · rintro i y σ H1 hi ⟨lo, y2, y3, y4, y5, rfl, s1, hR⟩
      obtain ⟨z, hz, rfl⟩ := map_get hi
      obtain ⟨vo, hlo, zo⟩ := LsV.read moLs hR
      have hin : i < ns.length := (List.getElem?_eq_some_iff.mp hz).1
      obtain ⟨ol1, ol2⟩ := ordI_len i (ns.take i) (by rw [List.length_take]; omega)
      have hol : (ordI (ns.take i)).length ≤ 120 := by rw [ol1]; exact fct_le (by omega)
      refine ⟨Nat.zero_le _, fun l hl => ?_⟩
      have s2 := Same.new (o := .lst []) hl
      have hll : lo ≠ l := ne_of_none hlo hl
      refine ⟨_, rfl, lo, rfl, ⟨_, SqL.of (s2 _ _ hlo)⟩, for_list (K := K) (a := lo) (xs := vo) (fun j σ H' => ∃ y4 y5, σ = [some (.ref p), some (.ref lo), some (.int z), some (.ref l), y4, y5] ∧ Same H1 H' ∧ Rows H' l (((ordI (ns.take i)).take j).flatMap (insI z)))
        ⟨_, _, rfl, s2, LsV.nil upd_same⟩ (fun j σ H' _ ⟨_, _, _, s3, _⟩ => SqL.of (s3 _ _ hlo)) ?_ ?_⟩
      · rintro j y σ H2 hj ⟨y4, y5, rfl, s3, vl, h2, z2⟩
        obtain ⟨o, ho, po, rfl, hpo⟩ := zo.item hj
        have hol5 : o.length = i := ol2 o (List.mem_of_getElem? ho)
        have hpo2 := s3 _ _ hpo
        refine ⟨_, rfl, .inl ⟨rfl, _, SqL.of h2⟩, _, rfl, po, _, rfl, .inl (SqL.of hpo2), _, _, rfl, rfl, _, rfl, by omega, ?_, fun D hD => ?_⟩
        · rw [List.length_map]; omega
        have t3 := Same.new (o := .lst []) hD
        have hDl : l ≠ D := ne_of_none h2 hD
        have hn2 : (((o.map V.int).length : Int) + 1).toNat = o.length + 1 := by rw [List.length_map]; omega
        refine lc_range (lo := 0) (n := (((o.map V.int).length : Int) + 1).toNat) (fun i' H' => Same H2 H' ∧ ∃ vs, H' D = some (.lst vs) ∧ Zip (fun v r => ∃ a, v = .ref a ∧ a ≠ l ∧ a ≠ D ∧ H' a = some (.lst (r.map V.int))) vs ((insI z o).take i'))
          ⟨t3, [], upd_same, Zip.nil⟩ ?_ ?_
        · rintro i' H3 hi' ⟨s4, vs, h3, z3⟩
          have hi2 : i' < o.length + 1 := by rw [← hn2]; exact hi'
          have hpo3 := s4 _ _ hpo2
          have hl3 := s4 _ _ h2
          refine ⟨rfl, _, rfl, _, rfl, _, rfl, po, _, rfl, SqL.of hpo3, fun a1 ha1 => ?_⟩
          rw [show (0 : Int) + (i' : Int) = (i' : Int) by omega, cut_take]
          have u1 := Same.new (o := .lst ((o.map V.int).take i')) ha1
          refine ⟨_, rfl, (by show 1 ≤ sizeLine; decide), fun a2 ha2 => ?_⟩
          have u2 := Same.new (o := .lst [.int z]) ha2
          refine ⟨a1, a2, _, _, rfl, rfl, u2 _ _ upd_same, upd_same, ?_, fun a3 ha3 => ?_⟩
          · rw [List.length_take, List.length_map]
            exact Nat.le_of_lt (small1000 (by simp only [List.length_cons, List.length_nil]; omega))
          have u3 := Same.new (o := .lst ((o.map V.int).take i' ++ [.int z])) ha3
          have u13 := (u1.trans u2).trans u3
          refine ⟨_, rfl, _, rfl, _, rfl, po, _, rfl, SqL.of (u13 _ _ hpo3), fun a4 ha4 => ?_⟩
          rw [cut_drop _ (by omega), Int.toNat_natCast]
          have u4 := Same.new (o := .lst ((o.map V.int).drop i')) ha4
          refine ⟨a3, a4, _, _, rfl, rfl, u4 _ _ upd_same, upd_same, ?_, fun a5 ha5 => ?_⟩
          · rw [List.length_append, List.length_take, List.length_drop, List.length_map]
            exact Nat.le_of_lt (small1000 (by simp only [List.length_cons, List.length_nil]; omega))
          have u14 := u13.trans u4
          have u5 := Same.new (o := .lst (((o.map V.int).take i' ++ [.int z]) ++ (o.map V.int).drop i')) ha5
          have u15 := u14.trans u5
          refine ⟨vs, u15 _ _ h3, ?_, fun b o' e => ?_, vs ++ [.ref a5], upd_same, ?_⟩
          · rw [z3.len, List.length_take, insI_len]
            exact small1000 (by omega)
          · rw [upd_ne (ne_of_none e hD)]; exact u15 _ _ (s4 _ _ e)
          · rw [take_snoc (insI_get hi2)]
            have h5D : a5 ≠ D := (ne_of_none (u14 _ _ h3) ha5).symm
            have h5l : a5 ≠ l := (ne_of_none (u14 _ _ hl3) ha5).symm
            refine Zip.snoc (z3.mono fun v r ⟨a, ea, b1, b2, b3⟩ => ⟨a, ea, b1, b2, by rw [upd_ne b2]; exact u15 _ _ b3⟩) ⟨a5, rfl, h5l, h5D, ?_⟩
            rw [upd_ne h5D, upd_same, List.map_append, List.map_append, List.map_take, List.map_drop]; rfl
        · rintro H3 ⟨s4, vs, h3, z3⟩
          rw [hn2, List.take_of_length_le (by rw [insI_len]; exact Nat.le_refl _)] at z3
          have hl3 := s4 _ _ h2
          refine ⟨l, D, vl, vs, rfl, rfl, hl3, h3, ?_, ?_⟩
          · rw [z2.len, z3.len, insI_len]
            have hfl := flat_const (f := insI z) (n := i + 1) (l := (ordI (ns.take i)).take j) (fun x hx => by rw [insI_len, ol2 x (List.mem_of_mem_take hx)])
            rw [hfl, List.length_take]
            have : min j (ordI (ns.take i)).length * (i + 1) ≤ 120 * 5 := Nat.mul_le_mul (by omega) (by omega)
            exact Nat.le_of_lt (small1000 (by omega))
          · have hnl : ∀ b o, H1 b = some o → b ≠ l := fun b o e => ne_of_none e hl
            refine ⟨_, _, rfl, fun b o' e => by rw [upd_ne (hnl b o' e)]; exact s4 _ _ (s3 _ _ e), vl ++ vs, upd_same, ?_⟩
            rw [hide_upd, take_flat ho]
            refine Zip.append (z2.mono fun v r hv => Ls.mono (Same.hide s4) hv) (z3.mono fun v r ⟨a, ea, b1, b2, b3⟩ => ?_)
            rw [ea]
            exact Ls.hide b1 b3
      · rintro σ H2 ⟨y4, y5, rfl, s3, h2⟩
        rw [zo.len, List.take_length] at h2
        refine ⟨_, rfl, _, _, _, _, _, rfl, s1.trans s3, ?_⟩
        rw [take_snoc hz, ordI_snoc]; exact h2
    · rintro σ H' ⟨l, y2, y3, y4, y5, rfl, s1, hR⟩
      rw [List.length_map, List.take_length] at hR
      exact ⟨_, rfl, q _ _ s1 hR⟩
end
end Cr
end
section
set_option linter.all false
namespace Cr
open Mu52 (Q Pt Map Device)
open Mu52Neutral (nats)
/-! ### all orders: two ways -/
theorem ordI_perm : ∀ (n : Nat) (ns : List Int), ns.length = n → ∀ r, r ∈ ordI ns ↔ r.Perm ns
  | 0, ns, h, r => by
    have : ns = [] := List.length_eq_zero_iff.mp h
    subst this
    simp [ordI]
  | n + 1, ns, h, r => by
    have hne : ns ≠ [] := fun e => by rw [e] at h; cases h
    have e := List.dropLast_concat_getLast hne
    have hl : ns.dropLast.length = n := by rw [List.length_dropLast, h]; rfl
    have ih := ordI_perm n ns.dropLast hl
    generalize ns.getLast hne = z at e
    generalize ns.dropLast = ms at e hl ih
    subst e
    rw [ordI_snoc, List.mem_flatMap]
    constructor
    · rintro ⟨o, ho, hr⟩
      have p1 := (ih o).mp ho
      obtain ⟨i, hi, rfl⟩ := List.mem_map.mp hr
      have p2 : ((o.take i ++ [z]) ++ o.drop i).Perm (z :: o) := by
        rw [List.append_assoc]
        have := List.perm_middle (a := z) (l₁ := o.take i) (l₂ := o.drop i)
        rw [List.take_append_drop] at this
        exact this
      exact (p2.trans (p1.cons z)).trans (List.perm_append_singleton z ms).symm
    · intro p
      have hz : z ∈ r := p.symm.subset (List.mem_append_right _ (List.mem_singleton.mpr rfl))
      obtain ⟨a, b, rfl⟩ := List.append_of_mem hz
      have p2 : (a ++ b).Perm ms := by
        have q1 := (List.perm_middle (a := z) (l₁ := a) (l₂ := b)).symm.trans (p.trans (List.perm_append_singleton z ms))
        exact q1.cons_inv
      refine ⟨a ++ b, (ih _).mpr p2, List.mem_map.mpr ⟨a.length, List.mem_range.mpr (by simp; omega), ?_⟩⟩
      simp
theorem ins_mem (x : Nat) : ∀ a b : List Nat, a ++ x :: b ∈ Mu52.insertAll x (a ++ b)
  | [], [] => by simp [Mu52.insertAll]
  | [], y :: b => by simp [Mu52.insertAll]
  | c :: a, b => by
    show c :: (a ++ x :: b) ∈ (x :: c :: (a ++ b)) :: (Mu52.insertAll x (a ++ b)).map fun r => c :: r
    exact List.mem_cons_of_mem _ (List.mem_map.mpr ⟨_, ins_mem x a b, rfl⟩)
theorem ins_perm (x : Nat) : ∀ (l r : List Nat), r ∈ Mu52.insertAll x l → r.Perm (x :: l)
  | [], r, h => by
    have : r = [x] := by simpa [Mu52.insertAll] using h
    rw [this]
  | y :: l, r, h => by
    rcases List.mem_cons.mp (show r ∈ (x :: y :: l) :: (Mu52.insertAll x l).map fun r => y :: r from h) with rfl | h
    · exact .rfl
    · obtain ⟨r', hr', rfl⟩ := List.mem_map.mp h
      exact ((ins_perm x l r' hr').cons y).trans (List.Perm.swap x y l)
theorem orders_perm : ∀ (l r : List Nat), r ∈ Mu52.orders l ↔ r.Perm l
  | [], r => by simp [Mu52.orders]
  | x :: l, r => by
    show r ∈ (Mu52.orders l).flatMap (Mu52.insertAll x) ↔ _
    rw [List.mem_flatMap]
    constructor
    · rintro ⟨o, ho, hr⟩
      exact (ins_perm x o r hr).trans (((orders_perm l o).mp ho).cons x)
    · intro p
      have hx : x ∈ r := p.symm.subset List.mem_cons_self
      obtain ⟨a, b, rfl⟩ := List.append_of_mem hx
      have p2 : (a ++ b).Perm l := ((List.perm_middle (a := x) (l₁ := a) (l₂ := b)).symm.trans p).cons_inv
      exact ⟨a ++ b, (orders_perm l _).mpr p2, ins_mem x a b⟩
/-! ### how many different ones -/
theorem dd_spec : ∀ (l acc : List (List Int)), acc.Nodup → (l.foldl ddStep acc).Nodup ∧ ∀ k, k ∈ l.foldl ddStep acc ↔ k ∈ acc ∨ k ∈ l
  | [], acc, h => ⟨h, fun k => by simp⟩
  | x :: l, acc, h => by
    have hn : (ddStep acc x).Nodup ∧ ∀ k, k ∈ ddStep acc x ↔ k ∈ acc ∨ k = x := by
      unfold ddStep
      split
      · rename_i hx
        refine ⟨h, fun k => ⟨.inl, fun z => z.elim id fun e => e ▸ hx⟩⟩
      · rename_i hx
        refine ⟨?_, fun k => by simp⟩
        rw [List.nodup_append]
        refine ⟨h, List.nodup_cons.mpr ⟨by simp, List.nodup_nil⟩, fun a ha b hb e => ?_⟩
        rw [List.mem_singleton] at hb
        subst hb; subst e; exact hx ha
    obtain ⟨h1, h2⟩ := dd_spec l (ddStep acc x) hn.1
    refine ⟨h1, fun k => ?_⟩
    show k ∈ l.foldl ddStep (ddStep acc x) ↔ _
    rw [h2, hn.2, List.mem_cons, or_assoc]
instance : LawfulBEq Map where
  eq_of_beq {a b} h := by rw [beqM] at h; exact of_decide_eq_true h
  rfl {a} := by rw [beqM]; exact decide_eq_true rfl
theorem nd_map {α β : Type} {f : α → β} (hf : ∀ a b, f a = f b → a = b) : ∀ {l : List α}, l.Nodup → (l.map f).Nodup
  | [], _ => List.nodup_nil
  | a :: l, h => by
    obtain ⟨h1, h2⟩ := List.nodup_cons.mp h
    rw [List.map_cons, List.nodup_cons]
    refine ⟨fun z => ?_, nd_map hf h2⟩
    obtain ⟨b, hb, e⟩ := List.mem_map.mp z
    exact h1 (hf _ _ e ▸ hb)
theorem erase_nd {α : Type} [BEq α] [LawfulBEq α] : ∀ (n : Nat) (l : List α), l.length ≤ n → l.eraseDups.Nodup ∧ ∀ x, x ∈ l.eraseDups ↔ x ∈ l
  | _, [], _ => ⟨by simp, fun x => by simp⟩
  | 0, a :: l, h => by simp at h
  | n + 1, a :: l, h => by
    rw [List.eraseDups_cons]
    have hl : (l.filter fun b => !b == a).length ≤ n := Nat.le_trans (List.length_filter_le _ _) (by simp at h; omega)
    obtain ⟨h1, h2⟩ := erase_nd n _ hl
    refine ⟨List.nodup_cons.mpr ⟨fun z => ?_, h1⟩, fun x => ?_⟩
    · have := (List.mem_filter.mp ((h2 a).mp z)).2
      simp at this
    · rw [List.mem_cons, h2, List.mem_filter, List.mem_cons]
      constructor
      · rintro (e | ⟨e, _⟩)
        · exact .inl e
        · exact .inr e
      · rintro (e | e)
        · exact .inl e
        · by_cases hx : x = a
          · exact .inl hx
          · exact .inr ⟨e, by simpa using hx⟩
theorem nums_nats : ∀ {ns : List Int}, (∀ z ∈ ns, 0 ≤ z) → Mu52.nums (nats ns) = ns
  | [], _ => rfl
  | z :: ns, h => by
    show ((z.toNat : Nat) : Int) :: Mu52.nums (nats ns) = z :: ns
    rw [nums_nats fun y hy => h y (List.mem_cons_of_mem _ hy), Int.toNat_of_nonneg (h z List.mem_cons_self)]
theorem nats_nums : ∀ l : List Nat, nats (Mu52.nums l) = l
  | [] => rfl
  | n :: l => by
    show ((n : Int)).toNat :: nats (Mu52.nums l) = n :: l
    rw [nats_nums l]; rfl
theorem count_eq {es : List Device} {ns : List Int} (h : ∀ z ∈ ns, 0 ≤ z) : (dd ((ordI ns).map fun r => toldM (rowM es r))).length = Mu52.unlike es (nats ns) := by
  unfold Mu52.unlike
  obtain ⟨d1, d2⟩ := dd_spec ((ordI ns).map fun r => toldM (rowM es r)) [] List.nodup_nil
  obtain ⟨e1, e2⟩ := erase_nd _ ((Mu52.orders (nats ns)).map fun r => Mu52.row (Mu52.pick es r)) (Nat.le_refl _)
  have e3 := nd_map (f := toldM) (fun a b => toldM_inj) e1
  have same : ∀ k, k ∈ dd ((ordI ns).map fun r => toldM (rowM es r)) ↔ k ∈ (((Mu52.orders (nats ns)).map fun r => Mu52.row (Mu52.pick es r)).eraseDups).map toldM := fun k => by
    have hd : k ∈ dd ((ordI ns).map fun r => toldM (rowM es r)) ↔ k ∈ (ordI ns).map fun r => toldM (rowM es r) := by
      have := d2 k
      unfold dd
      rw [this]; simp
    rw [hd, List.mem_map, List.mem_map]
    constructor
    · rintro ⟨r, hr, rfl⟩
      refine ⟨rowM es r, (e2 _).mpr (List.mem_map.mpr ⟨nats r, (orders_perm _ _).mpr ?_, rfl⟩), rfl⟩
      exact ((ordI_perm _ ns rfl r).mp hr).map _
    · rintro ⟨m, hm, rfl⟩
      obtain ⟨l, hl, rfl⟩ := List.mem_map.mp ((e2 _).mp hm)
      have p := (orders_perm _ _).mp hl
      refine ⟨Mu52.nums l, (ordI_perm _ ns rfl _).mpr ?_, ?_⟩
      · have := p.map (fun n : Nat => (n : Int))
        have e : List.map (fun n : Nat => (n : Int)) (nats ns) = ns := nums_nats h
        rw [e] at this
        exact this
      · unfold rowM
        rw [nats_nums]
  have a1 := len_le d1 fun k hk => (same k).mp hk
  have a2 := len_le e3 fun k hk => (same k).mpr hk
  rw [List.length_map] at a1 a2
  exact Nat.le_antisymm a1 a2
end Cr
end
section
set_option Elab.async false
set_option linter.all false
set_option maxRecDepth 100000
set_option maxHeartbeats 2000000
namespace Cr
open PySem PySem.Spec PyProof.Rows L2
open Mu52 (Q Pt Map frac Device)
open Mu52Neutral (nats)
abbrev sOrdA : Stmt := top 63
abbrev sOne : Stmt := top 67
theorem scOrdA : FnScope ["devices", "row", "order"] ["devices", "row"] (defScope sOrdA) := ⟨rfl, rfl, rfl, by decide +kernel, rfl, by decide +kernel, by decide +kernel⟩
theorem scOne : FnScope ["devices", "call", "row", "motion"] ["devices", "call"] (defScope sOne) := ⟨rfl, rfl, rfl, by decide +kernel, rfl, by decide +kernel, by decide +kernel⟩
def rTup (K : PySem.W.Frag) : List V → Hp → VK → Prop := fun xs H Q => ∃ p ys, xs = [.ref p] ∧ ((SqL K H p ys ∧ ∀ l, H l = none → Q (.ref l) (upd H l (.tup ys))) ∨ (SqT K H p ys ∧ Q (.ref p) H))
theorem call_tupK {X : Cx} {K : PySem.W.Frag} (h : X.K = K) : CallR X (.type "tuple") (rTup K) := by
  subst h; exact call_tuple_of
section
variable {P : Program} {w : World} {K : PySem.W.Frag} {mg : Str → Option Value} {base : Heap} {c : Cs}
def spOrdA (c : Cs) (K : PySem.W.Frag) : Sp := fun vs H Q _ => ∃ d x es ns, vs = [.ref d, x] ∧ Devs c K H d es ∧ Ls H x ns ∧ (∀ e ∈ es, OkD e) ∧ InR es.length ns ∧ ns.length ≤ 5 ∧ ∀ v H', Same H H' → LsN H H' v [(Mu52.unlike es (nats ns) : Int)] → Q v H'
theorem ok_ordA (F : Txt K mg "answer_orders" sOrdA ["devices", "row"]) (hlen : mg "len" = none) (hset : mg "set" = none) (htup : mg "tuple" = none) (GT : Def P w K mg base 2 "told_motion" ["motion"] (spToldM c.mo K)) (GR : Def P w K mg base 7 "row_motion" ["devices", "row"] (spRowM c K))
    (GA : Def P w K mg base 1 "all_orders" ["row"] spAllO) : Def P w K mg base 8 "answer_orders" ["devices", "row"] (spOrdA c K) := by
  refine F.ok scOrdA (fun vs H Q E h => ?_) (fun f cdv A outer s H vs Q E hr h => ?_)
  · obtain ⟨d, x, es, ns, rfl, _⟩ := h
    rfl
  · obtain ⟨d, x, es, ns, rfl, hD, hX, hes, hin, h5, q⟩ := h
    have hr1 : Room 1 _ := hr.mono (by decide)
    have hr2 : Room 2 _ := hr.mono (by decide)
    have hu := hr.units
    refine ⟨_, pss_one (ps_ret (pe_lst (pa_cons (pe_callB call_lenS (by rfl) hlen PySem.boot_len (pa_cons (pe_callTy (call_setT rfl (Nat.lt_of_le_of_lt (Nat.add_le_add_left (by decide : 10 ≤ 64) _) hu)) (by rfl) hset PyProof.Rows.boot_set
      (pa_cons (pe_lc (own := [("order", 2)]) rfl scOrdA.nd (pi_list (pe_def GA hr1 rfl (pa_cons (pv 1) pa_nil))) (blkOk_by (N := ["devices", "row", "order"]) (sc := defScope sOrdA) (by decide +kernel)) (fun _ _ _ _ _ => pg_name (i := 2) scOrdA.nd rfl (Or.inl rfl)) (fun _ _ _ _ _ => pts_nil)
        (fun _ _ _ _ _ => pe_callTy (call_tupK (K := K) rfl) (by rfl) htup PyProof.Rows.boot_tuple (pa_cons (pe_def GT hr2 rfl (pa_cons (pe_def GR hr rfl (pa_cons (pv 0) (pa_cons (pv 2) pa_nil))) pa_nil)) pa_nil))) pa_nil)) pa_nil)) pa_nil))), ?_⟩
    refine ⟨_, rfl, _, _, rfl, hX, h5, fun l H1 s1 hR => ?_⟩
    obtain ⟨vo, hl, zo⟩ := LsV.read moLs hR
    obtain ⟨ol1, ol2⟩ := ordI_len ns.length ns rfl
    have hol : (ordI ns).length ≤ 120 := by rw [ol1]; exact fct_le h5
    refine ⟨l, rfl, ⟨_, SqL.of hl⟩, fun D hD0 => ?_⟩
    have s2 := Same.new (o := .lst []) hD0
    refine lc_list (xs := vo) (fun i H' => Same H1 H' ∧ ∃ vs, H' D = some (.lst vs) ∧ Zip (fun v k => ∃ b, v = .ref b ∧ SqT K (hide D H') b (k.map V.int)) vs (((ordI ns).map fun r => toldM (rowM es r)).take i)) ⟨s2, [], upd_same, Zip.nil⟩ (fun i H' _ h => SqL.of (h.1 _ _ hl)) ?_ ?_
    · rintro i y H2 hy ⟨s3, vs, h2, z2⟩
      obtain ⟨r, hr0, hv⟩ := zo.item hy
      have hrm := List.mem_of_getElem? hr0
      have hrp := (ordI_perm _ ns rfl r).mp hrm
      have hrin : InR es.length r := fun z hz => hin z (hrp.subset hz)
      have s13 := s1.trans s3
      refine ⟨rfl, _, rfl, _, rfl, _, _, _, _, rfl, hD.mono moDev s13, hv.mono s3, hes, hrin, by rw [ol2 r hrm]; omega, fun v3 H3 s4 m3 => ?_⟩
      refine ⟨_, _, rfl, m3, fun v4 H4 s5 l4 => ?_⟩
      obtain ⟨p4, rfl, _, h4⟩ := l4
      refine ⟨p4, _, rfl, .inl ⟨SqL.of h4, fun b hb => ?_⟩⟩
      have s6 := Same.new (o := .tup ((toldM (rowM es r)).map V.int)) hb
      have s36 := (s4.trans s5).trans s6
      refine ⟨vs, s36 _ _ h2, ?_, fun a o e => ?_, vs ++ [.ref b], upd_same, ?_⟩
      · rw [z2.len, List.length_take, List.length_map]
        exact small1000 (by omega)
      · rw [upd_ne (ne_of_none e hD0)]; exact s36 _ _ (s3 _ _ e)
      · rw [take_snoc (x := toldM (rowM es r)) (by rw [List.getElem?_map, hr0]; rfl), hide_upd]
        refine Zip.snoc (z2.mono fun v k ⟨b', e1, e2⟩ => ⟨b', e1, Same.tup (Same.hide s36) e2⟩) ⟨b, rfl, SqT.hide (s36 _ _ h2) (SqT.of upd_same)⟩
    · rintro H2 ⟨s3, vs, h2, z2⟩
      rw [zo.len, List.take_of_length_le (by rw [List.length_map]; exact Nat.le_refl _)] at z2
      refine ⟨D, vs, (ordI ns).map fun r => toldM (rowM es r), rfl, SqL.of h2, z2.mono fun v k ⟨b, e1, e2⟩ => ⟨b, e1, Same.tup hide_same e2⟩, by rw [List.length_map]; omega, fun a ha => ?_⟩
      have s4 := Same.new (o := SetN a (dd ((ordI ns).map fun r => toldM (rowM es r))).length) ha
      have hdl := dd_len ((ordI ns).map fun r => toldM (rowM es r)) []
      refine ⟨a, _, rfl, upd_same, ?_, (by show 1 ≤ sizeLine; decide), fun l5 h5 => ?_⟩
      · unfold dd
        rw [List.length_map, List.length_nil] at hdl
        omega
      · refine q _ _ (((s1.trans s3).trans s4).trans (Same.new h5)) ⟨l5, rfl, ((s1.trans s3).trans s4).free h5, ?_⟩
        rw [upd_same, count_eq fun z hz => (hin z hz).1]; rfl
/-! ### answer_one_row -/
def calls1 : List Int := [2, 3, 4, 6, 8, 10]
/-- what is answered of a call with one row -/
def oneA (es : List Device) (p : Int) (nums ns : List Int) : List Int :=
  if p = 8 then [(Mu52.unlike es (nats ns) : Int)] else if p = 2 then toldM (rowM es ns) else if p = 3 then (match nums with | [x, y] => 0 :: Mu52.toldPt (Mu52.at_ (rowM es ns) (Mu52.point x y)) | _ => [])
  else if p = 4 then toldS (Mu52.stays (rowM es ns)) else if p = 6 then toldF (foundM es (rowM es ns) (want (toldM Mu52.stay)))
  else (match nums with | [x, y, x', y'] => Mu52.told (sqM (Mu52.at_ (rowM es ns) (Mu52.point x y)) (Mu52.at_ (rowM es ns) (Mu52.point x' y'))) | _ => [])
def spOne (c : Cs) (K : PySem.W.Frag) : Sp := fun vs H Q _ => ∃ d es a dx p vn nums r ns e, vs = [.ref d, .ref a] ∧ Devs c K H d es ∧ H a = some (.ins c.call dx (calF (.int p) vn (.ref r) e)) ∧ Ls H vn nums ∧ Rows H r [ns] ∧ (∀ e ∈ es, OkD e) ∧ es.length ≤ 6 ∧ InR es.length ns ∧ ns.length ≤ 5 ∧
  (p = 3 → ∃ x y, nums = [x, y] ∧ x.natAbs < 2 ^ 7 ∧ y.natAbs < 2 ^ 7) ∧ (p ≠ 8 → p ≠ 2 → p ≠ 3 → p ≠ 4 → p ≠ 6 → ∃ x y x' y', nums = [x, y, x', y'] ∧ x.natAbs < 2 ^ 7 ∧ y.natAbs < 2 ^ 7 ∧ x'.natAbs < 2 ^ 7 ∧ y'.natAbs < 2 ^ 7) ∧
  ∀ v H', Same H H' → LsN H H' v (oneA es p nums ns) → Q v H'
theorem ok_one (F : Txt K mg "answer_one_row" sOne ["devices", "call"]) (TC : ClsT K mg "Call" c.call calNames) (g8 : GInt mg "ORDERS" 8) (g2 : GInt mg "ROW" 2) (g3 : GInt mg "COPY" 3) (g4 : GInt mg "STAYS" 4) (g6 : GInt mg "UNDO" 6)
    (GO : Def P w K mg base 8 "answer_orders" ["devices", "row"] (spOrdA c K)) (GR : Def P w K mg base 7 "row_motion" ["devices", "row"] (spRowM c K)) (GT : Def P w K mg base 2 "told_motion" ["motion"] (spToldM c.mo K)) (GP : Def P w K mg base 1 "told_point" ["point"] (spToldP K))
    (GM : Def P w K mg base 5 "moved" ["motion", "point"] (spMoved c.mo K)) (GW : Def P w K mg base 3 "whole_point" ["right", "up"] (spWhole K)) (GS : Def P w K mg base 5 "told_staying" ["motion"] (spStay c.mo K)) (GF : Def P w K mg base 8 "answer_found_row" ["devices", "start", "wanted"] (spFound c K))
    (GN : Def P w K mg base 3 "no_motion" [] (spNoMo c.mo K)) (GA : Def P w K mg base 6 "answer_far" ["motion", "numbers"] (spFar c K)) : Def P w K mg base 9 "answer_one_row" ["devices", "call"] (spOne c K) := by
  refine F.ok scOne (fun vs H Q E h => ?_) (fun f cdv A outer s H vs Q E hr h => ?_)
  · obtain ⟨d, es, a, dx, p, vn, nums, r, ns, e, rfl, _⟩ := h
    rfl
  · obtain ⟨d, es, a, dx, p, vn, nums, r, ns, e, rfl, hD, ha, hN, hR, hes, he6, hin, h5, hc3, hc10, q⟩ := h
    obtain ⟨vr, hr0, zr⟩ := LsV.read moLs hR
    obtain ⟨v0, hv0, hrow⟩ := zr.item' (i := 0) (x := ns) rfl
    obtain ⟨pn, rfl, hpn⟩ := id hN
    have hr1 : Room 1 _ := hr.mono (by decide)
    have hr2 : Room 2 _ := hr.mono (by decide)
    have hr3 : Room 3 _ := hr.mono (by decide)
    have hr5 : Room 5 _ := hr.mono (by decide)
    have hr6 : Room 6 _ := hr.mono (by decide)
    have hr7 : Room 7 _ := hr.mono (by decide)
    refine ⟨_, pss_cons (ps_set (i := 2) scOne.nd rfl (Or.inl rfl) (pe_ix ix_list (pe_fld (pv 1) rfl) pe_int (fun _ _ => rfl)))
      (pss_cons (ps_if (pt_cmpR op_eq (pe_fld (pv 1) rfl) (pe_gint g8 rfl) (nomark _)) (pss_one (ps_ret (pe_def GO hr rfl (pa_cons (pv 0) (pa_cons (pv 2) pa_nil))))) pss_nil)
      (pss_cons (ps_set (i := 3) scOne.nd rfl (Or.inl rfl) (pe_def GR hr7 rfl (pa_cons (pv 0) (pa_cons (pv 2) pa_nil))))
      (pss_cons (ps_if (pt_cmpR op_eq (pe_fld (pv 1) rfl) (pe_gint g2 rfl) (nomark _)) (pss_one (ps_ret (pe_def GT hr2 rfl (pa_cons (pv 3) pa_nil)))) pss_nil)
      (pss_cons (ps_if (pt_cmpR op_eq (pe_fld (pv 1) rfl) (pe_gint g3 rfl) (nomark _)) (pss_one (ps_ret (pe_op op_cat (pe_lst (pa_cons pe_int pa_nil)) (pe_def GP hr1 rfl (pa_cons (pe_def GM hr5 rfl (pa_cons (pv 3) (pa_cons (pe_def GW hr3 rfl (pa_cons (pe_ix ix_list (pe_fld (pv 1) rfl) pe_int (fun _ _ => rfl)) (pa_cons (pe_ix ix_list (pe_fld (pv 1) rfl) pe_int (fun _ _ => rfl)) pa_nil))) pa_nil))) pa_nil))))) pss_nil)
      (pss_cons (ps_if (pt_cmpR op_eq (pe_fld (pv 1) rfl) (pe_gint g4 rfl) (nomark _)) (pss_one (ps_ret (pe_def GS hr5 rfl (pa_cons (pv 3) pa_nil)))) pss_nil)
      (pss_cons (ps_if (pt_cmpR op_eq (pe_fld (pv 1) rfl) (pe_gint g6 rfl) (nomark _)) (pss_one (ps_ret (pe_def GF hr rfl (pa_cons (pv 0) (pa_cons (pv 3) (pa_cons (pe_def GT hr2 rfl (pa_cons (pe_def0 GN hr3 rfl) pa_nil)) pa_nil)))))) pss_nil)
      (pss_one (ps_ret (pe_def GA hr6 rfl (pa_cons (pv 3) (pa_cons (pe_fld (pv 1) rfl) pa_nil))))))))))), ?_⟩
    refine ⟨_, rfl, a, c.call, dx, _, _, rfl, ha, TC.cl, TC.na _ (by decide +kernel), calF_rows _ _ _ _, r, _, _, _, rfl, rfl, SqL.of hr0, at_of (j := 0) rfl hv0, ?_⟩
    refine ⟨_, rfl, a, c.call, dx, _, _, rfl, ha, TC.cl, TC.na _ (by decide +kernel), calF_number _ _ _ _, rfl, _, rfl, ite2 (fun hc => ?_) (fun hc => ?_)⟩
    · have hp : p = 8 := V.int.inj (of_decide_eq_true hc)
      refine ⟨_, rfl, _, rfl, _, _, _, _, rfl, hD, hrow, hes, hin, h5, fun v H' s1 l1 => q _ _ s1 ?_⟩
      unfold oneA
      rw [if_pos hp]; exact l1
    · have hp8 : ¬ p = 8 := fun z => hc (decide_eq_true (by rw [z]))
      refine ⟨_, rfl, _, rfl, _, _, _, _, rfl, hD, hrow, hes, hin, by omega, fun vm H1 s1 m1 => ?_⟩
      have om : OkM 300 (rowM es ns) := (rowM_ok hes).mono (by omega)
      have ha1 := s1 _ _ ha
      refine ⟨_, rfl, a, c.call, dx, _, _, rfl, ha1, TC.cl, TC.na _ (by decide +kernel), calF_number _ _ _ _, rfl, _, rfl, ite2 (fun hc => ?_) (fun hc => ?_)⟩
      · have hp : p = 2 := V.int.inj (of_decide_eq_true hc)
        refine ⟨_, rfl, _, _, rfl, m1, fun v H' s2 l1 => q _ _ (s1.trans s2) ?_⟩
        unfold oneA
        rw [if_neg hp8, if_pos hp]; exact l1.of s1
      · have hp2 : ¬ p = 2 := fun z => hc (decide_eq_true (by rw [z]))
        refine ⟨_, rfl, a, c.call, dx, _, _, rfl, ha1, TC.cl, TC.na _ (by decide +kernel), calF_number _ _ _ _, rfl, _, rfl, ite2 (fun hc => ?_) (fun hc => ?_)⟩
        · have hp : p = 3 := V.int.inj (of_decide_eq_true hc)
          obtain ⟨x, y, rfl, hx, hy⟩ := hc3 hp
          have op := point_ok hx hy
          refine ⟨(by show 1 ≤ sizeLine; decide), fun l0 h0 => ?_⟩
          have s2 := Same.new (o := .lst [.int 0]) h0
          have s12 := s1.trans s2
          refine ⟨_, rfl, _, rfl, a, c.call, dx, _, _, rfl, s12 _ _ ha, TC.cl, TC.na _ (by decide +kernel), calF_numbers _ _ _ _, pn, _, _, _, rfl, rfl, SqL.of (s12 _ _ hpn), rfl, _, rfl, a, c.call, dx, _, _, rfl, s12 _ _ ha, TC.cl, TC.na _ (by decide +kernel), calF_numbers _ _ _ _, pn, _, _, _, rfl, rfl, SqL.of (s12 _ _ hpn), rfl, _, _, rfl, fun v3 H3 s3 f3 => ?_⟩
          refine ⟨_, _, _, _, rfl, m1.mono (s2.trans s3), f3, om.mono (by decide), op.mono (by decide), fun v4 H4 s4 f4 => ?_⟩
          refine ⟨_, _, rfl, f4, fun v5 H5 s5 l5 => ?_⟩
          obtain ⟨p5, rfl, _, h5'⟩ := l5
          refine ⟨l0, p5, _, _, rfl, rfl, s5 _ _ (s4 _ _ (s3 _ _ upd_same)), h5', (by show 5 ≤ sizeLine; decide), fun l6 h6 => ?_⟩
          refine q _ _ ((((s12.trans s3).trans s4).trans s5).trans (Same.new h6)) ⟨l6, rfl, (((s12.trans s3).trans s4).trans s5).free h6, ?_⟩
          unfold oneA
          rw [upd_same, if_neg hp8, if_neg hp2, if_pos hp]; rfl
        · have hp3 : ¬ p = 3 := fun z => hc (decide_eq_true (by rw [z]))
          refine ⟨_, rfl, a, c.call, dx, _, _, rfl, ha1, TC.cl, TC.na _ (by decide +kernel), calF_number _ _ _ _, rfl, _, rfl, ite2 (fun hc => ?_) (fun hc => ?_)⟩
          · have hp : p = 4 := V.int.inj (of_decide_eq_true hc)
            refine ⟨_, rfl, _, _, rfl, m1, om.mono (by decide), fun v H' s2 l1 => q _ _ (s1.trans s2) ?_⟩
            unfold oneA
            rw [if_neg hp8, if_neg hp2, if_neg hp3, if_pos hp]; exact l1.of s1
          · have hp4 : ¬ p = 4 := fun z => hc (decide_eq_true (by rw [z]))
            refine ⟨_, rfl, a, c.call, dx, _, _, rfl, ha1, TC.cl, TC.na _ (by decide +kernel), calF_number _ _ _ _, rfl, _, rfl, ite2 (fun hc => ?_) (fun hc => ?_)⟩
            · have hp : p = 6 := V.int.inj (of_decide_eq_true hc)
              refine ⟨_, rfl, _, rfl, rfl, fun v2 H2 s2 m2 => ?_⟩
              refine ⟨_, _, rfl, m2, fun v3 H3 s3 l3 => ?_⟩
              have s23 := s2.trans s3
              refine ⟨_, _, _, _, _, _, rfl, hD.mono moDev (s1.trans s23), m1.mono s23, l3.ls, hes, he6, om.mono (by decide), by decide, fun v4 H4 s4 l4 => q _ _ ((s1.trans s23).trans s4) ?_⟩
              unfold oneA
              rw [if_neg hp8, if_neg hp2, if_neg hp3, if_neg hp4, if_pos hp]; exact l4.of (s1.trans s23)
            · have hp6 : ¬ p = 6 := fun z => hc (decide_eq_true (by rw [z]))
              obtain ⟨x, y, x', y', rfl, b1, b2, b3, b4⟩ := hc10 hp8 hp2 hp3 hp4 hp6
              refine ⟨_, rfl, _, rfl, a, c.call, dx, _, _, rfl, ha1, TC.cl, TC.na _ (by decide +kernel), calF_numbers _ _ _ _, _, _, _, _, _, _, _, rfl, m1, hN.mono s1, om, ⟨b1, b2, b3, b4⟩, fun v2 H2 s2 l2 => q _ _ (s1.trans s2) ?_⟩
              unfold oneA
              rw [if_neg hp8, if_neg hp2, if_neg hp3, if_neg hp4, if_neg hp6]; exact l2.of s1
end
end Cr
end
section
set_option Elab.async false
set_option linter.all false
set_option maxRecDepth 100000
set_option maxHeartbeats 2000000
namespace Cr
open PySem PySem.Spec PyProof.Rows L2
open Mu52 (Q Pt Map frac Device)
open Mu52Neutral (nats)
abbrev sRowsA : Stmt := top 68
abbrev sInW : Stmt := top 69
abbrev sAns1 : Stmt := top 70
abbrev sAnsA : Stmt := top 71
theorem scRowsA : FnScope ["devices", "call", "row", "number"] ["devices", "call"] (defScope sRowsA) := ⟨rfl, rfl, rfl, by decide +kernel, rfl, by decide +kernel, by decide +kernel⟩
theorem scInW : FnScope ["devices", "call"] ["devices", "call"] (defScope sInW) := ⟨rfl, rfl, rfl, by decide +kernel, rfl, by decide +kernel, by decide +kernel⟩
theorem scAns1 : FnScope ["workshop", "call"] ["workshop", "call"] (defScope sAns1) := ⟨rfl, rfl, rfl, by decide +kernel, rfl, by decide +kernel, by decide +kernel⟩
theorem scAnsA : FnScope ["calls", "workshop", "told", "start", "call", "numbers"] ["calls"] (defScope sAnsA) := ⟨rfl, rfl, rfl, by decide +kernel, rfl, by decide +kernel, by decide +kernel⟩
section
variable {P : Program} {w : World} {K : PySem.W.Frag} {mg : Str → Option Value} {base : Heap} {c : Cs}
def rowsA (es : List Device) (p : Int) (nums : List Int) (rows : List (List Int)) : List Int :=
  if rows.all (isRowB es.length) = false then [-2] else if nums.all Mu52.near = false then [-1] else
  match rows with
  | [r] => oneA es p nums r
  | [r, r'] => twoA p (rowM es r) (rowM es r')
  | _ => []
/-- a call that rows are handed to -/
structure RowCall (p : Int) (nums : List Int) (rows : List (List Int)) : Prop where
  rws : (∃ r, rows = [r]) ∨ ∃ r r', rows = [r, r']
  nn : ∀ r ∈ rows, r.length ≤ 8 ∧ ∀ z ∈ r, 0 ≤ z
  few : nums.length ≤ 6
  c3 : p = 3 → ∃ x y, nums = [x, y]
  c10 : (∃ r, rows = [r]) → p ≠ 8 → p ≠ 2 → p ≠ 3 → p ≠ 4 → p ≠ 6 → ∃ x y x' y', nums = [x, y, x', y']
theorem isRow_in {n : Nat} {ns : List Int} (h : isRowB n ns = true) (h0 : ∀ z ∈ ns, 0 ≤ z) : InR n ns ∧ ns.length ≤ 5 := by
  unfold isRowB at h
  rw [Bool.and_eq_true, List.all_eq_true] at h
  exact ⟨fun z hz => ⟨h0 z hz, of_decide_eq_true (h.2 z hz)⟩, of_decide_eq_true h.1⟩
def spRowsA (c : Cs) (K : PySem.W.Frag) : Sp := fun vs H Q _ => ∃ d es a dx p vn nums r rows e, vs = [.ref d, .ref a] ∧ Devs c K H d es ∧ H a = some (.ins c.call dx (calF (.int p) vn (.ref r) e)) ∧ Ls H vn nums ∧ Rows H r rows ∧ (∀ e ∈ es, OkD e) ∧ es.length ≤ 6 ∧ RowCall p nums rows ∧
  ∀ v H', Same H H' → LsN H H' v (rowsA es p nums rows) → Q v H'
theorem ok_rowsA (F : Txt K mg "answer_rows" sRowsA ["devices", "call"]) (TC : ClsT K mg "Call" c.call calNames) (hlen : mg "len" = none) (hall : mg "all" = none) (gr : GInt mg "WRONG_ROW" (-2)) (gn : GInt mg "WRONG_NUMBER" (-1)) (GI : Def P w K mg base 1 "is_row" ["devices", "row"] (spIsRow c K))
    (GS : Def P w K mg base 1 "is_on_sheet" ["number"] spSheet) (G2 : Def P w K mg base 8 "answer_two_rows" ["number", "first", "second"] (spTwo c K)) (GR : Def P w K mg base 7 "row_motion" ["devices", "row"] (spRowM c K)) (G1 : Def P w K mg base 9 "answer_one_row" ["devices", "call"] (spOne c K)) :
    Def P w K mg base 10 "answer_rows" ["devices", "call"] (spRowsA c K) := by
  refine F.ok scRowsA (fun vs H Q E h => ?_) (fun f cdv A outer s H vs Q E hr h => ?_)
  · obtain ⟨d, es, a, dx, p, vn, nums, r, rows, e, rfl, _⟩ := h
    rfl
  · obtain ⟨d, es, a, dx, p, vn, nums, r, rows, e, rfl, hD, ha, hN, hR, hes, he6, rc, q⟩ := h
    obtain ⟨vr, hr0, zr⟩ := LsV.read moLs hR
    obtain ⟨pn, rfl, hpn⟩ := id hN
    have hr1 : Room 1 _ := hr.mono (by decide)
    have hr7 : Room 7 _ := hr.mono (by decide)
    have hr8 : Room 8 _ := hr.mono (by decide)
    have hrl : rows.length ≤ 2 := by
      rcases rc.rws with ⟨_, e⟩ | ⟨_, _, e⟩ <;> rw [e] <;> simp
    refine ⟨_, pss_cons (ps_if (pt_not (pt_val (pe_callB (cr_all rfl) (by rfl) hall PyProof.Rows.boot_all
        (pa_cons (pe_lc (own := [("row", 2)]) rfl scRowsA.nd (pi_list (pe_fld (pv 1) rfl)) (blkOk_by (N := ["devices", "call", "row", "number"]) (sc := defScope sRowsA) (by decide +kernel)) (fun _ _ _ _ _ => pg_name (i := 2) scRowsA.nd rfl (Or.inl rfl)) (fun _ _ _ _ _ => pts_nil)
          (fun _ _ _ _ _ => pe_def GI hr1 rfl (pa_cons (pv 0) (pa_cons (pv 2) pa_nil)))) pa_nil)))) (pss_one (ps_ret (pe_lst (pa_cons (pe_gint gr rfl) pa_nil)))) pss_nil)
      (pss_cons (ps_if (pt_not (pt_val (pe_callB (cr_all rfl) (by rfl) hall PyProof.Rows.boot_all
        (pa_cons (pe_lc (own := [("number", 3)]) rfl scRowsA.nd (pi_list (pe_fld (pv 1) rfl)) (blkOk_by (N := ["devices", "call", "row", "number"]) (sc := defScope sRowsA) (by decide +kernel)) (fun _ _ _ _ _ => pg_name (i := 3) scRowsA.nd rfl (Or.inl rfl)) (fun _ _ _ _ _ => pts_nil)
          (fun _ _ _ _ _ => pe_def GS hr1 rfl (pa_cons (pv 3) pa_nil))) pa_nil)))) (pss_one (ps_ret (pe_lst (pa_cons (pe_gint gn rfl) pa_nil)))) pss_nil)
      (pss_cons (ps_if (pt_cmpR op_eq (pe_callB call_len_seq (by rfl) hlen PySem.boot_len (pa_cons (pe_fld (pv 1) rfl) pa_nil)) pe_int (nomark _))
        (pss_one (ps_ret (pe_def G2 hr8 rfl (pa_cons (pe_fld (pv 1) rfl) (pa_cons (pe_def GR hr7 rfl (pa_cons (pv 0) (pa_cons (pe_ix ix_list (pe_fld (pv 1) rfl) pe_int (fun _ _ => rfl)) pa_nil))) (pa_cons (pe_def GR hr7 rfl (pa_cons (pv 0) (pa_cons (pe_ix ix_list (pe_fld (pv 1) rfl) pe_int (fun _ _ => rfl)) pa_nil))) pa_nil)))))) pss_nil)
      (pss_one (ps_ret (pe_def G1 hr rfl (pa_cons (pv 0) (pa_cons (pv 1) pa_nil))))))), ?_⟩
    refine ⟨_, rfl, a, c.call, dx, _, _, rfl, ha, TC.cl, TC.na _ (by decide +kernel), calF_rows _ _ _ _, r, rfl, ⟨_, SqL.of hr0⟩, fun D hD0 => ?_⟩
    have s0 := Same.new (o := .lst []) hD0
    refine lc_list (xs := vr) (fun i H' => Same H H' ∧ H' D = some (.lst (((rows.take i).map (isRowB es.length)).map V.bl))) ⟨s0, upd_same⟩ (fun i H' _ h => SqL.of (h.1 _ _ hr0)) ?_ ?_
    · rintro i y H1 hy ⟨s1, h1⟩
      obtain ⟨ns, hns, hv⟩ := zr.item hy
      have hnn := rc.nn ns (List.mem_of_getElem? hns)
      refine ⟨rfl, _, rfl, _, rfl, _, _, _, _, rfl, hD.mono moDev s1, hv.mono s1, by omega, fun H2 s2 => ?_⟩
      refine ⟨_, s2 _ _ h1, ?_, fun b o e => ?_, ?_⟩
      · rw [List.length_map, List.length_map, List.length_take]
        exact small1000 (by omega)
      · rw [upd_ne (ne_of_none e hD0)]; exact s2 _ _ (s1 b o e)
      · rw [upd_same, take_snoc hns, List.map_append, List.map_append]; rfl
    · rintro H1 ⟨s1, h1⟩
      rw [zr.len, List.take_length] at h1
      refine ⟨D, _, rfl, SqL.of h1, _, rfl, ?_⟩
      rw [List.all_map]
      refine ite2 (fun hc => ?_) (fun hc => ?_)
      · have hb : rows.all (isRowB es.length) = false := by rwa [Bool.not_eq_true'] at hc
        refine ⟨(by show 1 ≤ sizeLine; decide), fun l h2 => ?_⟩
        refine q _ _ (s1.trans (Same.new h2)) ⟨l, rfl, s1.free h2, ?_⟩
        unfold rowsA
        rw [upd_same, if_pos hb]; rfl
      · have hb : rows.all (isRowB es.length) = true := by rw [Bool.not_eq_true', Bool.not_eq_false] at hc; exact hc
        have hnotb : ¬ rows.all (isRowB es.length) = false := by rw [hb]; decide
        refine ⟨_, rfl, a, c.call, dx, _, _, rfl, s1 _ _ ha, TC.cl, TC.na _ (by decide +kernel), calF_numbers _ _ _ _, pn, rfl, ⟨_, SqL.of (s1 _ _ hpn)⟩, fun D2 hD2 => ?_⟩
        have s2 := Same.new (o := .lst []) hD2
        refine lc_list (xs := nums.map V.int) (fun i H' => Same H1 H' ∧ H' D2 = some (.lst (((nums.take i).map Mu52.near).map V.bl))) ⟨s2, upd_same⟩ (fun i H' _ h => SqL.of (h.1 _ _ (s1 _ _ hpn))) ?_ ?_
        · rintro i y H2 hy ⟨s3, h3⟩
          obtain ⟨z, hz, rfl⟩ := map_get hy
          refine ⟨rfl, _, rfl, _, rfl, ?_⟩
          refine ⟨_, h3, ?_, fun b o e => ?_, ?_⟩
          · rw [List.length_map, List.length_map, List.length_take]
            have := rc.few
            exact small1000 (by omega)
          · rw [upd_ne (ne_of_none e hD2)]; exact s3 b o e
          · rw [upd_same, take_snoc hz, List.map_append, List.map_append]; rfl
        · rintro H2 ⟨s3, h3⟩
          rw [List.length_map, List.take_length] at h3
          refine ⟨D2, _, rfl, SqL.of h3, _, rfl, ?_⟩
          rw [List.all_map]
          have s13 := s1.trans s3
          refine ite2 (fun hc2 => ?_) (fun hc2 => ?_)
          · have hn : nums.all Mu52.near = false := by rwa [Bool.not_eq_true'] at hc2
            refine ⟨(by show 1 ≤ sizeLine; decide), fun l h4 => ?_⟩
            refine q _ _ (s13.trans (Same.new h4)) ⟨l, rfl, s13.free h4, ?_⟩
            unfold rowsA
            rw [upd_same, if_neg hnotb, if_pos hn]; rfl
          · have hn : nums.all Mu52.near = true := by rw [Bool.not_eq_true', Bool.not_eq_false] at hc2; exact hc2
            have hnotn : ¬ nums.all Mu52.near = false := by rw [hn]; decide
            have hnear : ∀ z ∈ nums, z.natAbs < 2 ^ 7 := fun z hz => near_lt (List.all_eq_true.mp hn z hz)
            have hall2 : ∀ ns ∈ rows, InR es.length ns ∧ ns.length ≤ 5 := fun ns hns => isRow_in (List.all_eq_true.mp hb ns hns) (rc.nn ns hns).2
            have ha3 := s13 _ _ ha
            have hr3 := s13 _ _ hr0
            refine ⟨_, rfl, a, c.call, dx, _, _, rfl, ha3, TC.cl, TC.na _ (by decide +kernel), calF_rows _ _ _ _, r, _, rfl, .inl (SqL.of hr3), rfl, _, rfl, ite2 (fun hc3 => ?_) (fun hc3 => ?_)⟩
            · have h2 : (vr.length : Int) = 2 := V.int.inj (of_decide_eq_true hc3)
              obtain ⟨r1, r2, rfl⟩ : ∃ r r', rows = [r, r'] := by
                rcases rc.rws with ⟨_, e⟩ | e
                · rw [zr.len, e] at h2; simp at h2
                · exact e
              obtain ⟨v0, hv0, f0⟩ := zr.item' (i := 0) (x := r1) rfl
              obtain ⟨v1, hv1, f1⟩ := zr.item' (i := 1) (x := r2) rfl
              obtain ⟨i1, l1⟩ := hall2 r1 (by simp)
              obtain ⟨i2, l2⟩ := hall2 r2 (by simp)
              refine ⟨_, rfl, a, c.call, dx, _, _, rfl, ha3, TC.cl, TC.na _ (by decide +kernel), calF_number _ _ _ _, _, rfl, _, rfl, a, c.call, dx, _, _, rfl, ha3, TC.cl, TC.na _ (by decide +kernel), calF_rows _ _ _ _, r, _, _, _, rfl, rfl, SqL.of hr3, at_of (j := 0) rfl hv0, _, _, _, _, rfl, hD.mono moDev s13, f0.mono s13, hes, i1, by omega, fun v4 H4 s4 m4 => ?_⟩
              have s14 := s13.trans s4
              refine ⟨_, rfl, _, rfl, a, c.call, dx, _, _, rfl, s14 _ _ ha, TC.cl, TC.na _ (by decide +kernel), calF_rows _ _ _ _, r, _, _, _, rfl, rfl, SqL.of (s14 _ _ hr0), at_of (j := 1) rfl hv1, _, _, _, _, rfl, hD.mono moDev s14, f1.mono s14, hes, i2, by omega, fun v5 H5 s5 m5 => ?_⟩
              refine ⟨_, _, _, _, _, rfl, m4.mono s5, m5, (rowM_ok hes).mono (by omega), (rowM_ok hes).mono (by omega), fun v6 H6 s6 l6 => q _ _ ((s14.trans s5).trans s6) ?_⟩
              unfold rowsA
              rw [if_neg hnotb, if_neg hnotn]
              exact l6.of (s14.trans s5)
            · have h2 : ¬ (vr.length : Int) = 2 := fun z => hc3 (decide_eq_true (by rw [z]))
              obtain ⟨r1, rfl⟩ : ∃ r, rows = [r] := by
                rcases rc.rws with e | ⟨_, _, e⟩
                · exact e
                · rw [zr.len, e] at h2; simp at h2
              obtain ⟨i1, l1⟩ := hall2 r1 (by simp)
              refine ⟨_, rfl, _, rfl, _, _, _, _, _, _, _, _, _, _, rfl, hD.mono moDev s13, ha3, hN.mono s13, hR.mono moLs s13, hes, he6, i1, l1, fun hp => ?_, fun h8 h2 h3 h4 h6 => ?_, fun v6 H6 s6 l6 => q _ _ (s13.trans s6) ?_⟩
              · obtain ⟨x, y, rfl⟩ := rc.c3 hp
                exact ⟨x, y, rfl, hnear x (by simp), hnear y (by simp)⟩
              · obtain ⟨x, y, x', y', rfl⟩ := rc.c10 ⟨r1, rfl⟩ h8 h2 h3 h4 h6
                exact ⟨x, y, x', y', rfl, hnear x (by simp), hnear y (by simp), hnear x' (by simp), hnear y' (by simp)⟩
              · unfold rowsA
                rw [if_neg hnotb, if_neg hnotn]
                exact l6.of s13
/-! ### answer_in_workshop -/
def inA (es : List Device) (p : Int) (nums : List Int) (rows : List (List Int)) : List Device × List Int :=
  if p = 1 then (match nums with | [x, y, a, b, u, m] => devA es x y a b u m | _ => (es, []))
  else (es, if p = 9 then (match nums with | [a, b, u, m] => makeA es a b u m | _ => []) else if p = 11 then (es.length : Int) :: es.flatMap toldD else rowsA es p nums rows)
structure CallOk (p : Int) (nums : List Int) (rows : List (List Int)) : Prop where
  c1 : p = 1 → ∃ x y a b u m, nums = [x, y, a, b, u, m] ∧ 0 ≤ u ∧ 0 ≤ m
  c9 : p = 9 → ∃ a b u m, nums = [a, b, u, m]
  rc : p ≠ 0 → p ≠ 1 → p ≠ 9 → p ≠ 11 → RowCall p nums rows
def spInW (c : Cs) (K : PySem.W.Frag) : Sp := fun vs H Q _ => ∃ d es a dx p vn nums r rows e, vs = [.ref d, .ref a] ∧ Devs c K H d es ∧ H a = some (.ins c.call dx (calF (.int p) vn (.ref r) e)) ∧ Ls H vn nums ∧ Rows H r rows ∧ (∀ e ∈ es, OkD e) ∧ es.length ≤ 6 ∧ p ≠ 0 ∧ CallOk p nums rows ∧
  ∀ v H', SameX d H H' → Devs c K H' d (inA es p nums rows).1 → (∀ e ∈ (inA es p nums rows).1, OkD e) → (inA es p nums rows).1.length ≤ 6 → LsN H H' v (inA es p nums rows).2 → v ≠ .ref d → Q v H'
theorem fresh_ne {H H' : Hp} {v : V} {ns : List Int} {d : Addr} {o : HO} (h : LsN H H' v ns) (hd : H d = some o) : v ≠ .ref d := by
  obtain ⟨p, rfl, h1, _⟩ := h
  intro e
  rw [V.ref.inj e, hd] at h1
  cases h1
theorem ok_inW (F : Txt K mg "answer_in_workshop" sInW ["devices", "call"]) (TC : ClsT K mg "Call" c.call calNames) (g1 : GInt mg "DEVICE" 1) (g9 : GInt mg "MAKE" 9) (g11 : GInt mg "LOOK" 11) (GD : Def P w K mg base 7 "answer_device" ["devices", "numbers"] (spDevice c K))
    (GM : Def P w K mg base 9 "answer_make" ["devices", "build"] (spMake c K)) (GL : Def P w K mg base 2 "answer_look" ["devices"] (spLook c K)) (GR : Def P w K mg base 10 "answer_rows" ["devices", "call"] (spRowsA c K)) : Def P w K mg base 11 "answer_in_workshop" ["devices", "call"] (spInW c K) := by
  refine F.ok scInW (fun vs H Q E h => ?_) (fun f cdv A outer s H vs Q E hr h => ?_)
  · obtain ⟨d, es, a, dx, p, vn, nums, r, rows, e, rfl, _⟩ := h
    rfl
  · obtain ⟨d, es, a, dx, p, vn, nums, r, rows, e, rfl, hD, ha, hN, hR, hes, he6, hp0, co, q⟩ := h
    obtain ⟨ds, hd, zd⟩ := id hD
    have hr2 : Room 2 _ := hr.mono (by decide)
    have hr7 : Room 7 _ := hr.mono (by decide)
    have hr9 : Room 9 _ := hr.mono (by decide)
    refine ⟨_, pss_cons (ps_if (pt_cmpR op_eq (pe_fld (pv 1) rfl) (pe_gint g1 rfl) (nomark _)) (pss_one (ps_ret (pe_def GD hr7 rfl (pa_cons (pv 0) (pa_cons (pe_fld (pv 1) rfl) pa_nil))))) pss_nil)
      (pss_cons (ps_if (pt_cmpR op_eq (pe_fld (pv 1) rfl) (pe_gint g9 rfl) (nomark _)) (pss_one (ps_ret (pe_def GM hr9 rfl (pa_cons (pv 0) (pa_cons (pe_fld (pv 1) rfl) pa_nil))))) pss_nil)
      (pss_cons (ps_if (pt_cmpR op_eq (pe_fld (pv 1) rfl) (pe_gint g11 rfl) (nomark _)) (pss_one (ps_ret (pe_def GL hr2 rfl (pa_cons (pv 0) pa_nil)))) pss_nil)
      (pss_one (ps_ret (pe_def GR hr rfl (pa_cons (pv 0) (pa_cons (pv 1) pa_nil))))))), ?_⟩
    refine ⟨_, rfl, a, c.call, dx, _, _, rfl, ha, TC.cl, TC.na _ (by decide +kernel), calF_number _ _ _ _, rfl, _, rfl, ite2 (fun hc => ?_) (fun hc => ?_)⟩
    · have hp : p = 1 := V.int.inj (of_decide_eq_true hc)
      obtain ⟨x, y, a1, b1, u1, m1, rfl, hu, hm⟩ := co.c1 hp
      have e : inA es p [x, y, a1, b1, u1, m1] rows = devA es x y a1 b1 u1 m1 := by unfold inA; rw [if_pos hp]
      rw [e] at q
      exact ⟨_, rfl, _, rfl, a, c.call, dx, _, _, rfl, ha, TC.cl, TC.na _ (by decide +kernel), calF_numbers _ _ _ _, _, _, _, _, _, _, _, _, _, rfl, hD, hN, hes, he6, hu, hm, q⟩
    · have hp1 : ¬ p = 1 := fun z => hc (decide_eq_true (by rw [z]))
      refine ⟨_, rfl, a, c.call, dx, _, _, rfl, ha, TC.cl, TC.na _ (by decide +kernel), calF_number _ _ _ _, rfl, _, rfl, ite2 (fun hc => ?_) (fun hc => ?_)⟩
      · have hp : p = 9 := V.int.inj (of_decide_eq_true hc)
        obtain ⟨a1, b1, u1, m1, rfl⟩ := co.c9 hp
        have e : inA es p [a1, b1, u1, m1] rows = (es, makeA es a1 b1 u1 m1) := by unfold inA; rw [if_neg hp1, if_pos hp]
        rw [e] at q
        exact ⟨_, rfl, _, rfl, a, c.call, dx, _, _, rfl, ha, TC.cl, TC.na _ (by decide +kernel), calF_numbers _ _ _ _, _, _, _, _, _, _, _, rfl, hD, hN, hes, he6, fun v H' s1 l1 => q _ _ (fun b o e _ => s1 _ _ e) (hD.mono moDev s1) hes he6 l1 (fresh_ne l1 hd)⟩
      · have hp9 : ¬ p = 9 := fun z => hc (decide_eq_true (by rw [z]))
        refine ⟨_, rfl, a, c.call, dx, _, _, rfl, ha, TC.cl, TC.na _ (by decide +kernel), calF_number _ _ _ _, rfl, _, rfl, ite2 (fun hc => ?_) (fun hc => ?_)⟩
        · have hp : p = 11 := V.int.inj (of_decide_eq_true hc)
          have e : inA es p nums rows = (es, (es.length : Int) :: es.flatMap toldD) := by unfold inA; rw [if_neg hp1, if_neg hp9, if_pos hp]
          rw [e] at q
          exact ⟨_, rfl, _, _, rfl, hD, he6, fun v H' s1 l1 => q _ _ (fun b o e _ => s1 _ _ e) (hD.mono moDev s1) hes he6 l1 (fresh_ne l1 hd)⟩
        · have hp11 : ¬ p = 11 := fun z => hc (decide_eq_true (by rw [z]))
          have e : inA es p nums rows = (es, rowsA es p nums rows) := by unfold inA; rw [if_neg hp1, if_neg hp9, if_neg hp11]
          rw [e] at q
          exact ⟨_, rfl, _, rfl, _, _, _, _, _, _, _, _, _, _, rfl, hD, ha, hN, hR, hes, he6, co.rc hp0 hp1 hp9 hp11, fun v H' s1 l1 => q _ _ (fun b o e _ => s1 _ _ e) (hD.mono moDev s1) hes he6 l1 (fresh_ne l1 hd)⟩
/-! ### answer -/
/-- the workshop's object: none yet, or the devices' list at d -/
def WorkV (c : Cs) (K : PySem.W.Frag) (H : Hp) (wa : Addr) : Option (List Device) → Option Addr → Prop
  | none, none => ∃ dx, H wa = some (.ins c.work dx (worF .non))
  | some es, some d => (∃ dx, H wa = some (.ins c.work dx (worF (.ref d)))) ∧ Devs c K H d es ∧ (∀ e ∈ es, OkD e) ∧ es.length ≤ 6
  | _, _ => False
def ansA (s : Option (List Device)) (p : Int) (nums : List Int) (rows : List (List Int)) : Option (List Device) × List Int :=
  if p = 0 then (some [], [0]) else match s with
  | none => (none, [-9])
  | some es => (some (inA es p nums rows).1, (inA es p nums rows).2)
def spAns1 (c : Cs) (K : PySem.W.Frag) : Sp := fun vs H Q _ => ∃ wa st od a dx p vn nums r rows e, vs = [.ref wa, .ref a] ∧ WorkV c K H wa st od ∧ H a = some (.ins c.call dx (calF (.int p) vn (.ref r) e)) ∧ Ls H vn nums ∧ Rows H r rows ∧ CallOk p nums rows ∧
  ∀ v H' od', (∀ b o, H b = some o → b ≠ wa → od ≠ some b → H' b = some o) → WorkV c K H' wa (ansA st p nums rows).1 od' → (∀ d, od' = some d → od = some d ∨ H d = none) → LsN H H' v (ansA st p nums rows).2 → (∀ d, od' = some d → v ≠ .ref d) → Q v H'
theorem ok_ans1 (F : Txt K mg "answer" sAns1 ["workshop", "call"]) (TC : ClsT K mg "Call" c.call calNames) (TW : ClsT K mg "Workshop" c.work worNames) (g0 : GInt mg "BEGIN" 0) (g9 : GInt mg "NO_WORKSHOP" (-9)) (GI : Def P w K mg base 11 "answer_in_workshop" ["devices", "call"] (spInW c K)) :
    Def P w K mg base 12 "answer" ["workshop", "call"] (spAns1 c K) := by
  refine F.ok scAns1 (fun vs H Q E h => ?_) (fun f cdv A outer s H vs Q E hr h => ?_)
  · obtain ⟨wa, st, od, a, dx, p, vn, nums, r, rows, e, rfl, _⟩ := h
    rfl
  · obtain ⟨wa, st, od, a, dx, p, vn, nums, r, rows, e, rfl, hW, ha, hN, hR, co, q⟩ := h
    obtain ⟨dw, dv, hw⟩ : ∃ dw dv, H wa = some (.ins c.work dw (worF dv)) := by
      match st, od, hW with
      | none, none, ⟨dx, h⟩ => exact ⟨dx, _, h⟩
      | some es, some d, ⟨⟨dx, h⟩, _⟩ => exact ⟨dx, _, h⟩
    refine ⟨_, pss_cons (ps_if (pt_cmpR op_eq (pe_fld (pv 1) rfl) (pe_gint g0 rfl) (nomark _)) (pss_cons (ps_fld (pv 0) (pe_lst pa_nil) rfl) (pss_one (ps_ret (pe_lst (pa_cons pe_int pa_nil))))) pss_nil)
      (pss_cons (ps_if (pt_cmp (pc_isN (pe_fld (pv 0) rfl))) (pss_one (ps_ret (pe_lst (pa_cons (pe_gint g9 rfl) pa_nil)))) pss_nil)
      (pss_one (ps_ret (pe_def GI hr rfl (pa_cons (pe_fld (pv 0) rfl) (pa_cons (pv 1) pa_nil)))))), ?_⟩
    refine ⟨_, rfl, a, c.call, dx, _, _, rfl, ha, TC.cl, TC.na _ (by decide +kernel), calF_number _ _ _ _, rfl, _, rfl, ite2 (fun hc => ?_) (fun hc => ?_)⟩
    · have hp : p = 0 := V.int.inj (of_decide_eq_true hc)
      have e : ansA st p nums rows = (some [], [0]) := by unfold ansA; rw [if_pos hp]
      rw [e] at q
      refine ⟨Nat.zero_le _, fun d hd => ?_⟩
      have s1 := Same.new (o := .lst []) hd
      have hwd : wa ≠ d := ne_of_none hw hd
      refine ⟨_, rfl, wa, c.work, dw, _, rfl, s1 _ _ hw, TW.cl, TW.na _ (by decide +kernel), (by show 1 < 1000; decide), ?_⟩
      refine ⟨(by show 1 ≤ sizeLine; decide), fun l hl => ?_⟩
      have s2 := Same.new (o := .lst [.int 0]) hl
      have hlw : l ≠ wa := (ne_of_none upd_same hl).symm
      have hld : l ≠ d := (ne_of_none (b := l) (by rw [upd_ne hwd.symm]; exact upd_same) hl).symm
      refine q _ _ (some d) (fun b o e hb _ => s2 _ _ (by rw [upd_ne hb]; exact s1 _ _ e)) ⟨⟨dw, s2 _ _ ?_⟩, LsV.nil (s2 _ _ (by rw [upd_ne hwd.symm]; exact upd_same)), fun e he => (by cases he), Nat.zero_le _⟩ (fun d' e => .inr (by cases e; exact hd)) ⟨l, rfl, ?_, by rw [upd_same]; rfl⟩ (fun d' e z => hld (by rw [V.ref.inj z]; cases e; rfl))
      · rw [upd_same, worF_put]
      · rw [upd_ne hlw, upd_ne hld] at hl
        exact hl
    · have hp0 : ¬ p = 0 := fun z => hc (decide_eq_true (by rw [z]))
      refine ⟨_, rfl, wa, c.work, dw, _, _, rfl, hw, TW.cl, TW.na _ (by decide +kernel), worF_devices _, _, rfl, ite2 (fun hc2 => ?_) (fun hc2 => ?_)⟩
      · have hdv : dv = .non := of_decide_eq_true hc2
        match st, od, hW with
        | none, none, hW =>
          have e : ansA none p nums rows = (none, [-9]) := by unfold ansA; rw [if_neg hp0]
          rw [e] at q
          refine ⟨(by show 1 ≤ sizeLine; decide), fun l hl => ?_⟩
          have s1 := Same.new (o := .lst [.int (-9)]) hl
          exact q _ _ none (fun b o e _ _ => s1 _ _ e) ⟨dw, s1 _ _ (by rw [hw, hdv])⟩ (fun d e => by cases e) ⟨l, rfl, hl, by rw [upd_same]; rfl⟩ (fun d e => by cases e)
        | some es, some d, ⟨⟨dx', h'⟩, _⟩ =>
          rw [hw] at h'
          injection h' with h'
          injection h' with _ _ h'
          have e1 := worF_devices dv
          rw [h', worF_devices] at e1
          rw [hdv] at e1
          cases e1
      · have hdv : dv ≠ .non := fun z => hc2 (decide_eq_true z)
        match st, od, hW with
        | none, none, ⟨dx', h'⟩ =>
          rw [hw] at h'
          injection h' with h'
          injection h' with _ _ h'
          have e1 := worF_devices dv
          rw [h', worF_devices] at e1
          exact absurd (Option.some.inj e1).symm hdv
        | some es, some d, ⟨⟨dx', h'⟩, hD, hes, he6⟩ =>
          have e : ansA (some es) p nums rows = (some (inA es p nums rows).1, (inA es p nums rows).2) := by unfold ansA; rw [if_neg hp0]
          rw [e] at q
          obtain ⟨ds, hd, zd⟩ := id hD
          have hwd : wa ≠ d := ne_of h' hd (by intro z; cases z)
          refine ⟨_, rfl, wa, c.work, dx', _, _, rfl, h', TW.cl, TW.na _ (by decide +kernel), worF_devices _, _, rfl, _, _, _, _, _, _, _, _, _, _, rfl, hD, ha, hN, hR, hes, he6, hp0, co, fun v H' sx D' o' l' n' vd => ?_⟩
          exact q _ _ (some d) (fun b o e _ hb => sx b o e fun z => hb (by rw [z])) ⟨⟨dx', sx _ _ h' hwd⟩, D', o', l'⟩ (fun d' e => .inl e) n' (fun d' e => by cases e; exact vd)
end
end Cr
end
section
set_option linter.all false
set_option maxRecDepth 100000
namespace Cr
open Mu52 (Q Pt Map Device frac)
open Mu52Neutral (nats)
/-! ### what is answered is what the specification asks -/
theorem row_fact {l : List Int} (h : Mu52Neutral.row l = true) : l.length ≤ 8 ∧ ∀ z ∈ l, 0 ≤ z := by
  unfold Mu52Neutral.row at h
  rw [Bool.and_eq_true, List.all_eq_true] at h
  refine ⟨of_decide_eq_true h.1, fun z hz => ?_⟩
  have := h.2 z hz
  unfold Mu52Neutral.nine NeutralIO.within at this
  rw [Bool.and_eq_true] at this
  exact of_decide_eq_true this.1
theorem isRow_eq {es : List Device} {l : List Int} (h : ∀ z ∈ l, 0 ≤ z) : isRowB es.length l = Mu52.isRow es (nats l) := by
  unfold isRowB Mu52.isRow
  have e1 : (nats l).length = l.length := List.length_map ..
  rw [e1]
  congr 1
  show _ = (List.map Int.toNat l).all _
  rw [List.all_map, Bool.eq_iff_iff, List.all_eq_true, List.all_eq_true]
  constructor
  · intro H z hz
    have h1 := of_decide_eq_true (H z hz)
    have h2 := h z hz
    exact decide_eq_true (by omega)
  · intro H z hz
    have h1 : decide (z.toNat < es.length) = true := H z hz
    have h1 := of_decide_eq_true h1
    have h2 := h z hz
    exact decide_eq_true (by omega)
theorem buildB_eq {a b u m : Int} (ha : 0 ≤ a) (hb : 0 ≤ b) (hu : 0 ≤ u) (hm : 0 ≤ m) : buildB a b u m = Mu52.isSize a.toNat b.toNat u.toNat m.toNat := by
  unfold buildB part Mu52.isSize
  rw [Bool.eq_iff_iff]
  simp only [Bool.and_eq_true, decide_eq_true_eq]
  omega
theorem size_eq {a b u : Int} (ha : 0 ≤ a) (hb : 0 ≤ b) (hu : 0 ≤ u) : frac (if u = 1 then -a else a) b = Mu52.sizeOf_ a.toNat b.toNat u.toNat := by
  unfold Mu52.sizeOf_
  rw [Int.toNat_of_nonneg ha, Int.toNat_of_nonneg hb]
  have : (u.toNat = 1) ↔ u = 1 := by omega
  by_cases h : u = 1
  · rw [if_pos h, if_pos (this.mpr h)]
  · rw [if_neg h, if_neg (fun z => h (this.mp z))]
theorem one_eq {m : Int} (hm : 0 ≤ m) : (m == 1) = (m.toNat == 1) := by
  rw [Bool.eq_iff_iff, beq_iff_eq, beq_iff_eq]; omega
theorem mi_eq (b : Bool) : mi b = if b = true then 1 else 0 := rfl
theorem map_nums {es : List Device} {m : Map} (o : Option (List Nat)) : toldF (o.map (rmk es m)) = match o with | none => [-6] | some r => Mu52.nums (r.length :: r) := by
  cases o with
  | none => rfl
  | some r =>
    show (((Mu52.nums r).length : Int)) :: Mu52.nums r = ((r.length : Nat) : Int) :: Mu52.nums r
    have : (Mu52.nums r).length = r.length := List.length_map ..
    rw [this]
theorem undo_eq {es : List Device} {l : List Int} (hes : ∀ e ∈ es, OkD e) : toldF (foundM es (rowM es l) (want (toldM Mu52.stay))) = match Mu52.undo es (nats l) with | none => [-6] | some r => Mu52.nums (r.length :: r) := by
  rw [foundM_rows (m := rowM es l) (fun e he => (hes e he).red) (row_red fun e he => (hes e (pick_mem he)).red), map_nums]
  have : (fun r => want (toldM Mu52.stay) (rmk es (rowM es l) r)) = fun r => Mu52.andThen (Mu52.row (Mu52.pick es (nats l))) (Mu52.row (Mu52.pick es r)) == Mu52.stay := by
    funext r
    rw [beqM]
    unfold want rmk
    show decide ((toldM (Mu52.andThen (rowM es l) (Mu52.row (Mu52.pick es r)))).take 7 = toldM Mu52.stay) = _
    rw [List.take_of_length_le (by exact Nat.le_refl 7), Bool.eq_iff_iff, decide_eq_true_iff, decide_eq_true_iff]
    exact ⟨fun h => toldM_inj h, fun h => by unfold rowM; rw [h]⟩
  rw [this]
  rfl
theorem make_eq {es : List Device} {z : Q} {m : Int} (hes : ∀ e ∈ es, OkD e) (hm : m = 0 ∨ m = 1) : toldF (foundM es Mu52.stay (want (m :: Mu52.told z))) = match Mu52.make es z (m == 1) with | none => [-6] | some r => Mu52.nums (r.length :: r) := by
  rw [foundM_rows (fun e he => (hes e he).red) stay_red, map_nums]
  have : (fun r => want (m :: Mu52.told z) (rmk es Mu52.stay r)) = fun r => (Mu52.row (Mu52.pick es r)).size == z && (Mu52.row (Mu52.pick es r)).mirror == (m == 1) := by
    funext r
    have hr : RedM (Mu52.row (Mu52.pick es r)) := row_red fun e he => (hes e (pick_mem he)).red
    unfold want rmk
    show decide ((toldM (Mu52.andThen Mu52.stay (Mu52.row (Mu52.pick es r)))).take 3 = [m, z.n, (z.d : Int)]) = _
    rw [stay_andThen hr]
    generalize Mu52.row (Mu52.pick es r) = X
    show decide ([mi X.mirror, X.size.n, (X.size.d : Int)] = [m, z.n, (z.d : Int)]) = _
    rw [beqQ, Bool.eq_iff_iff, decide_eq_true_iff, Bool.and_eq_true, decide_eq_true_iff]
    simp only [List.cons.injEq, and_true]
    constructor
    · rintro ⟨h1, h2, h3⟩
      refine ⟨qext h2 h3, ?_⟩
      rw [← h1]
      cases X.mirror <;> rfl
    · rintro ⟨h1, h2⟩
      refine ⟨?_, by rw [h1], by rw [h1]⟩
      have h2 := eq_of_beq h2
      rw [h2]
      rcases hm with rfl | rfl <;> rfl
  rw [this]
  rfl
theorem within_fact {z lo hi : Int} (h : NeutralIO.within z lo hi = true) : lo ≤ z ∧ z ≤ hi := by
  unfold NeutralIO.within at h
  rw [Bool.and_eq_true] at h
  exact ⟨of_decide_eq_true h.1, of_decide_eq_true h.2⟩
def OkS (st : Option (List Device)) : Prop := ∀ es, st = some es → ∀ e ∈ es, OkD e
theorem all_false {α : Type} {f : α → Bool} {l : List α} : (l.all f = false) ↔ (l.any (fun x => !f x) = true) := by
  induction l with
  | nil => simp
  | cons a l ih => simp only [List.all_cons, List.any_cons, Bool.and_eq_false_iff, Bool.or_eq_true, ih]; simp
theorem toldS_eq (x : Mu52.Stays) : toldS x = match x with
    | .none_ => [0]
    | .one p => 1 :: Mu52.toldPt p
    | .upright x => 2 :: Mu52.told x
    | .level y => 3 :: Mu52.told y
    | .all => [4] := by cases x <;> rfl
theorem nn2 {l : List Int} (h : Mu52Neutral.row l = true) : ∀ r ∈ [l], r.length ≤ 8 ∧ ∀ z ∈ r, 0 ≤ z := fun r hr => by
  rw [List.mem_singleton] at hr
  subst hr; exact row_fact h
theorem rc1 {p : Int} {l : List Int} (hp : p = 2 ∨ p = 4 ∨ p = 6 ∨ p = 8) (h : Mu52Neutral.row l = true) : CallOk p [] [l] :=
  ⟨fun e => by omega, fun e => by omega, fun _ _ _ _ => ⟨.inl ⟨l, rfl⟩, nn2 h, by decide, fun e => by omega, fun _ h8 h2 h3 h4 h6 => by omega⟩⟩
theorem rc2 {p : Int} {l r : List Int} (hp : p = 5 ∨ p = 7) (h : Mu52Neutral.row l = true) (h' : Mu52Neutral.row r = true) : CallOk p [] [l, r] :=
  ⟨fun e => by omega, fun e => by omega, fun _ _ _ _ => ⟨.inr ⟨l, r, rfl⟩, fun x hx => by
    rcases List.mem_cons.mp hx with rfl | hx
    · exact row_fact h
    · exact nn2 h' x hx, by decide, fun e => by omega, fun ⟨r', e⟩ => by simp at e⟩⟩
/-- the calls that are asked, one by one -/
theorem step_eq {cl : List (List Int)} (h : Mu52Neutral.asked1 cl = true) : ∃ p nums rows, cl = (p :: nums) :: rows ∧ CallOk p nums rows ∧ ∀ st, OkS st → ansA st p nums rows = Mu52Neutral.step st cl := by
  unfold Mu52Neutral.asked1 at h
  split at h
  · exact ⟨0, [], [], rfl, ⟨fun e => by omega, fun e => by omega, fun e => absurd rfl e⟩, fun st _ => by cases st <;> rfl⟩
  · rename_i x y a b u m
    simp only [Bool.and_eq_true] at h
    obtain ⟨_, _, ha, hb, hu, hm⟩ := h
    have ha := (within_fact ha).1
    have hb := (within_fact hb).1
    have hu := (within_fact hu).1
    have hm := (within_fact hm).1
    refine ⟨1, [x, y, a, b, u, m], [], rfl, ⟨fun _ => ⟨x, y, a, b, u, m, rfl, hu, hm⟩, fun e => by omega, fun _ e => absurd rfl e⟩, fun st hs => ?_⟩
    cases st with
    | none => rfl
    | some es =>
      show (some (devA es x y a b u m).1, (devA es x y a b u m).2) = (if (Mu52.near x && (Mu52.near y && Mu52.isSize a.toNat b.toNat u.toNat m.toNat)) = false then (some es, [-1]) else if Mu52.DEVICES ≤ es.length then (some es, [-5]) else (some (es ++ [⟨Mu52.point x y, Mu52.sizeOf_ a.toNat b.toNat u.toNat, m.toNat == 1⟩]), [(es.length : Int)]))
      unfold devA
      rw [buildB_eq ha hb hu hm, size_eq ha hb hu, one_eq hm]
      split
      · rfl
      · show _ = if 6 ≤ es.length then _ else _
        split <;> rfl
  · rename_i l
    refine ⟨2, [], [l], rfl, rc1 (.inl rfl) h, fun st hs => ?_⟩
    cases st with
    | none => rfl
    | some es =>
      show (some es, rowsA es 2 [] [l]) = (some es, if Mu52.isRow es (nats l) = false then [-2] else _)
      unfold rowsA
      rw [List.all_cons, List.all_nil, Bool.and_true, isRow_eq (row_fact h).2]
      split <;> rfl
  · rename_i x y l
    simp only [Bool.and_eq_true] at h
    obtain ⟨_, _, h⟩ := h
    refine ⟨3, [x, y], [l], rfl, ⟨fun e => by omega, fun e => by omega, fun _ _ _ _ => ⟨.inl ⟨l, rfl⟩, nn2 h, by simp, fun _ => ⟨x, y, rfl⟩, fun _ _ _ h3 => absurd rfl h3⟩⟩, fun st hs => ?_⟩
    cases st with
    | none => rfl
    | some es =>
      have hes := hs es rfl
      show (some es, rowsA es 3 [x, y] [l]) = (some es, if Mu52.isRow es (nats l) = false then [-2] else if (Mu52.near x && Mu52.near y) = false then [-1] else 0 :: Mu52.toldPt (Mu52.copies (Mu52.pick es (nats l)) (Mu52.point x y)))
      unfold rowsA
      rw [List.all_cons, List.all_nil, Bool.and_true, isRow_eq (row_fact h).2, List.all_cons, List.all_cons, List.all_nil, Bool.and_true]
      split
      · rfl
      · split
        · rfl
        · rw [copies_at (fun e he => (hes e (pick_mem he)).red) ⟨whole_red _, whole_red _⟩]
          rfl
  · rename_i l
    refine ⟨4, [], [l], rfl, rc1 (.inr (.inl rfl)) h, fun st hs => ?_⟩
    cases st with
    | none => rfl
    | some es =>
      show (some es, rowsA es 4 [] [l]) = (some es, if Mu52.isRow es (nats l) = false then [-2] else _)
      unfold rowsA
      rw [List.all_cons, List.all_nil, Bool.and_true, isRow_eq (row_fact h).2]
      split
      · rfl
      · show (some es, toldS (Mu52.stays (rowM es l))) = _
        rw [toldS_eq]; rfl
  · rename_i l r
    simp only [Bool.and_eq_true] at h
    refine ⟨5, [], [l, r], rfl, rc2 (.inl rfl) h.1 h.2, fun st hs => ?_⟩
    cases st with
    | none => rfl
    | some es =>
      show (some es, rowsA es 5 [] [l, r]) = (some es, if (Mu52.isRow es (nats l) && Mu52.isRow es (nats r)) = false then [-2] else if Mu52.row (Mu52.pick es (nats l)) == Mu52.row (Mu52.pick es (nats r)) then [1] else [0])
      unfold rowsA
      rw [List.all_cons, List.all_cons, List.all_nil, Bool.and_true, isRow_eq (row_fact h.1).2, isRow_eq (row_fact h.2).2]
      split
      · rfl
      · show (some es, [if rowM es l = rowM es r then (1 : Int) else 0]) = _
        rw [beqM]
        by_cases e : rowM es l = rowM es r
        · have e' : Mu52.row (Mu52.pick es (nats l)) = Mu52.row (Mu52.pick es (nats r)) := e
          rw [if_pos e, if_pos (decide_eq_true e')]
        · have e' : ¬ Mu52.row (Mu52.pick es (nats l)) = Mu52.row (Mu52.pick es (nats r)) := e
          rw [if_neg e, if_neg (fun z => e' (of_decide_eq_true z))]
  · rename_i l
    refine ⟨6, [], [l], rfl, rc1 (.inr (.inr (.inl rfl))) h, fun st hs => ?_⟩
    cases st with
    | none => rfl
    | some es =>
      show (some es, rowsA es 6 [] [l]) = (some es, if Mu52.isRow es (nats l) = false then [-2] else _)
      unfold rowsA
      rw [List.all_cons, List.all_nil, Bool.and_true, isRow_eq (row_fact h).2]
      split
      · rfl
      · show (some es, toldF (foundM es (rowM es l) (want (toldM Mu52.stay)))) = _
        rw [undo_eq (hs es rfl)]; rfl
  · rename_i l r
    simp only [Bool.and_eq_true] at h
    refine ⟨7, [], [l, r], rfl, rc2 (.inr rfl) h.1 h.2, fun st hs => ?_⟩
    cases st with
    | none => rfl
    | some es =>
      have hes := hs es rfl
      show (some es, rowsA es 7 [] [l, r]) = (some es, if (Mu52.isRow es (nats l) && Mu52.isRow es (nats r)) = false then [-2] else 0 :: Mu52.toldPt (Mu52.minus (Mu52.row (Mu52.pick es (nats l) ++ Mu52.pick es (nats r))).shift (Mu52.row (Mu52.pick es (nats r) ++ Mu52.pick es (nats l))).shift))
      unfold rowsA
      rw [List.all_cons, List.all_cons, List.all_nil, Bool.and_true, isRow_eq (row_fact h.1).2, isRow_eq (row_fact h.2).2]
      split
      · rfl
      · rw [row_append (fun e he => (hes e (pick_mem he)).red) (fun e he => (hes e (pick_mem he)).red), row_append (fun e he => (hes e (pick_mem he)).red) (fun e he => (hes e (pick_mem he)).red)]
        rfl
  · rename_i l
    refine ⟨8, [], [l], rfl, rc1 (.inr (.inr (.inr rfl))) h, fun st hs => ?_⟩
    cases st with
    | none => rfl
    | some es =>
      show (some es, rowsA es 8 [] [l]) = (some es, if Mu52.isRow es (nats l) = false then [-2] else _)
      unfold rowsA
      rw [List.all_cons, List.all_nil, Bool.and_true, isRow_eq (row_fact h).2]
      split <;> rfl
  · rename_i a b u m
    simp only [Bool.and_eq_true] at h
    obtain ⟨ha, hb, hu, hm⟩ := h
    have ha := (within_fact ha).1
    have hb := (within_fact hb).1
    have hu := (within_fact hu).1
    have hm := (within_fact hm).1
    refine ⟨9, [a, b, u, m], [], rfl, ⟨fun e => by omega, fun _ => ⟨a, b, u, m, rfl⟩, fun _ _ e => absurd rfl e⟩, fun st hs => ?_⟩
    cases st with
    | none => rfl
    | some es =>
      show (some es, makeA es a b u m) = (some es, if Mu52.isSize a.toNat b.toNat u.toNat m.toNat = false then [-1] else match Mu52.make es (Mu52.sizeOf_ a.toNat b.toNat u.toNat) (m.toNat == 1) with | none => [-6] | some r => Mu52.nums (r.length :: r))
      unfold makeA
      by_cases hB : buildB a b u m = true
      · obtain ⟨_, _, _, hm1⟩ := buildB_b hB
        rw [if_pos hB, make_eq (hs es rfl) (by omega), size_eq ha hb hu, one_eq hm, ← buildB_eq ha hb hu hm, if_neg (by rw [hB]; decide)]
      · rw [if_neg hB, ← buildB_eq ha hb hu hm, if_pos (by rwa [Bool.not_eq_true] at hB)]
  · rename_i x y z t l
    rw [Bool.and_eq_true] at h
    obtain ⟨_, h⟩ := h
    refine ⟨10, [x, y, z, t], [l], rfl, ⟨fun e => by omega, fun e => by omega, fun _ _ _ _ => ⟨.inl ⟨l, rfl⟩, nn2 h, by simp, fun e => by omega, fun _ _ _ _ _ _ => ⟨x, y, z, t, rfl⟩⟩⟩, fun st hs => ?_⟩
    cases st with
    | none => rfl
    | some es =>
      have hes := hs es rfl
      show (some es, rowsA es 10 [x, y, z, t] [l]) = (some es, if Mu52.isRow es (nats l) = false then [-2] else if [x, y, z, t].any (fun (v : Int) => !(Mu52.near v)) = true then [-1] else Mu52.told (Mu52.sqr (Mu52.minus (Mu52.copies (Mu52.pick es (nats l)) (Mu52.point x y)) (Mu52.copies (Mu52.pick es (nats l)) (Mu52.point z t)))))
      unfold rowsA
      rw [List.all_cons, List.all_nil, Bool.and_true, isRow_eq (row_fact h).2]
      split
      · rfl
      · by_cases hn : [x, y, z, t].all Mu52.near = false
        · rw [if_pos hn, if_pos (all_false.mp hn)]
        · rw [if_neg hn, if_neg (fun e => hn (all_false.mpr e))]
          have hd : ∀ e ∈ Mu52.pick es (nats l), RedD e := fun e he => (hes e (pick_mem he)).red
          have p1 : RedP (Mu52.point x y) := ⟨whole_red _, whole_red _⟩
          have p2 : RedP (Mu52.point z t) := ⟨whole_red _, whole_red _⟩
          rw [copies_at hd p1, copies_at hd p2, ← sqM_sqr (at_red (row_red hd) p1) (at_red (row_red hd) p2)]
          rfl
  · refine ⟨11, [], [], rfl, ⟨fun e => by omega, fun e => by omega, fun _ _ _ e => absurd rfl e⟩, fun st hs => ?_⟩
    cases st with
    | none => rfl
    | some es => rfl
  · cases h
end Cr
end
section
set_option Elab.async false
set_option linter.all false
set_option maxRecDepth 100000
set_option maxHeartbeats 2000000
namespace Cr
open PySem PySem.Spec PyProof.Rows L2
open Mu52 (Q Pt Map frac Device)
open Mu52Neutral (nats)
/-! ### the request: never changed -/
def FzL (K : PySem.W.Frag) (H : Hp) (a : Addr) (xs : List V) : Prop := (∃ o, H a = some (.frz o (.lst xs))) ∨
  ∃ (o : Obj) (its : Array Value) (n : Nat), K.lookup a = some o ∧ o.cls = .type "list" ∧ o.dict = none ∧ o.data = .seq its n ∧ its.size ≤ sizeLine ∧ Vals xs its.toList
theorem FzL.sq {K : PySem.W.Frag} {H : Hp} {a : Addr} {xs : List V} (h : FzL K H a xs) : SqL K H a xs := by
  rcases h with ⟨o, h⟩ | h
  · exact .inl (.inr ⟨o, h⟩)
  · exact .inr h
theorem FzL.on {K : PySem.W.Frag} {H H' : Hp} {a : Addr} {xs : List V} (h : FzL K H a xs) (f : ∀ o u, H a = some (.frz o u) → H' a = some (.frz o u)) : FzL K H' a xs := by
  rcases h with ⟨o, h⟩ | h
  · exact .inl ⟨o, f _ _ h⟩
  · exact .inr h
theorem whole_id (cl : List (List Int)) : PyMu52.whole cl = cl := by
  unfold PyMu52.whole
  split <;> rfl
theorem map_whole : ∀ l : List (List (List Int)), l.map PyMu52.whole = l
  | [] => rfl
  | a :: l => by rw [List.map_cons, whole_id, map_whole l]
theorem answers_of {ns : List Int} {raw : List (List (List Int))} (h : PyFlat.calls PyMu52.shape ns.length ns = some raw) : PyMu52.answers ns = PyFlat.told (PyFlat.played Mu52Neutral.step Mu52Neutral.start raw) := by
  unfold PyMu52.answers PyMu52.calls
  rw [h]
  dsimp only
  rw [map_whole]
theorem asked_of {ns : List Int} (h : PyMu52.answers_asked ns = true) : ∃ raw, PyFlat.calls PyMu52.shape ns.length ns = some raw ∧ (∀ cl ∈ raw, Mu52Neutral.asked1 cl = true) ∧ (PyMu52.answers ns).length ≤ 10000000 := by
  unfold PyMu52.answers_asked at h
  cases e : PyFlat.calls PyMu52.shape ns.length ns with
  | none => rw [e] at h; cases h
  | some raw =>
    rw [e] at h
    simp only [Bool.and_eq_true] at h
    obtain ⟨⟨_, h2⟩, h3⟩ := h
    refine ⟨raw, rfl, fun cl hcl => ?_, of_decide_eq_true h3⟩
    rw [map_whole] at h2
    unfold Mu52Neutral.asked at h2
    simp only [Bool.and_eq_true, List.all_eq_true] at h2
    exact h2.2.2 cl hcl
theorem calls_inv {f : Nat} {l : List Int} {cs : List (List (List Int))} (h : PyFlat.calls PyMu52.shape f l = some cs) (hl : l ≠ []) : ∃ f' cl t cs', f = f' + 1 ∧ PyFlat.call PyMu52.shape l = some (cl, t) ∧ PyFlat.calls PyMu52.shape f' t = some cs' ∧ cs = cl :: cs' := by
  match f, l, h, hl with
  | _, [], _, hl => exact absurd rfl hl
  | 0, _ :: _, h, _ => simp [PyFlat.calls] at h
  | f + 1, p :: r, h, _ =>
    unfold PyFlat.calls at h
    cases e : PyFlat.call PyMu52.shape (p :: r) with
    | none => rw [e] at h; cases h
    | some ct =>
      obtain ⟨cl, t⟩ := ct
      rw [e] at h
      dsimp only at h
      cases e2 : PyFlat.calls PyMu52.shape f t with
      | none => rw [e2] at h; cases h
      | some cs' =>
        rw [e2] at h
        exact ⟨f, cl, t, cs', rfl, rfl, e2, (Option.some.inj h).symm⟩
theorem calls_nil {f : Nat} {cs : List (List (List Int))} (h : PyFlat.calls PyMu52.shape f [] = some cs) : cs = [] := by
  cases f <;> (unfold PyFlat.calls at h; exact (Option.some.inj h).symm)
theorem told_cons (x : List Int) (l : List (List Int)) : PyFlat.told (x :: l) = ((x.length : Int) :: x) ++ PyFlat.told l := by unfold PyFlat.told; rw [List.flatMap_cons]
/-- one object stored anew -/
theorem same_upd {p : Addr} {H : Hp} {o : HO} : Same (hide p H) (upd H p o) := fun b u e => by
  unfold hide at e
  split at e
  · cases e
  · rename_i h
    rw [upd_ne h]; exact e
theorem WorkV.put {c : Cs} {K : PySem.W.Frag} {H : Hp} {wa t : Addr} {st : Option (List Device)} {od : Option Addr} {l : List V} {o : HO} (h : WorkV c K H wa st od) (ht : H t = some (.lst l)) (hd : ∀ d, od = some d → d ≠ t) : WorkV c K (upd H t o) wa st od := by
  match st, od, h with
  | none, none, ⟨dx, h⟩ =>
    have hw : wa ≠ t := ne_of h ht (by intro z; cases z)
    exact ⟨dx, by rw [upd_ne hw]; exact h⟩
  | some es, some d, ⟨⟨dx, h⟩, ⟨ds, hds, zd⟩, hes, he6⟩ =>
    have hw : wa ≠ t := ne_of h ht (by intro z; cases z)
    have hdt := hd d rfl
    have e1 : hide d (upd H t o) = upd (hide d H) t o := by
      funext b
      by_cases h1 : b = d
      · rw [h1, upd_ne hdt]
        show (if d = d then none else _) = (if d = d then none else _)
        rw [if_pos rfl, if_pos rfl]
      · rw [hide_at h1]
        by_cases h2 : b = t
        · rw [h2, upd_same, upd_same]
        · rw [upd_ne h2, upd_ne h2, hide_at h1]
    refine ⟨⟨dx, by rw [upd_ne hw]; exact h⟩, ⟨ds, by rw [upd_ne hdt]; exact hds, ?_⟩, hes, he6⟩
    rw [e1]
    exact zd.mono fun v x hv => DevV.mono same_upd (DevV.hide (l := t) (by rw [hide_at hdt.symm]; exact ht) hv)
theorem WorkV.mono {c : Cs} {K : PySem.W.Frag} {H H' : Hp} {wa : Addr} {st : Option (List Device)} {od : Option Addr} (e : Same H H') (h : WorkV c K H wa st od) : WorkV c K H' wa st od := by
  match st, od, h with
  | none, none, ⟨dx, h⟩ => exact ⟨dx, e _ _ h⟩
  | some es, some d, ⟨⟨dx, h⟩, h2, hes, he6⟩ => exact ⟨⟨dx, e _ _ h⟩, LsV.mono moDev e h2, hes, he6⟩
theorem WorkV.obj {c : Cs} {K : PySem.W.Frag} {H : Hp} {wa : Addr} {st : Option (List Device)} {od : Option Addr} (h : WorkV c K H wa st od) : (∃ dx dv, H wa = some (.ins c.work dx (worF dv))) ∧ (∀ d, od = some d → ∃ ds, H d = some (.lst ds)) ∧ OkS st := by
  match st, od, h with
  | none, none, ⟨dx, h⟩ => exact ⟨⟨dx, _, h⟩, fun d e => (by cases e), fun es e => (by cases e)⟩
  | some es, some d, ⟨⟨dx, h⟩, ⟨ds, h2, _⟩, hes, _⟩ => exact ⟨⟨dx, _, h⟩, fun d' e => (by cases e; exact ⟨ds, h2⟩), fun es' e => (by cases e; exact hes)⟩
theorem cal_wor {c : Cs} {H : Hp} {a wa dx dw : Addr} {n ns rs e dv : V} (h : H a = some (.ins c.call dx (calF n ns rs e))) (h' : H wa = some (.ins c.work dw (worF dv))) : a ≠ wa := by
  refine ne_of h h' fun z => ?_
  injection z with _ _ z
  have e1 := calF_number n ns rs e
  rw [z] at e1
  unfold worF at e1
  rw [lookup_putF, if_neg (by decide +kernel)] at e1
  cases e1
section
variable {P : Program} {w : World} {K : PySem.W.Frag} {mg : Str → Option Value} {base : Heap} {c : Cs}
def spAnsA (K : PySem.W.Frag) : Sp := fun vs H Q _ => ∃ (a : Addr) (ns : List Int), vs = [.ref a] ∧ FzL K H a (ns.map V.int) ∧ ns.length ≤ 1200 ∧ PyMu52.answers_asked ns = true ∧ ∀ (H' : Hp) (p : Addr), H' p = some (.lst ((PyMu52.answers ns).map V.int)) → Q (.ref p) H'
theorem ok_ansA {fa : Addr} {fd : FuncData} (F : Fun K "answers" "answers" sAnsA fa fd) (hlen : mg "len" = none) (TC : ClsT K mg "Call" c.call calNames) (N : New P w K mg base 1 "Workshop" c.work 0 mkWor) (GR : Def P w K mg base 3 "read_call" ["calls", "start"] (spRead c K)) (GA : Def P w K mg base 12 "answer" ["workshop", "call"] (spAns1 c K)) :
    FnOk P w K mg base CX0 13 fa fd ["calls"] (spAnsA K) := by
  refine F.ok scAnsA (fun vs H Q E h => ?_) (fun cdv A outer s H vs Q E hr h => ?_)
  · obtain ⟨a, ns, rfl, _⟩ := h
    rfl
  · obtain ⟨a, ns, rfl, hS, hn, hask, q⟩ := h
    obtain ⟨raw, hraw, hall, hlong⟩ := asked_of hask
    have hans := answers_of hraw
    have hr2 : Room 2 _ := hr.mono (by decide)
    have hr3 : Room 3 _ := hr.mono (by decide)
    refine ⟨_, pss_cons (ps_set (i := 1) scAnsA.nd rfl (Or.inl rfl) (pe_new0 N hr2 rfl))
      (pss_cons (ps_set (i := 2) scAnsA.nd rfl (Or.inl rfl) (pe_lst pa_nil))
      (pss_cons (ps_set (i := 3) scAnsA.nd rfl (Or.inl rfl) pe_int)
      (pss_cons (ps_while PassesOwn.never (pt_cmpR op_lt (pv 3) (pe_callB call_len_seq (by rfl) hlen PySem.boot_len (pa_cons (pv 0) pa_nil)) (nomark _))
        (pss_cons (ps_set (i := 4) scAnsA.nd rfl (Or.inl rfl) (pe_def GR hr3 rfl (pa_cons (pv 0) (pa_cons (pv 3) pa_nil))))
        (pss_cons (ps_set (i := 5) scAnsA.nd rfl (Or.inl rfl) (pe_def GA hr rfl (pa_cons (pv 1) (pa_cons (pv 4) pa_nil))))
        (pss_cons (ps_expr (pe_bm PySem.F.plainAttrs_list PySem.F.slot_list_append PySem.F.type_list_append mt_append (pv 2) (pa_cons (pe_callB call_len_seq (by rfl) hlen PySem.boot_len (pa_cons (pv 5) pa_nil)) pa_nil)))
        (pss_cons (ps_expr (pe_bm PySem.F.plainAttrs_list PySem.F.slot_list_extend PySem.F.type_list_extend mt_extend (pv 2) (pa_cons (pv 5) pa_nil)))
        (pss_one (ps_set (i := 3) scAnsA.nd rfl (Or.inl rfl) (pe_fld (pv 4) rfl))))))))
      (pss_one (ps_ret (pv 2)))))), ?_⟩
    refine ⟨rfl, fun wa dw H1 hwn hw s1 => ?_⟩
    refine ⟨Nat.zero_le _, fun t ht => ?_⟩
    have s2 := Same.new (o := .lst []) ht
    have hS2 : FzL K (upd H1 t (.lst [])) a (ns.map V.int) := hS.on fun o u e => s2 _ _ (s1 _ _ e)
    have hW2 : WorkV c K (upd H1 t (.lst [])) wa none none := ⟨dw, s2 _ _ hw⟩
    refine while_by (fun σ H' => ∃ (j f : Nat) (st : Option (List Device)) (od : Option Addr) (rest : List (List (List Int))) (out : List Int) (y4 y5 : Option V), σ = [some (.ref a), some (.ref wa), some (.ref t), some (.int j), y4, y5] ∧ FzL K H' a (ns.map V.int) ∧ WorkV c K H' wa st od ∧
        H' t = some (.lst (out.map V.int)) ∧ (∀ d, od = some d → d ≠ t) ∧ j ≤ ns.length ∧ PyFlat.calls PyMu52.shape f (ns.drop j) = some rest ∧ (∀ cl ∈ rest, Mu52Neutral.asked1 cl = true) ∧ PyMu52.answers ns = out ++ PyFlat.told (PyFlat.played Mu52Neutral.step st rest))
      (fun σ _ => match σ with | [_, _, _, some (.int z), _, _] => ns.length - z.toNat | _ => 0)
      ⟨0, ns.length, none, none, raw, [], _, _, rfl, hS2, hW2, upd_same, fun d e => (by cases e), Nat.zero_le _, hraw, hall, hans⟩ ?_ ?_
    · rintro σ H' ⟨j, f', st, od, rest, out, y4, y5, rfl, hF, hW, hT, hdt, hj, hcs, hok, heq⟩
      refine ⟨_, rfl, _, rfl, a, _, rfl, .inl hF.sq, _, _, rfl, rfl, _, rfl, ite2 (fun hc => ?_) (fun hc => ?_)⟩
      · have hlt : j < ns.length := by
          have := of_decide_eq_true hc
          rw [List.length_map] at this; omega
        obtain ⟨f1, cl, tl, cs', _, e1, e2, rfl⟩ := calls_inv hcs (by
          intro z
          have := congrArg List.length z
          rw [List.length_drop] at this
          simp at this; omega)
        obtain ⟨p, nums, rows, ecl, co, hstep⟩ := step_eq (hok cl List.mem_cons_self)
        refine ⟨_, rfl, _, rfl, a, j, ns, cl, tl, rfl, hF.sq, hn, e1, fun v1 H2 e s3 hC hdr hel hje => ?_⟩
        obtain ⟨ac, dc, p', nums', rows', vn, rr, rfl, ecl', hac, hvn, hrr⟩ := hC
        rw [ecl] at ecl'
        injection ecl' with ecl1 ecl2
        injection ecl1 with ecl3 ecl4
        subst ecl3; subst ecl4; subst ecl2
        have hF2 : FzL K H2 a (ns.map V.int) := hF.on fun o u e => s3 _ _ e
        have hW2 := hW.mono s3
        obtain ⟨⟨dw2, dv2, hwa⟩, hdd, hos⟩ := hW2.obj
        have hst := hstep st hos
        refine ⟨_, rfl, _, rfl, wa, st, od, ac, dc, p, vn, nums, rr, rows, _, rfl, hW2, hac, hvn, hrr, co, fun v3 H3 od' kp hW3 hod hv3 hvd => ?_⟩
        have hT2 := s3 _ _ hT
        have htw : t ≠ wa := ne_of hT2 hwa (by intro z; cases z)
        have hT3 := kp t _ hT2 htw (fun z => hdt t z rfl)
        have hdt3 : ∀ d, od' = some d → d ≠ t := fun d ed => by
          rcases hod d ed with z | z
          · exact hdt d z
          · exact (ne_of_none hT2 z).symm
        have hF3 : FzL K H3 a (ns.map V.int) := hF2.on fun o u e => kp a _ e (ne_of e hwa (by intro z; cases z)) (fun z => by
          obtain ⟨ds, hds⟩ := hdd a z
          exact ne_of e hds (by intro z; cases z) rfl)
        have hac3 := kp ac _ hac (cal_wor hac hwa) (fun z => by
          obtain ⟨ds, hds⟩ := hdd ac z
          exact ne_of hac hds (by intro z; cases z) rfl)
        have hact : ac ≠ t := ne_of hac hT2 (by intro z; cases z)
        obtain ⟨pv', rfl, hpn, hpv⟩ := hv3
        have hpt : pv' ≠ t := (ne_of_none hT2 hpn).symm
        -- told grows
        have hpl : PyFlat.played Mu52Neutral.step st (cl :: cs') = (ansA st p nums rows).2 :: PyFlat.played Mu52Neutral.step (ansA st p nums rows).1 cs' := by rw [hst]; rfl
        have hnew : PyMu52.answers ns = ((out ++ [((ansA st p nums rows).2.length : Int)]) ++ (ansA st p nums rows).2) ++ PyFlat.told (PyFlat.played Mu52Neutral.step (ansA st p nums rows).1 cs') := by
          rw [heq, hpl, told_cons]
          simp only [List.append_assoc, List.cons_append, List.nil_append]
        have hlen2 : out.length + 1 + (ansA st p nums rows).2.length ≤ 10000000 := by
          have := congrArg List.length hnew
          simp only [List.length_append, List.length_singleton] at this
          omega
        have hsl : sizeLine = 16777216 := sizeLine_eq
        refine ⟨_, rfl, .inl ⟨rfl, _, SqL.of hT3⟩, _, rfl, pv', _, rfl, .inl (SqL.of hpv), t, _, _, rfl, rfl, hT3, by rw [List.length_map]; omega, ?_⟩
        have hW4 : WorkV c K (upd H3 t (.lst (out.map V.int ++ [.int (((ansA st p nums rows).2.map V.int).length : Int)]))) wa (ansA st p nums rows).1 od' := hW3.put hT3 hdt3
        refine ⟨_, rfl, .inl ⟨rfl, _, SqL.of upd_same⟩, _, rfl, t, pv', _, _, rfl, rfl, upd_same, by rw [upd_ne hpt]; exact hpv, by simp only [List.length_append, List.length_map, List.length_singleton]; omega, ?_⟩
        have hW5 := hW4.put (o := .lst ((out.map V.int ++ [.int (((ansA st p nums rows).2.map V.int).length : Int)]) ++ (ansA st p nums rows).2.map V.int)) upd_same hdt3
        refine ⟨_, rfl, ac, c.call, dc, _, _, rfl, by rw [upd_ne hact, upd_ne hact]; exact hac3, TC.cl, TC.na _ (by decide +kernel), calF_end _ _ _ _, ?_⟩
        have hat : ∀ o u, H3 a = some (.frz o u) → a ≠ t := fun o u e => ne_of e hT3 (by intro z; cases z)
        refine ⟨⟨e, f1, (ansA st p nums rows).1, od', cs', (out ++ [((ansA st p nums rows).2.length : Int)]) ++ (ansA st p nums rows).2, _, _, rfl, hF3.on fun o u e => by rw [upd_ne (hat o u e), upd_ne (hat o u e)]; exact e, hW5, ?_, hdt3, hel, by rw [hdr]; exact e2, fun x hx => hok x (List.mem_cons_of_mem _ hx), hnew⟩, ?_⟩
        · rw [upd_same, List.map_append, List.map_append, List.length_map]; rfl
        · show ns.length - ((e : Nat) : Int).toNat < ns.length - ((j : Nat) : Int).toNat
          omega
      · have hge : ¬ j < ns.length := fun z => hc (decide_eq_true (by rw [List.length_map]; omega))
        have ed : ns.drop j = [] := List.drop_eq_nil_of_le (by omega)
        rw [ed] at hcs
        have er := calls_nil hcs
        subst er
        refine ⟨_, rfl, q H' t ?_⟩
        rw [heq]
        show H' t = some (.lst ((out ++ []).map V.int))
        rw [List.append_nil]; exact hT
    · intro σ H' Q1 Q2 hm hq
      obtain ⟨v, h1, v', h2, p', ys, h3, h4, i3, j3, h9, h10, k3, h11, h12⟩ := hq
      exact ⟨v, h1, v', h2, p', ys, h3, h4, i3, j3, h9, h10, k3, h11, hm _ _ h12⟩
end
end Cr
end
section
set_option Elab.async false
set_option linter.all false
set_option maxRecDepth 100000
set_option maxHeartbeats 2000000
namespace Cr
open PySem PySem.Spec PyProof.Rows L2
open Mu52 (Q Pt Map Device)
section
variable {K : PySem.W.Frag} {mg : Str → Option Value} {h : Heap}
/-! ### what the top has written -/
theorem txt_mk {x : Str} {st : Stmt} {ps : List Str} {f : Addr} {oc : Value} {od an : Option Addr} {osl : Array (Option Value)} {kV doc pm cdv ct : Value} (X : K.In h) (G : h.Ns mainGlobals mg) (a : PySem.W.nsIn K mainGlobals x = some (some (.ref f)))
    (l : K.lookup f = some ⟨oc, od, .func (PySem.W.fnOf x x (defArgs st) (defBody st) (defScope st) .none kV doc pm an cdv ct), osl⟩) (c : PySem.W.codeIn K cdv x = true) (k : PySem.W.keepIn K (.ref f) = true)
    (b : ∀ (kV doc pm : Value) (an : Option Addr) (cdv ct : Value) (us : List Value), us.length = ps.length → bindArgs (PySem.W.fnOf x x (defArgs st) (defBody st) (defScope st) .none kV doc pm an cdv ct) ⟨us, []⟩ = pure (ps.zip us)) : Txt K mg x st ps :=
  ⟨f, _, fun_mk l c k, PySem.W.mg_of X G a, (fun_mk l c k).binds b⟩
theorem cls_mk {x qual : Str} {st : Stmt} {ps : List Str} {C f : Addr} {oc : Value} {od an : Option Addr} {osl : Array (Option Value)} {kV doc pm cdv ct : Value} (X : K.In h) (G : h.Ns mainGlobals mg) (aC : PySem.W.nsIn K mainGlobals x = some (some (.ref C)))
    (a1 : PySem.W.findIn K (.ref C) "__init__" = some (some (.ref f))) (i1 : PySem.W.isFn K (.ref f) = true) (l : K.lookup f = some ⟨oc, od, .func (PySem.W.fnOf "__init__" qual (defArgs st) (defBody st) (defScope st) .none kV doc pm an cdv ct), osl⟩)
    (c : PySem.W.codeIn K cdv qual = true) (k : PySem.W.keepIn K (.ref f) = true) (pg : PySem.W.plainGet K C Str.empty = true) (hd : PySem.W.hasDictIn K C = true) (po : PySem.W.plainOver K C = true) (sa : PySem.W.findIn K (.ref C) "__setattr__" = some (some (.builtin "object.__setattr__")))
    (mk : PySem.W.makesIn K C = true) (kc : PySem.W.keepIn K (.ref C) = true)
    (b : ∀ (kV doc pm : Value) (an : Option Addr) (cdv ct : Value) (us : List Value), us.length = ps.length → bindArgs (PySem.W.fnOf "__init__" qual (defArgs st) (defBody st) (defScope st) .none kV doc pm an cdv ct) ⟨us, []⟩ = pure (ps.zip us)) :
    TxtI K mg x qual st C ps ∧ Cls K C ∧ mg x = some (.ref C) :=
  ⟨⟨⟨f, _, fun_mk l c k, ⟨mk, a1, i1, kc⟩, (fun_mk l c k).binds b⟩, PySem.W.mg_of X G aC⟩, ⟨pg, hd, po, sa⟩, PySem.W.mg_of X G aC⟩
theorem gint_mk {x : Str} {i : Int} {t : Tok} (X : K.In h) (G : h.Ns mainGlobals mg) (a : PySem.W.nsIn K mainGlobals x = some (some (.int i t))) : GInt mg x i := ⟨t, PySem.W.mg_of X G a⟩
theorem tup2 {f : Addr} {i j : Int} {t u : Tok} {d : Option Addr} {n : Nat} {sl : Array (Option Value)} (l : K.lookup f = some ⟨.type "tuple", d, .seq #[.int i t, .int j u] n, sl⟩) (H : Hp) : SqT K H f [.int i, .int j] :=
  .inr ⟨_, #[.int i t, .int j u], n, l, rfl, rfl, by show 2 ≤ sizeLine; decide, .cons ⟨t, rfl⟩ (.cons ⟨u, rfl⟩ .nil)⟩
theorem gfr_mk {x : Str} {f : Addr} {i : Int} {j : Nat} {t u : Tok} {d : Option Addr} {n : Nat} {sl : Array (Option Value)} (X : K.In h) (G : h.Ns mainGlobals mg) (a : PySem.W.nsIn K mainGlobals x = some (some (.ref f)))
    (l : K.lookup f = some ⟨.type "tuple", d, .seq #[.int i t, .int (j : Int) u] n, sl⟩) : GFr K mg x ⟨i, j⟩ := ⟨f, PySem.W.mg_of X G a, fun H => ⟨f, rfl, tup2 l H⟩⟩
theorem gpt_mk {x : Str} {f f1 f2 : Addr} {t1 u1 t2 u2 : Tok} {d d1 d2 : Option Addr} {n n1 n2 : Nat} {sl s1 s2 : Array (Option Value)} (X : K.In h) (G : h.Ns mainGlobals mg) (a : PySem.W.nsIn K mainGlobals x = some (some (.ref f)))
    (l : K.lookup f = some ⟨.type "tuple", d, .seq #[.ref f1, .ref f2] n, sl⟩) (l1 : K.lookup f1 = some ⟨.type "tuple", d1, .seq #[.int 0 t1, .int 1 u1] n1, s1⟩) (l2 : K.lookup f2 = some ⟨.type "tuple", d2, .seq #[.int 0 t2, .int 1 u2] n2, s2⟩) : GPt K mg x ⟨Mu52.zero, Mu52.zero⟩ :=
  ⟨f, PySem.W.mg_of X G a, fun H => ⟨f, .ref f1, .ref f2, rfl, .inr ⟨_, #[.ref f1, .ref f2], n, l, rfl, rfl, by show 2 ≤ sizeLine; decide, .cons rfl (.cons rfl .nil)⟩, ⟨f1, rfl, tup2 l1 H⟩, ⟨f2, rfl, tup2 l2 H⟩⟩⟩
theorem forms_mk {f b0 b1 b2 b3 b4 b5 b6 b7 b8 b9 b10 b11 : Addr} {d d0 d1 d2 d3 d4 d5 d6 d7 d8 d9 d10 d11 : Option Addr} {n n0 n1 n2 n3 n4 n5 n6 n7 n8 n9 n10 n11 : Nat} {sl s0 s1 s2 s3 s4 s5 s6 s7 s8 s9 s10 s11 : Array (Option Value)} {t0 t1 t2 t3 t4 t5 t6 t7 t8 t9 t10 t11 u0 u1 u2 u3 u4 u5 u6 u7 u8 u9 u10 u11 : Tok} (X : K.In h) (G : h.Ns mainGlobals mg) (a : PySem.W.nsIn K mainGlobals "CALL_FORMS" = some (some (.ref f)))
    (l : K.lookup f = some ⟨.type "tuple", d, .seq #[.ref b0, .ref b1, .ref b2, .ref b3, .ref b4, .ref b5, .ref b6, .ref b7, .ref b8, .ref b9, .ref b10, .ref b11] n, sl⟩)
    (l0 : K.lookup b0 = some ⟨.type "tuple", d0, .seq #[.int 0 t0, .int 0 u0] n0, s0⟩)
    (l1 : K.lookup b1 = some ⟨.type "tuple", d1, .seq #[.int 6 t1, .int 0 u1] n1, s1⟩)
    (l2 : K.lookup b2 = some ⟨.type "tuple", d2, .seq #[.int 0 t2, .int 1 u2] n2, s2⟩)
    (l3 : K.lookup b3 = some ⟨.type "tuple", d3, .seq #[.int 2 t3, .int 1 u3] n3, s3⟩)
    (l4 : K.lookup b4 = some ⟨.type "tuple", d4, .seq #[.int 0 t4, .int 1 u4] n4, s4⟩)
    (l5 : K.lookup b5 = some ⟨.type "tuple", d5, .seq #[.int 0 t5, .int 2 u5] n5, s5⟩)
    (l6 : K.lookup b6 = some ⟨.type "tuple", d6, .seq #[.int 0 t6, .int 1 u6] n6, s6⟩)
    (l7 : K.lookup b7 = some ⟨.type "tuple", d7, .seq #[.int 0 t7, .int 2 u7] n7, s7⟩)
    (l8 : K.lookup b8 = some ⟨.type "tuple", d8, .seq #[.int 0 t8, .int 1 u8] n8, s8⟩)
    (l9 : K.lookup b9 = some ⟨.type "tuple", d9, .seq #[.int 4 t9, .int 0 u9] n9, s9⟩)
    (l10 : K.lookup b10 = some ⟨.type "tuple", d10, .seq #[.int 4 t10, .int 1 u10] n10, s10⟩)
    (l11 : K.lookup b11 = some ⟨.type "tuple", d11, .seq #[.int 0 t11, .int 0 u11] n11, s11⟩) : GForms K mg := by
  refine ⟨f, PySem.W.mg_of X G a, [.ref b0, .ref b1, .ref b2, .ref b3, .ref b4, .ref b5, .ref b6, .ref b7, .ref b8, .ref b9, .ref b10, .ref b11], fun H => .inr ⟨_, #[.ref b0, .ref b1, .ref b2, .ref b3, .ref b4, .ref b5, .ref b6, .ref b7, .ref b8, .ref b9, .ref b10, .ref b11], n, l, rfl, rfl, by show 12 ≤ sizeLine; decide, .cons rfl (.cons rfl (.cons rfl (.cons rfl (.cons rfl (.cons rfl (.cons rfl (.cons rfl (.cons rfl (.cons rfl (.cons rfl (.cons rfl (.nil))))))))))))⟩, fun p n k e => ?_⟩
  unfold PyMu52.shape at e
  by_cases h0 : p = 0
  · subst h0
    rw [if_pos rfl] at e
    cases e
    exact ⟨b0, rfl, fun H => tup2 l0 H⟩
  by_cases h1 : p = 1
  · subst h1
    rw [if_neg (by decide), if_pos rfl] at e
    cases e
    exact ⟨b1, rfl, fun H => tup2 l1 H⟩
  by_cases h2 : p = 2
  · subst h2
    rw [if_neg (by decide), if_neg (by decide), if_pos rfl] at e
    cases e
    exact ⟨b2, rfl, fun H => tup2 l2 H⟩
  by_cases h3 : p = 3
  · subst h3
    rw [if_neg (by decide), if_neg (by decide), if_neg (by decide), if_pos rfl] at e
    cases e
    exact ⟨b3, rfl, fun H => tup2 l3 H⟩
  by_cases h4 : p = 4
  · subst h4
    rw [if_neg (by decide), if_neg (by decide), if_neg (by decide), if_neg (by decide), if_pos rfl] at e
    cases e
    exact ⟨b4, rfl, fun H => tup2 l4 H⟩
  by_cases h5 : p = 5
  · subst h5
    rw [if_neg (by decide), if_neg (by decide), if_neg (by decide), if_neg (by decide), if_neg (by decide), if_pos rfl] at e
    cases e
    exact ⟨b5, rfl, fun H => tup2 l5 H⟩
  by_cases h6 : p = 6
  · subst h6
    rw [if_neg (by decide), if_neg (by decide), if_neg (by decide), if_neg (by decide), if_neg (by decide), if_neg (by decide), if_pos rfl] at e
    cases e
    exact ⟨b6, rfl, fun H => tup2 l6 H⟩
  by_cases h7 : p = 7
  · subst h7
    rw [if_neg (by decide), if_neg (by decide), if_neg (by decide), if_neg (by decide), if_neg (by decide), if_neg (by decide), if_neg (by decide), if_pos rfl] at e
    cases e
    exact ⟨b7, rfl, fun H => tup2 l7 H⟩
  by_cases h8 : p = 8
  · subst h8
    rw [if_neg (by decide), if_neg (by decide), if_neg (by decide), if_neg (by decide), if_neg (by decide), if_neg (by decide), if_neg (by decide), if_neg (by decide), if_pos rfl] at e
    cases e
    exact ⟨b8, rfl, fun H => tup2 l8 H⟩
  by_cases h9 : p = 9
  · subst h9
    rw [if_neg (by decide), if_neg (by decide), if_neg (by decide), if_neg (by decide), if_neg (by decide), if_neg (by decide), if_neg (by decide), if_neg (by decide), if_neg (by decide), if_pos rfl] at e
    cases e
    exact ⟨b9, rfl, fun H => tup2 l9 H⟩
  by_cases h10 : p = 10
  · subst h10
    rw [if_neg (by decide), if_neg (by decide), if_neg (by decide), if_neg (by decide), if_neg (by decide), if_neg (by decide), if_neg (by decide), if_neg (by decide), if_neg (by decide), if_neg (by decide), if_pos rfl] at e
    cases e
    exact ⟨b10, rfl, fun H => tup2 l10 H⟩
  by_cases h11 : p = 11
  · subst h11
    rw [if_neg (by decide), if_neg (by decide), if_neg (by decide), if_neg (by decide), if_neg (by decide), if_neg (by decide), if_neg (by decide), if_neg (by decide), if_neg (by decide), if_neg (by decide), if_neg (by decide), if_pos rfl] at e
    cases e
    exact ⟨b11, rfl, fun H => tup2 l11 H⟩
  rw [if_neg h0, if_neg h1, if_neg h2, if_neg h3, if_neg h4, if_neg h5, if_neg h6, if_neg h7, if_neg h8, if_neg h9, if_neg h10, if_neg h11] at e
  cases e
end
/-- all that the chain of promises leans on -/
structure AllT (K : PySem.W.Frag) (mg : Str → Option Value) (c : Cs) : Prop where
  t4 : Txt K mg "common_divisor" (top 4) ["one", "other"]
  t5 : Txt K mg "fraction" (top 5) ["divided", "by"]
  t6 : Txt K mg "plus" (top 6) ["one", "other"]
  t7 : Txt K mg "minus" (top 7) ["one", "other"]
  t8 : Txt K mg "times" (top 8) ["one", "other"]
  t9 : Txt K mg "divided_by" (top 9) ["one", "other"]
  t10 : Txt K mg "whole_point" (top 10) ["right", "up"]
  t11 : Txt K mg "step_between" (top 11) ["start", "end"]
  t12 : Txt K mg "square_between" (top 12) ["start", "end"]
  t13 : Txt K mg "told_point" (top 13) ["point"]
  t15 : Txt K mg "no_motion" (top 15) []
  t16 : Txt K mg "sideways_size" (top 16) ["motion"]
  t17 : Txt K mg "moved" (top 17) ["motion", "point"]
  t18 : Txt K mg "about_pivot" (top 18) ["pivot", "size", "mirrors"]
  t19 : Txt K mg "joined" (top 19) ["first", "second"]
  t20 : Txt K mg "shift_apart" (top 20) ["first", "second"]
  t21 : Txt K mg "told_motion" (top 21) ["motion"]
  t22 : Txt K mg "resting_place" (top 22) ["size", "shift"]
  t23 : Txt K mg "told_staying" (top 23) ["motion"]
  t50 : Txt K mg "read_call" (top 50) ["calls", "start"]
  t51 : Txt K mg "is_on_sheet" (top 51) ["number"]
  t52 : Txt K mg "is_size_part" (top 52) ["number"]
  t53 : Txt K mg "is_row" (top 53) ["devices", "row"]
  t54 : Txt K mg "is_build" (top 54) ["build"]
  t55 : Txt K mg "size_of" (top 55) ["build"]
  t56 : Txt K mg "answer_device" (top 56) ["devices", "numbers"]
  t57 : Txt K mg "row_motion" (top 57) ["devices", "row"]
  t58 : Txt K mg "longer_by_one" (top 58) ["devices", "trials"]
  t59 : Txt K mg "first_with" (top 59) ["trials", "wanted"]
  t60 : Txt K mg "answer_found_row" (top 60) ["devices", "start", "wanted"]
  t61 : Txt K mg "answer_make" (top 61) ["devices", "build"]
  t62 : Txt K mg "all_orders" (top 62) ["row"]
  t63 : Txt K mg "answer_orders" (top 63) ["devices", "row"]
  t64 : Txt K mg "answer_far" (top 64) ["motion", "numbers"]
  t65 : Txt K mg "answer_look" (top 65) ["devices"]
  t66 : Txt K mg "answer_two_rows" (top 66) ["number", "first", "second"]
  t67 : Txt K mg "answer_one_row" (top 67) ["devices", "call"]
  t68 : Txt K mg "answer_rows" (top 68) ["devices", "call"]
  t69 : Txt K mg "answer_in_workshop" (top 69) ["devices", "call"]
  t70 : Txt K mg "answer" (top 70) ["workshop", "call"]
  i14 : TxtI K mg "Motion" "Motion.__init__" (inClass (top 14) 0) c.mo ["self", "mirrors", "size", "shift"]
  k14 : ClsT K mg "Motion" c.mo moNames
  i46 : TxtI K mg "Call" "Call.__init__" (inClass (top 46) 0) c.call ["self", "number", "numbers", "rows", "end"]
  k46 : ClsT K mg "Call" c.call calNames
  i47 : TxtI K mg "Device" "Device.__init__" (inClass (top 47) 0) c.dev ["self", "pivot", "motion"]
  k47 : ClsT K mg "Device" c.dev devNames
  i48 : TxtI K mg "Workshop" "Workshop.__init__" (inClass (top 48) 0) c.work ["self"]
  k48 : ClsT K mg "Workshop" c.work worNames
  i49 : TxtI K mg "Trial" "Trial.__init__" (inClass (top 49) 0) c.tri ["self", "row", "motion"]
  k49 : ClsT K mg "Trial" c.tri triNames
  g_BEGIN : GInt mg "BEGIN" 0
  g_DEVICE : GInt mg "DEVICE" 1
  g_ROW : GInt mg "ROW" 2
  g_COPY : GInt mg "COPY" 3
  g_STAYS : GInt mg "STAYS" 4
  g_SAME : GInt mg "SAME" 5
  g_UNDO : GInt mg "UNDO" 6
  g_ORDERS : GInt mg "ORDERS" 8
  g_MAKE : GInt mg "MAKE" 9
  g_LOOK : GInt mg "LOOK" 11
  g_NO_WORKSHOP : GInt mg "NO_WORKSHOP" (-9)
  g_WRONG_NUMBER : GInt mg "WRONG_NUMBER" (-1)
  g_WRONG_ROW : GInt mg "WRONG_ROW" (-2)
  g_WORKSHOP_FULL : GInt mg "WORKSHOP_FULL" (-5)
  g_NO_SUCH_ROW : GInt mg "NO_SUCH_ROW" (-6)
  g_SHEET_EDGE : GInt mg "SHEET_EDGE" 100
  g_SIZE_MOST : GInt mg "SIZE_MOST" 9
  g_ROW_MOST : GInt mg "ROW_MOST" 5
  g_FOUND_ROW_MOST : GInt mg "FOUND_ROW_MOST" 3
  g_DEVICES_MOST : GInt mg "DEVICES_MOST" 6
  n_abs : mg "abs" = none
  n_list : mg "list" = none
  n_len : mg "len" = none
  n_all : mg "all" = none
  n_range : mg "range" = none
  n_set : mg "set" = none
  n_tuple : mg "tuple" = none
  zero : GFr K mg "ZERO" Mu52.zero
  one : GFr K mg "ONE" Mu52.one
  middle : GPt K mg "MIDDLE" ⟨Mu52.zero, Mu52.zero⟩
  forms : GForms K mg
theorem chain {P : Program} {w : World} {K : PySem.W.Frag} {mg : Str → Option Value} {base : Heap} {c : Cs} {fa : Addr} {fd : FuncData} (T : AllT K mg c) (F : Fun K "answers" "answers" sAnsA fa fd) : FnOk P w K mg base CX0 13 fa fd ["calls"] (spAnsA K) := by
  have D4 : Def P w K mg base 1 "common_divisor" ["one", "other"] spGcd := ok_gcd T.t4
  have D5 := ok_frac T.t5 T.n_abs D4
  have D6 := ok_plus T.t6 D5
  have D7 := ok_minus T.t7 D5
  have D8 := ok_times T.t8 D5
  have D9 := ok_divBy T.t9 D5
  have D10 := ok_whole T.t10 D5
  have D11 := ok_step T.t11 D7
  have D12 := ok_square T.t12 D11 D6 D8
  have D13 := ok_toldP (P := P) (w := w) (base := base) T.t13 T.n_list
  have N14 := ok_moI (P := P) (w := w) (base := base) T.i14 T.k14
  have D15 := ok_noMo T.t15 N14 T.one T.middle
  have D16 := ok_side T.t16 T.k14 D7 T.zero
  have D17 := ok_moved T.t17 T.k14 D6 D8 D16
  have D18 := ok_about T.t18 N14 T.middle D17 D11
  have D19 := ok_joined T.t19 T.k14 N14 D8 D17
  have D20 := ok_apart T.t20 T.k14 D11 D19
  have D21 := ok_toldM T.t21 T.k14 T.n_list D13
  have D22 := ok_rest T.t22 D9 D7 T.one
  have D23 := ok_stay T.t23 T.k14 T.n_list T.zero T.one D16 D22 D13
  have N46 := ok_calI (P := P) (w := w) (base := base) T.i46 T.k46
  have N47 := ok_devI (P := P) (w := w) (base := base) T.i47 T.k47
  have N48 := ok_worI (P := P) (w := w) (base := base) T.i48 T.k48
  have N49 := ok_triI (P := P) (w := w) (base := base) T.i49 T.k49
  have D50 := ok_read (c := c) T.t50 T.n_len T.forms N46
  have D51 := ok_sheet (P := P) (w := w) (base := base) T.t51 T.g_SHEET_EDGE
  have D52 := ok_part (P := P) (w := w) (base := base) T.t52 T.g_SIZE_MOST
  have D53 := ok_isRow (P := P) (w := w) (base := base) (c := c) T.t53 T.g_ROW_MOST T.n_len T.n_all
  have D54 := ok_build T.t54 D52
  have D55 := ok_sizeOf T.t55 D5
  have D56 := ok_device (c := c) T.t56 T.n_len T.g_WRONG_NUMBER T.g_DEVICES_MOST T.g_WORKSHOP_FULL N47 D51 D54 D10 D18 D55
  have D57 := ok_rowM (c := c) T.t57 T.k47 D15 D19
  have D58 := ok_longer (c := c) T.t58 T.n_range T.n_len T.k47 T.k49 N49 D19
  have D59 := ok_first (c := c) T.t59 T.n_len T.k49 D21
  have D60 := ok_found T.t60 T.n_len T.k49 N49 T.g_FOUND_ROW_MOST T.g_NO_SUCH_ROW D59 D58
  have D61 := ok_make T.t61 T.n_list T.g_WRONG_NUMBER D54 D60 D15 D55
  have D62 := ok_allO (P := P) (w := w) (base := base) T.t62 T.n_len T.n_range
  have D63 := ok_ordA T.t63 T.n_len T.n_set T.n_tuple D21 D57 D62
  have D64 := ok_far (c := c) T.t64 T.n_list D17 D10 D12
  have D65 := ok_look (c := c) T.t65 T.n_len T.n_list T.k47 T.k14 D13
  have D66 := ok_two (c := c) T.t66 T.g_SAME D21 D13 D20
  have D67 := ok_one T.t67 T.k46 T.g_ORDERS T.g_ROW T.g_COPY T.g_STAYS T.g_UNDO D63 D57 D21 D13 D17 D10 D23 D60 D15 D64
  have D68 := ok_rowsA T.t68 T.k46 T.n_len T.n_all T.g_WRONG_ROW T.g_WRONG_NUMBER D53 D51 D66 D57 D67
  have D69 := ok_inW T.t69 T.k46 T.g_DEVICE T.g_MAKE T.g_LOOK D56 D61 D65 D68
  have D70 := ok_ans1 T.t70 T.k46 T.k48 T.g_BEGIN T.g_NO_WORKSHOP D69
  exact ok_ansA F T.n_len T.k46 N48 D50 D70
theorem top_mk {P : Program} {w : World} {K : PySem.W.Frag} {h : Heap} {mg : Str → Option Value} {fa f : Addr} {c : Cs} {oc : Value} {od an : Option Addr} {osl : Array (Option Value)} {kV doc pm cdv ct : Value} (T : AllT K mg c) (X : K.In h) (G : h.Ns mainGlobals mg) (hfa : mg "answers" = some (.ref fa))
    (a : PySem.W.nsIn K mainGlobals "answers" = some (some (.ref f))) (l : K.lookup f = some ⟨oc, od, .func (PySem.W.fnOf "answers" "answers" (defArgs sAnsA) (defBody sAnsA) (defScope sAnsA) .none kV doc pm an cdv ct), osl⟩) (cc : PySem.W.codeIn K cdv "answers" = true) (k : PySem.W.keepIn K (.ref f) = true) :
    ∃ fd : FuncData, (∀ (s : Shared) (us : List Value), us.length = (["calls"] : List Str).length → BindsTo s fd ⟨us, []⟩ ((["calls"] : List Str).zip us)) ∧ ∀ base : Heap, K.In base → base.Ns mainGlobals mg → FnOk P w K mg base CX0 13 fa fd ["calls"] (spAnsA K) := by
  have e := hfa.symm.trans (PySem.W.mg_of X G a)
  cases e
  exact ⟨_, fun s us hu => match us, hu with | [_], _ => .of_eq rfl, fun base _ _ => chain T (fun_mk l cc k)⟩
end Cr
end
def PySem.W.Fast.tw2611016195499990520 : Nat := 0
def PySem.W.Fast.tw10081758093507973114 : Nat := 0
def PySem.W.Fast.tw4950730649376329065 : Nat := 0
def PySem.W.Fast.tw7404133704860245496 : Nat := 0
def PySem.W.Fast.tw8275321736352235464 : Nat := 0
def PySem.W.Fast.tw6895117681680541911 : Nat := 0
def PySem.W.Fast.tw12578161304415977001 : Nat := 0
def PySem.W.Fast.tw13341933359988944188 : Nat := 0
def PySem.W.Fast.tw3014868727543568139 : Nat := 0
def PySem.W.Fast.tw10106745978109085695 : Nat := 0
def PySem.W.Fast.tw10388923173117800733 : Nat := 0
def PySem.W.Fast.tw1346070159049522515 : Nat := 0
set_option Elab.async false
open PySem PySem.W PyProof.Rows
set_option maxRecDepth 100000 in
set_option maxHeartbeats 0 in
theorem PySem.Challenge.cw_copyrods_s01_answers_holds : PySem.Challenge.rw_copyrods_s01_answers.Holds := by
  w_on; k_headS; (case hw => exact ⟨[.list [.int 0]], by decide +kernel, by decide +kernel⟩)
  k_fillS
  refine L2.walk_specK (r := PySem.Challenge.rw_copyrods_s01_answers) (k := 13) (CX := L2.CX0) (ps := ["calls"]) (sp := Cr.spAnsA) (by decide +kernel) rfl rfl ⟨rfl, by decide, by decide⟩ (fun w h Y => PySem.W.kIn_of Y) ?F ?S (fun _ _ _ _ z => z)
  case F =>
    intro w mg fa h Y KX G hmg
    have hmg' : mg "answers" = some (.ref fa) := hmg
    clear hmg
    have c14 : ∃ C, (Cr.TxtI (L2.KOf KX) mg "Motion" "Motion.__init__" (L2.inClass (Cr.top 14) 0) C ["self", "mirrors", "size", "shift"] ∧ L2.Cls (L2.KOf KX) C ∧ mg "Motion" = some (.ref C)) ∧ L2.NoAttr (L2.KOf KX) C "mirrors" ∧ L2.NoAttr (L2.KOf KX) C "size" ∧ L2.NoAttr (L2.KOf KX) C "shift" := by
      dsimp only [L2.KOf]
      refine' ⟨_, Cr.cls_mk KX G ?aC_2 ?a1_2 ?i1_2 ?l_2 ?c_2 ?k_2 ?pg_2 ?hd_2 ?po_2 ?sa_2 ?mk_2 ?kc_2 ?b_2, ?x0_2, ?x1_2, ?x2_2⟩
      (case aC_2 => k_is); (case a1_2 => k_is); (case i1_2 => k_is); (case l_2 => k_is); (case c_2 => k_is); (case k_2 => k_is); (case pg_2 => k_is); (case hd_2 => k_is); (case po_2 => k_is); (case sa_2 => k_is); (case mk_2 => k_is); (case kc_2 => k_is)
      (case b_2 => exact fun _ _ _ _ _ _ us hl => match us, hl with | [_, _, _, _], _ => rfl)
      all_goals (unfold L2.NoAttr; k_is)
    obtain ⟨C14, ⟨I14, L14, M14⟩, x14_0, x14_1, x14_2⟩ := c14
    have K14 : Cr.ClsT (L2.KOf KX) mg "Motion" C14 Cr.moNames := ⟨L14, M14, fun f hf => by
      simp only [Cr.moNames, List.mem_cons, List.not_mem_nil, or_false] at hf
      rcases hf with rfl | rfl | rfl
      · exact x14_0
      · exact x14_1
      · exact x14_2⟩
    have c46 : ∃ C, (Cr.TxtI (L2.KOf KX) mg "Call" "Call.__init__" (L2.inClass (Cr.top 46) 0) C ["self", "number", "numbers", "rows", "end"] ∧ L2.Cls (L2.KOf KX) C ∧ mg "Call" = some (.ref C)) ∧ L2.NoAttr (L2.KOf KX) C "number" ∧ L2.NoAttr (L2.KOf KX) C "numbers" ∧ L2.NoAttr (L2.KOf KX) C "rows" ∧ L2.NoAttr (L2.KOf KX) C "end" := by
      dsimp only [L2.KOf]
      refine' ⟨_, Cr.cls_mk KX G ?aC_5 ?a1_5 ?i1_5 ?l_5 ?c_5 ?k_5 ?pg_5 ?hd_5 ?po_5 ?sa_5 ?mk_5 ?kc_5 ?b_5, ?x0_5, ?x1_5, ?x2_5, ?x3_5⟩
      (case aC_5 => k_is); (case a1_5 => k_is); (case i1_5 => k_is); (case l_5 => k_is); (case c_5 => k_is); (case k_5 => k_is); (case pg_5 => k_is); (case hd_5 => k_is); (case po_5 => k_is); (case sa_5 => k_is); (case mk_5 => k_is); (case kc_5 => k_is)
      (case b_5 => exact fun _ _ _ _ _ _ us hl => match us, hl with | [_, _, _, _, _], _ => rfl)
      all_goals (unfold L2.NoAttr; k_is)
    obtain ⟨C46, ⟨I46, L46, M46⟩, x46_0, x46_1, x46_2, x46_3⟩ := c46
    have K46 : Cr.ClsT (L2.KOf KX) mg "Call" C46 Cr.calNames := ⟨L46, M46, fun f hf => by
      simp only [Cr.calNames, List.mem_cons, List.not_mem_nil, or_false] at hf
      rcases hf with rfl | rfl | rfl | rfl
      · exact x46_0
      · exact x46_1
      · exact x46_2
      · exact x46_3⟩
    have c47 : ∃ C, (Cr.TxtI (L2.KOf KX) mg "Device" "Device.__init__" (L2.inClass (Cr.top 47) 0) C ["self", "pivot", "motion"] ∧ L2.Cls (L2.KOf KX) C ∧ mg "Device" = some (.ref C)) ∧ L2.NoAttr (L2.KOf KX) C "pivot" ∧ L2.NoAttr (L2.KOf KX) C "motion" := by
      dsimp only [L2.KOf]
      refine' ⟨_, Cr.cls_mk KX G ?aC_8 ?a1_8 ?i1_8 ?l_8 ?c_8 ?k_8 ?pg_8 ?hd_8 ?po_8 ?sa_8 ?mk_8 ?kc_8 ?b_8, ?x0_8, ?x1_8⟩
      (case aC_8 => k_is); (case a1_8 => k_is); (case i1_8 => k_is); (case l_8 => k_is); (case c_8 => k_is); (case k_8 => k_is); (case pg_8 => k_is); (case hd_8 => k_is); (case po_8 => k_is); (case sa_8 => k_is); (case mk_8 => k_is); (case kc_8 => k_is)
      (case b_8 => exact fun _ _ _ _ _ _ us hl => match us, hl with | [_, _, _], _ => rfl)
      all_goals (unfold L2.NoAttr; k_is)
    obtain ⟨C47, ⟨I47, L47, M47⟩, x47_0, x47_1⟩ := c47
    have K47 : Cr.ClsT (L2.KOf KX) mg "Device" C47 Cr.devNames := ⟨L47, M47, fun f hf => by
      simp only [Cr.devNames, List.mem_cons, List.not_mem_nil, or_false] at hf
      rcases hf with rfl | rfl
      · exact x47_0
      · exact x47_1⟩
    have c48 : ∃ C, (Cr.TxtI (L2.KOf KX) mg "Workshop" "Workshop.__init__" (L2.inClass (Cr.top 48) 0) C ["self"] ∧ L2.Cls (L2.KOf KX) C ∧ mg "Workshop" = some (.ref C)) ∧ L2.NoAttr (L2.KOf KX) C "devices" := by
      dsimp only [L2.KOf]
      refine' ⟨_, Cr.cls_mk KX G ?aC_11 ?a1_11 ?i1_11 ?l_11 ?c_11 ?k_11 ?pg_11 ?hd_11 ?po_11 ?sa_11 ?mk_11 ?kc_11 ?b_11, ?x0_11⟩
      (case aC_11 => k_is); (case a1_11 => k_is); (case i1_11 => k_is); (case l_11 => k_is); (case c_11 => k_is); (case k_11 => k_is); (case pg_11 => k_is); (case hd_11 => k_is); (case po_11 => k_is); (case sa_11 => k_is); (case mk_11 => k_is); (case kc_11 => k_is)
      (case b_11 => exact fun _ _ _ _ _ _ us hl => match us, hl with | [_], _ => rfl)
      all_goals (unfold L2.NoAttr; k_is)
    obtain ⟨C48, ⟨I48, L48, M48⟩, x48_0⟩ := c48
    have K48 : Cr.ClsT (L2.KOf KX) mg "Workshop" C48 Cr.worNames := ⟨L48, M48, fun f hf => by
      simp only [Cr.worNames, List.mem_cons, List.not_mem_nil, or_false] at hf
      rcases hf with rfl
      exact x48_0⟩
    have c49 : ∃ C, (Cr.TxtI (L2.KOf KX) mg "Trial" "Trial.__init__" (L2.inClass (Cr.top 49) 0) C ["self", "row", "motion"] ∧ L2.Cls (L2.KOf KX) C ∧ mg "Trial" = some (.ref C)) ∧ L2.NoAttr (L2.KOf KX) C "row" ∧ L2.NoAttr (L2.KOf KX) C "motion" := by
      dsimp only [L2.KOf]
      refine' ⟨_, Cr.cls_mk KX G ?aC_14 ?a1_14 ?i1_14 ?l_14 ?c_14 ?k_14 ?pg_14 ?hd_14 ?po_14 ?sa_14 ?mk_14 ?kc_14 ?b_14, ?x0_14, ?x1_14⟩
      (case aC_14 => k_is); (case a1_14 => k_is); (case i1_14 => k_is); (case l_14 => k_is); (case c_14 => k_is); (case k_14 => k_is); (case pg_14 => k_is); (case hd_14 => k_is); (case po_14 => k_is); (case sa_14 => k_is); (case mk_14 => k_is); (case kc_14 => k_is)
      (case b_14 => exact fun _ _ _ _ _ _ us hl => match us, hl with | [_, _, _], _ => rfl)
      all_goals (unfold L2.NoAttr; k_is)
    obtain ⟨C49, ⟨I49, L49, M49⟩, x49_0, x49_1⟩ := c49
    have K49 : Cr.ClsT (L2.KOf KX) mg "Trial" C49 Cr.triNames := ⟨L49, M49, fun f hf => by
      simp only [Cr.triNames, List.mem_cons, List.not_mem_nil, or_false] at hf
      rcases hf with rfl | rfl
      · exact x49_0
      · exact x49_1⟩
    have T4 : Cr.Txt (L2.KOf KX) mg "common_divisor" (Cr.top 4) ["one", "other"] := by
      dsimp only [L2.KOf]
      refine' Cr.txt_mk KX G ?a_17 ?l_17 ?c_17 ?k_17 ?b_17
      (case a_17 => k_is); (case l_17 => k_is); (case c_17 => k_is); (case k_17 => k_is)
      (case b_17 => exact fun _ _ _ _ _ _ us hl => match us, hl with | [_, _], _ => rfl)
    have T5 : Cr.Txt (L2.KOf KX) mg "fraction" (Cr.top 5) ["divided", "by"] := by
      dsimp only [L2.KOf]
      refine' Cr.txt_mk KX G ?a_18 ?l_18 ?c_18 ?k_18 ?b_18
      (case a_18 => k_is); (case l_18 => k_is); (case c_18 => k_is); (case k_18 => k_is)
      (case b_18 => exact fun _ _ _ _ _ _ us hl => match us, hl with | [_, _], _ => rfl)
    have T6 : Cr.Txt (L2.KOf KX) mg "plus" (Cr.top 6) ["one", "other"] := by
      dsimp only [L2.KOf]
      refine' Cr.txt_mk KX G ?a_19 ?l_19 ?c_19 ?k_19 ?b_19
      (case a_19 => k_is); (case l_19 => k_is); (case c_19 => k_is); (case k_19 => k_is)
      (case b_19 => exact fun _ _ _ _ _ _ us hl => match us, hl with | [_, _], _ => rfl)
    have T7 : Cr.Txt (L2.KOf KX) mg "minus" (Cr.top 7) ["one", "other"] := by
      dsimp only [L2.KOf]
      refine' Cr.txt_mk KX G ?a_20 ?l_20 ?c_20 ?k_20 ?b_20
      (case a_20 => k_is); (case l_20 => k_is); (case c_20 => k_is); (case k_20 => k_is)
      (case b_20 => exact fun _ _ _ _ _ _ us hl => match us, hl with | [_, _], _ => rfl)
    have T8 : Cr.Txt (L2.KOf KX) mg "times" (Cr.top 8) ["one", "other"] := by
      dsimp only [L2.KOf]
      refine' Cr.txt_mk KX G ?a_21 ?l_21 ?c_21 ?k_21 ?b_21
      (case a_21 => k_is); (case l_21 => k_is); (case c_21 => k_is); (case k_21 => k_is)
      (case b_21 => exact fun _ _ _ _ _ _ us hl => match us, hl with | [_, _], _ => rfl)
    have T9 : Cr.Txt (L2.KOf KX) mg "divided_by" (Cr.top 9) ["one", "other"] := by
      dsimp only [L2.KOf]
      refine' Cr.txt_mk KX G ?a_22 ?l_22 ?c_22 ?k_22 ?b_22
      (case a_22 => k_is); (case l_22 => k_is); (case c_22 => k_is); (case k_22 => k_is)
      (case b_22 => exact fun _ _ _ _ _ _ us hl => match us, hl with | [_, _], _ => rfl)
    have T10 : Cr.Txt (L2.KOf KX) mg "whole_point" (Cr.top 10) ["right", "up"] := by
      dsimp only [L2.KOf]
      refine' Cr.txt_mk KX G ?a_23 ?l_23 ?c_23 ?k_23 ?b_23
      (case a_23 => k_is); (case l_23 => k_is); (case c_23 => k_is); (case k_23 => k_is)
      (case b_23 => exact fun _ _ _ _ _ _ us hl => match us, hl with | [_, _], _ => rfl)
    have T11 : Cr.Txt (L2.KOf KX) mg "step_between" (Cr.top 11) ["start", "end"] := by
      dsimp only [L2.KOf]
      refine' Cr.txt_mk KX G ?a_24 ?l_24 ?c_24 ?k_24 ?b_24
      (case a_24 => k_is); (case l_24 => k_is); (case c_24 => k_is); (case k_24 => k_is)
      (case b_24 => exact fun _ _ _ _ _ _ us hl => match us, hl with | [_, _], _ => rfl)
    have T12 : Cr.Txt (L2.KOf KX) mg "square_between" (Cr.top 12) ["start", "end"] := by
      dsimp only [L2.KOf]
      refine' Cr.txt_mk KX G ?a_25 ?l_25 ?c_25 ?k_25 ?b_25
      (case a_25 => k_is); (case l_25 => k_is); (case c_25 => k_is); (case k_25 => k_is)
      (case b_25 => exact fun _ _ _ _ _ _ us hl => match us, hl with | [_, _], _ => rfl)
    have T13 : Cr.Txt (L2.KOf KX) mg "told_point" (Cr.top 13) ["point"] := by
      dsimp only [L2.KOf]
      refine' Cr.txt_mk KX G ?a_26 ?l_26 ?c_26 ?k_26 ?b_26
      (case a_26 => k_is); (case l_26 => k_is); (case c_26 => k_is); (case k_26 => k_is)
      (case b_26 => exact fun _ _ _ _ _ _ us hl => match us, hl with | [_], _ => rfl)
    have T15 : Cr.Txt (L2.KOf KX) mg "no_motion" (Cr.top 15) [] := by
      dsimp only [L2.KOf]
      refine' Cr.txt_mk KX G ?a_27 ?l_27 ?c_27 ?k_27 ?b_27
      (case a_27 => k_is); (case l_27 => k_is); (case c_27 => k_is); (case k_27 => k_is)
      (case b_27 => exact fun _ _ _ _ _ _ us hl => match us, hl with | [], _ => rfl)
    have T16 : Cr.Txt (L2.KOf KX) mg "sideways_size" (Cr.top 16) ["motion"] := by
      dsimp only [L2.KOf]
      refine' Cr.txt_mk KX G ?a_28 ?l_28 ?c_28 ?k_28 ?b_28
      (case a_28 => k_is); (case l_28 => k_is); (case c_28 => k_is); (case k_28 => k_is)
      (case b_28 => exact fun _ _ _ _ _ _ us hl => match us, hl with | [_], _ => rfl)
    have T17 : Cr.Txt (L2.KOf KX) mg "moved" (Cr.top 17) ["motion", "point"] := by
      dsimp only [L2.KOf]
      refine' Cr.txt_mk KX G ?a_29 ?l_29 ?c_29 ?k_29 ?b_29
      (case a_29 => k_is); (case l_29 => k_is); (case c_29 => k_is); (case k_29 => k_is)
      (case b_29 => exact fun _ _ _ _ _ _ us hl => match us, hl with | [_, _], _ => rfl)
    have T18 : Cr.Txt (L2.KOf KX) mg "about_pivot" (Cr.top 18) ["pivot", "size", "mirrors"] := by
      dsimp only [L2.KOf]
      refine' Cr.txt_mk KX G ?a_30 ?l_30 ?c_30 ?k_30 ?b_30
      (case a_30 => k_is); (case l_30 => k_is); (case c_30 => k_is); (case k_30 => k_is)
      (case b_30 => exact fun _ _ _ _ _ _ us hl => match us, hl with | [_, _, _], _ => rfl)
    have T19 : Cr.Txt (L2.KOf KX) mg "joined" (Cr.top 19) ["first", "second"] := by
      dsimp only [L2.KOf]
      refine' Cr.txt_mk KX G ?a_31 ?l_31 ?c_31 ?k_31 ?b_31
      (case a_31 => k_is); (case l_31 => k_is); (case c_31 => k_is); (case k_31 => k_is)
      (case b_31 => exact fun _ _ _ _ _ _ us hl => match us, hl with | [_, _], _ => rfl)
    have T20 : Cr.Txt (L2.KOf KX) mg "shift_apart" (Cr.top 20) ["first", "second"] := by
      dsimp only [L2.KOf]
      refine' Cr.txt_mk KX G ?a_32 ?l_32 ?c_32 ?k_32 ?b_32
      (case a_32 => k_is); (case l_32 => k_is); (case c_32 => k_is); (case k_32 => k_is)
      (case b_32 => exact fun _ _ _ _ _ _ us hl => match us, hl with | [_, _], _ => rfl)
    have T21 : Cr.Txt (L2.KOf KX) mg "told_motion" (Cr.top 21) ["motion"] := by
      dsimp only [L2.KOf]
      refine' Cr.txt_mk KX G ?a_33 ?l_33 ?c_33 ?k_33 ?b_33
      (case a_33 => k_is); (case l_33 => k_is); (case c_33 => k_is); (case k_33 => k_is)
      (case b_33 => exact fun _ _ _ _ _ _ us hl => match us, hl with | [_], _ => rfl)
    have T22 : Cr.Txt (L2.KOf KX) mg "resting_place" (Cr.top 22) ["size", "shift"] := by
      dsimp only [L2.KOf]
      refine' Cr.txt_mk KX G ?a_34 ?l_34 ?c_34 ?k_34 ?b_34
      (case a_34 => k_is); (case l_34 => k_is); (case c_34 => k_is); (case k_34 => k_is)
      (case b_34 => exact fun _ _ _ _ _ _ us hl => match us, hl with | [_, _], _ => rfl)
    have T23 : Cr.Txt (L2.KOf KX) mg "told_staying" (Cr.top 23) ["motion"] := by
      dsimp only [L2.KOf]
      refine' Cr.txt_mk KX G ?a_35 ?l_35 ?c_35 ?k_35 ?b_35
      (case a_35 => k_is); (case l_35 => k_is); (case c_35 => k_is); (case k_35 => k_is)
      (case b_35 => exact fun _ _ _ _ _ _ us hl => match us, hl with | [_], _ => rfl)
    have T50 : Cr.Txt (L2.KOf KX) mg "read_call" (Cr.top 50) ["calls", "start"] := by
      dsimp only [L2.KOf]
      refine' Cr.txt_mk KX G ?a_36 ?l_36 ?c_36 ?k_36 ?b_36
      (case a_36 => k_is); (case l_36 => k_is); (case c_36 => k_is); (case k_36 => k_is)
      (case b_36 => exact fun _ _ _ _ _ _ us hl => match us, hl with | [_, _], _ => rfl)
    have T51 : Cr.Txt (L2.KOf KX) mg "is_on_sheet" (Cr.top 51) ["number"] := by
      dsimp only [L2.KOf]
      refine' Cr.txt_mk KX G ?a_37 ?l_37 ?c_37 ?k_37 ?b_37
      (case a_37 => k_is); (case l_37 => k_is); (case c_37 => k_is); (case k_37 => k_is)
      (case b_37 => exact fun _ _ _ _ _ _ us hl => match us, hl with | [_], _ => rfl)
    have T52 : Cr.Txt (L2.KOf KX) mg "is_size_part" (Cr.top 52) ["number"] := by
      dsimp only [L2.KOf]
      refine' Cr.txt_mk KX G ?a_38 ?l_38 ?c_38 ?k_38 ?b_38
      (case a_38 => k_is); (case l_38 => k_is); (case c_38 => k_is); (case k_38 => k_is)
      (case b_38 => exact fun _ _ _ _ _ _ us hl => match us, hl with | [_], _ => rfl)
    have T53 : Cr.Txt (L2.KOf KX) mg "is_row" (Cr.top 53) ["devices", "row"] := by
      dsimp only [L2.KOf]
      refine' Cr.txt_mk KX G ?a_39 ?l_39 ?c_39 ?k_39 ?b_39
      (case a_39 => k_is); (case l_39 => k_is); (case c_39 => k_is); (case k_39 => k_is)
      (case b_39 => exact fun _ _ _ _ _ _ us hl => match us, hl with | [_, _], _ => rfl)
    have T54 : Cr.Txt (L2.KOf KX) mg "is_build" (Cr.top 54) ["build"] := by
      dsimp only [L2.KOf]
      refine' Cr.txt_mk KX G ?a_40 ?l_40 ?c_40 ?k_40 ?b_40
      (case a_40 => k_is); (case l_40 => k_is); (case c_40 => k_is); (case k_40 => k_is)
      (case b_40 => exact fun _ _ _ _ _ _ us hl => match us, hl with | [_], _ => rfl)
    have T55 : Cr.Txt (L2.KOf KX) mg "size_of" (Cr.top 55) ["build"] := by
      dsimp only [L2.KOf]
      refine' Cr.txt_mk KX G ?a_41 ?l_41 ?c_41 ?k_41 ?b_41
      (case a_41 => k_is); (case l_41 => k_is); (case c_41 => k_is); (case k_41 => k_is)
      (case b_41 => exact fun _ _ _ _ _ _ us hl => match us, hl with | [_], _ => rfl)
    have T56 : Cr.Txt (L2.KOf KX) mg "answer_device" (Cr.top 56) ["devices", "numbers"] := by
      dsimp only [L2.KOf]
      refine' Cr.txt_mk KX G ?a_42 ?l_42 ?c_42 ?k_42 ?b_42
      (case a_42 => k_is); (case l_42 => k_is); (case c_42 => k_is); (case k_42 => k_is)
      (case b_42 => exact fun _ _ _ _ _ _ us hl => match us, hl with | [_, _], _ => rfl)
    have T57 : Cr.Txt (L2.KOf KX) mg "row_motion" (Cr.top 57) ["devices", "row"] := by
      dsimp only [L2.KOf]
      refine' Cr.txt_mk KX G ?a_43 ?l_43 ?c_43 ?k_43 ?b_43
      (case a_43 => k_is); (case l_43 => k_is); (case c_43 => k_is); (case k_43 => k_is)
      (case b_43 => exact fun _ _ _ _ _ _ us hl => match us, hl with | [_, _], _ => rfl)
    have T58 : Cr.Txt (L2.KOf KX) mg "longer_by_one" (Cr.top 58) ["devices", "trials"] := by
      dsimp only [L2.KOf]
      refine' Cr.txt_mk KX G ?a_44 ?l_44 ?c_44 ?k_44 ?b_44
      (case a_44 => k_is); (case l_44 => k_is); (case c_44 => k_is); (case k_44 => k_is)
      (case b_44 => exact fun _ _ _ _ _ _ us hl => match us, hl with | [_, _], _ => rfl)
    have T59 : Cr.Txt (L2.KOf KX) mg "first_with" (Cr.top 59) ["trials", "wanted"] := by
      dsimp only [L2.KOf]
      refine' Cr.txt_mk KX G ?a_45 ?l_45 ?c_45 ?k_45 ?b_45
      (case a_45 => k_is); (case l_45 => k_is); (case c_45 => k_is); (case k_45 => k_is)
      (case b_45 => exact fun _ _ _ _ _ _ us hl => match us, hl with | [_, _], _ => rfl)
    have T60 : Cr.Txt (L2.KOf KX) mg "answer_found_row" (Cr.top 60) ["devices", "start", "wanted"] := by
      dsimp only [L2.KOf]
      refine' Cr.txt_mk KX G ?a_46 ?l_46 ?c_46 ?k_46 ?b_46
      (case a_46 => k_is); (case l_46 => k_is); (case c_46 => k_is); (case k_46 => k_is)
      (case b_46 => exact fun _ _ _ _ _ _ us hl => match us, hl with | [_, _, _], _ => rfl)
    have T61 : Cr.Txt (L2.KOf KX) mg "answer_make" (Cr.top 61) ["devices", "build"] := by
      dsimp only [L2.KOf]
      refine' Cr.txt_mk KX G ?a_47 ?l_47 ?c_47 ?k_47 ?b_47
      (case a_47 => k_is); (case l_47 => k_is); (case c_47 => k_is); (case k_47 => k_is)
      (case b_47 => exact fun _ _ _ _ _ _ us hl => match us, hl with | [_, _], _ => rfl)
    have T62 : Cr.Txt (L2.KOf KX) mg "all_orders" (Cr.top 62) ["row"] := by
      dsimp only [L2.KOf]
      refine' Cr.txt_mk KX G ?a_48 ?l_48 ?c_48 ?k_48 ?b_48
      (case a_48 => k_is); (case l_48 => k_is); (case c_48 => k_is); (case k_48 => k_is)
      (case b_48 => exact fun _ _ _ _ _ _ us hl => match us, hl with | [_], _ => rfl)
    have T63 : Cr.Txt (L2.KOf KX) mg "answer_orders" (Cr.top 63) ["devices", "row"] := by
      dsimp only [L2.KOf]
      refine' Cr.txt_mk KX G ?a_49 ?l_49 ?c_49 ?k_49 ?b_49
      (case a_49 => k_is); (case l_49 => k_is); (case c_49 => k_is); (case k_49 => k_is)
      (case b_49 => exact fun _ _ _ _ _ _ us hl => match us, hl with | [_, _], _ => rfl)
    have T64 : Cr.Txt (L2.KOf KX) mg "answer_far" (Cr.top 64) ["motion", "numbers"] := by
      dsimp only [L2.KOf]
      refine' Cr.txt_mk KX G ?a_50 ?l_50 ?c_50 ?k_50 ?b_50
      (case a_50 => k_is); (case l_50 => k_is); (case c_50 => k_is); (case k_50 => k_is)
      (case b_50 => exact fun _ _ _ _ _ _ us hl => match us, hl with | [_, _], _ => rfl)
    have T65 : Cr.Txt (L2.KOf KX) mg "answer_look" (Cr.top 65) ["devices"] := by
      dsimp only [L2.KOf]
      refine' Cr.txt_mk KX G ?a_51 ?l_51 ?c_51 ?k_51 ?b_51
      (case a_51 => k_is); (case l_51 => k_is); (case c_51 => k_is); (case k_51 => k_is)
      (case b_51 => exact fun _ _ _ _ _ _ us hl => match us, hl with | [_], _ => rfl)
    have T66 : Cr.Txt (L2.KOf KX) mg "answer_two_rows" (Cr.top 66) ["number", "first", "second"] := by
      dsimp only [L2.KOf]
      refine' Cr.txt_mk KX G ?a_52 ?l_52 ?c_52 ?k_52 ?b_52
      (case a_52 => k_is); (case l_52 => k_is); (case c_52 => k_is); (case k_52 => k_is)
      (case b_52 => exact fun _ _ _ _ _ _ us hl => match us, hl with | [_, _, _], _ => rfl)
    have T67 : Cr.Txt (L2.KOf KX) mg "answer_one_row" (Cr.top 67) ["devices", "call"] := by
      dsimp only [L2.KOf]
      refine' Cr.txt_mk KX G ?a_53 ?l_53 ?c_53 ?k_53 ?b_53
      (case a_53 => k_is); (case l_53 => k_is); (case c_53 => k_is); (case k_53 => k_is)
      (case b_53 => exact fun _ _ _ _ _ _ us hl => match us, hl with | [_, _], _ => rfl)
    have T68 : Cr.Txt (L2.KOf KX) mg "answer_rows" (Cr.top 68) ["devices", "call"] := by
      dsimp only [L2.KOf]
      refine' Cr.txt_mk KX G ?a_54 ?l_54 ?c_54 ?k_54 ?b_54
      (case a_54 => k_is); (case l_54 => k_is); (case c_54 => k_is); (case k_54 => k_is)
      (case b_54 => exact fun _ _ _ _ _ _ us hl => match us, hl with | [_, _], _ => rfl)
    have T69 : Cr.Txt (L2.KOf KX) mg "answer_in_workshop" (Cr.top 69) ["devices", "call"] := by
      dsimp only [L2.KOf]
      refine' Cr.txt_mk KX G ?a_55 ?l_55 ?c_55 ?k_55 ?b_55
      (case a_55 => k_is); (case l_55 => k_is); (case c_55 => k_is); (case k_55 => k_is)
      (case b_55 => exact fun _ _ _ _ _ _ us hl => match us, hl with | [_, _], _ => rfl)
    have T70 : Cr.Txt (L2.KOf KX) mg "answer" (Cr.top 70) ["workshop", "call"] := by
      dsimp only [L2.KOf]
      refine' Cr.txt_mk KX G ?a_56 ?l_56 ?c_56 ?k_56 ?b_56
      (case a_56 => k_is); (case l_56 => k_is); (case c_56 => k_is); (case k_56 => k_is)
      (case b_56 => exact fun _ _ _ _ _ _ us hl => match us, hl with | [_, _], _ => rfl)
    have G_BEGIN : Cr.GInt mg "BEGIN" 0 := by
      refine' Cr.gint_mk KX G ?a_57
      (case a_57 => k_is)
    have G_DEVICE : Cr.GInt mg "DEVICE" 1 := by
      refine' Cr.gint_mk KX G ?a_58
      (case a_58 => k_is)
    have G_ROW : Cr.GInt mg "ROW" 2 := by
      refine' Cr.gint_mk KX G ?a_59
      (case a_59 => k_is)
    have G_COPY : Cr.GInt mg "COPY" 3 := by
      refine' Cr.gint_mk KX G ?a_60
      (case a_60 => k_is)
    have G_STAYS : Cr.GInt mg "STAYS" 4 := by
      refine' Cr.gint_mk KX G ?a_61
      (case a_61 => k_is)
    have G_SAME : Cr.GInt mg "SAME" 5 := by
      refine' Cr.gint_mk KX G ?a_62
      (case a_62 => k_is)
    have G_UNDO : Cr.GInt mg "UNDO" 6 := by
      refine' Cr.gint_mk KX G ?a_63
      (case a_63 => k_is)
    have G_ORDERS : Cr.GInt mg "ORDERS" 8 := by
      refine' Cr.gint_mk KX G ?a_64
      (case a_64 => k_is)
    have G_MAKE : Cr.GInt mg "MAKE" 9 := by
      refine' Cr.gint_mk KX G ?a_65
      (case a_65 => k_is)
    have G_LOOK : Cr.GInt mg "LOOK" 11 := by
      refine' Cr.gint_mk KX G ?a_66
      (case a_66 => k_is)
    have G_NO_WORKSHOP : Cr.GInt mg "NO_WORKSHOP" (-9) := by
      refine' Cr.gint_mk KX G ?a_67
      (case a_67 => k_is)
    have G_WRONG_NUMBER : Cr.GInt mg "WRONG_NUMBER" (-1) := by
      refine' Cr.gint_mk KX G ?a_68
      (case a_68 => k_is)
    have G_WRONG_ROW : Cr.GInt mg "WRONG_ROW" (-2) := by
      refine' Cr.gint_mk KX G ?a_69
      (case a_69 => k_is)
    have G_WORKSHOP_FULL : Cr.GInt mg "WORKSHOP_FULL" (-5) := by
      refine' Cr.gint_mk KX G ?a_70
      (case a_70 => k_is)
    have G_NO_SUCH_ROW : Cr.GInt mg "NO_SUCH_ROW" (-6) := by
      refine' Cr.gint_mk KX G ?a_71
      (case a_71 => k_is)
    have G_SHEET_EDGE : Cr.GInt mg "SHEET_EDGE" 100 := by
      refine' Cr.gint_mk KX G ?a_72
      (case a_72 => k_is)
    have G_SIZE_MOST : Cr.GInt mg "SIZE_MOST" 9 := by
      refine' Cr.gint_mk KX G ?a_73
      (case a_73 => k_is)
    have G_ROW_MOST : Cr.GInt mg "ROW_MOST" 5 := by
      refine' Cr.gint_mk KX G ?a_74
      (case a_74 => k_is)
    have G_FOUND_ROW_MOST : Cr.GInt mg "FOUND_ROW_MOST" 3 := by
      refine' Cr.gint_mk KX G ?a_75
      (case a_75 => k_is)
    have G_DEVICES_MOST : Cr.GInt mg "DEVICES_MOST" 6 := by
      refine' Cr.gint_mk KX G ?a_76
      (case a_76 => k_is)
    have N_abs : mg "abs" = none := by
      refine' PySem.W.mg_none_of KX G ?a_77
      (case a_77 => k_is)
    have N_list : mg "list" = none := by
      refine' PySem.W.mg_none_of KX G ?a_78
      (case a_78 => k_is)
    have N_len : mg "len" = none := by
      refine' PySem.W.mg_none_of KX G ?a_79
      (case a_79 => k_is)
    have N_all : mg "all" = none := by
      refine' PySem.W.mg_none_of KX G ?a_80
      (case a_80 => k_is)
    have N_range : mg "range" = none := by
      refine' PySem.W.mg_none_of KX G ?a_81
      (case a_81 => k_is)
    have N_set : mg "set" = none := by
      refine' PySem.W.mg_none_of KX G ?a_82
      (case a_82 => k_is)
    have N_tuple : mg "tuple" = none := by
      refine' PySem.W.mg_none_of KX G ?a_83
      (case a_83 => k_is)
    have Z0 : Cr.GFr (L2.KOf KX) mg "ZERO" Mu52.zero := by
      dsimp only [L2.KOf]
      refine' Cr.gfr_mk (i := 0) (j := 1) KX G ?a_84 ?l_84
      (case a_84 => k_is); (case l_84 => k_is)
    have Z1 : Cr.GFr (L2.KOf KX) mg "ONE" Mu52.one := by
      dsimp only [L2.KOf]
      refine' Cr.gfr_mk (i := 1) (j := 1) KX G ?a_85 ?l_85
      (case a_85 => k_is); (case l_85 => k_is)
    have Z2 : Cr.GPt (L2.KOf KX) mg "MIDDLE" ⟨Mu52.zero, Mu52.zero⟩ := by
      dsimp only [L2.KOf]
      refine' Cr.gpt_mk KX G ?a_86 ?l_86 ?l1_86 ?l2_86
      (case a_86 => k_is); (case l_86 => k_is); (case l1_86 => k_is); (case l2_86 => k_is)
    have Z3 : Cr.GForms (L2.KOf KX) mg := by
      dsimp only [L2.KOf]
      refine' Cr.forms_mk KX G ?a_87 ?l_87 ?l0_87 ?l1_87 ?l2_87 ?l3_87 ?l4_87 ?l5_87 ?l6_87 ?l7_87 ?l8_87 ?l9_87 ?l10_87 ?l11_87
      (case a_87 => k_is); (case l_87 => k_is); (case l0_87 => k_is); (case l1_87 => k_is); (case l2_87 => k_is); (case l3_87 => k_is); (case l4_87 => k_is); (case l5_87 => k_is); (case l6_87 => k_is); (case l7_87 => k_is); (case l8_87 => k_is); (case l9_87 => k_is); (case l10_87 => k_is); (case l11_87 => k_is)
    have T : Cr.AllT (L2.KOf KX) mg ⟨C14, C47, C49, C46, C48⟩ := ⟨T4, T5, T6, T7, T8, T9, T10, T11, T12, T13, T15, T16, T17, T18, T19, T20, T21, T22, T23, T50, T51, T52, T53, T54, T55, T56, T57, T58, T59, T60, T61, T62, T63, T64, T65, T66, T67, T68, T69, T70, I14, K14, I46, K46, I47, K47, I48, K48, I49, K49, G_BEGIN, G_DEVICE, G_ROW, G_COPY, G_STAYS, G_SAME, G_UNDO, G_ORDERS, G_MAKE, G_LOOK, G_NO_WORKSHOP, G_WRONG_NUMBER, G_WRONG_ROW, G_WORKSHOP_FULL, G_NO_SUCH_ROW, G_SHEET_EDGE, G_SIZE_MOST, G_ROW_MOST, G_FOUND_ROW_MOST, G_DEVICES_MOST, N_abs, N_list, N_len, N_all, N_range, N_set, N_tuple, Z0, Z1, Z2, Z3⟩
    dsimp only [L2.KOf] at T
    refine' Cr.top_mk T KX G hmg' ?a_90 ?l_90 ?c_90 ?k_90
    (case a_90 => k_is); (case l_90 => k_is); (case c_90 => k_is); (case k_90 => k_is)
  case S =>
    intro K H xs a hO hwi hask hx
    cases hx with
    | cons h1 h2 =>
      cases h2
      cases h1 with
      | lst hs ha =>
        have e := L2.ints_dw a.1 _ ha
        subst e
        have q : ((Codec.inLen 0 1200 a.1 && a.1.all (Codec.inInt (-200) 200)) && true) = true := hwi
        rw [Bool.and_eq_true, Bool.and_eq_true] at q
        refine ⟨_, a.1, rfl, ?_, (Codec.inNat_iff.mp q.1.1).2, hask, fun H' p hp => .lst (L2.SqL.of hp) (L2.dw_ints _)⟩
        rcases hs with (hs | ⟨o, hs⟩) | hs
        · rcases hO _ with z | ⟨o, u, z⟩
          · rw [hs] at z; cases z
          · rw [hs] at z; cases z
        · exact .inl ⟨o, hs⟩
        · exact .inr hs
#print axioms PySem.Challenge.cw_copyrods_s01_answers_holds
