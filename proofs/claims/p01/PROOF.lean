import PyProof.Rows.All
import Wide.All
import OpenK.AllK
import Wide.FinOn
import PyProof.EqAt
import PyProof.EqKinds
import PyProof.TupleCall
import KE.BitLaws
import Open.SpecLaws
import KE.OsHead
import KE.OsGo
import KE.KDictLaws
import PySem.Challenge.RW_endingwork_s01_answers
set_option Elab.async false
set_option linter.all false
set_option maxRecDepth 100000
section
set_option Elab.async false
set_option linter.all false
set_option maxRecDepth 100000
namespace L2
open PySem PySem.Spec PyProof.Rows
abbrev Key := Sum Int Str
def keyIs : Key → Value → Bool
  | .inl k, v => Value.isInt k v
  | .inr x, v => Value.isStrOf x v
def keyH (w : World) : Key → Int
  | .inl k => hashInt k
  | .inr x => hashStr w x
theorem keyIs_shape : ∀ {k : Key} {v : Value}, keyIs k v = true → (∃ i t, k = Sum.inl i ∧ v = Value.int i t) ∨ (∃ x t, k = Sum.inr x ∧ v = Value.str x t)
  | .inl i, v, h => by
    obtain ⟨t, e⟩ := Value.isInt_shape (k := i) (v := v) h
    exact .inl ⟨i, t, rfl, e⟩
  | .inr x, v, h => by
    obtain ⟨t, e⟩ := Value.isStrOf_shape (x := x) (v := v) h
    exact .inr ⟨x, t, rfl, e⟩
theorem keyIs_int (i : Int) (t : Tok) : keyIs (.inl i) (.int i t) = true := by simp [keyIs, Value.isInt]
theorem keyIs_str (x : Str) (t : Tok) : keyIs (.inr x) (.str x t) = true := by simp [keyIs, Value.isStrOf]
theorem key_ll (a b : Int) : decide ((Sum.inl a : Key) = Sum.inl b) = (a == b) := by
  by_cases e : a = b
  · subst e; simp
  · have h : ¬ (Sum.inl a : Key) = Sum.inl b := fun q => e (Sum.inl.inj q)
    rw [decide_eq_false h]
    exact (beq_eq_false_iff_ne.mpr e).symm
theorem key_rr (a b : Str) : decide ((Sum.inr a : Key) = Sum.inr b) = decide (a = b) := by
  by_cases e : a = b
  · subst e; simp
  · have h : ¬ (Sum.inr a : Key) = Sum.inr b := fun q => e (Sum.inr.inj q)
    rw [decide_eq_false h, decide_eq_false e]
theorem key_lr (a : Int) (b : Str) : decide ((Sum.inl a : Key) = Sum.inr b) = false := decide_eq_false (fun q => nomatch q)
theorem key_rl (a : Str) (b : Int) : decide ((Sum.inr a : Key) = Sum.inl b) = false := decide_eq_false (fun q => nomatch q)
def mixKind (prog : Program) (w : World) : PySem.KeyKind prog w Key where
  is := keyIs
  hash := keyH w
  inj := fun v a b ha hb => by
    rcases keyIs_shape ha with ⟨i, t, rfl, rfl⟩ | ⟨x, t, rfl, rfl⟩
    · rcases keyIs_shape hb with ⟨j, u, rfl, e⟩ | ⟨y, u, rfl, e⟩
      · injection e with e1 _; rw [e1]
      · exact nomatch e
    · rcases keyIs_shape hb with ⟨j, u, rfl, e⟩ | ⟨y, u, rfl, e⟩
      · exact nomatch e
      · injection e with e1 _; rw [e1]
  byValue := fun k v h => by
    rcases keyIs_shape h with ⟨i, t, rfl, rfl⟩ | ⟨x, t, rfl, rfl⟩ <;> rfl
  pyHash := fun hv h => by
    rcases keyIs_shape hv with ⟨i, t, rfl, rfl⟩ | ⟨x, t, rfl, rfl⟩
    · exact wpAny_pyHash_int h
    · exact wpAny_pyHash_str h
  eqBool := fun hu hv h => by
    rcases keyIs_shape hu with ⟨i, t, rfl, rfl⟩ | ⟨x, t, rfl, rfl⟩
    · rcases keyIs_shape hv with ⟨j, u, rfl, rfl⟩ | ⟨y, u, rfl, rfl⟩
      · rw [key_ll] at h; exact wpAny_eqBool_int h
      · rw [key_lr] at h; exact SeqAt.EqAt.int_str i t y u _ _ _ _ h
    · rcases keyIs_shape hv with ⟨j, u, rfl, rfl⟩ | ⟨y, u, rfl, rfl⟩
      · rw [key_rl] at h; exact SeqAt.EqAt.str_int x t j u _ _ _ _ h
      · rw [key_rr] at h; exact wpAny_eqBool_str h
  «strs» := fun k x t v h => by
    rcases keyIs_shape h with ⟨i, u, rfl, e⟩ | ⟨y, u, rfl, e⟩
    · exact nomatch e
    · injection e with e1 _
      subst e1
      cases v <;> rfl
theorem mixKind_int (prog : Program) (w : World) (i : Int) (t : Tok) : (mixKind prog w).is (.inl i) (.int i t) = true := keyIs_int i t
theorem mixKind_str (prog : Program) (w : World) (x : Str) (t : Tok) : (mixKind prog w).is (.inr x) (.str x t) = true := keyIs_str x t
end L2
namespace L2
open PySem PySem.Spec PyProof.Rows
inductive V where
  | non | bl (b : Bool) | int (i : Int) | str (x : Str) | byt (b : Array UInt8) | flt (b : UInt64) | ref (a : Addr) | ty (n : String)
  deriving DecidableEq
def RelV : V → Value → Prop
  | .non, u => u = Value.none
  | .bl b, u => u = Value.bool b
  | .int i, u => ∃ t, u = Value.int i t
  | .str x, u => ∃ t, u = Value.str x t
  | .byt b, u => ∃ t, u = Value.bytes b t
  | .flt b, u => ∃ t, u = Value.float b t
  | .ref a, u => u = Value.ref a
  | .ty n, u => u = Value.type n
abbrev Vals : List V → List Value → Prop := Paired RelV
theorem Vals.length {xs : List V} {us : List Value} (r : Vals xs us) : xs.length = us.length := Paired.length r
theorem Vals.get : ∀ {xs : List V} {us : List Value} {i : Nat} {x : V}, Vals xs us → xs[i]? = some x → ∃ u, us[i]? = some u ∧ RelV x u
  | _, _, _, _, .nil, e => by simp at e
  | _, _, 0, _, .cons r _, e => by simp at e; subst e; exact ⟨_, rfl, r⟩
  | _, _, i + 1, x, .cons _ t, e => by
    obtain ⟨u, h1, h2⟩ := Vals.get (i := i) (x := x) t (by simpa using e)
    exact ⟨u, by simpa using h1, h2⟩
theorem Vals.set {x : V} {u : Value} (r : RelV x u) : ∀ {xs : List V} {us : List Value} (i : Nat), Vals xs us → Vals (xs.set i x) (us.set i u)
  | _, _, _, .nil => .nil
  | _, _, 0, .cons _ t => .cons r t
  | _, _, i + 1, .cons q t => .cons q (Vals.set r i t)
theorem Vals.append : ∀ {xs ys : List V} {us ws : List Value}, Vals xs us → Vals ys ws → Vals (xs ++ ys) (us ++ ws)
  | _, _, _, _, .nil, s => s
  | _, _, _, _, .cons r t, s => .cons r (Vals.append t s)
theorem Vals.take : ∀ {xs : List V} {us : List Value} (n : Nat), Vals xs us → Vals (xs.take n) (us.take n)
  | _, _, 0, _ => .nil
  | _, _, _ + 1, .nil => .nil
  | _, _, n + 1, .cons r t => .cons r (Vals.take n t)
theorem Vals.drop : ∀ {xs : List V} {us : List Value} (n : Nat), Vals xs us → Vals (xs.drop n) (us.drop n)
  | _, _, 0, r => r
  | _, _, _ + 1, .nil => .nil
  | _, _, n + 1, .cons _ t => Vals.drop n t
def RelO : Option V → Option Value → Prop
  | some v, some u => RelV v u
  | none, none => True
  | _, _ => False
def KV {κ : Type} : List (κ × V) → List (κ × Value) → Prop := Paired fun (p : κ × V) (q : κ × Value) => p.1 = q.1 ∧ RelV p.2 q.2
def kV : Key → V
  | .inl i => .int i
  | .inr x => .str x
inductive HO where
  /-- a list -/
  | lst (xs : List V)
  /-- a tuple (never changes) -/
  | tup (xs : List V)
  /-- a dict whose keys are ints and texts; one whose keys are tuples of ints and texts (the empty one is both) -/
  | dK (kvs : List (Key × V)) | dT (kvs : List (List Key × V))
  /-- a set of ints: its members, its size -/
  | set (S : Int → Bool) (n : Nat)
  /-- an instance of the class at C, its dict at dx, its attributes -/
  | ins (C dx : Addr) (fs : List (Str × V))
  /-- the dict of the instance at x -/
  | own (x : Addr)
  /-- the dict of an exception -/
  | xd (fs : List (Str × V))
  /-- a bound method, f of x -/
  | met (f x : Addr)
  /-- a range object lo, lo + 1, .. below hi -/
  | rng (lo hi : Int)
  /-- a thing that is known to the object (the script; a dict while a loop walks it): read, never written while it is so -/
  | frz (o : Obj) (u : HO)
  /-- a code object's table -/
  | tbl (ps : Array Value)
  /-- any other thing, by what is true of its one object (a def of one's own: SetO a S n := HO.ext fun h => ..) -/
  | ext (φ : Heap → Prop)
abbrev Hp := Addr → Option HO
def upd (H : Hp) (a : Addr) (o : HO) : Hp := fun b => if b = a then some o else H b
theorem upd_same {H : Hp} {a : Addr} {o : HO} : upd H a o a = some o := by unfold upd; rw [if_pos rfl]
theorem upd_ne {H : Hp} {a b : Addr} {o : HO} (h : b ≠ a) : upd H a o b = H b := by unfold upd; rw [if_neg h]
theorem upd_upd {H : Hp} {a : Addr} {o u : HO} : upd (upd H a o) a u = upd H a u := by
  funext b; unfold upd; split <;> rfl
theorem ne_of {H : Hp} {a b : Addr} {o u : HO} (h : H a = some o) (h' : H b = some u) (d : o ≠ u) : a ≠ b := by
  intro e; subst e; rw [h] at h'; exact d (Option.some.inj h')
theorem ne_of_none {H : Hp} {a b : Addr} {o : HO} (h : H a = some o) (h' : H b = none) : a ≠ b := by
  intro e; subst e; rw [h] at h'; cases h'
section
variable (P : Program) (w : World)
def ObjOk (H : Hp) (h : Heap) (a : Addr) : HO → Prop
  | .lst xs => xs.length ≤ sizeLine ∧ ∃ (its : List Value) (n : Nat), Vals xs its ∧ h.get? a = some { cls := .type "list", data := .seq its.toArray n }
  | .tup xs => xs.length ≤ sizeLine ∧ ∃ its : List Value, Vals xs its ∧ IsTup h a its.toArray
  | .dK kvs => kvs.length ≤ sizeLine ∧ (a == sysModules) = false ∧ ∃ vs, KV kvs vs ∧ h.DictOf (mixKind P w) a vs
  | .dT kvs => kvs.length ≤ sizeLine ∧ (a == sysModules) = false ∧ ∃ xs : List (List Key × Addr × Value),
      Paired (fun (p : List Key × V) (q : List Key × Addr × Value) => p.1 = q.1 ∧ H q.2.1 = some (.tup (p.1.map kV)) ∧ RelV p.2 q.2.2) kvs xs ∧
      ∃ o es ep, h.get? a = some o ∧ o.ExactDict ∧ o.data = .dict es ep ∧ es.toList = xs.map (entryOfKey (tupleKind (mixKind P w))) ∧ (xs.map (·.1)).Nodup
  | .set S n => h.SetOf (intKind P w) a S n
  | .ins C dx fs => H dx = some (.own a) ∧ fs.length ≤ 1000 ∧ dx ≠ a ∧ h.get? a = some (PySem.W.instObj C dx) ∧
      ∃ mA, h.Ns1 dx mA ∧ (∀ f, RelO (fs.lookup f) (mA f)) ∧ PySem.Within mA (fs.map (·.1))
  | .own _ => ∃ o, h.get? a = some o
  | .xd fs => ∃ mA, h.Ns1 a mA ∧ ∀ f, RelO (fs.lookup f) (mA f)
  | .rng lo hi => ∃ t u v, h.get? a = some { cls := .type "range", data := .fields #[.int lo t, .int hi u, .int 1 v] }
  | .frz o u => h.get? a = some o ∧ ObjOk H h a u
  | .tbl ps => h.get? a = some { cls := .none, data := .fields ps }
  | .met f x => h.get? a = some (PySem.W.methodObj (.ref f) (.ref x))
  | .ext φ => φ h ∧ (∃ o, h.get? a = some o) ∧ ∀ h1 h2 : Heap, φ h1 → (∀ o, h1.get? a = some o → h2.get? a = some o) → φ h2
def HOk (H : Hp) (h : Heap) : Prop := ∀ a o, H a = some o → ObjOk P w H h a o
end
section
variable {P : Program} {w : World} {H H' : Hp} {h h' : Heap} {a : Addr} {o : HO}
theorem ObjOk.lt (x : ObjOk P w H h a o) : a < h.objs.size := by
  cases o with
  | lst xs => obtain ⟨_, _, _, _, e⟩ := x; exact Heap.lt_size e
  | tup xs => obtain ⟨_, _, _, p⟩ := x; exact p.lt
  | dK kvs => obtain ⟨_, _, _, _, o, _, _, e, _⟩ := x; exact Heap.lt_size e
  | dT kvs => obtain ⟨_, _, _, _, o, _, _, e, _⟩ := x; exact Heap.lt_size e
  | set S n => obtain ⟨o, _, _, _, e, _⟩ := x; exact Heap.lt_size e
  | ins C dx fs => obtain ⟨_, _, _, e, _⟩ := x; exact Heap.lt_size e
  | own y => obtain ⟨_, e⟩ := x; exact Heap.lt_size e
  | xd fs => obtain ⟨_, ⟨_, _, _, e, _⟩, _⟩ := x; exact Heap.lt_size e
  | rng lo hi => obtain ⟨_, _, _, e⟩ := x; exact Heap.lt_size e
  | frz ob u => obtain ⟨e, _⟩ := x; exact Heap.lt_size e
  | tbl ps => exact Heap.lt_size (show h.get? a = some _ from x)
  | met f y => exact Heap.lt_size (show h.get? a = some _ from x)
  | ext φ => obtain ⟨_, ⟨_, e⟩, _⟩ := x; exact Heap.lt_size e
theorem Paired.mapP {α β : Type} {F G : α → β → Prop} : ∀ {l₁ : List α} {l₂ : List β}, Paired F l₁ l₂ → (∀ a b, F a b → G a b) → Paired G l₁ l₂
  | _, _, .nil, _ => .nil
  | _, _, .cons r t, f => .cons (f _ _ r) (Paired.mapP t f)
theorem ObjOk.stay (x : ObjOk P w H h a o) (k : ∀ b u, (b = a ∨ H b = some (.own a)) → h.get? b = some u → h'.get? b = some u)
    (ho : ∀ b, H b = some (.own a) → H' b = some (.own a)) (ht : ∀ b xs, H b = some (.tup xs) → H' b = some (.tup xs)) : ObjOk P w H' h' a o := by
  induction o with
  | lst xs => obtain ⟨z, its, n, r, e⟩ := x; exact ⟨z, its, n, r, k _ _ (.inl rfl) e⟩
  | tup xs => obtain ⟨z, its, r, ob, e, c⟩ := x; exact ⟨z, its, r, ob, k _ _ (.inl rfl) e, c⟩
  | dK kvs => obtain ⟨z, y, vs, r, ob, es, ep, e, c⟩ := x; exact ⟨z, y, vs, r, ob, es, ep, k _ _ (.inl rfl) e, c⟩
  | dT kvs =>
    obtain ⟨z, y, xs, r, ob, es, ep, e, c⟩ := x
    exact ⟨z, y, xs, Paired.mapP r fun p q z => ⟨z.1, ht _ _ z.2.1, z.2.2⟩, ob, es, ep, k _ _ (.inl rfl) e, c⟩
  | set S n => obtain ⟨ob, es, ep, t, e, c⟩ := x; exact ⟨ob, es, ep, t, k _ _ (.inl rfl) e, c⟩
  | ins C dx fs =>
    obtain ⟨d, z, ne, e, mA, ⟨od, es, ep, e2, c⟩, r⟩ := x
    exact ⟨ho _ d, z, ne, k _ _ (.inl rfl) e, mA, ⟨od, es, ep, k _ _ (.inr d) e2, c⟩, r⟩
  | own y => obtain ⟨ob, e⟩ := x; exact ⟨ob, k _ _ (.inl rfl) e⟩
  | xd fs => obtain ⟨mA, ⟨od, es, ep, e, c⟩, r⟩ := x; exact ⟨mA, ⟨od, es, ep, k _ _ (.inl rfl) e, c⟩, r⟩
  | rng lo hi => obtain ⟨t, u, v, e⟩ := x; exact ⟨t, u, v, k _ _ (.inl rfl) e⟩
  | frz ob u ih => obtain ⟨e, q⟩ := x; exact ⟨k _ _ (.inl rfl) e, ih q⟩
  | tbl ps =>
    have e : h.get? a = some { cls := .none, data := .fields ps } := x
    show h'.get? a = some { cls := .none, data := .fields ps }
    exact k a _ (.inl rfl) e
  | met f y =>
    have e : h.get? a = some (PySem.W.methodObj (.ref f) (.ref y)) := x
    show h'.get? a = some (PySem.W.methodObj (.ref f) (.ref y))
    exact k a _ (.inl rfl) e
  | ext φ => obtain ⟨p, ⟨o, e⟩, st⟩ := x; exact ⟨st _ _ p fun o q => k _ _ (.inl rfl) q, ⟨o, k _ _ (.inl rfl) e⟩, st⟩
theorem HOk.lt (x : HOk P w H h) (e : H a = some o) : a < h.objs.size := (x a o e).lt
theorem HOk.fresh (x : HOk P w H h) (e : h.objs.size ≤ a) : H a = none := by
  cases q : H a with
  | none => rfl
  | some u => exact absurd (Nat.lt_of_lt_of_le (x.lt q) e) (Nat.lt_irrefl _)
theorem HOk.kept (x : HOk P w H h) (k : ∀ b u, h.get? b = some u → h'.get? b = some u) : HOk P w H h' := fun a o e =>
  (x a o e).stay (fun b u _ q => k b u q) (fun _ q => q) fun _ _ q => q
theorem HOk.laid (x : HOk P w H h) (k : ∀ b u, h.get? b = some u → h'.get? b = some u) (hp : h.objs.size ≤ a) (new : ObjOk P w (upd H a o) h' a o) : HOk P w (upd H a o) h' := fun b u e => by
  have hn := x.fresh hp
  by_cases hb : b = a
  · subst hb; rw [upd_same] at e; cases e; exact new
  · rw [upd_ne hb] at e
    exact (x b u e).stay (fun c v _ q => k c v q) (fun c q => by rw [upd_ne (ne_of_none q hn)]; exact q) fun c xs q => by rw [upd_ne (ne_of_none q hn)]; exact q
end
def Rd (H : Hp) (a : Addr) (u : HO) : Prop := H a = some u ∨ ∃ o, H a = some (.frz o u)
theorem Rd.ok {P : Program} {w : World} {H : Hp} {h : Heap} {a : Addr} {u : HO} (r : Rd H a u) (x : HOk P w H h) : ObjOk P w H h a u := by
  rcases r with r | ⟨o, r⟩
  · exact x a u r
  · obtain ⟨_, q⟩ := x a _ r
    exact q
def Mut : Option HO → Prop
  | some (.lst _) => True
  | some (.dK _) => True
  | some (.dT _) => True
  | some (.set _ _) => True
  | some (.ins _ _ _) => True
  | some (.ext _) => True
  | _ => False
section
variable {P : Program} {w : World} {H : Hp} {h h' : Heap} {x e : Addr} {o' : HO}
theorem HOk.write (ok : HOk P w H h) (mu : Mut (H x)) (he : e = x ∨ H e = some (.own x)) (k : ∀ b u, b ≠ e → h.get? b = some u → h'.get? b = some u) (heo : ∃ u, h'.get? e = some u)
    (new : ObjOk P w (upd H x o') h' x o') : HOk P w (upd H x o') h' := fun b u q => by
  have nown : ∀ c y, H c = some (.own y) → c ≠ x := fun c y r z => by subst z; rw [r] at mu; exact mu
  have ntup : ∀ c xs, H c = some (.tup xs) → c ≠ x := fun c xs r z => by subst z; rw [r] at mu; exact mu
  by_cases hb : b = x
  · subst hb; rw [upd_same] at q; cases q; exact new
  · rw [upd_ne hb] at q
    by_cases hbe : b = e
    · have q' : H b = some (.own x) := by
        rcases he with z | z
        · exact absurd (hbe.trans z) hb
        · rw [hbe]; exact z
      rw [q] at q'; cases q'
      obtain ⟨v, hv⟩ := heo
      exact ⟨v, by rw [hbe]; exact hv⟩
    · refine (ok b u q).stay (fun c v hc r => k c v ?_ r) (fun c r => by rw [upd_ne (nown c b r)]; exact r) fun c xs r => by rw [upd_ne (ntup c xs r)]; exact r
      rcases hc with rfl | hc
      · exact hbe
      · rintro rfl
        rcases he with z | z
        · exact nown c b hc z
        · rw [hc] at z; cases z; exact hb rfl
end
structure Un (fs ex : List Addr) (H H' : Hp) (h h' : Heap) : Prop where
  keep : ∀ b o, h.get? b = some o → H b = none → b ∉ fs → b ∉ ex → h'.get? b = some o
  slot : ∀ b o, h.get? b = some o → H b = none → b ∈ fs → b ∉ ex → ∃ sl, h'.get? b = some { o with slots := sl }
  free : ∀ b o, h.get? b = some o → H b = none → b ∉ ex → H' b = none
  there : ∀ b o, h.get? b = some o → b ∉ ex → ∃ o', h'.get? b = some o'
  tups : ∀ b xs, H b = some (.tup xs) → H' b = some (.tup xs)
  frzs : ∀ b o u, H b = some (.frz o u) → H' b = some (.frz o u)
  tbls : ∀ b ps, H b = some (.tbl ps) → ∃ more, H' b = some (.tbl (ps ++ more))
section
variable {fs fs' ex ex' : List Addr} {H H1 H2 : Hp} {h h1 h2 h' : Heap} {a x e : Addr} {o : HO}
theorem Un.any (u : Un fs ex H H1 h h1) {b : Addr} {ob : Obj} (q : h.get? b = some ob) (n : H b = none) (hx : b ∉ ex) : ∃ sl, h1.get? b = some { ob with slots := sl } := by
  by_cases hb : b ∈ fs
  · exact u.slot b ob q n hb hx
  · exact ⟨ob.slots, u.keep b ob q n hb hx⟩
theorem Un.kept (k : ∀ b u, h.get? b = some u → h'.get? b = some u) : Un fs ex H H h h' :=
  ⟨fun b ob q _ _ _ => k b ob q, fun b ob q _ _ _ => ⟨ob.slots, k b ob q⟩, fun _ _ _ n _ => n, fun b ob q _ => ⟨ob, k b ob q⟩, fun _ _ q => q, fun _ _ _ q => q, fun _ ps q => ⟨#[], by rw [q]; simp⟩⟩
theorem Un.refl : Un fs ex H H h h := Un.kept fun _ _ q => q
theorem Un.laid (k : ∀ b u, h.get? b = some u → h'.get? b = some u) (hp : h.objs.size ≤ a) (hn : H a = none) : Un fs ex H (upd H a o) h h' where
  keep := fun b u q _ _ _ => k b u q
  slot := fun b u q _ _ _ => ⟨u.slots, k b u q⟩
  free := fun b u q n _ => by rw [upd_ne (Nat.ne_of_lt (Nat.lt_of_lt_of_le (Heap.lt_size q) hp))]; exact n
  there := fun b u q _ => ⟨u, k b u q⟩
  tups := fun b xs q => by rw [upd_ne (ne_of_none q hn)]; exact q
  frzs := fun b u xs q => by rw [upd_ne (ne_of_none q hn)]; exact q
  tbls := fun b ps q => ⟨#[], by rw [upd_ne (ne_of_none q hn), q]; simp⟩
theorem Un.write (mu : Mut (H x)) (he : e = x ∨ H e = some (.own x)) (k : ∀ b u, b ≠ e → h.get? b = some u → h'.get? b = some u) (heo : ∃ u, h'.get? e = some u) : Un fs ex H (upd H x o) h h' := by
  have hx : ∀ b, H b = none → b ≠ x := fun b n z => by subst z; rw [n] at mu; exact mu
  have hb : ∀ b, H b = none → b ≠ e := fun b n z => by
    subst z
    rcases he with r | r
    · exact hx b n r
    · rw [n] at r; cases r
  have hm : ∀ b u, H b = some u → ¬ Mut (some u) → b ≠ x := fun b u q nm z => by subst z; rw [q] at mu; exact nm mu
  refine ⟨fun b u q n _ _ => k b u (hb b n) q, fun b u q n _ _ => ⟨u.slots, k b u (hb b n) q⟩, fun b u q n _ => by rw [upd_ne (hx b n)]; exact n, fun b u q _ => ?_,
    fun b xs q => by rw [upd_ne (hm b _ q fun z => z)]; exact q, fun b u xs q => by rw [upd_ne (hm b _ q fun z => z)]; exact q, fun b ps q => ⟨#[], by rw [upd_ne (hm b _ q fun z => z), q]; simp⟩⟩
  by_cases hbe : b = e
  · subst hbe; exact heo
  · exact ⟨u, k b u hbe q⟩
end
def trk (h : Heap) (H : Hp) : List Addr := (List.range h.objs.size).filter fun a => (H a).isSome
def hidT (h : Heap) (H : Hp) : Heap := PySem.W.hideAll h (trk h H)
theorem hidT_size (h : Heap) (H : Hp) : (hidT h H).objs.size = h.objs.size := PySem.W.hideAll_size _ _
theorem hidT_get {h : Heap} {H : Hp} {b : Addr} {o : Obj} (e : h.get? b = some o) (n : H b = none) : (hidT h H).get? b = some o :=
  PySem.W.hideAll_get _ e fun hm => by
    have q : (H b).isSome = true := (List.mem_filter.mp hm).2
    rw [n] at q; simp at q
theorem of_hidT {h : Heap} {H : Hp} {b : Addr} {o : Obj} (e : (hidT h H).get? b = some o) : h.get? b = some o ∧ H b = none := by
  have e' : h.get? b = some o := PySem.W.of_hideAll (trk h H) e
  refine ⟨e', ?_⟩
  cases q : H b with
  | none => rfl
  | some x =>
    have hm : b ∈ trk h H := List.mem_filter.mpr ⟨List.mem_range.mpr (Heap.lt_size e'), by simp [q]⟩
    have z : (hidT h H).get? b = none := PySem.W.hideAll_none (trk h H) hm
    rw [z] at e; cases e
end L2
namespace L2
open PySem PySem.Spec PyProof.Rows
structure Mod (K : PySem.W.Frag) (mg : Str → Option Value) (base : Heap) : Prop where
  kin : K.In base
  glob : base.Ns mainGlobals mg
  blt : ∃ mb, base.Ns builtinsNs mb ∧ ∀ x : Str, x ≠ "__name__" → mb x = bootBuiltins x
  nolimit : base.NoLimit
structure Cx where
  prog : Program
  w : World
  K : PySem.W.Frag
  mg : Str → Option Value
  base : Heap
  A : Around
  N : List Str
  s_0 : Shared
  H_0 : Hp
  env : Env
  outer : List Env
  stack : List Env
  ex : List Addr
  fn : Str → Bool
  calm : Bool
  pn : List (Addr × Obj)
  xe : Value → Shared → Prop
def frs (l : List Env) : List Addr := l.filterMap (·.frame)
abbrev Cx.fs (X : Cx) : List Addr := frs X.outer
def Vis (sc : Scope) (x : Str) : Prop := sc.names.lookup x = some .local ∨ sc.names.lookup x = some .cell ∨ sc.names.lookup x = some .free
def Loc (sc : Scope) (x : Str) : Prop := sc.names.lookup x = some .local ∨ sc.names.lookup x = some .cell
def Look (env : Env) (h : Heap) (m : Str → Option Value) (x : Str) (u : Value) : Prop :=
  (env.kindOf x = some .local ∧ m x = some u) ∨ ((env.kindOf x = some .cell ∨ env.kindOf x = some .free) ∧ ∃ c, env.cells.lookup x = some c ∧ h.IsCell c (some u))
structure Cx.Ok (X : Cx) : Prop where
  mod : Mod X.K X.mg X.base
  kind : X.env.scope.kind = .function
  glob : X.env.globals = mainGlobals
  blt : X.env.builtins = builtinsNs
  above : X.s_0.heap.objs.size ≤ X.env.locals
  inj : ∀ x y c, X.env.cells.lookup x = some c → X.env.cells.lookup y = some c → x = y
  has : ∀ x, (X.env.kindOf x = some .cell ∨ X.env.kindOf x = some .free) → ∃ c, X.env.cells.lookup x = some c
  cab : ∀ x c, X.fn x = true → X.env.cells.lookup x = some c → X.s_0.heap.objs.size ≤ c
  hd : X.calm = true → X.A.handled = none
  frames : X.A.frames = some X.stack
  stk : X.stack = X.outer ∨ (X.stack = X.env :: X.outer ∧ X.env.frame = some X.env.locals)
  exf : ∀ b ∈ X.ex, b ≠ X.env.locals ∧ ∀ x c, X.env.cells.lookup x = some c → c ≠ b
  bs : ∀ b o, X.base.get? b = some o → X.s_0.heap.get? b = some o ∧ X.H_0 b = none
  bsz : X.base.objs.size ≤ X.s_0.heap.objs.size
  noex : ∀ b o, X.base.get? b = some o → b ∉ X.ex
  exfs : ∀ b ∈ X.ex, b ∉ X.fs
  funs : X.s_0.heap.FunFrames X.base X.outer
  frf : ∀ b ∈ X.fs, X.H_0 b = none
structure Inv (X : Cx) (pins : List (Addr × Obj)) (σ : List (Option V)) (H : Hp) (s : Shared) : Prop where
  ok : X.Ok
  os : s.os = X.s_0.os
  bare : AllBare s.gens
  base : Un X.fs X.ex X.H_0 H X.s_0.heap s.heap
  loc : ∃ m, s.heap.Ns X.env.locals m ∧ ∀ (i : Nat) (x : Str) (v : V), X.N[i]? = some x → σ[i]? = some (some v) → Vis X.env.scope x → ∃ u, RelV v u ∧ Look X.env s.heap m x u
  cell : ∀ x c, X.env.cells.lookup x = some c → ∃ v, s.heap.IsCell c v
  free : H X.env.locals = none
  freeC : ∀ x c, X.env.cells.lookup x = some c → H c = none
  pin : ∀ p ∈ X.pn ++ pins, s.heap.get? p.1 = some p.2 ∧ H p.1 = none ∧ p.1 ≠ X.env.locals ∧ p.1 ∉ X.fs ∧ ∀ v, p.2.data ≠ .cell v
  hok : HOk X.prog X.w H s.heap
  len : σ.length = X.N.length
section
variable {X : Cx} {pins : List (Addr × Obj)} {σ : List (Option V)} {H H' : Hp} {s : Shared} {h' : Heap}
theorem Cx.Ok.nofr (ok : X.Ok) {b : Addr} {o : Obj} (e : X.base.get? b = some o) : b ∉ X.fs := fun hb => by
  have := (ok.funs.mem hb).1
  rw [e] at this; cases this
theorem Inv.bs (I : Inv X pins σ H s) : ∀ b o, X.base.get? b = some o → s.heap.get? b = some o ∧ H b = none := fun b o e =>
  ⟨I.base.keep b o (I.ok.bs b o e).1 (I.ok.bs b o e).2 (I.ok.nofr e) (I.ok.noex b o e), I.base.free b o (I.ok.bs b o e).1 (I.ok.bs b o e).2 (I.ok.noex b o e)⟩
theorem Inv.bk (I : Inv X pins σ H s) : ∀ b o, X.base.get? b = some o → s.heap.get? b = some o := fun b o e => (I.bs b o e).1
theorem Inv.mod (I : Inv X pins σ H s) : Mod X.K X.mg X.base := I.ok.mod
theorem Inv.kIn (I : Inv X pins σ H s) : X.K.In s.heap := I.ok.mod.kin.keeps I.bk
theorem Inv.lt (I : Inv X pins σ H s) : X.env.locals < s.heap.objs.size := let ⟨_, hn, _⟩ := I.loc; hn.lt
theorem Inv.sz (I : Inv X pins σ H s) : X.s_0.heap.objs.size ≤ s.heap.objs.size := Nat.le_trans I.ok.above (Nat.le_of_lt I.lt)
theorem Inv.nofs (I : Inv X pins σ H s) {a : Addr} (h : s.heap.objs.size ≤ a) : a ∉ X.fs := fun hb => by
  obtain ⟨_, o, ho, _⟩ := I.ok.funs.mem hb
  exact absurd (Nat.lt_of_lt_of_le (Heap.lt_size ho) (Nat.le_trans I.sz h)) (Nat.lt_irrefl _)
theorem Inv.cne (I : Inv X pins σ H s) : ∀ x c, X.env.cells.lookup x = some c → c ≠ X.env.locals := fun x c e z => by
  obtain ⟨v, o, ho, hd⟩ := I.cell x c e
  obtain ⟨m, ⟨o', es, ep, ho', hd', _⟩, _⟩ := I.loc
  rw [z, ho'] at ho; cases ho; rw [hd'] at hd; cases hd
theorem Inv.funs (I : Inv X pins σ H s) : s.heap.FunFrames X.base X.outer := by
  have all : ∀ (l : List Env), (∀ b ∈ frs l, b ∈ X.fs) → X.s_0.heap.FunFrames X.base l → s.heap.FunFrames X.base l := by
    intro l
    induction l with
    | nil => intro _ _; trivial
    | cons env r ih =>
      intro hs hl
      obtain ⟨hk, ⟨L, o, hf, hn, ho, hd⟩, hr⟩ := hl
      have hL : L ∈ X.fs := hs L (by unfold frs; rw [List.filterMap_cons, hf]; exact List.mem_cons_self)
      obtain ⟨sl, e⟩ := I.base.slot L o ho (I.ok.frf L hL) hL fun z => I.ok.exfs L z hL
      exact ⟨hk, ⟨L, _, hf, hn, e, hd⟩, ih (fun b hb => hs b (by unfold frs; rw [List.filterMap_cons, hf]; exact List.mem_cons_of_mem _ hb)) hr⟩
  exact all X.outer (fun _ hb => hb) I.ok.funs
theorem Inv.stack (I : Inv X pins σ H s) : s.heap.FunFrames X.base X.stack := by
  rcases I.ok.stk with e | ⟨e, hf⟩
  · rw [e]; exact I.funs
  · rw [e]
    obtain ⟨m, hn, _⟩ := I.loc
    refine .cons (by rw [I.ok.kind]; decide) hf hn ?_ I.funs
    exact Heap.get?_none_of_le (Nat.le_trans I.ok.bsz I.ok.above)
theorem Inv.stkSub (I : Inv X pins σ H s) : ∀ b ∈ frs X.stack, b ∈ X.env.locals :: X.fs := fun b hb => by
  rcases I.ok.stk with e | ⟨e, hf⟩
  · rw [e] at hb; exact List.mem_cons_of_mem _ hb
  · rw [e] at hb
    unfold frs at hb
    rw [List.filterMap_cons, hf] at hb
    exact hb
theorem Inv.stkFree (I : Inv X pins σ H s) : ∀ b ∈ frs X.stack, H b = none := fun b hb => by
  rcases List.mem_cons.mp (I.stkSub b hb) with e | hb
  · rw [e]; exact I.free
  · obtain ⟨_, o, ho, _⟩ := I.ok.funs.mem hb
    exact I.base.free b o ho (I.ok.frf b hb) fun z => I.ok.exfs b z hb
theorem Inv.step {g' : Array GenState} {t' : Nat} {d' : Drawn} {ch : List Addr} (I : Inv X pins σ H s)
    (hch : ∀ b ∈ ch, (b ∈ X.ex ∨ X.s_0.heap.objs.size ≤ b) ∧ b ≠ X.env.locals ∧ (∀ x c, X.env.cells.lookup x = some c → c ≠ b) ∧ ∀ p ∈ X.pn ++ pins, p.1 ≠ b)
    (keep : ∀ b o, b ≠ X.env.locals → b ∉ X.fs → b ∉ ch → s.heap.get? b = some o → H b = none → h'.get? b = some o)
    (slot : ∀ b o, b ≠ X.env.locals → b ∈ X.fs → b ∉ ch → s.heap.get? b = some o → H b = none → ∃ sl, h'.get? b = some { o with slots := sl }) (free : ∀ b o, b ∉ ch → s.heap.get? b = some o → H b = none → H' b = none)
    (there : ∀ b o, b ∉ ch → s.heap.get? b = some o → ∃ o', h'.get? b = some o')
    (tups : ∀ b xs, H b = some (.tup xs) → H' b = some (.tup xs)) (frzs : ∀ b o u, H b = some (.frz o u) → H' b = some (.frz o u)) (tbls : ∀ b ps, H b = some (.tbl ps) → ∃ more, H' b = some (.tbl (ps ++ more)))
    (ns : ∀ m, s.heap.Ns X.env.locals m → h'.Ns X.env.locals m) (hok : HOk X.prog X.w H' h') (hg : AllBare g') :
    Inv X pins σ H' { s with heap := h', gens := g', drawn := d', toks := t' } := by
  have neL : ∀ b o, X.s_0.heap.get? b = some o → b ≠ X.env.locals := fun b o e => Nat.ne_of_lt (Nat.lt_of_lt_of_le (Heap.lt_size e) I.ok.above)
  have neC : ∀ b o, X.s_0.heap.get? b = some o → b ∉ X.ex → b ∉ ch := fun b o e hx hb => by
    rcases (hch b hb).1 with z | z
    · exact hx z
    · exact absurd (Nat.lt_of_lt_of_le (Heap.lt_size e) z) (Nat.lt_irrefl _)
  have cellK : ∀ x c, X.env.cells.lookup x = some c → ∀ v, s.heap.IsCell c v → h'.IsCell c v := fun x c e v ⟨o, ho, hd⟩ => by
    have nch : c ∉ ch := fun z => (hch c z).2.2.1 x c e rfl
    by_cases hc : c ∈ X.fs
    · obtain ⟨sl, q⟩ := slot c o (I.cne x c e) hc nch ho (I.freeC x c e)
      exact ⟨_, q, hd⟩
    · exact ⟨o, keep c o (I.cne x c e) hc nch ho (I.freeC x c e), hd⟩
  refine ⟨I.ok, I.os, hg, ⟨fun b o e n hb hx => ?_, fun b o e n hb hx => ?_, fun b o e n hx => ?_, fun b o e hx => ?_, fun b xs e => tups b xs (I.base.tups b xs e), fun b o xs e => frzs b o xs (I.base.frzs b o xs e), fun b ps e => ?_⟩, ?_, fun x c e => ?_, ?_, fun x c e => ?_, fun p hp => ?_, hok, I.len⟩
  · exact keep b o (neL b o e) hb (neC b o e hx) (I.base.keep b o e n hb hx) (I.base.free b o e n hx)
  · obtain ⟨sl, e1⟩ := I.base.slot b o e n hb hx
    obtain ⟨sl', e2⟩ := slot b _ (neL b o e) hb (neC b o e hx) e1 (I.base.free b o e n hx)
    exact ⟨sl', e2⟩
  · obtain ⟨o', e1⟩ := I.base.there b o e hx
    exact free b o' (neC b o e hx) e1 (I.base.free b o e n hx)
  · obtain ⟨o', e1⟩ := I.base.there b o e hx
    exact there b o' (neC b o e hx) e1
  · obtain ⟨m1, e1⟩ := I.base.tbls b ps e
    obtain ⟨m2, e2⟩ := tbls b _ e1
    exact ⟨m1 ++ m2, by rw [e2, Array.append_assoc]⟩
  · obtain ⟨m, hn, hl⟩ := I.loc
    refine ⟨m, ns m hn, fun i x v e1 e2 e3 => ?_⟩
    obtain ⟨u, r, l⟩ := hl i x v e1 e2 e3
    refine ⟨u, r, ?_⟩
    rcases l with l | ⟨k, c, e, z⟩
    · exact .inl l
    · exact .inr ⟨k, c, e, cellK x c e _ z⟩
  · obtain ⟨v, z⟩ := I.cell x c e
    exact ⟨v, cellK x c e v z⟩
  · obtain ⟨m, ⟨o, _, _, ho, _⟩, _⟩ := I.loc
    exact free _ o (fun z => (hch _ z).2.1 rfl) ho I.free
  · obtain ⟨v, o, ho, hd⟩ := I.cell x c e
    exact free c o (fun z => (hch c z).2.2.1 x c e rfl) ho (I.freeC x c e)
  · obtain ⟨e, n, ne, nf, d⟩ := I.pin p hp
    have nch : p.1 ∉ ch := fun z => (hch p.1 z).2.2.2 p hp rfl
    exact ⟨keep p.1 p.2 ne nf nch e n, free p.1 p.2 nch e n, ne, nf, d⟩
theorem Inv.un {t' : Nat} (I : Inv X pins σ H s) (u : Un X.fs [] H H' s.heap h') (hok : HOk X.prog X.w H' h') : Inv X pins σ H' { s with heap := h', toks := t' } := by
  obtain ⟨m, ⟨o, es, ep, ho, r⟩, _⟩ := id I.loc
  obtain ⟨sl, hL⟩ := u.any ho I.free (by simp)
  exact I.step (g' := s.gens) (d' := s.drawn) (ch := []) (fun _ z => nomatch z) (fun b o _ hb _ e n => u.keep b o e n hb (by simp)) (fun b o _ hb _ e n => u.slot b o e n hb (by simp)) (fun b o _ e n => u.free b o e n (by simp)) (fun b o _ e => u.there b o e (by simp)) u.tups u.frzs u.tbls (fun m' hm => by
    obtain ⟨o', es', ep', ho', r'⟩ := hm
    rw [ho] at ho'; cases ho'
    exact ⟨_, es', ep', hL, r'⟩) hok I.bare
theorem Inv.call {g' : Array GenState} {t' : Nat} {d' : Drawn} {ch : List Addr} (I : Inv X pins σ H s) (u : Un (frs X.stack) ch H H' s.heap h') (hok : HOk X.prog X.w H' h') (hg : AllBare g')
    (hch : ∀ b ∈ ch, (b ∈ X.ex ∨ X.s_0.heap.objs.size ≤ b) ∧ b ≠ X.env.locals ∧ (∀ x c, X.env.cells.lookup x = some c → c ≠ b) ∧ ∀ p ∈ X.pn ++ pins, p.1 ≠ b) :
    Inv X pins σ H' { s with heap := h', gens := g', drawn := d', toks := t' } := by
  obtain ⟨m, ⟨o, es, ep, ho, r⟩, _⟩ := id I.loc
  obtain ⟨sl, hL⟩ := u.any ho I.free fun z => (hch _ z).2.1 rfl
  exact I.step (ch := ch) hch (fun b o hL hb hc e n => u.keep b o e n (fun z => (List.mem_cons.mp (I.stkSub b z)).elim hL hb) hc) (fun b o _ _ hc e n => u.any e n hc) (fun b o hc e n => u.free b o e n hc) (fun b o hc e => u.there b o e hc) u.tups u.frzs u.tbls (fun m' hm => by
    obtain ⟨o', es', ep', ho', r'⟩ := hm
    rw [ho] at ho'; cases ho'
    exact ⟨_, es', ep', hL, r'⟩) hok hg
theorem Inv.turned {t' : Nat} {it : Addr} (I : Inv X pins σ H s) (k : ∀ b o, b ≠ it → s.heap.get? b = some o → h'.get? b = some o) (hn : H it = none) (hL : it ≠ X.env.locals)
    (h1 : it ∈ X.ex ∨ X.s_0.heap.objs.size ≤ it) (h2 : ∀ x c, X.env.cells.lookup x = some c → c ≠ it) (h3 : ∀ p ∈ X.pn ++ pins, p.1 ≠ it) : Inv X pins σ H { s with heap := h', toks := t' } := by
  have nit : ∀ b u, H b = some u → b ≠ it := fun b u e z => by rw [z, hn] at e; cases e
  refine I.step (g' := s.gens) (d' := s.drawn) (ch := [it]) (fun b hb => ?_) (fun b o _ _ hc e _ => k b o (fun z => hc (by simp [z])) e) (fun b o _ _ hc e _ => ⟨o.slots, k b o (fun z => hc (by simp [z])) e⟩) (fun _ _ _ _ n => n)
    (fun b o hc e => ⟨o, k b o (fun z => hc (by simp [z])) e⟩) (fun _ _ e => e) (fun _ _ _ e => e) (fun b ps e => ⟨#[], by rw [e]; simp⟩) (fun m hm => ?_) (fun b u e => ?_) I.bare
  · have e : b = it := by simpa using hb
    subst e
    exact ⟨h1, hL, h2, h3⟩
  · obtain ⟨o, es, ep, ho, r⟩ := hm
    exact ⟨o, es, ep, k _ o (Ne.symm hL) ho, r⟩
  · refine (I.hok b u e).stay (fun c v hc q => k c v ?_ q) (fun _ q => q) fun _ _ q => q
    rcases hc with z | z
    · rw [z]; exact nit b u e
    · exact nit c _ z
theorem Inv.tok (I : Inv X pins σ H s) (t : Nat) : Inv X pins σ H { s with toks := t } := I.un (h' := s.heap) (t' := t) Un.refl I.hok
theorem Inv.kept {t' : Nat} (I : Inv X pins σ H s) (k : ∀ b u, s.heap.get? b = some u → h'.get? b = some u) : Inv X pins σ H { s with heap := h', toks := t' } := I.un (Un.kept k) (I.hok.kept k)
theorem Inv.laid {a : Addr} {o : HO} {t' : Nat} (I : Inv X pins σ H s) (k : ∀ b u, s.heap.get? b = some u → h'.get? b = some u) (hp : s.heap.objs.size ≤ a) (new : ObjOk X.prog X.w (upd H a o) h' a o) :
    Inv X pins σ (upd H a o) { s with heap := h', toks := t' } := I.un (Un.laid k hp (I.hok.fresh hp)) (I.hok.laid k hp new)
theorem Inv.write {x e : Addr} {o : HO} {t' : Nat} (I : Inv X pins σ H s) (mu : Mut (H x)) (he : e = x ∨ H e = some (.own x)) (k : ∀ b u, b ≠ e → s.heap.get? b = some u → h'.get? b = some u) (heo : ∃ u, h'.get? e = some u)
    (new : ObjOk X.prog X.w (upd H x o) h' x o) : Inv X pins σ (upd H x o) { s with heap := h', toks := t' } := I.un (Un.write mu he k heo) (I.hok.write mu he k heo new)
theorem Inv.weak {σ' : List (Option V)} (I : Inv X pins σ H s) (hl : σ'.length = σ.length) (w : ∀ (i : Nat) v, σ'[i]? = some (some v) → σ[i]? = some (some v)) : Inv X pins σ' H s :=
  ⟨I.ok, I.os, I.bare, I.base, let ⟨m, hn, hl'⟩ := I.loc; ⟨m, hn, fun i x v e1 e2 e3 => hl' i x v e1 (w i v e2) e3⟩, I.cell, I.free, I.freeC, I.pin, I.hok, hl.trans I.len⟩
theorem Inv.pins_of {pins' : List (Addr × Obj)} (I : Inv X pins σ H s) (h : ∀ p ∈ pins', s.heap.get? p.1 = some p.2 ∧ H p.1 = none ∧ p.1 ≠ X.env.locals ∧ p.1 ∉ X.fs ∧ ∀ v, p.2.data ≠ .cell v) : Inv X pins' σ H s :=
  ⟨I.ok, I.os, I.bare, I.base, I.loc, I.cell, I.free, I.freeC, fun p hp => (List.mem_append.mp hp).elim (fun z => I.pin p (List.mem_append_left _ z)) (h p), I.hok, I.len⟩
theorem nodup_ix {N : List Str} (hN : N.Nodup) {i j : Nat} {x : Str} (a : N[i]? = some x) (b : N[j]? = some x) : i = j := by
  obtain ⟨h1, e1⟩ := List.getElem?_eq_some_iff.mp a
  obtain ⟨h2, e2⟩ := List.getElem?_eq_some_iff.mp b
  exact (List.getElem_inj hN).mp (e1.trans e2.symm)
theorem store_ok2 {M : Model} {A : Around} {E : Value → Shared → Prop} {i : Nat} {x : Str} {v : V} {u : Value} {Q : Unit → Shared → Prop} (I : Inv X pins σ H s) (hN : X.N.Nodup) (hi : X.N[i]? = some x) (hx : Loc X.env.scope x) (r : RelV v u)
    (h : ∀ s', Inv X pins (σ.set i (some v)) H s' → (∃ a, Heap.SameBut a s.heap s'.heap ∧ (a = X.env.locals ∨ X.env.cells.lookup x = some a)) → Q () s') (hf : X.fn x = true ∨ X.env.scope.names.lookup x = some .local := by first | exact .inl rfl | exact .inr rfl | assumption) : wpAny M A (storeName X.env x u) Q E s := by
  obtain ⟨m, hn, hl⟩ := id I.loc
  have hcls : (X.env.scope.kind == .class || (X.env.scope.kind == .module && X.env.locals != X.env.globals)) = false := by rw [I.ok.kind]; rfl
  have hiσ : i < σ.length := by rw [I.len]; exact (List.getElem?_eq_some_iff.mp hi).1
  have cne := I.cne
  have tracked : ∀ {a : Addr} {h' : Heap}, (∃ o, s.heap.get? a = some o ∧ H a = none) → Heap.SameBut a s.heap h' → HOk X.prog X.w H h' := fun {a h'} ha hs b ob e => by
    obtain ⟨_, _, hfree⟩ := ha
    refine (I.hok b ob e).stay (fun c w' hc q => (hs.2 c ?_).trans q) (fun _ q => q) fun _ _ q => q
    rintro rfl
    rcases hc with rfl | hc
    · rw [hfree] at e; cases e
    · rw [hfree] at hc; cases hc
  rcases hx with hk | hk
  · refine wpAny_storeName_local hk hn (fun h' hn' hs => ?_) hcls
    obtain ⟨oL, _, _, hoL, _⟩ := id hn
    refine h _ ⟨I.ok, I.os, I.bare, ⟨fun b o e n hb hx => ?_, fun b o e n hb hx => ?_, I.base.free, fun b o e hx => ?_, I.base.tups, I.base.frzs, I.base.tbls⟩, ⟨_, hn', fun j y v' e1 e2 e3 => ?_⟩, fun y c e => ?_, I.free, I.freeC, fun p hp => ?_, tracked ⟨oL, hoL, I.free⟩ hs, by simpa using I.len⟩ ⟨_, hs, .inl rfl⟩
    · exact (hs.2 b (Nat.ne_of_lt (Nat.lt_of_lt_of_le (Heap.lt_size e) I.ok.above))).trans (I.base.keep b o e n hb hx)
    · obtain ⟨sl, e1⟩ := I.base.slot b o e n hb hx
      exact ⟨sl, (hs.2 b (Nat.ne_of_lt (Nat.lt_of_lt_of_le (Heap.lt_size e) I.ok.above))).trans e1⟩
    · obtain ⟨o', e1⟩ := I.base.there b o e hx
      exact ⟨o', (hs.2 b (Nat.ne_of_lt (Nat.lt_of_lt_of_le (Heap.lt_size e) I.ok.above))).trans e1⟩
    · by_cases hj : j = i
      · subst hj
        rw [hi] at e1; cases e1
        rw [List.getElem?_set_self hiσ] at e2
        cases e2
        exact ⟨u, r, .inl ⟨hk, by simp⟩⟩
      · rw [List.getElem?_set_ne (Ne.symm hj)] at e2
        obtain ⟨u', r', q⟩ := hl j y v' e1 e2 e3
        refine ⟨u', r', ?_⟩
        rcases q with ⟨k, e⟩ | ⟨k, c, e, z⟩
        · refine .inl ⟨k, ?_⟩
          have : y ≠ x := fun e => hj (nodup_ix hN e1 (e ▸ hi))
          simp [this, e]
        · exact .inr ⟨k, c, e, z.sameBut hs (cne y c e)⟩
    · obtain ⟨w', z⟩ := I.cell y c e
      exact ⟨w', z.sameBut hs (cne y c e)⟩
    · obtain ⟨e, n, ne, nf, d⟩ := I.pin p hp
      exact ⟨(hs.2 p.1 ne).trans e, n, ne, nf, d⟩
  · have hfn : X.fn x = true := by
      rcases hf with z | z
      · exact z
      · rw [z] at hk; cases hk
    obtain ⟨c, hc⟩ := I.ok.has x (.inl hk)
    obtain ⟨w', z⟩ := I.cell x c hc
    refine wpAny_storeName_cell I.ok.kind hk hc z (fun h' hc' hs => ?_)
    obtain ⟨oc, hoc, hocd⟩ := id z
    refine h { s with heap := h' } ⟨I.ok, I.os, I.bare, ⟨fun b o e n hb hx => ?_, fun b o e n hb hx => ?_, I.base.free, fun b o e hx => ?_, I.base.tups, I.base.frzs, I.base.tbls⟩, ⟨m, hn.sameBut hs (Ne.symm (cne x c hc)), fun j y v' e1 e2 e3 => ?_⟩, fun y c' e => ?_, I.free, I.freeC, fun p hp => ?_, tracked ⟨oc, hoc, I.freeC x c hc⟩ hs, by simpa using I.len⟩ ⟨c, hs, .inr hc⟩
    · exact (hs.2 b (Nat.ne_of_lt (Nat.lt_of_lt_of_le (Heap.lt_size e) (I.ok.cab x c hfn hc)))).trans (I.base.keep b o e n hb hx)
    · obtain ⟨sl, e1⟩ := I.base.slot b o e n hb hx
      exact ⟨sl, (hs.2 b (Nat.ne_of_lt (Nat.lt_of_lt_of_le (Heap.lt_size e) (I.ok.cab x c hfn hc)))).trans e1⟩
    · obtain ⟨o', e1⟩ := I.base.there b o e hx
      exact ⟨o', (hs.2 b (Nat.ne_of_lt (Nat.lt_of_lt_of_le (Heap.lt_size e) (I.ok.cab x c hfn hc)))).trans e1⟩
    · by_cases hj : j = i
      · subst hj
        rw [hi] at e1; cases e1
        rw [List.getElem?_set_self hiσ] at e2
        cases e2
        exact ⟨u, r, .inr ⟨.inl hk, c, hc, hc'⟩⟩
      · rw [List.getElem?_set_ne (Ne.symm hj)] at e2
        obtain ⟨u', r', q⟩ := hl j y v' e1 e2 e3
        refine ⟨u', r', ?_⟩
        rcases q with q | ⟨k, c', e, z'⟩
        · exact .inl q
        · refine .inr ⟨k, c', e, z'.sameBut hs ?_⟩
          rintro rfl
          exact hj (nodup_ix hN e1 (I.ok.inj _ _ _ e hc ▸ hi))
    · by_cases hcc : c' = c
      · subst hcc; exact ⟨_, hc'⟩
      · obtain ⟨w2, z2⟩ := I.cell y c' e
        exact ⟨w2, z2.sameBut hs hcc⟩
    · obtain ⟨e, n, ne, nf, d⟩ := I.pin p hp
      refine ⟨(hs.2 p.1 ?_).trans e, n, ne, nf, d⟩
      intro q
      rw [q, hoc] at e
      have q' : oc = p.2 := Option.some.inj e
      exact d w' (by rw [← q']; exact hocd)
theorem store_ok {M : Model} {A : Around} {E : Value → Shared → Prop} {i : Nat} {x : Str} {v : V} {u : Value} {Q : Unit → Shared → Prop} (I : Inv X pins σ H s) (hN : X.N.Nodup) (hi : X.N[i]? = some x) (hx : Loc X.env.scope x) (r : RelV v u)
    (h : ∀ s', Inv X pins (σ.set i (some v)) H s' → Q () s') (hf : X.fn x = true ∨ X.env.scope.names.lookup x = some .local := by first | exact .inl rfl | exact .inr rfl | assumption) : wpAny M A (storeName X.env x u) Q E s :=
  store_ok2 I hN hi hx r (fun s' I' _ => h s' I') hf
theorem Inv.call' {s' : Shared} {ch : List Addr} (I : Inv X pins σ H s) (ho : s'.os = s.os) (u : Un (frs X.stack) ch H H' s.heap s'.heap) (hok : HOk X.prog X.w H' s'.heap) (hg : AllBare s'.gens)
    (hch : ∀ b ∈ ch, (b ∈ X.ex ∨ X.s_0.heap.objs.size ≤ b) ∧ b ≠ X.env.locals ∧ (∀ x c, X.env.cells.lookup x = some c → c ≠ b) ∧ ∀ p ∈ X.pn ++ pins, p.1 ≠ b) : Inv X pins σ H' s' := by
  obtain ⟨h', g', d', t', o'⟩ := s'
  have e : o' = s.os := ho
  subst e
  exact I.call (g' := g') (t' := t') (d' := d') u hok hg hch
end
abbrev XK := Value → Option Addr → Hp → Prop
abbrev St := List (Option V)
abbrev VK := V → Hp → Prop
abbrev TE := St → Hp → VK → Prop
abbrev TT := St → Hp → (Bool → Hp → Prop) → Prop
abbrev TA := St → Hp → (List V → Hp → Prop) → Prop
structure Ends where
  nx : St → Hp → Prop
  rt : VK
  bk : St → Hp → Prop := fun _ _ => False
  ct : St → Hp → Prop := fun _ _ => False
abbrev TS := Ends → St → Hp → Prop
def EP (X : Cx) (pins : List (Addr × Obj)) (σ : St) (Q : VK) (u : Value) (s' : Shared) : Prop := ∃ v H', Inv X pins σ H' s' ∧ RelV v u ∧ Q v H'
def TP (X : Cx) (pins : List (Addr × Obj)) (σ : St) (Q : Bool → Hp → Prop) (b : Bool) (s' : Shared) : Prop := ∃ H', Inv X pins σ H' s' ∧ Q b H'
def AP (X : Cx) (pins : List (Addr × Obj)) (σ : St) (Q : List V → Hp → Prop) (us : List Value) (s' : Shared) : Prop := ∃ vs H', Inv X pins σ H' s' ∧ Vals vs us ∧ Q vs H'
def SP (X : Cx) (pins : List (Addr × Obj)) (D : Ends) (f : Flow) (s' : Shared) : Prop :=
  match f with
  | .next => ∃ σ' H', Inv X pins σ' H' s' ∧ D.nx σ' H'
  | .brk => ∃ σ' H', Inv X pins σ' H' s' ∧ D.bk σ' H'
  | .cont => ∃ σ' H', Inv X pins σ' H' s' ∧ D.ct σ' H'
  | .ret u => ∃ v σ' H', Inv X pins σ' H' s' ∧ RelV v u ∧ D.rt v H'
def PE (X : Cx) (e : Expr) (t : TE) : Prop :=
  ∀ (pins : List (Addr × Obj)) (s : Shared) (σ : St) (H : Hp) (Q : VK), Inv X pins σ H s → t σ H Q → wpAny (model X.prog X.w) X.A (eval e X.env) (EP X pins σ Q) X.xe s
def PT (X : Cx) (e : Expr) (t : TT) : Prop :=
  ∀ (pins : List (Addr × Obj)) (s : Shared) (σ : St) (H : Hp) (Q : Bool → Hp → Prop), Inv X pins σ H s → t σ H Q → wpAny (model X.prog X.w) X.A (isTrue e X.env (eval e X.env)) (TP X pins σ Q) X.xe s
def PW (X : Cx) (e : Expr) (t : TT) : Prop :=
  ∀ (whole : Sem Value) (pins : List (Addr × Obj)) (s : Shared) (σ : St) (H : Hp) (Q : Bool → Hp → Prop), Inv X pins σ H s → t σ H Q → wpAny (model X.prog X.w) X.A (isTrue e X.env whole) (TP X pins σ Q) X.xe s
theorem PW.pt {X : Cx} {e : Expr} {t : TT} (h : PW X e t) : PT X e t := h _
def PA (X : Cx) (es : List Expr) (t : TA) : Prop :=
  ∀ (pos : Pos) (pins : List (Addr × Obj)) (s : Shared) (σ : St) (H : Hp) (Q : List V → Hp → Prop), Inv X pins σ H s → t σ H Q → wpAny (model X.prog X.w) X.A (spliced (backTo pos (starEach es X.env))) (AP X pins σ Q) X.xe s
def PS (X : Cx) (st : Stmt) (t : TS) : Prop :=
  ∀ (pins : List (Addr × Obj)) (s : Shared) (σ : St) (H : Hp) (D : Ends), Inv X pins σ H s → t D σ H → wpAny (model X.prog X.w) X.A (exec st X.env) (SP X pins D) X.xe s
def PSs (X : Cx) (st : List Stmt) (t : TS) : Prop :=
  ∀ (pins : List (Addr × Obj)) (s : Shared) (σ : St) (H : Hp) (D : Ends), Inv X pins σ H s → t D σ H → wpAny (model X.prog X.w) X.A (execs st X.env) (SP X pins D) X.xe s
theorem thn {α : Type} {t : Sem α} {Q Q' : α → Shared → Prop} {M : Model} {A : Around} {E : Value → Shared → Prop} {s : Shared} (h : wpAny M A t Q E s) (hQ : ∀ a s, Q a s → Q' a s) : wpAny M A t Q' E s := wpAny_mono h hQ fun _ _ x => x
end L2
namespace L2
open PySem PySem.Spec PyProof.Rows
section
variable {X : Cx}
def tVar (i : Nat) : TE := fun σ H Q => ∃ v, σ[i]? = some (some v) ∧ Q v H
def tC (v : V) : TE := fun _ H Q => Q v H
theorem pe_var {i : Nat} {x : Str} {pos : Pos} (hN : X.N[i]? = some x) (hv : Vis X.env.scope x) (hd : (x == ("__debug__" : Str)) = false := by decide) (hcd : (x == ("__classdict__" : Str)) = false := by decide) : PE X (.Name x pos) (tVar i) := by
  intro pins s σ H Q I h
  obtain ⟨v, e, h⟩ := h
  obtain ⟨m, hn, hl⟩ := I.loc
  obtain ⟨u, r, l⟩ := hl i x v hN e hv
  have fin : EP X pins σ Q u s := ⟨v, H, I, r, h⟩
  rcases l with ⟨hk, hm⟩ | ⟨hk, c, hc, hcell⟩
  · exact wpAny_Name (wpAny_loadName_local I.ok.kind hk hn hm fin) hd
  · rcases hk with hk | hk
    · exact wpAny_Name (wpAny_loadName_cell I.ok.kind hk hc hcell fin) hd
    · exact wpAny_Name (wpAny_loadName_free I.ok.kind hk hc hcell fin hcd) hd
theorem pe_int {i j pos} : PE X (.Constant (.int i) j pos) (tC (.int i)) := fun _ _ _ H _ I h => wpAny_Constant_int ⟨.int i, H, I.tok _, ⟨_, rfl⟩, h⟩
theorem pe_bl {b j pos} : PE X (.Constant (.bool b) j pos) (tC (.bl b)) := fun _ _ _ H _ I h => Constant_bool ⟨.bl b, H, I, rfl, h⟩
theorem pe_non {j pos} : PE X (.Constant .none j pos) (tC .non) := fun _ _ _ H _ I h => Constant_none ⟨.non, H, I, rfl, h⟩
def Gl (X : Cx) (x : Str) : Prop := X.env.kindOf x = some .globalImplicit
theorem ld_glob {E : Value → Shared → Prop} {pins : List (Addr × Obj)} {s : Shared} {σ : St} {H : Hp} {x : Str} {u : Value} {pos : Pos} {Q : Value → Shared → Prop} (I : Inv X pins σ H s) (hg : Gl X x) (hm : X.mg x = some u) (h : Q u s)
    (hd : (x == ("__debug__" : Str)) = false := by decide) : wpAny (model X.prog X.w) X.A (eval (.Name x pos) X.env) Q E s :=
  Calls.Name_function_global I.ok.kind hg (Calls.loadGlobal_global (by rw [I.ok.glob]; exact I.mod.glob.keeps I.bk) hm h) hd
theorem ld_blt {E : Value → Shared → Prop} {pins : List (Addr × Obj)} {s : Shared} {σ : St} {H : Hp} {x : Str} {u : Value} {pos : Pos} {Q : Value → Shared → Prop} (I : Inv X pins σ H s) (hg : Gl X x) (hm : X.mg x = none) (hv : bootBuiltins x = some u) (h : Q u s)
    (hn : x ≠ "__name__" := by decide) (hd : (x == ("__debug__" : Str)) = false := by decide) : wpAny (model X.prog X.w) X.A (eval (.Name x pos) X.env) Q E s := by
  obtain ⟨mb, h1, h2⟩ := I.mod.blt
  exact Calls.Name_function_global I.ok.kind hg (Calls.loadGlobal_builtin (by rw [I.ok.glob]; exact I.mod.glob.keeps I.bk) hm (by rw [I.ok.blt]; exact h1.keeps I.bk) ((h2 x hn).trans hv) h) hd
theorem pe_glob {x : Str} {v : V} {u : Value} {pos : Pos} (hg : Gl X x) (hm : X.mg x = some u) (r : RelV v u) (hd : (x == ("__debug__" : Str)) = false := by decide) : PE X (.Name x pos) (tC v) :=
  fun _ _ _ H _ I h => ld_glob I hg hm ⟨v, H, I, r, h⟩ hd
variable {a b : Expr} {ta tb : TE} {pos : Pos}
def PC (X : Cx) (op : CmpOp) (a b : Expr) (t : TE) : Prop :=
  ∀ (pins : List (Addr × Obj)) (s : Shared) (σ : St) (H : Hp) (Q : VK), Inv X pins σ H s → t σ H Q →
    wpAny (model X.prog X.w) X.A (eval a X.env) (fun v s₁ => wpAny (model X.prog X.w) X.A (eval b X.env) (fun u s₂ => wpAny (model X.prog X.w) X.A (compareOp op v u) (EP X pins σ Q) X.xe s₂) X.xe s₁) X.xe s
theorem nobehind (b : Expr) {op : CmpOp} (h : op ≠ .In) (h2 : op ≠ .NotIn) : behindInMarks op b = false := by
  have e1 : (op == CmpOp.In) = false := by cases op <;> first | rfl | exact absurd rfl h
  have e2 : (op == CmpOp.NotIn) = false := by cases op <;> first | rfl | exact absurd rfl h2
  cases b <;> simp [behindInMarks, e1, e2]
def tIsN (ta : TE) : TE := fun σ H Q => ta σ H fun x H1 => Q (.bl (decide (x = .non))) H1
def tNotN (ta : TE) : TE := fun σ H Q => ta σ H fun x H1 => Q (.bl (!decide (x = .non))) H1
theorem RelV.none_iff {x : V} {v : Value} (r : RelV x v) : (v == Value.none) = decide (x = .non) := by
  cases x with
  | non => cases r; rfl
  | bl _ => cases r; rfl
  | int _ => obtain ⟨t, rfl⟩ := r; rfl
  | str _ => obtain ⟨t, rfl⟩ := r; rfl
  | byt _ => obtain ⟨t, rfl⟩ := r; rfl
  | flt _ => obtain ⟨t, rfl⟩ := r; rfl
  | ref _ => cases r; rfl
  | ty _ => cases r; rfl
theorem pc_isN {j pos'} (ha : PE X a ta) : PC X .Is a (.Constant .none j pos') (tIsN ta) := by
  intro pins s σ H Q I h
  refine thn (ha pins s σ H _ I h) fun v s1 ⟨x, H1, I1, r1, q1⟩ => ?_
  exact Constant_none (is_none_gen ⟨.bl _, H1, I1, by rw [r1.none_iff]; rfl, q1⟩)
theorem pc_notN {j pos'} (ha : PE X a ta) : PC X .IsNot a (.Constant .none j pos') (tNotN ta) := by
  intro pins s σ H Q I h
  refine thn (ha pins s σ H _ I h) fun v s1 ⟨x, H1, I1, r1, q1⟩ => ?_
  exact Constant_none (isnot_none_gen ⟨.bl _, H1, I1, by rw [r1.none_iff]; rfl, q1⟩)
def tB (t : TE) : TT := fun σ H Q => t σ H fun x H1 => ∃ c, x = .bl c ∧ Q c H1
theorem pe_cmp {op : CmpOp} {t : TE} (h : PC X op a b t) (h1 : behindInMarks op b = false := by first | exact nobehind _ (by decide) (by decide) | rfl) : PE X (.Compare a [op] [b] pos) t := fun pins s σ H Q I hw => wpAny_Compare1 (h pins s σ H Q I hw) h1
theorem pt_cmp {op : CmpOp} {t : TE} (h : PC X op a b t) (h1 : behindInMarks op b = false := by first | exact nobehind _ (by decide) (by decide) | rfl) : PT X (.Compare a [op] [b] pos) (tB t) := by
  intro pins s σ H Q I hw
  refine wpAny_isTrue_Compare1 (thn (h pins s σ H _ I hw) fun v s1 h1 => thn h1 fun u s2 h2 => thn h2 fun c s3 ⟨x, H1, I1, r1, q1⟩ => ?_) h1
  obtain ⟨d, rfl, q⟩ := q1
  cases r1
  exact wpAny_truthy_bool ⟨H1, I1, q⟩
theorem pt_val {e : Expr} {t : TE} (h : PE X e t) (he : ∀ whole, isTrue e X.env whole = (do let v ← whole; standAt e.pos; holding [v] (truthy v)) := by intro _; rfl) : PT X e (tB t) := by
  intro pins s σ H Q I hw
  refine isTrue_plain (thn (h pins s σ H _ I hw) fun v s1 ⟨x, H1, I1, r1, q1⟩ => ?_) (he _)
  obtain ⟨d, rfl, q⟩ := q1
  cases r1
  exact wpAny_truthy_bool ⟨H1, I1, q⟩
variable {tA tB' : TT} {rest : List Expr}
def tAnd (t u : TT) : TT := fun σ H Q => t σ H fun c H1 => if c = true then u σ H1 Q else Q false H1
def tOr (t u : TT) : TT := fun σ H Q => t σ H fun c H1 => if c = true then Q true H1 else u σ H1 Q
def tNot (t : TT) : TT := fun σ H Q => t σ H fun c H1 => Q (!c) H1
theorem pw_and1 (ha : PT X a tA) : PW X (.BoolOp .And [a] pos) tA := by
  intro wh pins s σ H Q I h
  refine isTrue_and (thn (ha pins s σ H Q I h) fun c s1 e => ?_)
  cases c with
  | true => exact isTrue_and_nil e
  | false => exact e
theorem pw_or1 (ha : PT X a tA) : PW X (.BoolOp .Or [a] pos) tA := by
  intro wh pins s σ H Q I h
  refine isTrue_or (thn (ha pins s σ H Q I h) fun c s1 e => ?_)
  cases c with
  | false => exact isTrue_or_nil e
  | true => exact e
theorem pw_and (ha : PT X a tA) (hb : PW X (.BoolOp .And (b :: rest) pos) tB') : PW X (.BoolOp .And (a :: b :: rest) pos) (tAnd tA tB') := by
  intro wh pins s σ H Q I h
  refine isTrue_and (thn (ha pins s σ H _ I h) fun c s1 ⟨H1, I1, q1⟩ => ?_)
  cases c with
  | true => exact hb wh pins s1 σ H1 Q I1 q1
  | false => exact ⟨H1, I1, q1⟩
theorem pw_or (ha : PT X a tA) (hb : PW X (.BoolOp .Or (b :: rest) pos) tB') : PW X (.BoolOp .Or (a :: b :: rest) pos) (tOr tA tB') := by
  intro wh pins s σ H Q I h
  refine isTrue_or (thn (ha pins s σ H _ I h) fun c s1 ⟨H1, I1, q1⟩ => ?_)
  cases c with
  | true => exact ⟨H1, I1, q1⟩
  | false => exact hb wh pins s1 σ H1 Q I1 q1
theorem pt_not (ha : PT X a tA) : PT X (.UnaryOp .Not a pos) (tNot tA) := by
  intro pins s σ H Q I h
  exact isTrue_not (ha pins s σ H (fun c H1 => Q (!c) H1) I h)
def tAndV (ta tb : TE) : TE := fun σ H Q => ta σ H fun x H1 => ∃ c, x = .bl c ∧ if c = true then tb σ H1 Q else Q (.bl false) H1
theorem pe_one {op} {t : TE} (h : PE X a t) : PE X (.BoolOp op [a] pos) t := fun pins s σ H Q I hw => BoolOp_one (h pins s σ H Q I hw)
theorem pe_and (ha : PE X a ta) (hb : PE X (.BoolOp .And (b :: rest) pos) tb) : PE X (.BoolOp .And (a :: b :: rest) pos) (tAndV ta tb) := by
  intro pins s σ H Q I h
  refine BoolOp_and (thn (ha pins s σ H _ I h) fun v s1 ⟨x, H1, I1, r1, q1⟩ => ?_)
  obtain ⟨c, rfl, q1⟩ := q1
  cases r1
  refine wpAny_truthy_bool ?_
  cases c with
  | true => exact hb pins s1 σ H1 Q I1 q1
  | false => exact ⟨.bl false, H1, I1, rfl, q1⟩
def tIf (t : TT) (ta tb : TE) : TE := fun σ H Q => t σ H fun c H1 => if c = true then ta σ H1 Q else tb σ H1 Q
theorem pe_ifExp {c : Expr} (hc : PT X c tA) (ha : PE X a ta) (hb : PE X b tb) : PE X (.IfExp c a b pos) (tIf tA ta tb) := by
  intro pins s σ H Q I h
  refine wpAny_IfExp (thn (hc pins s σ H _ I h) fun d s1 ⟨H1, I1, q1⟩ => ?_)
  cases d with
  | true => exact ha pins s1 σ H1 Q I1 q1
  | false => exact hb pins s1 σ H1 Q I1 q1
end
end L2
namespace L2
open PySem PySem.Spec PyProof.Rows
def SqL (K : PySem.W.Frag) (H : Hp) (a : Addr) (xs : List V) : Prop :=
  Rd H a (.lst xs) ∨
    ∃ (o : Obj) (its : Array Value) (n : Nat), K.lookup a = some o ∧ o.cls = .type "list" ∧ o.dict = none ∧ o.data = .seq its n ∧ its.size ≤ sizeLine ∧ Vals xs its.toList
def SqT (K : PySem.W.Frag) (H : Hp) (a : Addr) (xs : List V) : Prop :=
  Rd H a (.tup xs) ∨
    ∃ (o : Obj) (its : Array Value) (n : Nat), K.lookup a = some o ∧ o.cls = .type "tuple" ∧ o.data = .seq its n ∧ its.size ≤ sizeLine ∧ Vals xs its.toList
def absV : Value → Option V
  | .none => some .non
  | .bool b => some (.bl b)
  | .int i _ => some (.int i)
  | .str x _ => some (.str x)
  | .bytes b _ => some (.byt b)
  | .float b _ => some (.flt b)
  | .ref a => some (.ref a)
  | .type n => some (.ty n)
  | _ => none
theorem RelV.abs {x : V} {u : Value} (r : RelV x u) : absV u = some x := by
  cases x with
  | non => cases r; rfl
  | bl _ => cases r; rfl
  | int _ => obtain ⟨t, rfl⟩ := r; rfl
  | str _ => obtain ⟨t, rfl⟩ := r; rfl
  | byt _ => obtain ⟨t, rfl⟩ := r; rfl
  | flt _ => obtain ⟨t, rfl⟩ := r; rfl
  | ref _ => cases r; rfl
  | ty _ => cases r; rfl
theorem RelV.inj {x y : V} {u : Value} (r : RelV x u) (q : RelV y u) : x = y := Option.some.inj (r.abs.symm.trans q.abs)
theorem Vals.inj : ∀ {xs ys : List V} {us : List Value}, Vals xs us → Vals ys us → xs = ys
  | _, _, _, .nil, .nil => rfl
  | _, _, _, .cons r t, .cons r' t' => by rw [r.inj r', Vals.inj t t']
section
variable {X : Cx} {pins : List (Addr × Obj)} {σ : St} {H : Hp} {s : Shared} {a : Addr} {xs ys : List V}
theorem SqL.of {K : PySem.W.Frag} (h : H a = some (.lst xs)) : SqL K H a xs := .inl (.inl h)
theorem SqT.of {K : PySem.W.Frag} (h : H a = some (.tup xs)) : SqT K H a xs := .inl (.inl h)
theorem Inv.list (I : Inv X pins σ H s) (h : SqL X.K H a xs) : ∃ its : List Value, Vals xs its ∧ PlainL s.heap a its.toArray ∧ xs.length ≤ sizeLine := by
  rcases h with h | ⟨o, its, n, hk, hc, hd, hs, hz, r⟩
  · obtain ⟨z, its, n, r, e⟩ := h.ok I.hok
    exact ⟨its, r, ⟨_, n, e, rfl, rfl, rfl⟩, z⟩
  · refine ⟨its.toList, r, ⟨o, n, I.kIn a o hk, hc, hd, by simpa using hs⟩, ?_⟩
    have e := r.length
    simp only [Array.length_toList] at e
    omega
theorem Inv.tuple (I : Inv X pins σ H s) (h : SqT X.K H a xs) : ∃ its : List Value, Vals xs its ∧ IsTup s.heap a its.toArray ∧ xs.length ≤ sizeLine := by
  rcases h with h | ⟨o, its, n, hk, hc, hs, hz, r⟩
  · obtain ⟨z, its, r, p⟩ := h.ok I.hok
    exact ⟨its, r, p, z⟩
  · refine ⟨its.toList, r, ⟨o, I.kIn a o hk, hc, n, by simpa using hs⟩, ?_⟩
    have e := r.length
    simp only [Array.length_toList] at e
    omega
theorem Inv.list_inj (I : Inv X pins σ H s) (h : SqL X.K H a xs) (h' : SqL X.K H a ys) : xs = ys := by
  obtain ⟨its, r, ⟨o, n, e, _, _, d⟩, _⟩ := I.list h
  obtain ⟨its', r', ⟨o', n', e', _, _, d'⟩, _⟩ := I.list h'
  rw [e] at e'; cases e'
  rw [d] at d'
  injection d' with d1 _
  have : its = its' := by simpa using congrArg Array.toList d1
  subst this
  exact r.inj r'
theorem Inv.tuple_inj (I : Inv X pins σ H s) (h : SqT X.K H a xs) (h' : SqT X.K H a ys) : xs = ys := by
  obtain ⟨its, r, ⟨o, e, _, n, d⟩, _⟩ := I.tuple h
  obtain ⟨its', r', ⟨o', e', _, n', d'⟩, _⟩ := I.tuple h'
  rw [e] at e'; cases e'
  rw [d] at d'
  injection d' with d1 _
  have : its = its' := by simpa using congrArg Array.toList d1
  subst this
  exact r.inj r'
end
abbrev Cx.wish (X : Cx) (E : Value → Shared → Prop) : Cx := { X with xe := E }
abbrev Cx.nox (X : Cx) : Cx := X.wish fun _ _ => False
theorem Cx.Ok.wish {X : Cx} (ok : X.Ok) (E : Value → Shared → Prop) : (X.wish E).Ok :=
  ⟨ok.mod, ok.kind, ok.glob, ok.blt, ok.above, ok.inj, ok.has, ok.cab, ok.hd, ok.frames, ok.stk, ok.exf, ok.bs, ok.bsz, ok.noex, ok.exfs, ok.funs, ok.frf⟩
theorem Cx.Ok.unwish {X : Cx} {E : Value → Shared → Prop} (ok : (X.wish E).Ok) : X.Ok :=
  ⟨ok.mod, ok.kind, ok.glob, ok.blt, ok.above, ok.inj, ok.has, ok.cab, ok.hd, ok.frames, ok.stk, ok.exf, ok.bs, ok.bsz, ok.noex, ok.exfs, ok.funs, ok.frf⟩
section
variable {X : Cx} {pins : List (Addr × Obj)} {σ : St} {H : Hp} {s : Shared} {E : Value → Shared → Prop}
theorem Inv.wish (I : Inv X pins σ H s) (E : Value → Shared → Prop) : Inv (X.wish E) pins σ H s := ⟨I.ok.wish E, I.os, I.bare, I.base, I.loc, I.cell, I.free, I.freeC, I.pin, I.hok, I.len⟩
theorem Inv.unwish (I : Inv (X.wish E) pins σ H s) : Inv X pins σ H s := ⟨I.ok.unwish, I.os, I.bare, I.base, I.loc, I.cell, I.free, I.freeC, I.pin, I.hok, I.len⟩
theorem SP.unwish {D : Ends} {f : Flow} {s' : Shared} (h : SP (X.wish E) pins D f s') : SP X pins D f s' := by
  cases f with
  | next => obtain ⟨σ', H', I, q⟩ := h; exact ⟨σ', H', I.unwish, q⟩
  | brk => obtain ⟨σ', H', I, q⟩ := h; exact ⟨σ', H', I.unwish, q⟩
  | cont => obtain ⟨σ', H', I, q⟩ := h; exact ⟨σ', H', I.unwish, q⟩
  | ret u => obtain ⟨v, σ', H', I, r, q⟩ := h; exact ⟨v, σ', H', I.unwish, r, q⟩
theorem PSs.nox {st : List Stmt} {t : TS} (h : PSs X.nox st t) : PSs X st t := fun pins s σ H D I hw =>
  wpAny_mono (h pins s σ H D (I.wish _) hw) (fun _ _ q => q.unwish) fun _ _ z => False.elim z
end
section
variable {X : Cx} {st : Stmt} {rest : List Stmt} {t u : TS} {e : Expr} {te : TE} {pos : Pos}
def tNext : TS := fun D σ H => D.nx σ H
def tSeq (t u : TS) : TS := fun D σ H => t { D with nx := u D } σ H
theorem pss_nil : PSs X [] tNext := fun _ _ σ H _ I h => wpAny_execs_nil ⟨σ, H, I, h⟩
theorem pss_cons (h1 : PS X st t) (h2 : PSs X rest u) : PSs X (st :: rest) (tSeq t u) := by
  intro pins s σ H D I h
  refine wpAny_execs_cons (thn (h1 pins s σ H { D with nx := u D } I h) fun f s1 q => ?_)
  cases f with
  | next =>
    obtain ⟨σ', H', I', q⟩ := q
    exact h2 pins s1 σ' H' D I' q
  | ret v => exact q
  | brk => exact q
  | cont => exact q
theorem pss_one (h1 : PS X st t) : PSs X [st] t := by
  intro pins s σ H D I h
  refine wpAny_execs_cons (thn (h1 pins s σ H D I h) fun f s1 q => ?_)
  cases f with
  | next => exact wpAny_execs_nil q
  | ret v => exact q
  | brk => exact q
  | cont => exact q
def tBreak : TS := fun D σ H => D.bk σ H
theorem ps_break : PS X (.Break pos) tBreak := fun _ _ σ H _ I h => wpAny_Break ⟨σ, H, I, h⟩
theorem Inv.quiet {pins : List (Addr × Obj)} {σ : St} {H : Hp} {s : Shared} (I : Inv X pins σ H s) : interactive X.env = false := by simp [interactive, I.ok.kind]
def tDrop (te : TE) : TS := fun D σ H => te σ H fun _ H1 => D.nx σ H1
theorem ps_expr (he : PE X e te) (hs : swapsWith e none pos.line X.env = pure false := by rfl) : PS X (.Expr e pos) (tDrop te) := by
  intro pins s σ H D I h
  exact wpAny_Expr_any (thn (he pins s σ H _ I h) fun v s1 ⟨x, H1, I1, r1, q1⟩ => ⟨σ, H1, I1, q1⟩) I.quiet hs
def tRet (te : TE) : TS := fun D σ H => te σ H D.rt
theorem ps_ret (he : PE X e te) : PS X (.Return (some e) pos) (tRet te) := by
  intro pins s σ H D I h
  exact wpAny_Return_some (thn (he pins s σ H _ I h) fun v s1 ⟨x, H1, I1, r1, q1⟩ => ⟨x, σ, H1, I1, r1, q1⟩)
def tIfS (c : TT) (t u : TS) : TS := fun D σ H => c σ H fun b H1 => if b = true then t D σ H1 else u D σ H1
theorem ps_if {c : Expr} {a b : List Stmt} {tc : TT} (hc : PT X c tc) (ha : PSs X a t) (hb : PSs X b u) : PS X (.If c a b pos) (tIfS tc t u) := by
  intro pins s σ H D I h
  refine wpAny_If (thn (hc pins s σ H _ I h) fun d s1 ⟨H1, I1, q1⟩ => ?_)
  cases d with
  | true => exact ha pins s1 σ H1 D I1 q1
  | false => exact hb pins s1 σ H1 D I1 q1
end
abbrev TG := V → St → Hp → (St → Hp → Prop) → Prop
abbrev TGs := List V → St → Hp → (St → Hp → Prop) → Prop
def PG (X : Cx) (target : Expr) (t : TG) : Prop :=
  ∀ (pins : List (Addr × Obj)) (s : Shared) (σ : St) (H : Hp) (v : V) (u : Value) (Q : St → Hp → Prop), Inv X pins σ H s → RelV v u → t v σ H Q →
    wpAny (model X.prog X.w) X.A (assign target X.env u) (fun _ s' => ∃ σ' H', Inv X pins σ' H' s' ∧ Q σ' H') X.xe s
def PGs (X : Cx) (ts : List Expr) (t : TGs) : Prop :=
  ∀ (pins : List (Addr × Obj)) (s : Shared) (σ : St) (H : Hp) (vs : List V) (us : List Value) (Q : St → Hp → Prop), Inv X pins σ H s → Vals vs us → t vs σ H Q →
    wpAny (model X.prog X.w) X.A (assignInOrder ((assignEach ts X.env).map (·.2)) us) (fun _ s' => ∃ σ' H', Inv X pins σ' H' s' ∧ Q σ' H') X.xe s
abbrev TSet := V → V → V → Hp → (Hp → Prop) → Prop
def PSet (X : Cx) (t : TSet) : Prop :=
  ∀ (pins : List (Addr × Obj)) (s : Shared) (σ : St) (H : Hp) (o i v : V) (ov iv u : Value) (Q : Hp → Prop), Inv X pins σ H s → RelV o ov → RelV i iv → RelV v u → t o i v H Q →
    wpAny (model X.prog X.w) X.A (setItem ov iv u) (fun _ s' => ∃ H', Inv X pins σ H' s' ∧ Q H') X.xe s
abbrev TIp := V → V → Hp → VK → Prop
def PIp (X : Cx) (op : Operator) (t : TIp) : Prop :=
  ∀ (pins : List (Addr × Obj)) (s : Shared) (σ : St) (H : Hp) (x y : V) (v u : Value) (Q : VK), Inv X pins σ H s → RelV x v → RelV y u → t x y H Q →
    wpAny (model X.prog X.w) X.A (inplaceOp op v u) (EP X pins σ Q) X.xe s
section
variable {X : Cx} {pos : Pos}
def gName (i : Nat) : TG := fun v σ H Q => Q (σ.set i (some v)) H
theorem pg_name {i : Nat} {x : Str} (hN : X.N.Nodup) (hi : X.N[i]? = some x) (hx : Loc X.env.scope x) (hf : X.fn x = true ∨ X.env.scope.names.lookup x = some .local := by first | exact .inl rfl | exact .inr rfl | assumption) : PG X (.Name x pos) (gName i) := by
  intro pins s σ H v u Q I r h
  exact wpAny_assign_Name (store_ok I hN hi hx r (fun s' I' => ⟨_, H, I', h⟩) hf)
def gNil : TGs := fun vs σ H Q => vs = [] ∧ Q σ H
def gCons (t : TG) (u : TGs) : TGs := fun vs σ H Q => ∃ v r, vs = v :: r ∧ t v σ H fun σ' H' => u r σ' H' Q
theorem pgs_nil : PGs X [] gNil := by
  intro pins s σ H vs us Q I r h
  obtain ⟨e, h⟩ := h
  subst e
  cases r
  exact assignInOrder_nil ⟨σ, H, I, h⟩
theorem pgs_cons {e : Expr} {es : List Expr} {t : TG} {u : TGs} (h1 : PG X e t) (h2 : PGs X es u)
    (hs : (assignEach (e :: es) X.env).map (·.2) = assign e X.env :: (assignEach es X.env).map (·.2) := by rfl) : PGs X (e :: es) (gCons t u) := by
  intro pins s σ H vs us Q I r h
  obtain ⟨v, vr, e1, h⟩ := h
  subst e1
  cases r with
  | cons r rr =>
    rw [hs]
    refine assignInOrder_cons (thn (h1 pins s σ H _ _ _ I r h) fun _ s1 ⟨σ1, H1, I1, q1⟩ => ?_)
    exact h2 pins s1 σ1 H1 _ _ Q I1 rr q1
def gTup (K : PySem.W.Frag) (n : Nat) (t : TGs) : TG := fun v σ H Q => ∃ a xs, v = .ref a ∧ SqT K H a xs ∧ xs.length = n ∧ t xs σ H Q
theorem pg_tup {es : List Expr} {k : Nat} {t : TGs} {n : Nat} (hc : X.calm = true) (h : PGs X es t)
    (hn : (assignEach es X.env).length = n := by rfl) (hst : (assignEach es X.env).findIdx? (·.1) = none := by rfl) : PG X (.Tuple es k pos) (gTup X.K n t) := by
  intro pins s σ H v u Q I r hw
  obtain ⟨a, xs, e1, hq, hl, hw⟩ := hw
  subst e1
  cases r
  obtain ⟨its, rv, ht, hz⟩ := I.tuple hq
  refine assign_Tuple_tuple (I.ok.hd hc) ht (by simp [hn, ← hl, rv.length]) hst fun h' hx => ?_
  have I1 : Inv X pins σ H { s with heap := h' } := I.kept (t' := s.toks) fun b o e => hx b o (Nat.ne_of_lt (Heap.lt_size e)) e
  exact h pins _ σ H xs _ Q I1 (by simpa using rv) hw
def gSub (to ti : TE) (t : TSet) : TG := fun v σ H Q => to σ H fun o H1 => ti σ H1 fun i H2 => t o i v H2 fun H3 => Q σ H3
theorem pg_sub {o i : Expr} {to ti : TE} {t : TSet} (ho : PE X o to) (hi : PE X i ti) (hs : PSet X t)
    (ha : ∀ v, assign (.Subscript o i pos) X.env v = (do
      let ov ← holding [v] (eval o X.env)
      let iv ← holding [v, ov] (eval i X.env)
      standAt pos
      holding [v, ov, iv] (setItem ov iv v)
      release [v, ov, iv] []) := by intro _; rfl) : PG X (.Subscript o i pos) (gSub to ti t) := by
  intro pins s σ H v u Q I r h
  rw [ha]
  refine wpAny_bind (wpAny_holding (thn (ho pins s σ H _ I h) fun ov s1 ⟨x, H1, I1, r1, q1⟩ => ?_))
  refine wpAny_bind (wpAny_holding (thn (hi pins s1 σ H1 _ I1 q1) fun iv s2 ⟨y, H2, I2, r2, q2⟩ => ?_))
  refine wpAny_bind (wpAny_standAt (wpAny_bind (wpAny_holding (thn (hs pins s2 σ H2 x y v ov iv u _ I2 r1 r2 r q2) fun _ s3 ⟨H3, I3, q3⟩ => ?_))))
  exact wpAny_release ⟨σ, H3, I3, q3⟩
def tAsg (te : TE) (g : TG) : TS := fun D σ H => te σ H fun x H1 => g x σ H1 D.nx
theorem ps_asg {tg e : Expr} {te : TE} {g : TG} (he : PE X e te) (hg : PG X tg g) (hs : swapsWithSole [tg] e pos.line X.env = pure false := by rfl) (hw : swappedStores [tg] e X.env = pure none := by rfl)
    (h1 : (assignEach [tg] X.env).map (·.2) = [assign tg X.env] := by rfl) : PS X (.Assign [tg] e pos) (tAsg te g) := by
  intro pins s σ H D I h
  refine wpAny_Assign_stores (thn (he pins s σ H _ I h) fun v s1 ⟨x, H1, I1, r1, q1⟩ => ?_) hs hw
  rw [h1]
  exact thn (hg pins s1 σ H1 x v _ I1 r1 q1) fun _ s2 q => q
theorem ps_set {i : Nat} {x : Str} {e : Expr} {te : TE} {pos' : Pos} (hN : X.N.Nodup) (hi : X.N[i]? = some x) (hx : Loc X.env.scope x) (he : PE X e te) (hs : swapsWith e (some (.Name x pos')) pos.line X.env = pure false := by rfl) (hf : X.fn x = true ∨ X.env.scope.names.lookup x = some .local := by first | exact .inl rfl | exact .inr rfl | assumption) :
    PS X (.Assign [.Name x pos'] e pos) (tAsg te (gName i)) := by
  intro pins s σ H D I h
  refine wpAny_Assign_Name (thn (he pins s σ H _ I h) fun v s1 ⟨y, H1, I1, r1, q1⟩ => ?_) hs
  exact store_ok I1 hN hi hx r1 (fun s2 I2 => ⟨_, H1, I2, q1⟩) hf
def tAug (i : Nat) (te : TE) (ti : TIp) : TS := fun D σ H => ∃ x, σ[i]? = some (some x) ∧ te σ H fun y H1 => ti x y H1 fun z H2 => D.nx (σ.set i (some z)) H2
theorem ps_aug {i : Nat} {x : Str} {e : Expr} {te : TE} {op : Operator} {ti : TIp} {pos' : Pos} (hN : X.N.Nodup) (hi : X.N[i]? = some x) (hx : Loc X.env.scope x) (he : PE X e te) (ho : PIp X op ti) (hf : X.fn x = true ∨ X.env.scope.names.lookup x = some .local := by first | exact .inl rfl | exact .inr rfl | assumption) :
    PS X (.AugAssign (.Name x pos') op e pos) (tAug i te ti) := by
  intro pins s σ H D I h
  obtain ⟨v, e1, h⟩ := h
  obtain ⟨m, hn, hl⟩ := I.loc
  have vis : Vis X.env.scope x := by rcases hx with k | k; exact .inl k; exact .inr (.inl k)
  obtain ⟨u, r, l⟩ := hl i x v hi e1 vis
  refine wpAny_AugAssign_Name ?_
  have go : wpAny (model X.prog X.w) X.A (eval e X.env) (fun w s₂ => wpAny (model X.prog X.w) X.A (inplaceOp op u w) (fun r s₃ => wpAny (model X.prog X.w) X.A (storeName X.env x r) (fun _ => SP X pins D .next) X.xe s₃) X.xe s₂) X.xe s := by
    refine thn (he pins s σ H _ I h) fun w s1 ⟨y, H1, I1, r1, q1⟩ => ?_
    refine thn (ho pins s1 σ H1 v y u w _ I1 r r1 q1) fun z s2 ⟨zv, H2, I2, r2, q2⟩ => ?_
    exact store_ok I2 hN hi hx r2 (fun s3 I3 => ⟨_, H2, I3, q2⟩) hf
  rcases l with ⟨hk, hm⟩ | ⟨hk, c, hc, hcell⟩
  · exact wpAny_loadName_local I.ok.kind hk hn hm go
  · rcases hk with hk | hk
    · exact wpAny_loadName_cell I.ok.kind hk hc hcell go
    · rcases hx with k | k
      · have : X.env.scope.names.lookup x = some .free := hk
        rw [k] at this; cases this
      · have : X.env.scope.names.lookup x = some .free := hk
        rw [k] at this; cases this
def ipI (f : Int → Int → Int) : TIp := fun x y H Q => ∃ i j, x = .int i ∧ y = .int j ∧ Q (.int (f i j)) H
theorem ip_add : PIp X .Add (ipI fun i j => i + j) := by
  intro pins s σ H x y v u Q I r1 r2 h
  obtain ⟨i, j, e1, e2, q⟩ := h
  subst e1; subst e2
  obtain ⟨t, rfl⟩ := r1
  obtain ⟨t', rfl⟩ := r2
  exact iadd_int ⟨.int _, H, I.tok _, ⟨_, rfl⟩, q⟩
end
section
variable {X : Cx} {pos : Pos}
def tWhile (c : TT) (tb : TS) : TS := fun D σ H => ∃ W : Nat → St → Hp → Prop, (∃ m, W m σ H) ∧ ∀ m σ H, W m σ H →
  c σ H fun b H1 => if b = true then ∃ N : St → Hp → Prop, (∀ σ' H', N σ' H' → ∃ m', m' < m ∧ W m' σ' H') ∧ tb { D with nx := N, ct := N, bk := D.nx } σ H1 else D.nx σ H1
theorem ps_while {c : Expr} {body : List Stmt} {tc : TT} {tb : TS} (hp : PassesOwn (model X.prog X.w) X.A X.env X.xe) (hc : PT X c tc) (hb : PSs X body tb) : PS X (.While c body [] pos) (tWhile tc tb) := by
  intro pins s σ H D I h
  obtain ⟨W, ⟨m0, w0⟩, turn⟩ := h
  refine wpAny_While (codeAny_whileLoop (fun n s' => ∃ σ' H', Inv X pins σ' H' s' ∧ W n σ' H') ?_ m0 ⟨σ, H, I, w0⟩)
  rintro n s1 ⟨σ1, H1, I1, w1⟩
  refine wpAny_passesOwn hp (thn (hc pins s1 σ1 H1 _ I1 (turn n σ1 H1 w1)) fun b s2 ⟨H2, I2, q2⟩ => ?_)
  cases b with
  | true =>
    obtain ⟨N, hN, q2⟩ := q2
    rw [if_pos rfl]
    refine wpAny_passesOwn hp (thn (hb pins s2 σ1 H2 _ I2 q2) fun f s3 q3 => ?_)
    cases f with
    | next =>
      obtain ⟨σ3, H3, I3, n3⟩ := q3
      obtain ⟨m', hm, w3⟩ := hN σ3 H3 n3
      exact ⟨m', hm, σ3, H3, I3, w3⟩
    | cont =>
      obtain ⟨σ3, H3, I3, n3⟩ := q3
      obtain ⟨m', hm, w3⟩ := hN σ3 H3 n3
      exact ⟨m', hm, σ3, H3, I3, w3⟩
    | brk => exact q3
    | ret v => exact q3
  | false =>
    rw [if_neg Bool.false_ne_true]
    exact wpAny_execs_nil ⟨σ1, H2, I2, q2⟩
end
structure It where
  go : Nat → Hp → Prop
  yld : Nat → Hp → V → Hp → Prop
  stop : Nat → Hp → Prop
def FpOk (X : Cx) (pins : List (Addr × Obj)) (H : Hp) (b : Addr) : Prop :=
  H b = none ∧ b ≠ X.env.locals ∧ b ∉ X.fs ∧ (b ∈ X.ex ∨ X.s_0.heap.objs.size ≤ b) ∧ (∀ x c, X.env.cells.lookup x = some c → c ≠ b) ∧ ∀ p ∈ X.pn ++ pins, p.1 ≠ b
theorem Inv.fpOk {X : Cx} {pins : List (Addr × Obj)} {σ : St} {H H' : Hp} {s : Shared} {b : Addr} (I : Inv X pins σ H s) (hb : s.heap.objs.size ≤ b) (hn : H' b = none) : FpOk X pins H' b := by
  refine ⟨hn, Nat.ne_of_gt (Nat.lt_of_lt_of_le I.lt hb), I.nofs hb, .inr (Nat.le_trans I.sz hb), fun x c e z => ?_, fun p hp z => ?_⟩
  · obtain ⟨v, q⟩ := I.cell x c e
    exact absurd (Nat.lt_of_lt_of_le q.lt (by rw [z]; exact hb)) (Nat.lt_irrefl _)
  · exact absurd (Nat.lt_of_lt_of_le (Heap.lt_size (I.pin p hp).1) (by rw [z]; exact hb)) (Nat.lt_irrefl _)
structure Turn (P : Program) (w : World) (K : PySem.W.Frag) (tg : Expr) (J : It) (fp : List Addr) (it : Addr) (tn : Nat → Heap → Prop) : Prop where
  mem : it ∈ fp
  obj : ∀ i h, tn i h → ∀ b ∈ fp, ∃ o, h.get? b = some o ∧ ∀ v, o.data ≠ .cell v
  keep : ∀ i h h', tn i h → (∀ b ∈ fp, ∀ o, h.get? b = some o → h'.get? b = some o) → tn i h'
  item : ∀ (X : Cx), X.prog = P → X.w = w → X.K = K → X.calm = true → ∀ (i : Nat) (pins : List (Addr × Obj)) (s : Shared) (σ : St) (H : Hp) (E : Value → Shared → Prop), Inv X pins σ H s → (∀ b ∈ fp, FpOk X pins H b) → tn i s.heap → J.go i H →
    wpAny (model P w) X.A (pyNext (.ref it)) (fun r s1 => ∃ u, r = some u ∧
      wpAny (model P w) X.A (letOwnedTupleGo tg (.ref it) u) (fun _ s2 => ∃ x H', Inv X pins σ H' s2 ∧ RelV x u ∧ J.yld i H x H' ∧ tn (i + 1) s2.heap ∧ ∀ b ∈ fp, H' b = none) E s1) E s
  done : ∀ (X : Cx), X.prog = P → X.w = w → X.K = K → X.calm = true → ∀ (i : Nat) (pins : List (Addr × Obj)) (s : Shared) (σ : St) (H : Hp) (E : Value → Shared → Prop), Inv X pins σ H s → (∀ b ∈ fp, FpOk X pins H b) → tn i s.heap → J.stop i H →
    wpAny (model P w) X.A (pyNext (.ref it)) (fun r s1 => r = none ∧ Inv X pins σ H s1) E s
  self : ∀ (A : Around) (i : Nat) (s : Shared) (Q : Value → Shared → Prop) (E : Value → Shared → Prop), tn i s.heap → Q (.ref it) s → wpAny (model P w) A (pyIter (.ref it)) Q E s
abbrev TI := St → Hp → (It → Hp → Prop) → Prop
def PIE (X : Cx) (pins : List (Addr × Obj)) (σ : St) (tg : Expr) (R : It → Hp → Prop) (itv : Value) (s2 : Shared) : Prop :=
  ∃ (it : Addr) (fp : List Addr) (tn : Nat → Heap → Prop) (J : It) (H' : Hp), itv = .ref it ∧ Inv X pins σ H' s2 ∧ Turn X.prog X.w X.K tg J fp it tn ∧ tn 0 s2.heap ∧ (∀ b ∈ fp, FpOk X pins H' b) ∧ R J H'
def PI (X : Cx) (tg iter : Expr) (wi : TI) : Prop :=
  ∀ (pins : List (Addr × Obj)) (s : Shared) (σ : St) (H : Hp) (R : It → Hp → Prop), Inv X pins σ H s → wi σ H R →
    wpAny (model X.prog X.w) X.A (eval iter X.env) (fun v s1 => wpAny (model X.prog X.w) X.A (pyIter v) (PIE X pins σ tg R) X.xe s1) X.xe s
theorem go_of {M : Model} {A : Around} {E : Value → Shared → Prop} {s : Shared} {tg : Expr} {it : Addr} {u : Value} {o : Obj} {n : String} {vs : Array Value} {Q : Unit → Shared → Prop} (ho : s.heap.get? it = some o) (hc : o.cls = .type n) (hd : o.data = .fields vs)
    (hn : ["enumerate", "zip", "dict_itemiterator", "dict_reverseitemiterator", "odict_iterator", "itertools.zip_longest", "itertools.pairwise"].contains n = false) (hQ : Q () s) : wpAny M A (letOwnedTupleGo tg (.ref it) u) Q E s := by
  unfold letOwnedTupleGo
  cases tg <;> first
    | exact wpAny_pure hQ
    | (cases u <;> first
        | exact wpAny_pure hQ
        | (refine wpAny_bind (wpAny_load ho ?_)
           rw [hc, hd]
           show wpAny M A (if (["enumerate", "zip", "dict_itemiterator", "dict_reverseitemiterator", "odict_iterator", "itertools.zip_longest", "itertools.pairwise"].contains n && vs[0]? == some (rawInt _)) = true then _ else _) Q E s
           rw [if_neg (by intro h; rw [hn, Bool.false_and] at h; cases h)]
           exact wpAny_pure hQ))
def Itl (K : PySem.W.Frag) (a : Addr) : It :=
  ⟨fun i H => ∃ xs x, SqL K H a xs ∧ xs[i]? = some x, fun i H x H' => H' = H ∧ ∀ xs, SqL K H a xs → xs[i]? = some x, fun i H => ∃ xs, SqL K H a xs ∧ xs.length ≤ i⟩
def Itt (K : PySem.W.Frag) (a : Addr) : It :=
  ⟨fun i H => ∃ xs x, SqT K H a xs ∧ xs[i]? = some x, fun i H x H' => H' = H ∧ ∀ xs, SqT K H a xs → xs[i]? = some x, fun i H => ∃ xs, SqT K H a xs ∧ xs.length ≤ i⟩
theorem turn_list {P : Program} {w : World} {K : PySem.W.Frag} {tg : Expr} (a it : Addr) : Turn P w K tg (Itl K a) [it] it (fun i h => h.IsListIter it a i) where
  mem := by simp
  obj := fun i h st b hb => by
    have e : b = it := by simpa using hb
    subst e
    obtain ⟨o, e, c, d⟩ := st
    exact ⟨o, e, fun v z => by rw [d] at z; cases z⟩
  keep := fun i h h' st k => st.at fun o e => k it (by simp) o e
  item := by
    intro X hP hw hK hc i pins s σ H E I hf st hg
    subst hP hw hK
    obtain ⟨xs, x, hq, hx⟩ := hg
    obtain ⟨its, rv, p, hz⟩ := I.list hq
    obtain ⟨u, hu, ru⟩ := rv.get hx
    obtain ⟨f0, f1, f2, f3, f4, f5⟩ := hf it (by simp)
    refine wpAny_pyNext_list_item st p.isList (x := u) (by simpa using hu) fun h' st' sb => ?_
    have I1 : Inv X pins σ H { s with heap := h' } := I.turned (t' := s.toks) (fun b o hb e => (sb.2 b hb).trans e) f0 f1 f3 f4 f5
    obtain ⟨o, e, c, d⟩ := id st'
    exact ⟨u, rfl, go_of (s := { s with heap := h' }) e c d (by decide) ⟨x, H, I1, ru, ⟨rfl, fun ys hy => by rw [I.list_inj hy hq]; exact hx⟩, st', fun b hb => (hf b hb).1⟩⟩
  done := by
    intro X hP hw hK hc i pins s σ H E I hf st hg
    subst hP hw hK
    obtain ⟨xs, hq, hx⟩ := hg
    obtain ⟨its, rv, p, hz⟩ := I.list hq
    obtain ⟨f0, f1, f2, f3, f4, f5⟩ := hf it (by simp)
    have hl := rv.length
    exact wpAny_pyNext_list_end (I.ok.hd hc) st p.isList (by simp; omega) fun h' eb => ⟨rfl, I.turned (t' := s.toks) (fun b o hb e => eb b o hb e) f0 f1 f3 f4 f5⟩
  self := fun _ _ _ _ _ st h => wpAny_pyIter_listiter st h
theorem turn_tuple {P : Program} {w : World} {K : PySem.W.Frag} {tg : Expr} (a it : Addr) : Turn P w K tg (Itt K a) [it] it (fun i h => h.IsTupleIter it a i) where
  mem := by simp
  obj := fun i h st b hb => by
    have e : b = it := by simpa using hb
    subst e
    obtain ⟨o, e, c, d⟩ := st
    exact ⟨o, e, fun v z => by rw [d] at z; cases z⟩
  keep := fun i h h' st k => st.at fun o e => k it (by simp) o e
  item := by
    intro X hP hw hK hc i pins s σ H E I hf st hg
    subst hP hw hK
    obtain ⟨xs, x, hq, hx⟩ := hg
    obtain ⟨its, rv, p, hz⟩ := I.tuple hq
    obtain ⟨u, hu, ru⟩ := rv.get hx
    obtain ⟨f0, f1, f2, f3, f4, f5⟩ := hf it (by simp)
    refine wpAny_pyNext_tuple_item st (show s.heap.IsTuple a its.toArray from p) (x := u) (by simpa using hu) fun h' st' sb => ?_
    have I1 : Inv X pins σ H { s with heap := h' } := I.turned (t' := s.toks) (fun b o hb e => (sb.2 b hb).trans e) f0 f1 f3 f4 f5
    obtain ⟨o, e, c, d⟩ := id st'
    exact ⟨u, rfl, go_of (s := { s with heap := h' }) e c d (by decide) ⟨x, H, I1, ru, ⟨rfl, fun ys hy => by rw [I.tuple_inj hy hq]; exact hx⟩, st', fun b hb => (hf b hb).1⟩⟩
  done := by
    intro X hP hw hK hc i pins s σ H E I hf st hg
    subst hP hw hK
    obtain ⟨xs, hq, hx⟩ := hg
    obtain ⟨its, rv, p, hz⟩ := I.tuple hq
    obtain ⟨f0, f1, f2, f3, f4, f5⟩ := hf it (by simp)
    have hl := rv.length
    exact wpAny_pyNext_tuple_end (I.ok.hd hc) st (show s.heap.IsTuple a its.toArray from p) (by simp; omega) fun h' eb => ⟨rfl, I.turned (t' := s.toks) (fun b o hb e => eb b o hb e) f0 f1 f3 f4 f5⟩
  self := fun _ _ _ _ _ st h => wpAny_pyIter_tupleiter st h
end L2
namespace L2
open PySem PySem.Spec PyProof.Rows
section
variable {X : Cx} {tg : Expr}
def iList (K : PySem.W.Frag) (tl : TE) : TI := fun σ H R => tl σ H fun x H1 => ∃ a, x = .ref a ∧ (∃ xs, SqL K H1 a xs) ∧ R (Itl K a) H1
def iTup (K : PySem.W.Frag) (tl : TE) : TI := fun σ H R => tl σ H fun x H1 => ∃ a, x = .ref a ∧ (∃ xs, SqT K H1 a xs) ∧ R (Itt K a) H1
theorem pi_list {l : Expr} {tl : TE} (hl : PE X l tl) : PI X tg l (iList X.K tl) := by
  intro pins s σ H R I h
  refine thn (hl pins s σ H _ I h) fun v s1 ⟨x, H1, I1, r1, q1⟩ => ?_
  obtain ⟨a, e, ⟨xs, hq⟩, q⟩ := q1
  subst e
  cases r1
  obtain ⟨its, rv, p, hz⟩ := I1.list hq
  refine wpAny_pyIter_list p.isList ?_
  refine ⟨s1.heap.objs.size, [s1.heap.objs.size], _, _, H1, rfl, I1.kept (t' := s1.toks) fun b o e => Heap.get?_push_of_some _ e, turn_list a _, ⟨_, Heap.get?_push_size _ rfl, rfl, rfl⟩, fun b hb => ?_, q⟩
  have e : b = s1.heap.objs.size := by simpa using hb
  subst e
  exact I1.fpOk (Nat.le_refl _) (I1.hok.fresh (Nat.le_refl _))
theorem pi_tup {l : Expr} {tl : TE} (hl : PE X l tl) : PI X tg l (iTup X.K tl) := by
  intro pins s σ H R I h
  refine thn (hl pins s σ H _ I h) fun v s1 ⟨x, H1, I1, r1, q1⟩ => ?_
  obtain ⟨a, e, ⟨xs, hq⟩, q⟩ := q1
  subst e
  cases r1
  obtain ⟨its, rv, p, hz⟩ := I1.tuple hq
  refine wpAny_pyIter_tuple (show s1.heap.IsTuple a its.toArray from p) ?_
  refine ⟨s1.heap.objs.size, [s1.heap.objs.size], _, _, H1, rfl, I1.kept (t' := s1.toks) fun b o e => Heap.get?_push_of_some _ e, turn_tuple a _, ⟨_, Heap.get?_push_size _ rfl, rfl, rfl⟩, fun b hb => ?_, q⟩
  have e : b = s1.heap.objs.size := by simpa using hb
  subst e
  exact I1.fpOk (Nat.le_refl _) (I1.hok.fresh (Nat.le_refl _))
def tFor (wi : TI) (g : TG) (tb : TS) : TS := fun D σ H => wi σ H fun J H1 => ∃ W : Nat → Nat → St → Hp → Prop, (∃ m, W 0 m σ H1) ∧ ∀ i m σ H, W i m σ H →
  (J.stop i H ∧ D.nx σ H) ∨ (J.go i H ∧ ∃ N : St → Hp → Prop, (∀ σ' H', N σ' H' → ∃ m', m' < m ∧ W (i + 1) m' σ' H') ∧ ∀ x H', J.yld i H x H' → g x σ H' fun σ2 H2 => tb { D with nx := N, ct := N, bk := D.nx } σ2 H2)
def pinsAt (fp : List Addr) (h : Heap) : List (Addr × Obj) := fp.filterMap fun b => (h.get? b).map fun o => (b, o)
theorem mem_pinsAt {fp : List Addr} {h : Heap} {b : Addr} {o : Obj} (hb : b ∈ fp) (e : h.get? b = some o) : (b, o) ∈ pinsAt fp h := List.mem_filterMap.mpr ⟨b, hb, by rw [e]; rfl⟩
theorem of_pinsAt {fp : List Addr} {h : Heap} {p : Addr × Obj} (hp : p ∈ pinsAt fp h) : p.1 ∈ fp ∧ h.get? p.1 = some p.2 := by
  obtain ⟨b, hb, e⟩ := List.mem_filterMap.mp hp
  cases q : h.get? b with
  | none => rw [q] at e; cases e
  | some o =>
    rw [q] at e
    have e' : (b, o) = p := Option.some.inj e
    subst e'
    exact ⟨hb, q⟩
theorem Inv.pinned {pins : List (Addr × Obj)} {σ : St} {H : Hp} {s : Shared} {fp : List Addr} (I : Inv X pins σ H s) (hf : ∀ b ∈ fp, FpOk X pins H b) (ho : ∀ b ∈ fp, ∃ o, s.heap.get? b = some o ∧ ∀ v, o.data ≠ .cell v) : Inv X (pins ++ pinsAt fp s.heap) σ H s :=
  I.pins_of fun p hp => (List.mem_append.mp hp).elim (fun z => I.pin p (List.mem_append_right _ z)) fun z => by
    obtain ⟨hb, e⟩ := of_pinsAt z
    obtain ⟨f0, f1, f2, _⟩ := hf p.1 hb
    obtain ⟨o, e', d⟩ := ho p.1 hb
    rw [e] at e'; cases e'
    exact ⟨e, f0, f1, f2, d⟩
theorem Inv.unpinned {pins pl : List (Addr × Obj)} {σ : St} {H : Hp} {s : Shared} (I : Inv X (pins ++ pl) σ H s) : Inv X pins σ H s := I.pins_of fun p hp => I.pin p (List.mem_append_right _ (List.mem_append_left _ hp))
theorem ps_for {iter : Expr} {body : List Stmt} {wi : TI} {g : TG} {tb : TS} {pos : Pos} (hp : PassesOwn (model X.prog X.w) X.A X.env X.xe) (hc : X.calm = true) (hi : PI X tg iter wi) (hg : PG X tg g) (hb : PSs X body tb)
    (hs : ∀ x, foldedSetIterable iter X.env x = pure x := by intro _; rfl) : PS X (.For tg iter body [] pos) (tFor wi g tb) := by
  intro pins s σ H D I h
  refine wpAny_For (thn (hi pins s σ H _ I h) fun v s1 h1 => thn h1 fun itv s2 h2 => ?_) hs
  obtain ⟨it, fp, tn, J, H2, e, I2, T, st2, f2, W, ⟨m0, w0⟩, turn⟩ := h2
  subst e
  -- what stays true of the iterator's objects through the loop
  have stat : ∀ {H' : Hp}, (∀ b ∈ fp, H' b = none) → ∀ b ∈ fp, FpOk X pins H' b := fun hn b hb => ⟨hn b hb, (f2 b hb).2⟩
  refine codeAny_forLoop_any (fun n s' => ∃ i σ' H', Inv X pins σ' H' s' ∧ tn i s'.heap ∧ (∀ b ∈ fp, H' b = none) ∧ W i n σ' H') ?_ m0 ⟨0, σ, H2, I2, st2, fun b hb => (f2 b hb).1, w0⟩
  rintro n s3 ⟨i, σ3, H3, I3, st3, fr3, w3⟩
  rcases turn i n σ3 H3 w3 with ⟨stop, qn⟩ | ⟨go, N, hN, step⟩
  · refine wpAny_passesOwn hp (thn (T.done X rfl rfl rfl hc i pins s3 σ3 H3 X.xe I3 (stat fr3) st3 stop) fun r s4 ⟨hr, I4⟩ => ?_)
    subst hr
    exact wpAny_execs_nil ⟨σ3, H3, I4, qn⟩
  · refine wpAny_passesOwn hp (thn (T.item X rfl rfl rfl hc i pins s3 σ3 H3 X.xe I3 (stat fr3) st3 go) fun r s4 ⟨u, hr, h4⟩ => ?_)
    subst hr
    refine wpAny_passesOwn hp (thn h4 fun _ s5 ⟨x, H5, I5, r5, y5, st5, fr5⟩ => ?_)
    have I5' := I5.pinned (stat fr5) (T.obj _ _ st5)
    refine wpAny_passesOwn hp (thn (hg _ s5 σ3 H5 x u _ I5' r5 (step x H5 y5)) fun _ s6 ⟨σ6, H6, I6, q6⟩ => ?_)
    refine wpAny_passesOwn hp (thn (hb _ s6 σ6 H6 _ I6 q6) fun f s7 q7 => ?_)
    have again : ∀ {σ7 : St} {H7 : Hp}, Inv X (pins ++ pinsAt fp s5.heap) σ7 H7 s7 → N σ7 H7 → ∃ m, m < n ∧ ∃ i σ' H', Inv X pins σ' H' s7 ∧ tn i s7.heap ∧ (∀ b ∈ fp, H' b = none) ∧ W i m σ' H' := fun {σ7 H7} I7 n7 => by
      obtain ⟨m', hm, w7⟩ := hN σ7 H7 n7
      refine ⟨m', hm, i + 1, σ7, H7, I7.unpinned, T.keep _ _ _ st5 fun b hb o e => (I7.pin (b, o) (List.mem_append_right _ (List.mem_append_right _ (mem_pinsAt hb e)))).1, fun b hb => ?_, w7⟩
      obtain ⟨o, e, d⟩ := T.obj _ _ st5 b hb
      exact (I7.pin (b, o) (List.mem_append_right _ (List.mem_append_right _ (mem_pinsAt hb e)))).2.1
    cases f with
    | next => obtain ⟨σ7, H7, I7, n7⟩ := q7; exact again I7 n7
    | cont => obtain ⟨σ7, H7, I7, n7⟩ := q7; exact again I7 n7
    | brk => obtain ⟨σ7, H7, I7, q7⟩ := q7; exact ⟨σ7, H7, I7.unpinned, q7⟩
    | ret v => obtain ⟨x7, σ7, H7, I7, r7, q7⟩ := q7; exact ⟨x7, σ7, H7, I7.unpinned, r7, q7⟩
end
theorem for_list {K : PySem.W.Frag} {a : Addr} {xs : List V} {g : TG} {tb : TS} {D : Ends} {σ : St} {H : Hp} (Pv : Nat → St → Hp → Prop) (h0 : Pv 0 σ H) (hl : ∀ i σ H, i ≤ xs.length → Pv i σ H → SqL K H a xs)
    (hs : ∀ i x σ H, xs[i]? = some x → Pv i σ H → g x σ H fun σ2 H2 => tb { D with nx := Pv (i + 1), ct := Pv (i + 1), bk := D.nx } σ2 H2) (hd : ∀ σ H, Pv xs.length σ H → D.nx σ H) :
    ∃ W : Nat → Nat → St → Hp → Prop, (∃ m, W 0 m σ H) ∧ ∀ i m σ H, W i m σ H →
      ((Itl K a).stop i H ∧ D.nx σ H) ∨ ((Itl K a).go i H ∧ ∃ N : St → Hp → Prop, (∀ σ' H', N σ' H' → ∃ m', m' < m ∧ W (i + 1) m' σ' H') ∧ ∀ x H', (Itl K a).yld i H x H' → g x σ H' fun σ2 H2 => tb { D with nx := N, ct := N, bk := D.nx } σ2 H2) := by
  refine ⟨fun i m σ H => m = xs.length - i ∧ i ≤ xs.length ∧ Pv i σ H, ⟨xs.length, by simp, Nat.zero_le _, h0⟩, ?_⟩
  rintro i m σ H ⟨rfl, hi, p⟩
  have q := hl i σ H hi p
  by_cases hlt : i < xs.length
  · refine .inr ⟨⟨xs, xs[i], q, by simp [hlt]⟩, Pv (i + 1), fun σ' H' p' => ⟨xs.length - (i + 1), by omega, rfl, hlt, p'⟩, fun x H' y => ?_⟩
    obtain ⟨e, y⟩ := y
    subst e
    exact hs i x σ _ (y xs q) p
  · have e : i = xs.length := by omega
    subst e
    exact .inl ⟨⟨xs, q, Nat.le_refl _⟩, hd σ H p⟩
theorem for_tup {K : PySem.W.Frag} {a : Addr} {xs : List V} {g : TG} {tb : TS} {D : Ends} {σ : St} {H : Hp} (Pv : Nat → St → Hp → Prop) (h0 : Pv 0 σ H) (hl : ∀ i σ H, i ≤ xs.length → Pv i σ H → SqT K H a xs)
    (hs : ∀ i x σ H, xs[i]? = some x → Pv i σ H → g x σ H fun σ2 H2 => tb { D with nx := Pv (i + 1), ct := Pv (i + 1), bk := D.nx } σ2 H2) (hd : ∀ σ H, Pv xs.length σ H → D.nx σ H) :
    ∃ W : Nat → Nat → St → Hp → Prop, (∃ m, W 0 m σ H) ∧ ∀ i m σ H, W i m σ H →
      ((Itt K a).stop i H ∧ D.nx σ H) ∨ ((Itt K a).go i H ∧ ∃ N : St → Hp → Prop, (∀ σ' H', N σ' H' → ∃ m', m' < m ∧ W (i + 1) m' σ' H') ∧ ∀ x H', (Itt K a).yld i H x H' → g x σ H' fun σ2 H2 => tb { D with nx := N, ct := N, bk := D.nx } σ2 H2) := by
  refine ⟨fun i m σ H => m = xs.length - i ∧ i ≤ xs.length ∧ Pv i σ H, ⟨xs.length, by simp, Nat.zero_le _, h0⟩, ?_⟩
  rintro i m σ H ⟨rfl, hi, p⟩
  have q := hl i σ H hi p
  by_cases hlt : i < xs.length
  · refine .inr ⟨⟨xs, xs[i], q, by simp [hlt]⟩, Pv (i + 1), fun σ' H' p' => ⟨xs.length - (i + 1), by omega, rfl, hlt, p'⟩, fun x H' y => ?_⟩
    obtain ⟨e, y⟩ := y
    subst e
    exact hs i x σ _ (y xs q) p
  · have e : i = xs.length := by omega
    subst e
    exact .inl ⟨⟨xs, q, Nat.le_refl _⟩, hd σ H p⟩
end L2
namespace L2
open PySem PySem.Spec PyProof.Rows
abbrev R2 := V → V → Hp → VK → Prop
def OpR (X : Cx) (f : Value → Value → Sem Value) (r : R2) : Prop :=
  ∀ (pins : List (Addr × Obj)) (s : Shared) (σ : St) (H : Hp) (x y : V) (v u : Value) (Q : VK), Inv X pins σ H s → RelV x v → RelV y u → r x y H Q →
    wpAny (model X.prog X.w) X.A (f v u) (EP X pins σ Q) X.xe s
def UnR (X : Cx) (f : Value → Sem Value) (r : V → Hp → VK → Prop) : Prop :=
  ∀ (pins : List (Addr × Obj)) (s : Shared) (σ : St) (H : Hp) (x : V) (v : Value) (Q : VK), Inv X pins σ H s → RelV x v → r x H Q →
    wpAny (model X.prog X.w) X.A (f v) (EP X pins σ Q) X.xe s
def CallR (X : Cx) (f : Value) (r : List V → Hp → VK → Prop) : Prop :=
  ∀ (pins : List (Addr × Obj)) (s : Shared) (σ : St) (H : Hp) (xs : List V) (us : List Value) (Q : VK), Inv X pins σ H s → Vals xs us → r xs H Q →
    wpAny (model X.prog X.w) X.A (call f us) (EP X pins σ Q) X.xe s
def tOp (r : R2) (ta tb : TE) : TE := fun σ H Q => ta σ H fun x H1 => tb σ H1 fun y H2 => r x y H2 Q
def tUn (r : V → Hp → VK → Prop) (ta : TE) : TE := fun σ H Q => ta σ H fun x H1 => r x H1 Q
def rI (C : Int → Int → Prop) (g : Int → Int → V) : R2 := fun x y H Q => ∃ i j, x = .int i ∧ y = .int j ∧ C i j ∧ Q (g i j) H
def rI0 (g : Int → Int → V) : R2 := fun x y H Q => ∃ i j, x = .int i ∧ y = .int j ∧ Q (g i j) H
def rU (g : Int → V) : V → Hp → VK → Prop := fun x H Q => ∃ i, x = .int i ∧ Q (g i) H
section
variable {X : Cx} {a b c : Expr} {ta tb tc : TE} {pos : Pos}
theorem binT (ha : PE X a ta) (hb : PE X b tb) {pins : List (Addr × Obj)} {s : Shared} {σ : St} {H : Hp} {R : V → V → Hp → Prop} (I : Inv X pins σ H s)
    (h : ta σ H fun x H1 => tb σ H1 fun y H2 => R x y H2) {Q : Value → Shared → Prop} {f : Value → Value → Sem Value}
    (hf : ∀ v u s2 x y H2, Inv X pins σ H2 s2 → RelV x v → RelV y u → R x y H2 → wpAny (model X.prog X.w) X.A (f v u) Q X.xe s2) :
    wpAny (model X.prog X.w) X.A (eval a X.env) (fun v s₁ => wpAny (model X.prog X.w) X.A (eval b X.env) (fun u s₂ => wpAny (model X.prog X.w) X.A (f v u) Q X.xe s₂) X.xe s₁) X.xe s := by
  refine thn (ha pins s σ H _ I h) fun v s1 ⟨x, H1, I1, r1, q1⟩ => ?_
  refine thn (hb pins s1 σ H1 _ I1 q1) fun u s2 ⟨y, H2, I2, r2, q2⟩ => ?_
  exact hf v u s2 x y H2 I2 r1 r2 q2
theorem pe_op {op : Operator} {r : R2} (ho : OpR X (binaryOp op) r) (ha : PE X a ta) (hb : PE X b tb) : PE X (.BinOp a op b pos) (tOp r ta tb) := by
  intro pins s σ H Q I h
  exact wpAny_BinOp (binT ha hb I h fun v u s2 x y H2 I2 rx ry q => ho pins s2 σ H2 x y v u Q I2 rx ry q)
theorem pe_un {op : UnaryOp} {r : V → Hp → VK → Prop} (ho : UnR X (unaryOp op) r) (ha : PE X a ta) : PE X (.UnaryOp op a pos) (tUn r ta) := by
  intro pins s σ H Q I h
  exact UnaryOp_ (thn (ha pins s σ H _ I h) fun v s1 ⟨x, H1, I1, r1, q1⟩ => ho pins s1 σ H1 x v Q I1 r1 q1)
theorem opI {f : Value → Value → Sem Value} {C : Int → Int → Prop} {g : Int → Int → Int}
    (rule : ∀ (i j : Int) (t u : Tok) (s : Shared) (Q : Value → Shared → Prop) (E : Value → Shared → Prop), C i j → Q (.int (g i j) s.toks) { s with toks := s.toks + 1 } → wpAny (model X.prog X.w) X.A (f (.int i t) (.int j u)) Q E s) :
    OpR X f (rI C fun i j => .int (g i j)) := by
  intro pins s σ H x y v u Q I rx ry h
  obtain ⟨i, j, rfl, rfl, hc, q⟩ := h
  obtain ⟨t, rfl⟩ := rx
  obtain ⟨t', rfl⟩ := ry
  exact rule i j t t' s _ _ hc ⟨.int (g i j), H, I.tok _, ⟨_, rfl⟩, q⟩
theorem opI0 {f : Value → Value → Sem Value} {g : Int → Int → Int}
    (rule : ∀ (i j : Int) (t u : Tok) (s : Shared) (Q : Value → Shared → Prop) (E : Value → Shared → Prop), Q (.int (g i j) s.toks) { s with toks := s.toks + 1 } → wpAny (model X.prog X.w) X.A (f (.int i t) (.int j u)) Q E s) :
    OpR X f (rI0 fun i j => .int (g i j)) := by
  intro pins s σ H x y v u Q I rx ry h
  obtain ⟨i, j, rfl, rfl, q⟩ := h
  obtain ⟨t, rfl⟩ := rx
  obtain ⟨t', rfl⟩ := ry
  exact rule i j t t' s _ _ ⟨.int (g i j), H, I.tok _, ⟨_, rfl⟩, q⟩
theorem opB0 {f : Value → Value → Sem Value} {g : Int → Int → Bool}
    (rule : ∀ (i j : Int) (t u : Tok) (s : Shared) (Q : Value → Shared → Prop) (E : Value → Shared → Prop), Q (.bool (g i j)) s → wpAny (model X.prog X.w) X.A (f (.int i t) (.int j u)) Q E s) :
    OpR X f (rI0 fun i j => .bl (g i j)) := by
  intro pins s σ H x y v u Q I rx ry h
  obtain ⟨i, j, rfl, rfl, q⟩ := h
  obtain ⟨t, rfl⟩ := rx
  obtain ⟨t', rfl⟩ := ry
  exact rule i j t t' s _ _ ⟨.bl (g i j), H, I, rfl, q⟩
def CPow (i j : Int) : Prop := 0 ≤ j ∧ j ≤ 1000000 ∧ i.natAbs < 2 ^ 64
def CMul (i j : Int) : Prop := (-(2 ^ 64) < i ∧ i < 2 ^ 64) ∨ (-(2 ^ 64) < j ∧ j < 2 ^ 64)
theorem CMul.ok {i j : Int} (h : CMul i j) : IntMulOk i j := by
  rcases h with ⟨h1, h2⟩ | ⟨h1, h2⟩
  · exact .of_left (intBits_le_64 h1 h2)
  · exact .of_right (intBits_le_64 h1 h2)
theorem two_pow_nn (k : Nat) : (0 : Int) ≤ 2 ^ k := by
  rw [two_pow_cast]
  exact Int.natCast_nonneg _
theorem op_add : OpR X (binaryOp .Add) (rI0 fun i j => .int (i + j)) := opI0 fun _ _ _ _ _ _ _ q => add_int q
theorem op_sub : OpR X (binaryOp .Sub) (rI0 fun i j => .int (i - j)) := opI0 fun _ _ _ _ _ _ _ q => sub_int q
theorem op_mul : OpR X (binaryOp .Mult) (rI CMul fun i j => .int (i * j)) := opI fun _ _ _ _ _ _ _ hc q => mul_int q hc.ok
theorem op_shl : OpR X (binaryOp .LShift) (rI CPow fun i j => .int (i * 2 ^ j.toNat)) := opI fun _ _ _ _ _ _ _ hc q => lshift_int_small hc.1 hc.2.1 hc.2.2 q
theorem op_shr : OpR X (binaryOp .RShift) (rI (fun _ j => 0 ≤ j) fun i j => .int (i / 2 ^ j.toNat)) := opI fun i j _ _ _ _ _ hc q =>
  rshift_int hc (by rw [Int.fdiv_eq_ediv_of_nonneg i (two_pow_nn _)]; exact q)
theorem op_and : OpR X (binaryOp .BitAnd) (rI0 fun i j => .int (Builtin.bitAnd i j)) := opI0 fun _ _ _ _ _ _ _ q => and_int q
theorem op_or : OpR X (binaryOp .BitOr) (rI0 fun i j => .int (Builtin.bitOr i j)) := opI0 fun _ _ _ _ _ _ _ q => or_int q
theorem iop_or : OpR X (inplaceOp .BitOr) (rI0 fun i j => .int (Builtin.bitOr i j)) := opI0 fun _ _ _ _ _ _ _ q => ior_int q
theorem unI {f : Value → Sem Value} {g : Int → Int}
    (rule : ∀ (i : Int) (t : Tok) (s : Shared) (Q : Value → Shared → Prop) (E : Value → Shared → Prop), Q (.int (g i) s.toks) { s with toks := s.toks + 1 } → wpAny (model X.prog X.w) X.A (f (.int i t)) Q E s) :
    UnR X f (rU fun i => .int (g i)) := by
  intro pins s σ H x v Q I rx h
  obtain ⟨i, rfl, q⟩ := h
  obtain ⟨t, rfl⟩ := rx
  exact rule i t s _ _ ⟨.int (g i), H, I.tok _, ⟨_, rfl⟩, q⟩
theorem un_inv : UnR X (unaryOp .Invert) (rU fun i => .int (Builtin.bitNot i)) := unI fun _ _ _ _ _ q => invert_int q
end
def scal : V → V → Bool
  | .non, .non => true | .non, .int _ => true | .int _, .non => true | .non, .bl _ => true | .bl _, .non => true | .non, .str _ => true | .str _, .non => true
  | .int _, .int _ => true | .bl _, .bl _ => true | .str _, .str _ => true | .byt _, .byt _ => true
  | .int _, .str _ => true | .str _, .int _ => true | .bl _, .str _ => true | .str _, .bl _ => true
  | _, _ => false
def rEq : R2 := fun x y H Q => scal x y = true ∧ Q (.bl (decide (x = y))) H
def rNe : R2 := fun x y H Q => scal x y = true ∧ Q (.bl (!decide (x = y))) H
theorem dec_int {i j : Int} : decide (V.int i = V.int j) = (i == j) := by
  rw [Bool.eq_iff_iff]
  simp
theorem dec_bl {i j : Bool} : decide (V.bl i = V.bl j) = (i == j) := by
  rw [Bool.eq_iff_iff]
  simp
theorem dec_str {i j : Str} : decide (V.str i = V.str j) = (i == j) := by
  rw [Bool.eq_iff_iff]
  simp
theorem dec_byt {i j : Array UInt8} : decide (V.byt i = V.byt j) = (i.toList == j.toList) := by
  rw [Bool.eq_iff_iff]
  cases i
  cases j
  simp
section
variable {X : Cx} {a b c : Expr} {ta tb tc : TE} {pos : Pos}
theorem fin_bl {pins : List (Addr × Obj)} {σ : St} {H : Hp} {s : Shared} {Q : VK} {k k' : Bool} (I : Inv X pins σ H s) (q : Q (.bl k) H) (e : k = k') : EP X pins σ Q (.bool k') s := by
  subst e
  exact ⟨.bl k, H, I, rfl, q⟩
theorem op_eq : OpR X (compareOp .Eq) rEq := by
  intro pins s σ H x y v u Q I rx ry h
  obtain ⟨hs, q⟩ := h
  cases x with
  | non =>
    cases rx
    cases y with
    | non => cases ry; exact PySem.EqNone.eq_none_none (fin_bl I q (by simp))
    | bl j => cases ry; exact PySem.EqNone.eq_none_bool (fin_bl I q (by simp))
    | int j => obtain ⟨t', rfl⟩ := ry; exact PySem.EqNone.eq_none_int (fin_bl I q (by simp))
    | str j => obtain ⟨t', rfl⟩ := ry; exact PySem.EqNone.eq_none_str (fin_bl I q (by simp))
    | _ => exact absurd (show false = true from hs) Bool.false_ne_true
  | bl i =>
    cases rx
    cases y with
    | non => cases ry; exact PySem.EqNone.eq_bool_none (fin_bl I q (by simp))
    | bl j => cases ry; exact eq_bool (fin_bl I q dec_bl)
    | str j => obtain ⟨t', rfl⟩ := ry; exact PySem.EqMixed.eq_bool_str (fin_bl I q (by simp))
    | _ => exact absurd (show false = true from hs) Bool.false_ne_true
  | int i =>
    obtain ⟨t, rfl⟩ := rx
    cases y with
    | non => cases ry; exact PySem.EqNone.eq_int_none (fin_bl I q (by simp))
    | int j => obtain ⟨t', rfl⟩ := ry; exact eq_int (fin_bl I q dec_int)
    | str j => obtain ⟨t', rfl⟩ := ry; exact PySem.EqMixed.eq_int_str (fin_bl I q (by simp))
    | _ => exact absurd (show false = true from hs) Bool.false_ne_true
  | str i =>
    obtain ⟨t, rfl⟩ := rx
    cases y with
    | non => cases ry; exact PySem.EqNone.eq_str_none (fin_bl I q (by simp))
    | bl j => cases ry; exact PySem.EqMixed.eq_str_bool (fin_bl I q (by simp))
    | int j => obtain ⟨t', rfl⟩ := ry; exact PySem.EqMixed.eq_str_int (fin_bl I q (by simp))
    | str j => obtain ⟨t', rfl⟩ := ry; exact eq_str (fin_bl I q dec_str)
    | _ => exact absurd (show false = true from hs) Bool.false_ne_true
  | byt i =>
    obtain ⟨t, rfl⟩ := rx
    cases y with
    | byt j => obtain ⟨t', rfl⟩ := ry; exact PySem.W.eq_bytes (fin_bl I q dec_byt)
    | _ => exact absurd (show false = true from hs) Bool.false_ne_true
  | _ => cases y <;> exact absurd (show false = true from hs) Bool.false_ne_true
theorem op_ne : OpR X (compareOp .NotEq) rNe := by
  intro pins s σ H x y v u Q I rx ry h
  obtain ⟨hs, q⟩ := h
  cases x with
  | non =>
    cases rx
    cases y with
    | non => cases ry; exact PySem.EqNone.ne_none_none (fin_bl I q (by simp))
    | bl j => cases ry; exact PySem.EqNone.ne_none_bool (fin_bl I q (by simp))
    | int j => obtain ⟨t', rfl⟩ := ry; exact PySem.EqNone.ne_none_int (fin_bl I q (by simp))
    | str j => obtain ⟨t', rfl⟩ := ry; exact PySem.EqNone.ne_none_str (fin_bl I q (by simp))
    | _ => exact absurd (show false = true from hs) Bool.false_ne_true
  | bl i =>
    cases rx
    cases y with
    | non => cases ry; exact PySem.EqNone.ne_bool_none (fin_bl I q (by simp))
    | bl j => cases ry; exact ne_bool (fin_bl I q (congrArg not dec_bl))
    | str j => obtain ⟨t', rfl⟩ := ry; exact PySem.EqMixed.ne_bool_str (fin_bl I q (by simp))
    | _ => exact absurd (show false = true from hs) Bool.false_ne_true
  | int i =>
    obtain ⟨t, rfl⟩ := rx
    cases y with
    | non => cases ry; exact PySem.EqNone.ne_int_none (fin_bl I q (by simp))
    | int j => obtain ⟨t', rfl⟩ := ry; exact ne_int (fin_bl I q (congrArg not dec_int))
    | str j => obtain ⟨t', rfl⟩ := ry; exact PySem.EqMixed.ne_int_str (fin_bl I q (by simp))
    | _ => exact absurd (show false = true from hs) Bool.false_ne_true
  | str i =>
    obtain ⟨t, rfl⟩ := rx
    cases y with
    | non => cases ry; exact PySem.EqNone.ne_str_none (fin_bl I q (by simp))
    | bl j => cases ry; exact PySem.EqMixed.ne_str_bool (fin_bl I q (by simp))
    | int j => obtain ⟨t', rfl⟩ := ry; exact PySem.EqMixed.ne_str_int (fin_bl I q (by simp))
    | str j => obtain ⟨t', rfl⟩ := ry; exact ne_str (fin_bl I q (congrArg not dec_str))
    | _ => exact absurd (show false = true from hs) Bool.false_ne_true
  | byt i =>
    obtain ⟨t, rfl⟩ := rx
    cases y with
    | byt j => obtain ⟨t', rfl⟩ := ry; exact PySem.W.ne_bytes (fin_bl I q (congrArg not dec_byt))
    | _ => exact absurd (show false = true from hs) Bool.false_ne_true
  | _ => cases y <;> exact absurd (show false = true from hs) Bool.false_ne_true
theorem op_lt : OpR X (compareOp .Lt) (rI0 fun i j => .bl (decide (i < j))) := opB0 fun _ _ _ _ _ _ _ q => lt_int q
theorem op_le : OpR X (compareOp .LtE) (rI0 fun i j => .bl (decide (i ≤ j))) := opB0 fun _ _ _ _ _ _ _ q => le_int q
theorem op_gt : OpR X (compareOp .Gt) (rI0 fun i j => .bl (decide (j < i))) := opB0 fun _ _ _ _ _ _ _ q => gt_int q
theorem op_ge : OpR X (compareOp .GtE) (rI0 fun i j => .bl (decide (j ≤ i))) := opB0 fun _ _ _ _ _ _ _ q => ge_int q
theorem nomark (b : Expr) {op : CmpOp} (h : op ≠ .In := by decide) (h2 : op ≠ .NotIn := by decide) : behindInMarks op b = false := by
  have e1 : (op == CmpOp.In) = false := by cases op <;> first | rfl | exact absurd rfl h
  have e2 : (op == CmpOp.NotIn) = false := by cases op <;> first | rfl | exact absurd rfl h2
  cases b <;> simp [behindInMarks, e1, e2]
theorem pe_cmpR {op : CmpOp} {r : R2} (ho : OpR X (compareOp op) r) (ha : PE X a ta) (hb : PE X b tb) (hm : behindInMarks op b = false) : PE X (.Compare a [op] [b] pos) (tOp r ta tb) := by
  intro pins s σ H Q I h
  exact wpAny_Compare1 (binT ha hb I h fun v u s2 x y H2 I2 rx ry q => ho pins s2 σ H2 x y v u Q I2 rx ry q) hm
def tTest (t : TE) : TT := fun σ H Q => t σ H fun x H' => ∃ k, x = .bl k ∧ Q k H'
theorem pt_cmpR {op : CmpOp} {r : R2} (ho : OpR X (compareOp op) r) (ha : PE X a ta) (hb : PE X b tb) (hm : behindInMarks op b = false) : PT X (.Compare a [op] [b] pos) (tTest (tOp r ta tb)) := by
  intro pins s σ H Q I h
  refine wpAny_isTrue_Compare1 (thn (ha pins s σ H _ I h) fun v s1 ⟨x, H1, I1, r1, q1⟩ => thn (hb pins s1 σ H1 _ I1 q1) fun u s2 ⟨y, H2, I2, r2, q2⟩ =>
    thn (ho pins s2 σ H2 x y v u _ I2 r1 r2 q2) fun c s3 ⟨z, H3, I3, r3, k, e, q3⟩ => ?_) hm
  subst e
  cases r3
  exact wpAny_truthy_bool ⟨H3, I3, q3⟩
def tChain (r r' : R2) (ta tb tc : TE) : TE := fun σ H Q => ta σ H fun x H1 => tb σ H1 fun y H2 => r x y H2 fun z H3 => ∃ k, z = .bl k ∧
  (if k = true then tc σ H3 fun w' H4 => r' y w' H4 Q else Q (.bl false) H3)
theorem pe_chain {op op' : CmpOp} {r r' : R2} (ho : OpR X (compareOp op) r) (ho' : OpR X (compareOp op') r') (ha : PE X a ta) (hb : PE X b tb) (hc : PE X c tc)
    (hm : lastMarks [op, op'] [b, c] = false := by with_unfolding_all rfl) : PE X (.Compare a [op, op'] [b, c] pos) (tChain r r' ta tb tc) := by
  intro pins s σ H Q I h
  refine Compare_chain (thn (ha pins s σ H _ I h) fun v s1 ⟨x, H1, I1, r1, q1⟩ => chain_link (thn (hb pins s1 σ H1 _ I1 q1) fun u s2 ⟨y, H2, I2, r2, q2⟩ =>
    thn (ho pins s2 σ H2 x y v u _ I2 r1 r2 q2) fun d s3 ⟨z, H3, I3, r3, k, e, q3⟩ => ?_)) hm
  subst e
  cases r3
  refine wpAny_truthy_bool ?_
  cases k with
  | false => exact ite_ff ⟨.bl false, H3, I3, rfl, q3⟩
  | true => exact ite_tt (chain_last (thn (hc pins s3 σ H3 _ I3 q3) fun w' s4 ⟨z', H4, I4, r4, q4⟩ => ho' pins s4 σ H4 y z' u w' Q I4 r2 r4 q4))
theorem line63 : (sizeLine : Nat) < 2 ^ 63 := by rw [sizeLine_eq]; decide
theorem vals1 {x : V} {us : List Value} (r : Vals [x] us) : ∃ u, us = [u] ∧ RelV x u := by
  cases r with
  | cons r1 r2 => cases r2; exact ⟨_, rfl, r1⟩
theorem vals2 {x y : V} {us : List Value} (r : Vals [x, y] us) : ∃ u w', us = [u, w'] ∧ RelV x u ∧ RelV y w' := by
  cases r with
  | cons r1 r2 =>
    cases r2 with
    | cons r3 r4 => cases r4; exact ⟨_, _, rfl, r1, r3⟩
theorem call_max2 (hc : X.calm = true) : CallR X (.builtin "max") (fun xs H Q => ∃ i j, xs = [.int i, .int j] ∧ Q (.int (if j > i then j else i)) H) := by
  intro pins s σ H xs us Q I r h
  obtain ⟨i, j, rfl, q⟩ := h
  obtain ⟨u, w', rfl, ⟨t, rfl⟩, ⟨t', rfl⟩⟩ := vals2 r
  refine max_two_ints (I.ok.hd hc) fun h' tk k => ⟨_, H, I.kept k, ?_, q⟩
  by_cases hj : j > i
  · rw [if_pos hj, if_pos hj]; exact ⟨_, rfl⟩
  · rw [if_neg hj, if_neg hj]; exact ⟨_, rfl⟩
end
end L2
namespace L2
open PySem PySem.Spec PyProof.Rows
structure ObjM (h : Heap) (x dx C : Addr) (mA : Str → Option Value) : Prop where
  obj : h.get? x = some (PySem.W.instObj C dx)
  ns : h.Ns1 dx mA
  ne : dx ≠ x
theorem lookIn_ns {h : Heap} {dx : Addr} {mA : Str → Option Value} (n : h.Ns1 dx mA) : ∃ od, h.get? dx = some od ∧ ∀ name, PySem.W.lookIn name od = some (mA name) := by
  obtain ⟨o, es, ep, ho, hd, hk, _, hm⟩ := n
  refine ⟨o, ho, fun name => ?_⟩
  have e := hm name
  unfold nsFind findBy at e
  rw [← Array.find?_toList] at e
  unfold PySem.W.lookIn
  rw [hd]
  dsimp only
  split
  · rename_i y q
    rw [q] at e
    exact congrArg some e
  · rename_i q
    rw [q] at e
    have a : es.toList.any (·.refKey) = false := by
      rw [List.any_eq_false]
      intro y hy
      obtain ⟨z, t, hkey⟩ := hk y (Array.mem_toList_iff.mp hy)
      simp [DictEntry.refKey, hkey]
    have a' : ¬ es.toList.any (·.refKey) = true := by rw [a]; exact Bool.false_ne_true
    rw [if_neg a']
    exact congrArg some e
theorem ObjM.look {h : Heap} {x dx C : Addr} {mA : Str → Option Value} (I : ObjM h x dx C mA) : ∃ od, PySem.W.InstAt h x (PySem.W.instObj C dx) C (some od) ∧ ∀ name, PySem.W.lookIn name od = some (mA name) :=
  let ⟨od, ho, hl⟩ := lookIn_ns I.ns
  ⟨od, ⟨I.obj, rfl, rfl, ho⟩, hl⟩
section
variable {prog : Program} {w : World} {A : Around} {E : Value → Shared → Prop} {s : Shared} {K : PySem.W.Frag} {x dx C f : Addr} {mA : Str → Option Value} {name : Str} {v : Value}
theorem get_map {expr : Bool} {Q : Value → Shared → Prop} (X : K.In s.heap) (I : ObjM s.heap x dx C mA) (hg : PySem.W.plainGet K C name = true) (hh : PySem.W.hasDictIn K C = true)
    (ha : PySem.W.findIn K (.ref C) name = some none) (hv : mA name = some v) (hv' : PySem.W.handedIn v = true) (h : Q v { s with toks := s.toks + 1 }) :
    wpAny (model prog w) A (getAttr (.ref x) name expr) Q E s := by
  obtain ⟨od, J, hl⟩ := I.look
  exact PySem.W.get_value X J (PySem.W.plainGet_of hg).1 (PySem.W.findObj_own hh ha rfl (by rw [hl, hv])) hv' h
theorem get_meth {pl : Sem Bool} {Q : Value × List Value → Shared → Prop} (X : K.In s.heap) (I : ObjM s.heap x dx C mA) (hg : PySem.W.plainGet K C name = true)
    (hf : PySem.W.findIn K (.ref C) name = some (some (.ref f))) (ht : PySem.W.isFn K (.ref f) = true) (hv : mA name = none) (h : Q (.ref f, [.ref x]) s) :
    wpAny (model prog w) A (getMethod (.ref x) name pl) Q E s := by
  obtain ⟨od, J, hl⟩ := I.look
  exact PySem.W.method_fn X J (PySem.W.plainGet_of hg).1 (PySem.W.plainGet_of hg).2 hf (beq_iff_eq.mp ht) (by show (PySem.W.lookIn name od).map (·.isSome) = some false; rw [hl, hv]; rfl) h
theorem set_map {ns : List Str} {Q : Unit → Shared → Prop} (X : K.In s.heap) (I : ObjM s.heap x dx C mA)
    (hs : PySem.W.findIn K (.ref C) "__setattr__" = some (some (.builtin "object.__setattr__"))) (hp : PySem.W.plainOver K C = true) (ht : PySem.W.takerIn K C name = some none) (hh : PySem.W.hasDictIn K C = true)
    (hw : PySem.Within mA ns) (hsz : ns.length ≤ sizeLine)
    (h : ∀ h', ObjM h' x dx C (fun y => if y = name then some v else mA y) → Heap.SameBut dx s.heap h' → Q () { s with heap := h', toks := s.toks + 2 }) :
    wpAny (model prog w) A (setAttr (.ref x) name v) Q E s := by
  obtain ⟨od, J, hl⟩ := I.look
  refine PySem.W.set_plain X J hs (PySem.W.osa_open (s := { s with toks := s.toks + 1 }) (r := none) X J hp ht fun b => ?_)
  obtain ⟨cd, hc, hd'⟩ := PySem.W.any_some hh
  have hx : s.heap.get? x = some ⟨.ref C, some dx, .plain, #[]⟩ := I.obj
  refine wpAny_bind (wpAny_pure (wpAny_bind (wpAny_bind (wpAny_loadPart hx (wpAny_bind (PySem.W.Looks.here (s := { s with toks := s.toks + 1 }) (PySem.W.looks_clsIn X hc) ?_))))))
  rw [hd']
  refine wpAny_pure (a := some dx) (wpAny_bind (wpAny_pure (wpAny_bind ?_)))
  refine wpAny_nsSet1 (s := { s with toks := s.toks + 1 }) I.ns fun h' hn2 hs2 => ?_
  obtain ⟨oD, esD, epD, hoD, hdD, hcD⟩ := hn2.count (PySem.Within.cons name v hw)
  refine wpAny_bind (wpAny_lookBehind hoD (by rw [hdD]; exact pastItsLine_dict (Nat.le_trans hcD (by rw [List.length_cons]; omega))) ?_)
  exact wpAny_pure (h _ ⟨(hs2.2 _ (Ne.symm I.ne)).trans I.obj, hn2, I.ne⟩ hs2)
theorem make_map {R : Result → Shared → Prop} {vs : List Value} {kw : List (Str × Value)} (X : K.In s.heap) (hm : PySem.W.makesIn K C = true)
    (hi : PySem.W.findIn K (.ref C) "__init__" = some (some (.ref f))) (hf : PySem.W.typeIn K (.ref f) = some (.type "function"))
    (h : codeAny (model prog w) (A.under (.builtin "type.__call__" ⟨.ref C :: vs, kw⟩)) (.call (.ref f) ⟨.ref (s.heap.objs.size + 1) :: vs, kw⟩) (PySem.W.InitBack (s.heap.objs.size + 1) R)
      { s with heap := (s.heap.push PySem.W.emptyDict).push (PySem.W.instObj C s.heap.objs.size) }) :
    codeAny (model prog w) A (.call (.ref C) ⟨vs, kw⟩) R s := by
  obtain ⟨hh, g, d, t, os⟩ := s
  exact PySem.W.make_core (PySem.W.makes_of X hm) (PySem.W.looks_findIn X hi) (fun self => PySem.W.bind_fn X self hf) (.inl rfl) h
end
def putF (f : Str) (v : V) : List (Str × V) → List (Str × V)
  | [] => [(f, v)]
  | (g, x) :: r => if g = f then (g, v) :: r else (g, x) :: putF f v r
theorem lookup_putF (f g : Str) (v : V) : ∀ fs : List (Str × V), (putF f v fs).lookup g = if g = f then some v else fs.lookup g
  | [] => by
    show List.lookup g [(f, v)] = _
    by_cases h : g = f
    · have hb : (g == f) = true := beq_iff_eq.mpr h
      simp only [List.lookup, hb, if_pos h]
    · have hb : (g == f) = false := beq_eq_false_iff_ne.mpr h
      simp only [List.lookup, hb, if_neg h]
  | (k, x) :: r => by
    have ih := lookup_putF f g v r
    rw [show putF f v ((k, x) :: r) = (if k = f then (k, v) :: r else (k, x) :: putF f v r) from rfl]
    by_cases hk : k = f
    · rw [if_pos hk]
      by_cases h : g = k
      · have hb : (g == k) = true := beq_iff_eq.mpr h
        simp only [List.lookup, hb, if_pos (h.trans hk)]
      · have hb : (g == k) = false := beq_eq_false_iff_ne.mpr h
        simp only [List.lookup, hb, if_neg (fun e : g = f => h (e.trans hk.symm))]
    · rw [if_neg hk]
      by_cases h : g = k
      · have hb : (g == k) = true := beq_iff_eq.mpr h
        simp only [List.lookup, hb, if_neg (fun e : g = f => hk (h.symm.trans e))]
      · have hb : (g == k) = false := beq_eq_false_iff_ne.mpr h
        simp only [List.lookup, hb]
        exact ih
theorem keys_putF (f : Str) (v : V) : ∀ fs : List (Str × V), f ∈ (putF f v fs).map (·.1) ∧ ∀ g, g ∈ fs.map (·.1) → g ∈ (putF f v fs).map (·.1)
  | [] => ⟨by simp [putF], fun g h => by simp at h⟩
  | (k, x) :: r => by
    obtain ⟨i1, i2⟩ := keys_putF f v r
    rw [show putF f v ((k, x) :: r) = (if k = f then (k, v) :: r else (k, x) :: putF f v r) from rfl]
    by_cases hk : k = f
    · rw [if_pos hk]
      subst hk
      exact ⟨by simp, fun g h => by simpa using h⟩
    · rw [if_neg hk]
      refine ⟨?_, fun g h => ?_⟩
      · rw [List.map_cons]
        exact List.mem_cons_of_mem _ i1
      · rw [List.map_cons] at h ⊢
        rcases List.mem_cons.mp h with e | e
        · exact List.mem_cons.mpr (.inl e)
        · exact List.mem_cons_of_mem _ (i2 g e)
theorem length_putF (f : Str) (v : V) : ∀ fs : List (Str × V), (putF f v fs).length ≤ fs.length + 1
  | [] => by simp [putF]
  | (k, x) :: r => by
    have ih := length_putF f v r
    rw [show putF f v ((k, x) :: r) = (if k = f then (k, v) :: r else (k, x) :: putF f v r) from rfl]
    by_cases hk : k = f
    · rw [if_pos hk, List.length_cons, List.length_cons]; omega
    · rw [if_neg hk, List.length_cons, List.length_cons]; omega
theorem RelO.some_of {v : V} {o : Option Value} (r : RelO (some v) o) : ∃ u, o = some u ∧ RelV v u := by
  cases o with
  | none => exact (show False from r).elim
  | some u => exact ⟨u, rfl, r⟩
theorem RelO.none_of {o : Option Value} (r : RelO none o) : o = none := by
  cases o with
  | none => rfl
  | some u => exact (show False from r).elim
theorem handed_of {v : V} {u : Value} (r : RelV v u) : PySem.W.handedIn u = true := by
  cases v with
  | non => cases (show u = Value.none from r); rfl
  | bl b => cases (show u = Value.bool b from r); rfl
  | int i => obtain ⟨t, e⟩ := (show ∃ t, u = Value.int i t from r); cases e; rfl
  | str x => obtain ⟨t, e⟩ := (show ∃ t, u = Value.str x t from r); cases e; rfl
  | byt b => obtain ⟨t, e⟩ := (show ∃ t, u = Value.bytes b t from r); cases e; rfl
  | flt b => obtain ⟨t, e⟩ := (show ∃ t, u = Value.float b t from r); cases e; rfl
  | ref a => cases (show u = Value.ref a from r); rfl
  | ty n => cases (show u = Value.type n from r); rfl
section
variable {P : Program} {w : World} {H H' : Hp} {h h' : Heap} {a C dx : Addr} {fs fs' : List (Str × V)}
theorem ins_get (hok : HOk P w H h) (e : H a = some (.ins C dx fs)) : ∃ mA, ObjM h a dx C mA ∧ (∀ f, RelO (fs.lookup f) (mA f)) ∧ PySem.Within mA (fs.map (·.1)) ∧ fs.length ≤ 1000 ∧ H dx = some (.own a) := by
  obtain ⟨d, z, ne, ob, mA, n, r, q⟩ := (show ObjOk P w H h a (.ins C dx fs) from hok a _ e)
  exact ⟨mA, ⟨ob, n, ne⟩, r, q, z, d⟩
end
structure Cls (K : PySem.W.Frag) (C : Addr) : Prop where
  pg : PySem.W.plainGet K C Str.empty = true
  hd : PySem.W.hasDictIn K C = true
  po : PySem.W.plainOver K C = true
  sa : PySem.W.findIn K (.ref C) "__setattr__" = some (some (.builtin "object.__setattr__"))
theorem Cls.get {K : PySem.W.Frag} {C : Addr} (c : Cls K C) (f : Str) : PySem.W.plainGet K C f = true := c.pg
def NoAttr (K : PySem.W.Frag) (C : Addr) (f : Str) : Prop := PySem.W.findIn K (.ref C) f = some none
theorem NoAttr.taker {K : PySem.W.Frag} {C : Addr} {f : Str} (n : NoAttr K C f) : PySem.W.takerIn K C f = some none := by
  unfold PySem.W.takerIn
  rw [show PySem.W.findIn K (.ref C) f = some none from n]
  rfl
structure Con (K : PySem.W.Frag) (C : Addr) (f : Str) (v : V) (u : Value) : Prop where
  at_ : PySem.W.findIn K (.ref C) f = some (some u)
  rel : RelV v u
  get : PySem.W.specialIn K u "__get__" = some none
  cp : PySem.W.copiedNames.contains f = false
structure Meth (K : PySem.W.Frag) (C : Addr) (m : Str) (f : Addr) : Prop where
  at_ : PySem.W.findIn K (.ref C) m = some (some (.ref f))
  fn : PySem.W.isFn K (.ref f) = true
  kp : PySem.W.keepIn K (.ref f) = true
section
variable {X : Cx} {pins : List (Addr × Obj)} {σ : St} {H : Hp} {s : Shared} {a C dx : Addr} {fs : List (Str × V)} {f : Str} {v : V} {A : Around} {E : Value → Shared → Prop}
theorem getattr_ok {b : Bool} {Q : Value → Shared → Prop} (I : Inv X pins σ H s) (e : H a = some (.ins C dx fs)) (c : Cls X.K C) (n : NoAttr X.K C f) (l : fs.lookup f = some v)
    (h : ∀ u s', Inv X pins σ H s' → RelV v u → Q u s') : wpAny (model X.prog X.w) A (getAttr (.ref a) f b) Q E s := by
  obtain ⟨mA, O, r, _, _, _⟩ := ins_get I.hok e
  obtain ⟨u, hu, ru⟩ := RelO.some_of (v := v) (o := mA f) (by rw [← l]; exact r f)
  exact get_map I.kIn O (c.get f) c.hd n hu (handed_of ru) (h u _ (I.tok _) ru)
theorem getmeth_ok {m : Str} {g : Addr} {pl : Sem Bool} {Q : Value × List Value → Shared → Prop} (I : Inv X pins σ H s) (e : H a = some (.ins C dx fs)) (c : Cls X.K C) (k : Meth X.K C m g) (l : fs.lookup m = none)
    (h : Q (.ref g, [.ref a]) s) : wpAny (model X.prog X.w) A (getMethod (.ref a) m pl) Q E s := by
  obtain ⟨mA, O, r, _, _, _⟩ := ins_get I.hok e
  have hn : mA m = none := RelO.none_of (by rw [← l]; exact r m)
  exact get_meth I.kIn O (c.get m) k.at_ k.fn hn h
theorem setattr_ok {y : V} {u : Value} {Q : Unit → Shared → Prop} (I : Inv X pins σ H s) (e : H a = some (.ins C dx fs)) (c : Cls X.K C) (n : NoAttr X.K C f) (hl : fs.length < 1000) (ry : RelV y u)
    (h : ∀ s', Inv X pins σ (upd H a (.ins C dx (putF f y fs))) s' → Q () s') : wpAny (model X.prog X.w) A (setAttr (.ref a) f u) Q E s := by
  obtain ⟨mA, O, r, wi, _, ho⟩ := ins_get I.hok e
  have hz : (fs.map (·.1)).length ≤ sizeLine := by rw [List.length_map, sizeLine_eq]; omega
  refine set_map I.kIn O c.sa c.po n.taker c.hd wi hz fun h' O' sb => h _ ?_
  have hd : ∃ o, h'.get? dx = some o := let ⟨o, _, _, e', _⟩ := O'.ns; ⟨o, e'⟩
  refine I.write (x := a) (e := dx) (by rw [e]; exact True.intro) (.inr ho) (fun b q hb z => (sb.2 b hb).trans z) hd ?_
  refine ⟨by rw [upd_ne O.ne]; exact ho, ?_, O.ne, O'.obj, _, O'.ns, fun g => ?_, fun g hg => ?_⟩
  · have := length_putF f y fs; omega
  · show RelO ((putF f y fs).lookup g) (if g = f then some u else mA g)
    rw [lookup_putF]
    by_cases q : g = f
    · rw [if_pos q, if_pos q]; exact ry
    · rw [if_neg q, if_neg q]; exact r g
  · by_cases q : g = f
    · rw [q]; exact (keys_putF f y fs).1
    · refine (keys_putF f y fs).2 g (wi g fun z => hg ?_)
      show (if g = f then some u else mA g) = none
      rw [if_neg q]; exact z
theorem Inv.made (I : Inv X pins σ H s) : Inv X pins σ (upd (upd H s.heap.objs.size (.own (s.heap.objs.size + 1))) (s.heap.objs.size + 1) (.ins C s.heap.objs.size []))
    { s with heap := (s.heap.push PySem.W.emptyDict).push (PySem.W.instObj C s.heap.objs.size) } := by
  have e1 : (s.heap.push PySem.W.emptyDict).get? s.heap.objs.size = some PySem.W.emptyDict := Heap.get?_push_size s.heap rfl
  have e2 : ((s.heap.push PySem.W.emptyDict).push (PySem.W.instObj C s.heap.objs.size)).get? (s.heap.objs.size + 1) = some (PySem.W.instObj C s.heap.objs.size) := by
    have := Heap.get?_push_size (s.heap.push PySem.W.emptyDict) (o := PySem.W.instObj C s.heap.objs.size) rfl
    rwa [Heap.size_push] at this
  have e3 : (s.heap.push PySem.W.emptyDict).Ns s.heap.objs.size (fun _ => none) := ⟨PySem.W.emptyDict, #[], _, e1, rfl, (fun e he => absurd he (by simp)), fun _ => rfl⟩
  have I1 := I.laid (a := s.heap.objs.size) (o := .own (s.heap.objs.size + 1)) (h' := s.heap.push PySem.W.emptyDict) (t' := s.toks) (fun b u q => Heap.get?_push_of_some _ q) (Nat.le_refl _) ⟨_, e1⟩
  refine I1.laid (a := s.heap.objs.size + 1) (o := .ins C s.heap.objs.size []) (t' := s.toks) (fun b u q => Heap.get?_push_of_some _ q) (Nat.le_of_eq (Heap.size_push _ _)) ?_
  have ne : s.heap.objs.size ≠ s.heap.objs.size + 1 := Nat.ne_of_lt (Nat.lt_succ_self _)
  refine ⟨by rw [upd_ne ne, upd_same], Nat.zero_le _, ne, e2, fun _ => none, (Heap.Ns1.of_empty e3).at fun o q => Heap.get?_push_of_some _ q, fun _ => True.intro, fun y hy => absurd rfl hy⟩
theorem attr_of {prog : Program} {w : World} {env : Env} {e : Expr} {f : Str} {pos : Pos} {s : Shared} {Q : Value → Shared → Prop} (hb : attributeBase e f env (eval e env) = eval e env)
    (h : wpAny (model prog w) A (eval e env) (fun o s₁ => wpAny (model prog w) A (getAttr o f true) Q E s₁) E s) : wpAny (model prog w) A (eval (.Attribute e f pos) env) Q E s :=
  Attribute_any_ h (by rw [arm_eval_Attribute, hb])
end
def tFld (K : PySem.W.Frag) (ta : TE) (f : Str) : TE := fun σ H Q => ta σ H fun x H1 => ∃ a C dx fs v, x = .ref a ∧ H1 a = some (.ins C dx fs) ∧ Cls K C ∧ NoAttr K C f ∧ fs.lookup f = some v ∧ Q v H1
def sFld (K : PySem.W.Frag) (ta tv : TE) (f : Str) : TS := fun D σ H => tv σ H fun y H1 => ta σ H1 fun x H2 => ∃ a C dx fs, x = .ref a ∧ H2 a = some (.ins C dx fs) ∧ Cls K C ∧ NoAttr K C f ∧ fs.length < 1000 ∧
  D.nx σ (upd H2 a (.ins C dx (putF f y fs)))
def InOp (X : Cx) (op : Operator) (rd : V → V → Hp → VK → Prop) : Prop :=
  ∀ (pins : List (Addr × Obj)) (s : Shared) (σ : St) (H : Hp) (x y : V) (u v : Value) (Q : VK), Inv X pins σ H s → RelV x u → RelV y v → rd x y H Q → wpAny (model X.prog X.w) X.A (inplaceOp op u v) (EP X pins σ Q) X.xe s
def sFldAug (K : PySem.W.Frag) (ta tv : TE) (rd : V → V → Hp → VK → Prop) (f : Str) : TS := fun D σ H => ta σ H fun x H1 => ∃ a C dx fs v, x = .ref a ∧ H1 a = some (.ins C dx fs) ∧ Cls K C ∧ NoAttr K C f ∧ fs.lookup f = some v ∧
  tv σ H1 fun y H2 => rd v y H2 fun z H3 => ∃ dx' fs', H3 a = some (.ins C dx' fs') ∧ fs'.length < 1000 ∧ D.nx σ (upd H3 a (.ins C dx' (putF f z fs')))
section
variable {X : Cx} {o e value : Expr} {f : Str} {pos pos' tpos : Pos} {ta tv : TE}
theorem pe_fld (he : PE X e ta) (hb : attributeBase e f X.env (eval e X.env) = eval e X.env) : PE X (.Attribute e f pos) (tFld X.K ta f) := by
  intro pins s σ H Q I h
  refine attr_of hb (thn (he pins s σ H _ I h) fun u s1 ⟨x, H1, I1, rx, a, C, dx, fs, v, ex, ea, c, n, l, q⟩ => ?_)
  subst ex
  obtain rfl : u = Value.ref a := rx
  exact getattr_ok I1 ea c n l fun u' s2 I2 ru => ⟨v, H1, I2, ru, q⟩
theorem ps_fld (ha : PE X o ta) (hv : PE X value tv) (hs : swapsWith value (some (.Attribute o f pos')) pos.line X.env = pure false) : PS X (.Assign [.Attribute o f pos'] value pos) (sFld X.K ta tv f) := by
  intro pins s σ H D I h
  refine plainObj_wpAny_Assign_Attribute (thn (hv pins s σ H _ I h) fun u s1 ⟨y, H1, I1, ry, q⟩ => thn (ha pins s1 σ H1 _ I1 q) fun ov s2 ⟨x, H2, I2, rx, a, C, dx, fs, ex, ea, c, n, l, q2⟩ => ?_) hs
  subst ex
  obtain rfl : ov = Value.ref a := rx
  exact setattr_ok I2 ea c n l ry fun s3 I3 => ⟨σ, _, I3, q2⟩
theorem ps_fldaug {op : Operator} {rd : V → V → Hp → VK → Prop} (ha : PE X o ta) (hv : PE X value tv) (hop : InOp X op rd) : PS X (.AugAssign (.Attribute o f tpos) op value pos) (sFldAug X.K ta tv rd f) := by
  intro pins s σ H D I h
  refine wpAny_AugAssign_AttributeAny (thn (ha pins s σ H _ I h) fun ov s1 ⟨x, H1, I1, rx, a, C, dx, fs, v, ex, ea, c, n, l, q⟩ => ?_)
  subst ex
  obtain rfl : ov = Value.ref a := rx
  refine getattr_ok I1 ea c n l fun u s2 I2 ru => thn (hv pins s2 σ H1 _ I2 q) fun w3 s3 ⟨y, H2, I3, ry, q3⟩ => thn (hop pins s3 σ H2 v y u w3 _ I3 ru ry q3) fun w4 s4 ⟨z, H3, I4, rz, dx', fs', ea', l', q4⟩ => ?_
  exact setattr_ok I4 ea' c n l' rz fun s5 I5 => ⟨σ, _, I5, q4⟩
end
section
variable {X : Cx} {pins : List (Addr × Obj)} {σ : St} {H : Hp} {s : Shared} {A : Around} {E : Value → Shared → Prop} {Q : Value → Shared → Prop} {c : Value} {b : Bool}
inductive TyOf (K : PySem.W.Frag) (H : Hp) : V → Value → Prop where
  | non : TyOf K H .non (.type "NoneType")
  | bl (x : Bool) : TyOf K H (.bl x) (.type "bool")
  | int (i : Int) : TyOf K H (.int i) (.type "int")
  | str (x : Str) : TyOf K H (.str x) (.type "str")
  | flt (x : UInt64) : TyOf K H (.flt x) (.type "float")
  | lst {a : Addr} {xs : List V} (e : H a = some (.lst xs)) : TyOf K H (.ref a) (.type "list")
  | frz {a : Addr} {o : Obj} {xs : List V} (e : H a = some (.frz o (.lst xs))) : TyOf K H (.ref a) (.type "list")
  | tup {a : Addr} {xs : List V} (e : H a = some (.tup xs)) : TyOf K H (.ref a) (.type "tuple")
  | dK {a : Addr} {kvs : List (Key × V)} (e : H a = some (.dK kvs)) : TyOf K H (.ref a) (.type "dict")
  | dT {a : Addr} {kvs : List (List Key × V)} (e : H a = some (.dT kvs)) : TyOf K H (.ref a) (.type "dict")
  | ins {a C dx : Addr} {fs : List (Str × V)} (e : H a = some (.ins C dx fs)) (cl : Cls K C) (ha : PySem.W.findIn K (.ref C) "__class__" = some (some (.builtin "object.__class__")))
      (hn : PySem.W.specialIn K (.builtin "object.__class__") "__get__" = some (some (.builtin "getset_descriptor.__get__"))) (htk : PySem.W.takesIn K (.builtin "object.__class__") = some true)
      (hm : PySem.W.mroIn K C (.type "object") = some true) : TyOf K H (.ref a) (.ref C)
end
end L2
namespace L2
open PySem PySem.Spec PyProof.Rows
structure Room (k : Nat) (A : Around) : Prop where
  hd : A.handled = none
  dp : A.depth + 3 * k + 5 < recursionLimit
  un : A.units + 16 * k + 200 < cLine
theorem Room.mono {j k : Nat} {A : Around} (r : Room k A) (h : j ≤ k) : Room j A := ⟨r.hd, by have := r.dp; omega, by have := r.un; omega⟩
theorem Room.deeper {k : Nat} {A : Around} (r : Room (k + 1) A) (env : Env) : Room k (A.deeper env) :=
  ⟨r.hd, by have := r.dp; show A.depth + 1 + 3 * k + 5 < _; omega, by have := r.un; show A.units + 3 + 16 * k + 200 < _; omega⟩
theorem make_depth {A : Around} {C : Addr} {us : List Value} {kw : List (Str × Value)} : (A.under (.builtin "type.__call__" ⟨.ref C :: us, kw⟩)).depth = A.depth + 1 := by
  first | rfl | simp [Around.under, Code.weight, Code.isCreation, Code.isGuard, Code.isCaller, Code.frames, Code.isFrame, guardIds]
theorem make_units {A : Around} {C : Addr} {us : List Value} {kw : List (Str × Value)} : (A.under (.builtin "type.__call__" ⟨.ref C :: us, kw⟩)).units = A.units + 1 := by
  first | rfl | simp [Around.under, Code.cUnits, Code.frames, Code.isFrame]
theorem Room.make {k : Nat} {A : Around} (r : Room (k + 1) A) (C : Addr) (us : List Value) (kw : List (Str × Value)) : Room k (A.under (.builtin "type.__call__" ⟨.ref C :: us, kw⟩)) :=
  ⟨r.hd, by have := r.dp; rw [make_depth]; omega, by have := r.un; rw [make_units]; omega⟩
theorem Room.depth {k : Nat} {A : Around} (r : Room k A) : A.depth < recursionLimit := by have := r.dp; omega
theorem Room.units {k : Nat} {A : Around} (r : Room k A) : A.units + 64 < cLine := by have := r.un; omega
def tNil : TA := fun _ H Q => Q [] H
def tCons (ta : TE) (tr : TA) : TA := fun σ H Q => ta σ H fun x H1 => tr σ H1 fun xs H2 => Q (x :: xs) H2
section
variable {X : Cx} {e : Expr} {es : List Expr} {te : TE} {t : TA} {pos : Pos}
theorem pa_nil : PA X [] tNil := fun _ _ _ _ H Q I h => Calls.spliced_nil ⟨[], H, I, .nil, h⟩
theorem pa_cons (ha : PE X e te) (hr : PA X es t) (hs : starEach (e :: es) X.env = (false, eval e X.env) :: starEach es X.env := by rfl) : PA X (e :: es) (tCons te t) := by
  intro pos pins s σ H Q I h
  rw [hs]
  show wpAny _ _ (spliced ((false, eval e X.env) :: backTo pos (starEach es X.env))) _ _ s
  refine Calls.spliced_cons (thn (ha pins s σ H _ I h) fun u s1 ⟨x, H1, I1, r1, q1⟩ => ?_)
  exact thn (hr pos pins s1 σ H1 _ I1 q1) fun us s2 ⟨xs, H2, I2, r2, q2⟩ => ⟨x :: xs, H2, I2, .cons r1 r2, q2⟩
def tTup (t : TA) : TE := fun σ H Q => t σ H fun xs H1 => xs.length ≤ sizeLine ∧ ∀ p, H1 p = none → Q (.ref p) (upd H1 p (.tup xs))
def tLst (t : TA) : TE := fun σ H Q => t σ H fun xs H1 => xs.length ≤ sizeLine ∧ ∀ p, H1 p = none → Q (.ref p) (upd H1 p (.lst xs))
theorem pe_tup {x1} (h : PA X es t) : PE X (.Tuple es x1 pos) (tTup t) := by
  intro pins s σ H Q I hq
  refine wpAny_Tuple_spliced (thn (h pos pins s σ H _ I hq) fun us s1 ⟨xs, H1, I1, r, z, q⟩ => ⟨by rw [← r.length]; exact z, ?_⟩)
  have hf : H1 s1.heap.objs.size = none := I1.hok.fresh (Nat.le_refl _)
  refine ⟨.ref s1.heap.objs.size, upd H1 s1.heap.objs.size (.tup xs), I1.laid (t' := s1.toks) (fun b u e => Heap.get?_push_of_some _ e) (Nat.le_refl _) ?_, rfl, q _ hf⟩
  exact ⟨z, us, r, ⟨_, Heap.get?_push_size _ rfl, rfl, _, rfl⟩⟩
theorem pe_lst (h : PA X es t) : PE X (.List es pos) (tLst t) := by
  intro pins s σ H Q I hq
  refine wpAny_List_spliced (thn (h pos pins s σ H _ I hq) fun us s1 ⟨xs, H1, I1, r, z, q⟩ => ⟨by rw [← r.length]; exact z, ?_⟩)
  have hf : H1 s1.heap.objs.size = none := I1.hok.fresh (Nat.le_refl _)
  refine ⟨.ref s1.heap.objs.size, upd H1 s1.heap.objs.size (.lst xs), I1.laid (t' := s1.toks) (fun b u e => Heap.get?_push_of_some _ e) (Nat.le_refl _) ?_, rfl, q _ hf⟩
  exact ⟨z, us, 0, r, Heap.get?_push_size _ rfl⟩
end
abbrev Sp := List V → Hp → VK → XK → Prop
abbrev CXT := List Env → Hp → Shared → XK → Value → Shared → Prop
structure Env0 (P : Program) (w : World) (K : PySem.W.Frag) (mg : Str → Option Value) (base : Heap) (A : Around) (outer : List Env) (s : Shared) (H : Hp) : Prop where
  frames : A.frames = some outer
  mod : Mod K mg base
  bs : ∀ b o, base.get? b = some o → s.heap.get? b = some o ∧ H b = none
  bsz : base.objs.size ≤ s.heap.objs.size
  funs : s.heap.FunFrames base outer
  frf : ∀ b ∈ frs outer, H b = none
  hok : HOk P w H s.heap
  bare : AllBare s.gens
def CE (outer : List Env) (P : Program) (w : World) (H : Hp) (s : Shared) (Q : VK) (u : Value) (s' : Shared) : Prop :=
  ∃ v H', s'.os = s.os ∧ AllBare s'.gens ∧ Un (frs outer) [] H H' s.heap s'.heap ∧ HOk P w H' s'.heap ∧ RelV v u ∧ Q v H'
def CR (CX : CXT) (outer : List Env) (P : Program) (w : World) (H : Hp) (s : Shared) (Q : VK) (E : XK) (r : Result) (s' : Shared) : Prop :=
  match r with
  | .ok (.ret u) => CE outer P w H s Q u s'
  | .ok _ => False
  | .error e => CX outer H s E e s'
structure FnOk (P : Program) (w : World) (K : PySem.W.Frag) (mg : Str → Option Value) (base : Heap) (CX : CXT) (k : Nat) (f : Addr) (fd : FuncData) (ps : List Str) (sp : Sp) : Prop where
  len : ∀ vs H Q E, sp vs H Q E → vs.length = ps.length
  run : ∀ (A : Around) (outer : List Env) (s : Shared) (H : Hp) (args : Args) (us : List Value) (vs : List V) (Q : VK) (E : XK), Room k A → Env0 P w K mg base A outer s H → BindsTo s fd args (ps.zip us) → Vals vs us → sp vs H Q E →
    codeAny (model P w) A (.call (.ref f) args) (CR CX outer P w H s Q E) s
theorem Env0.make {P : Program} {w : World} {K : PySem.W.Frag} {mg : Str → Option Value} {base : Heap} {A : Around} {outer : List Env} {s : Shared} {H : Hp} (e : Env0 P w K mg base A outer s H) (C : Addr) (us : List Value) (kw : List (Str × Value)) :
    Env0 P w K mg base (A.under (.builtin "type.__call__" ⟨.ref C :: us, kw⟩)) outer s H := ⟨by first | exact e.frames | (simpa [Around.under, Code.envs, Code.isFrame, pushEnvs] using e.frames), e.mod, e.bs, e.bsz, e.funs, e.frf, e.hok, e.bare⟩
section
variable {X : Cx} {pins : List (Addr × Obj)} {σ : St} {H : Hp} {s s' : Shared}
theorem Inv.env0 (I : Inv X pins σ H s) : Env0 X.prog X.w X.K X.mg X.base X.A X.stack s H :=
  ⟨I.ok.frames, I.ok.mod, I.bs, Nat.le_trans I.ok.bsz I.sz, I.stack, I.stkFree, I.hok, I.bare⟩
theorem Inv.after {Q : VK} {u : Value} (I : Inv X pins σ H s) (h : CE X.stack X.prog X.w H s Q u s') : EP X pins σ Q u s' := by
  obtain ⟨v, H', os, bare, un, hok, r, q⟩ := h
  obtain ⟨hh, g, d, t, os'⟩ := s'
  obtain rfl : os' = s.os := os
  exact ⟨v, H', I.call (h' := hh) (g' := g) (d' := d) (t' := t) (ch := []) un hok bare (fun b z => absurd z (by simp)), r, q⟩
end
def tCall (sp : Sp) (dvs : List V) (E : XK) (t : TA) : TE := fun σ H Q => t σ H fun vs H1 => sp (vs ++ dvs) H1 Q E
def tMeth (C : Addr) (m : Str) (sp : Sp) (dvs : List V) (E : XK) (ta : TE) (t : TA) : TE := fun σ H Q => ta σ H fun x H1 => ∃ a dx fs, x = .ref a ∧ H1 a = some (.ins C dx fs) ∧ fs.lookup m = none ∧
  t σ H1 fun vs H2 => sp (x :: (vs ++ dvs)) H2 Q E
def tMake (C : Addr) (sp : Sp) (dvs : List V) (E : XK) (t : TA) : TE := fun σ H Q => t σ H fun vs H1 => ∀ x dx, H1 x = none → H1 dx = none → dx ≠ x →
  sp (.ref x :: (vs ++ dvs)) (upd (upd H1 dx (.own x)) x (.ins C dx [])) (fun v H2 => v = .non ∧ Q (.ref x) H2) E
def Binds (K : PySem.W.Frag) (fd : FuncData) (ps : List Str) (ds : List Value) : Prop :=
  ∀ (s : Shared) (us : List Value), K.In s.heap → (us ++ ds).length = ps.length → BindsTo s fd ⟨us, []⟩ (ps.zip (us ++ ds))
theorem Binds.all {K : PySem.W.Frag} {fd : FuncData} {ps : List Str} (h : ∀ us : List Value, us.length = ps.length → bindArgs fd ⟨us, []⟩ = pure (ps.zip us)) : Binds K fd ps [] := fun s us _ hl => by
  rw [List.append_nil] at hl ⊢
  exact .of_eq (h us hl)
def Passes (CX : CXT) (X : Cx) (E : XK) : Prop := ∀ (pins : List (Addr × Obj)) (σ : St) (H : Hp) (s : Shared) (e : Value) (s' : Shared), Inv X pins σ H s → CX X.stack H s E e s' → X.xe e s'
section
variable {X : Cx} {CX : CXT} {k : Nat} {f C : Addr} {fd : FuncData} {ps : List Str} {sp : Sp} {dvs : List V} {ds : List Value} {E : XK} {x m : Str} {p pos apos : Pos} {e o : Expr} {es : List Expr} {ta : TE} {t : TA}
theorem run_fn {pins : List (Addr × Obj)} {σ : St} {H : Hp} {s : Shared} {Q : VK} {us : List Value} {vs : List V} (F : FnOk X.prog X.w X.K X.mg X.base CX k f fd ps sp) (hr : Room k X.A) (hb : Binds X.K fd ps ds) (hd : Vals dvs ds) (hx : Passes CX X E)
    (I : Inv X pins σ H s) (r : Vals vs us) (h : sp (vs ++ dvs) H Q E) : wpAny (model X.prog X.w) X.A (call (.ref f) us) (EP X pins σ Q) X.xe s := by
  have r2 : Vals (vs ++ dvs) (us ++ ds) := r.append hd
  have hl : (us ++ ds).length = ps.length := by rw [← r2.length]; exact F.len _ _ _ _ h
  refine wpAny_call (codeAny_mono (F.run X.A X.stack s H ⟨us, []⟩ (us ++ ds) (vs ++ dvs) Q E hr I.env0 (hb s us I.kIn hl) r2 h) fun r s' hq => ?_)
  cases r with
  | error e => exact hx pins σ H s e s' I hq
  | ok fl =>
    cases fl with
    | ret u => exact I.after hq
    | next => exact False.elim hq
    | brk => exact False.elim hq
    | cont => exact False.elim hq
theorem pe_call (F : FnOk X.prog X.w X.K X.mg X.base CX k f fd ps sp) (hr : Room k X.A) (hg : Gl X x) (hm : X.mg x = some (.ref f)) (hk : PySem.W.keepIn X.K (.ref f) = true) (hb : Binds X.K fd ps ds) (hd : Vals dvs ds) (hx : Passes CX X E)
    (ha : PA X (e :: es) t) (hdb : (x == ("__debug__" : Str)) = false := by decide) (he : starEach (e :: es) X.env = (false, eval e X.env) :: starEach es X.env := by rfl) (hpl : (backTo pos (starEach es X.env)).any (·.1) = false := by rfl) :
    PE X (.Call (.Name x p) (e :: es) [] pos) (tCall sp dvs E t) := by
  intro pins s σ H Q I h
  refine wpAny_Call_Name_kw (ld_glob I hg hm ?_ hdb)
  refine PySem.W.callWith_K (h₀ := X.base) I.ok.mod.kin hk (thn (ha pos pins s σ H _ I h) fun us s1 ⟨vs, H1, I1, r, q⟩ => ⟨I1.kIn, ?_⟩) he hpl
  exact run_fn F hr hb hd hx I1 r q
theorem pe_meth {pl : Sem Bool} (he : PE X o ta) (c : Cls X.K C) (hm : Meth X.K C m f) (F : FnOk X.prog X.w X.K X.mg X.base CX k f fd ps sp) (hr : Room k X.A) (hb : Binds X.K fd ps ds) (hd : Vals dvs ds) (hx : Passes CX X E) (ha : PA X (e :: es) t)
    (hst : starEach (e :: es) X.env = (false, eval e X.env) :: starEach es X.env := by rfl) (hpl : (backTo pos (starEach es X.env)).any (·.1) = false := by rfl)
    (ht : eval (.Call (.Attribute o m apos) (e :: es) [] pos) X.env = (do
      let ov ← eval o X.env
      standAt apos.atName
      let (f, first) ← holding [ov] (getMethod ov m pl)
      callWith pos f first (backTo pos (starEach (e :: es) X.env)) (backToKw pos (keywordEach [] X.env))) := by rfl) :
    PE X (.Call (.Attribute o m apos) (e :: es) [] pos) (tMeth C m sp dvs E ta t) := by
  intro pins s σ H Q I h
  refine PySem.W.methodCall_KW (pl := pl) (thn (he pins s σ H _ I h) fun u s1 ⟨x, H1, I1, rx, a, dx, fs, ex, ea, l, q⟩ => ?_) ht
  subst ex
  obtain rfl : u = Value.ref a := rx
  refine getmeth_ok I1 ea c hm l ?_
  refine PySem.W.callWith_K (first := [.ref a]) (h₀ := X.base) I.ok.mod.kin hm.kp (thn (ha pos pins s1 σ H1 _ I1 q) fun us s2 ⟨vs, H2, I2, r, q2⟩ => ⟨I2.kIn, ?_⟩) hst hpl
  exact run_fn (us := .ref a :: us) (vs := .ref a :: vs) F hr hb hd hx I2 (.cons rfl r) q2
theorem pe_meth0 {pl : Sem Bool} (he : PE X o ta) (c : Cls X.K C) (hm : Meth X.K C m f) (F : FnOk X.prog X.w X.K X.mg X.base CX k f fd ps sp) (hr : Room k X.A) (hb : Binds X.K fd ps ds) (hd : Vals dvs ds) (hx : Passes CX X E)
    (ht : eval (.Call (.Attribute o m apos) [] [] pos) X.env = (do
      let ov ← eval o X.env
      standAt apos.atName
      let (f, first) ← holding [ov] (getMethod ov m pl)
      callWith pos f first (backTo pos (starEach [] X.env)) (backToKw pos (keywordEach [] X.env))) := by rfl) :
    PE X (.Call (.Attribute o m apos) [] [] pos) (tMeth C m sp dvs E ta tNil) := by
  intro pins s σ H Q I h
  refine PySem.W.methodCall_KW (pl := pl) (thn (he pins s σ H _ I h) fun u s1 ⟨x, H1, I1, rx, a, dx, fs, ex, ea, l, q⟩ => ?_) ht
  subst ex
  obtain rfl : u = Value.ref a := rx
  refine getmeth_ok I1 ea c hm l ?_
  exact PySem.W.callWith_K0 (first := [.ref a]) I1.kIn hm.kp (run_fn (us := [.ref a]) (vs := [.ref a]) F hr hb hd hx I1 (.cons rfl .nil) q)
structure Mk (K : PySem.W.Frag) (C f : Addr) : Prop where
  makes : PySem.W.makesIn K C = true
  init : PySem.W.findIn K (.ref C) "__init__" = some (some (.ref f))
  fn : PySem.W.isFn K (.ref f) = true
  kp : PySem.W.keepIn K (.ref C) = true
theorem run_make {pins : List (Addr × Obj)} {σ : St} {H : Hp} {s : Shared} {Q : VK} {us : List Value} {vs : List V} (M : Mk X.K C f) (F : FnOk X.prog X.w X.K X.mg X.base CX k f fd ps sp) (hr : Room (k + 1) X.A) (hb : Binds X.K fd ps ds) (hd : Vals dvs ds)
    (hx : Passes CX X E) (I : Inv X pins σ H s) (r : Vals vs us)
    (h : ∀ x dx, H x = none → H dx = none → dx ≠ x → sp (.ref x :: (vs ++ dvs)) (upd (upd H dx (.own x)) x (.ins C dx [])) (fun v H2 => v = .non ∧ Q (.ref x) H2) E) :
    wpAny (model X.prog X.w) X.A (call (.ref C) us) (EP X pins σ Q) X.xe s := by
  have hq := h (s.heap.objs.size + 1) s.heap.objs.size (I.hok.fresh (Nat.le_succ _)) (I.hok.fresh (Nat.le_refl _)) (Nat.ne_of_lt (Nat.lt_succ_self _))
  have I2 := Inv.made (C := C) I
  have r2 : Vals (V.ref (s.heap.objs.size + 1) :: (vs ++ dvs)) (Value.ref (s.heap.objs.size + 1) :: (us ++ ds)) := .cons rfl (r.append hd)
  have hl : (Value.ref (s.heap.objs.size + 1) :: us ++ ds).length = ps.length := by
    have e := r2.length
    rw [F.len _ _ _ _ hq] at e
    exact e.symm
  refine wpAny_call (make_map (f := f) I.kIn M.makes M.init (beq_iff_eq.mp M.fn) (codeAny_mono (F.run _ X.stack _ _ ⟨Value.ref (s.heap.objs.size + 1) :: us, []⟩ (Value.ref (s.heap.objs.size + 1) :: (us ++ ds)) _ _ E (hr.make C us [])
    (I2.env0.make C us []) (hb _ (Value.ref (s.heap.objs.size + 1) :: us) I2.kIn hl) r2 hq) fun r s' hq' => ?_))
  cases r with
  | error e => exact hx pins σ _ _ e s' I2 hq'
  | ok fl =>
    cases fl with
    | ret u =>
      obtain ⟨v, H', I3, rv, ev, q3⟩ := I2.after hq'
      subst ev
      exact ⟨rv, ⟨V.ref (s.heap.objs.size + 1), H', I3, rfl, q3⟩⟩
    | next => exact False.elim hq'
    | brk => exact False.elim hq'
    | cont => exact False.elim hq'
theorem pe_make (M : Mk X.K C f) (F : FnOk X.prog X.w X.K X.mg X.base CX k f fd ps sp) (hr : Room (k + 1) X.A) (hg : Gl X x) (hm : X.mg x = some (.ref C)) (hb : Binds X.K fd ps ds) (hd : Vals dvs ds) (hx : Passes CX X E)
    (ha : PA X (e :: es) t) (hdb : (x == ("__debug__" : Str)) = false := by decide) (he : starEach (e :: es) X.env = (false, eval e X.env) :: starEach es X.env := by rfl) (hpl : (backTo pos (starEach es X.env)).any (·.1) = false := by rfl) :
    PE X (.Call (.Name x p) (e :: es) [] pos) (tMake C sp dvs E t) := by
  intro pins s σ H Q I h
  refine wpAny_Call_Name_kw (ld_glob I hg hm ?_ hdb)
  refine PySem.W.callWith_K (h₀ := X.base) I.ok.mod.kin M.kp (thn (ha pos pins s σ H _ I h) fun us s1 ⟨vs, H1, I1, r, q⟩ => ⟨I1.kIn, ?_⟩) he hpl
  exact run_make M F hr hb hd hx I1 r q
theorem pe_make0 (M : Mk X.K C f) (F : FnOk X.prog X.w X.K X.mg X.base CX k f fd ps sp) (hr : Room (k + 1) X.A) (hg : Gl X x) (hm : X.mg x = some (.ref C)) (hb : Binds X.K fd ps ds) (hd : Vals dvs ds) (hx : Passes CX X E)
    (hdb : (x == ("__debug__" : Str)) = false := by decide) : PE X (.Call (.Name x p) [] [] pos) (tMake C sp dvs E tNil) := by
  intro pins s σ H Q I h
  refine wpAny_Call_Name_kw (ld_glob I hg hm ?_ hdb)
  exact PySem.W.callWith_K0 I.kIn M.kp (run_make (us := []) M F hr hb hd hx I .nil h)
end
section
variable {X : Cx} {CX : CXT} {k : Nat} {f C : Addr} {fd : FuncData} {ps ks : List Str} {sp : Sp} {E : XK} {x m : Str} {p pos apos kpos : Pos} {e o : Expr} {es : List Expr} {kws : List Keyword} {te ta : TE} {t tk : TA} {nm : Option Str}
structure KBinds (K : PySem.W.Frag) (fd : FuncData) (ps ks : List Str) (g : List Value → List Value → List Value) (gV : List V → List V → List V) : Prop where
  to : ∀ (s : Shared) (us ws : List Value), K.In s.heap → (g us ws).length = ps.length → BindsTo s fd ⟨us, ks.zip ws⟩ (ps.zip (g us ws))
  rel : ∀ {vs : List V} {us : List Value} {zs : List V} {ws : List Value}, Vals vs us → Vals zs ws → Vals (gV vs zs) (g us ws)
variable {g : List Value → List Value → List Value} {gV : List V → List V → List V}
end
structure FnScope (N P : List Str) (sc : Scope) : Prop where
  kind : sc.kind = .function
  co : sc.isCoroutine = false
  gen : sc.isGenerator = false
  nd : N.Nodup
  pre : N.take P.length = P
  par : ∀ x ∈ P, sc.names.lookup x = some .local ∨ sc.names.lookup x = some .cell
  nofree : ∀ y ∈ sc.names, y.2 ≠ .free
theorem bindL_out {kindOf : Str → Option NameKind} {x : Str} : ∀ {binds : List (Str × Value)} {m : Str → Option Value}, (∀ v, (x, v) ∉ binds) → bindL kindOf binds m x = m x
  | [], _, _ => rfl
  | (n, v) :: r, m, h => by
    unfold bindL
    rw [bindL_out fun w hw => h w (List.mem_cons_of_mem _ hw)]
    split
    · have : x ≠ n := by rintro rfl; exact h v List.mem_cons_self
      simp [this]
    · rfl
theorem bindC_out {kindOf : Str → Option NameKind} {x : Str} : ∀ {binds : List (Str × Value)} {m : Str → Option Value}, (∀ v, (x, v) ∉ binds) → bindC kindOf binds m x = m x
  | [], _, _ => rfl
  | (n, v) :: r, m, h => by
    unfold bindC
    rw [bindC_out fun w hw => h w (List.mem_cons_of_mem _ hw)]
    split
    · rfl
    · have : x ≠ n := by rintro rfl; exact h v List.mem_cons_self
      simp [this]
theorem bindL_get {kindOf : Str → Option NameKind} {x : Str} {v : Value} : ∀ {P : List Str} {vs : List Value} {i : Nat} {m : Str → Option Value}, P.Nodup → P[i]? = some x → vs[i]? = some v → kindOf x = some .local →
    bindL kindOf (P.zip vs) m x = some v
  | [], _, _, _, _, h, _, _ => by simp at h
  | _ :: _, [], _, _, _, _, h, _ => by simp at h
  | p :: P, w :: vs, 0, m, nd, h1, h2, hk => by
    simp at h1 h2; subst h1; subst h2
    show bindL kindOf ((p, w) :: P.zip vs) m p = _
    unfold bindL
    rw [bindL_out fun v hv => (List.nodup_cons.mp nd).1 (List.of_mem_zip hv).1, if_pos hk]
    simp
  | p :: P, w :: vs, i + 1, m, nd, h1, h2, hk => by
    show bindL kindOf ((p, w) :: P.zip vs) m x = _
    unfold bindL
    exact bindL_get (i := i) (List.nodup_cons.mp nd).2 (by simpa using h1) (by simpa using h2) hk
theorem bindC_get {kindOf : Str → Option NameKind} {x : Str} {v : Value} : ∀ {P : List Str} {vs : List Value} {i : Nat} {m : Str → Option Value}, P.Nodup → P[i]? = some x → vs[i]? = some v → kindOf x ≠ some .local →
    bindC kindOf (P.zip vs) m x = some v
  | [], _, _, _, _, h, _, _ => by simp at h
  | _ :: _, [], _, _, _, _, h, _ => by simp at h
  | p :: P, w :: vs, 0, m, nd, h1, h2, hk => by
    simp at h1 h2; subst h1; subst h2
    show bindC kindOf ((p, w) :: P.zip vs) m p = _
    unfold bindC
    rw [bindC_out fun v hv => (List.nodup_cons.mp nd).1 (List.of_mem_zip hv).1, if_neg hk]
    simp
  | p :: P, w :: vs, i + 1, m, nd, h1, h2, hk => by
    show bindC kindOf ((p, w) :: P.zip vs) m x = _
    unfold bindC
    exact bindC_get (i := i) (List.nodup_cons.mp nd).2 (by simpa using h1) (by simpa using h2) hk
def start (N : List Str) (vs : List V) : St := vs.map some ++ List.replicate (N.length - vs.length) none
def cxOf (CX : CXT) (P : Program) (w : World) (K : PySem.W.Frag) (mg : Str → Option Value) (base : Heap) (N : List Str) (qual : Str) (scope : Scope) (f : Addr) (cd : Value) (A : Around) (outer : List Env) (s : Shared) (H : Hp) (E : XK) : Cx where
  prog := P
  w := w
  K := K
  mg := mg
  base := base
  A := A.deeper (envOfC qual scope s.heap.objs.size f cd)
  N := N
  s_0 := s
  H_0 := H
  env := envOfC qual scope s.heap.objs.size f cd
  outer := outer
  stack := envOfC qual scope s.heap.objs.size f cd :: outer
  ex := []
  calm := true
  fn := fun _ => true
  pn := []
  xe := fun e s' => wpAny (model P w) (A.deeper (envOfC qual scope s.heap.objs.size f cd)) (leaving (envOfC qual scope s.heap.objs.size f cd) e) (fun _ s'' => CX outer H s E e s'') (fun e' s'' => CX outer H s E e' s'') s'
theorem cell_has {sc : Scope} {n : Nat} {x : Str} (h : sc.names.lookup x = some .cell) : ∃ c, (cellsFrom n sc.names []).lookup x = some c := by
  have q := PySem.W.cellsFrom_some sc.names n [] (.inl h)
  exact Option.isSome_iff_exists.mp q
theorem inv_start {CX : CXT} {P : Program} {w : World} {K : PySem.W.Frag} {mg : Str → Option Value} {base : Heap} {N ps : List Str} {qual : Str} {scope : Scope} {f : Addr} {cd : Value} {A : Around} {outer : List Env} {s s1 : Shared} {H : Hp} {E : XK} {us : List Value} {vs : List V}
    (S : FnScope N ps scope) (hd : A.handled = none) (e0 : Env0 P w K mg base A outer s H) (hl : vs.length = ps.length) (r : Vals vs us)
    (x : InCallC s s.heap.objs.size (bindL (envOfC qual scope s.heap.objs.size f cd).kindOf (ps.zip us) fun _ => none) (cellsFrom (s.heap.objs.size + 1) scope.names []) (bindC (envOfC qual scope s.heap.objs.size f cd).kindOf (ps.zip us) fun _ => none) s1) :
    Inv (cxOf CX P w K mg base N qual scope f cd A outer s H E) [] (start N vs) H s1 := by
  have hpl : ps.length ≤ N.length := by have := congrArg List.length S.pre; rw [List.length_take] at this; omega
  obtain ⟨h1, tk, rfl, hk⟩ := x.done
  have noA : ∀ b : Addr, b ∉ (cxOf CX P w K mg base N qual scope f cd A outer s H E).ex := fun b z => absurd (show b ∈ ([] : List Addr) from z) (by simp)
  refine ⟨⟨e0.mod, S.kind, rfl, rfl, Nat.le_refl _, fun y z c h1 h2 => ?_, fun y hy => ?_, fun y c _ h => ?_, fun _ => hd, Around.frames_deeper e0.frames, .inr ⟨rfl, rfl⟩, fun b z => absurd z (noA b), e0.bs, e0.bsz, fun b _ _ => noA b, fun b z => absurd z (noA b), e0.funs, e0.frf⟩,
    rfl, e0.bare, Un.kept hk, ⟨_, x.toInCall.ns, fun i y v h1 h2 h3 => ?_⟩, fun y c h => ⟨_, x.cell y c h⟩, e0.hok.fresh (Nat.le_refl _), fun y c h => ?_, fun p hp => absurd (show p ∈ ([] : List (Addr × Obj)) from hp) (by simp), e0.hok.kept hk, ?_⟩
  · exact name_of_addr x.apart (PySem.mem_of_lookup h1) (PySem.mem_of_lookup h2)
  · have hy : scope.names.lookup y = some .cell ∨ scope.names.lookup y = some .free := hy
    rcases hy with hy | hy
    · exact cell_has hy
    · exact absurd rfl (S.nofree _ (PySem.mem_of_lookup hy))
  · exact Nat.le_of_lt (x.above y c (PySem.mem_of_lookup h))
  · have hi : i < vs.length := by
      unfold start at h2
      by_cases hi : i < vs.length
      · exact hi
      · rw [List.getElem?_append_right (by simpa using hi)] at h2
        rw [List.getElem?_replicate] at h2
        split at h2 <;> cases h2
    have ha : vs[i]? = some v := by
      unfold start at h2
      rw [List.getElem?_append_left (by simpa using hi), List.getElem?_map] at h2
      cases e : vs[i]? with
      | none => rw [e] at h2; cases h2
      | some a => rw [e] at h2; cases h2; rfl
    obtain ⟨u, hu, rv⟩ := r.get ha
    have hp : ps[i]? = some y := by
      rw [← S.pre, List.getElem?_take_of_lt (by omega)]; exact h1
    have ndP : ps.Nodup := by rw [← S.pre]; exact S.nd.sublist (List.take_sublist _ _)
    refine ⟨u, rv, ?_⟩
    rcases S.par y (List.mem_of_getElem? hp) with k | k
    · exact .inl ⟨k, bindL_get ndP hp hu k⟩
    · obtain ⟨c, e⟩ := cell_has (n := s.heap.objs.size + 1) k
      refine .inr ⟨.inl k, c, e, ?_⟩
      have q := x.cell y c e
      rw [bindC_get ndP hp hu (by show scope.names.lookup y ≠ _; rw [k]; decide)] at q
      exact q
  · exact e0.hok.fresh (Nat.le_of_lt (x.above y c (PySem.mem_of_lookup h)))
  · unfold start
    show _ = N.length
    rw [List.length_append, List.length_map, List.length_replicate]
    omega
theorem fn_of {CX : CXT} {P : Program} {w : World} {K : PySem.W.Frag} {mg : Str → Option Value} {base : Heap} {k : Nat} {f : Addr} {name qual : Str} {params : Arguments} {body : List Stmt} {scope : Scope} {dV kV doc pm cdv ct oc : Value} {an od : Option Addr}
    {osl : Array (Option Value)} {N ps : List Str} {sp : Sp} (lk : K.lookup f = some ⟨oc, od, .func (PySem.W.fnOf name qual params body scope dV kV doc pm an cdv ct), osl⟩) (hcd : PySem.W.codeIn K cdv qual = true) (S : FnScope N ps scope)
    (len : ∀ vs H Q E, sp vs H Q E → vs.length = ps.length)
    (hbody : ∀ (A : Around) (outer : List Env) (s : Shared) (H : Hp) (vs : List V) (Q : VK) (E : XK), Room k (A.deeper (envOfC qual scope s.heap.objs.size f cdv)) → sp vs H Q E →
      ∃ t, PSs (cxOf CX P w K mg base N qual scope f cdv A outer s H E) body t ∧ t { nx := fun _ H' => Q .non H', rt := Q } (start N vs) H) :
    FnOk P w K mg base CX (k + 1) f (PySem.W.fnOf name qual params body scope dV kV doc pm an cdv ct) ps sp := by
  refine ⟨len, fun A outer s H args us vs Q E hr e0 hb r hsp => ?_⟩
  have hl := len _ _ _ _ hsp
  have KX : K.In s.heap := e0.mod.kin.keeps fun b o e => (e0.bs b o e).1
  have lim : s.heap.NoLimit := e0.mod.nolimit.keeps fun b o e => (e0.bs b o e).1
  have hkind : ∀ y ∈ ps.zip us, scope.names.lookup y.1 = some .local ∨ (scope.names.lookup y.1 = some .cell ∧ ((cellsFrom (s.heap.objs.size + 1) scope.names []).lookup y.1).isSome = true) := fun ⟨n, v⟩ hy => by
    rcases S.par n (List.of_mem_zip hy).1 with q | q
    · exact .inl q
    · exact .inr ⟨q, PySem.W.cellsFrom_some _ _ _ (.inl q)⟩
  refine codeAny_call_function hr.depth (KX _ _ lk) rfl S.co S.gen rfl (PySem.W.codeRec_of KX hcd) (hb _ _ _ _ ?_)
  refine wpAny_newFunctionEnv_cells S.kind hkind fun env he s1 x => ?_
  subst he
  refine ⟨lim.keeps x.toInCall.keep, codeAny_func ?_⟩
  obtain ⟨t, ht, hq⟩ := hbody A outer s H vs Q E (hr.deeper _) hsp
  have I : Inv (cxOf CX P w K mg base N qual scope f cdv A outer s H E) [] (start N vs) H s1 := inv_start S hr.hd e0 hl r x
  refine wpAny_mono (ht [] s1 (start N vs) H _ I hq) (fun fl s' hs => ?_) fun e s' hs => hs
  have fin : ∀ {σ' : St} {H' : Hp} {v : V} {u : Value}, Inv (cxOf CX P w K mg base N qual scope f cdv A outer s H E) [] σ' H' s' → RelV v u → Q v H' → CE outer P w H s Q u s' :=
    fun {σ' H' v u} J rv q => ⟨v, H', J.os, J.bare, J.base, J.hok, rv, q⟩
  cases fl with
  | ret u =>
    obtain ⟨v, σ', H', J, rv, q⟩ := hs
    exact fin J rv q
  | next =>
    obtain ⟨σ', H', J, q⟩ := hs
    exact fin (v := V.non) (u := Value.none) J rfl q
  | brk =>
    obtain ⟨_, _, _, q⟩ := hs
    exact False.elim q
  | cont =>
    obtain ⟨_, _, _, q⟩ := hs
    exact False.elim q
end L2
namespace L2
open PySem PySem.Spec PyProof.Rows
section
variable {X : Cx} {x : Str} {p pos : Pos} {e : Expr} {es : List Expr} {t : TA} {id T : String} {r : List V → Hp → VK → Prop}
def tCB (r : List V → Hp → VK → Prop) (t : TA) : TE := fun σ H Q => t σ H fun vs H1 => r vs H1 Q
theorem pe_callB (hc : CallR X (.builtin id) r) (hg : Gl X x) (hm : X.mg x = none) (hv : bootBuiltins x = some (.builtin id)) (ha : PA X (e :: es) t) (hn : x ≠ "__name__" := by decide) (hdb : (x == ("__debug__" : Str)) = false := by decide)
    (he : starEach (e :: es) X.env = (false, eval e X.env) :: starEach es X.env := by rfl) (hpl : (backTo pos (starEach es X.env)).any (·.1) = false := by rfl) : PE X (.Call (.Name x p) (e :: es) [] pos) (tCB r t) := by
  intro pins s σ H Q I h
  refine wpAny_Call_Name_kw (ld_blt I hg hm hv ?_ hn hdb)
  exact PyProof.Rows.callWith_builtin1 (thn (ha pos pins s σ H _ I h) fun us s1 ⟨vs, H1, I1, r1, q1⟩ => hc pins s1 σ H1 vs us Q I1 r1 q1) he hpl
theorem pe_callTy (hc : CallR X (.type T) r) (hg : Gl X x) (hm : X.mg x = none) (hv : bootBuiltins x = some (.type T)) (ha : PA X (e :: es) t) (hn : x ≠ "__name__" := by decide) (hdb : (x == ("__debug__" : Str)) = false := by decide)
    (he : starEach (e :: es) X.env = (false, eval e X.env) :: starEach es X.env := by rfl) (hpl : (backTo pos (starEach es X.env)).any (·.1) = false := by rfl) : PE X (.Call (.Name x p) (e :: es) [] pos) (tCB r t) := by
  intro pins s σ H Q I h
  refine wpAny_Call_Name_kw (ld_blt I hg hm hv ?_ hn hdb)
  exact PyProof.Rows.callWith_type1 (thn (ha pos pins s σ H _ I h) fun us s1 ⟨vs, H1, I1, r1, q1⟩ => hc pins s1 σ H1 vs us Q I1 r1 q1) he hpl
end
end L2
namespace HT
open PySem PyProof.Rows
section
open PySem.SeqAt
open PySem.AutoSeq1 (wpAny_loadPart')
open PySem.MeetsSeq PySem.MeetsSeq2 PySem.MeetsSeq3
end
section
variable {prog : Program} {w : World} {A : Around} {E : Value → Shared → Prop} {s : Shared}
def sIx (n d : Nat) : Option Int → Nat
  | none => d
  | some v => if v < 0 then (v + (n : Int)).toNat else min v.toNat n
theorem sIx_nat (n d k : Nat) : sIx n d (some (k : Int)) = min k n := by
  show (if (k : Int) < 0 then ((k : Int) + (n : Int)).toNat else min (k : Int).toNat n) = min k n
  rw [if_neg (by omega), Int.toNat_natCast]
end
end HT
namespace L2
open PySem PySem.Spec PyProof.Rows
abbrev TO := St → Hp → (Option Int → Hp → Prop) → Prop
def PO (X : Cx) (e : Option Expr) (t : TO) : Prop :=
  ∀ (pins : List (Addr × Obj)) (s : Shared) (σ : St) (H : Hp) (Q : Option Int → Hp → Prop), Inv X pins σ H s → t σ H Q →
    wpAny (model X.prog X.w) X.A (evalPart e X.env) (fun u s' => ∃ o H', Inv X pins σ H' s' ∧ IsPart u o ∧ Q o H') X.xe s
def tPart (t : TE) : TO := fun σ H Q => t σ H fun x H1 => ∃ i, x = .int i ∧ Q (some i) H1
section
variable {X : Cx} {e : Expr} {te : TE} {lo hi : Option Expr} {tl th : TO} {pos p2 : Pos}
theorem po_some (h : PE X e te) : PO X (some e) (tPart te) := by
  intro pins s σ H Q I hw
  rw [evalPart_some]
  refine thn (h pins s σ H _ I hw) fun u s1 ⟨x, H1, I1, r1, q1⟩ => ?_
  obtain ⟨i, rfl, q⟩ := q1
  obtain ⟨t, rfl⟩ := r1
  exact ⟨some i, H1, I1, .int i t, q⟩
def SlR (X : Cx) (r : V → Option Int → Option Int → Hp → VK → Prop) : Prop :=
  ∀ (pins : List (Addr × Obj)) (s : Shared) (σ : St) (H : Hp) (x : V) (v vl vu : Value) (lo hi : Option Int) (sl : Addr) (Q : VK), Inv X pins σ H s → RelV x v → s.heap.IsSliceOf sl vl vu .none → IsPart vl lo → IsPart vu hi → r x lo hi H Q →
    ∃ T id, typeLookup (.type T) "__getitem__" = pure (some (.builtin id)) ∧ s.TypeIs v T ∧ wpAny (model X.prog X.w) X.A (getItem v (.ref sl)) (EP X pins σ Q) X.xe s
def tSl (r : V → Option Int → Option Int → Hp → VK → Prop) (te : TE) (tl th : TO) : TE := fun σ H Q => te σ H fun x H1 => tl σ H1 fun l H2 => th σ H2 fun u H3 => r x l u H3 Q
theorem pe_slice {r : V → Option Int → Option Int → Hp → VK → Prop} (hr : SlR X r) (he : PE X e te) (hl : PO X lo tl) (hu : PO X hi th) : PE X (.Subscript e (.Slice lo hi none p2) pos) (tSl r te tl th) := by
  intro pins s σ H Q I h
  refine Subscript_ (thn (he pins s σ H _ I h) fun v s1 ⟨x, H1, I1, r1, q1⟩ => ?_)
  refine wpAny_Slice (thn (hl pins s1 σ H1 _ I1 q1) fun vl s2 ⟨l, H2, I2, pl, q2⟩ => thn (hu pins s2 σ H2 _ I2 q2) fun vu s3 ⟨u, H3, I3, pu, q3⟩ => ?_)
  rw [evalPart_none]
  refine wpAny_pure ?_
  have I4 : Inv X pins σ H3 { s3 with heap := s3.heap.push { cls := .type "slice", data := .fields #[vl, vu, .none] } } := I3.kept (t' := s3.toks) fun b ob q => Heap.get?_push_of_some _ q
  obtain ⟨T, id, hT, ht, hg⟩ := hr pins { s3 with heap := s3.heap.push { cls := .type "slice", data := .fields #[vl, vu, .none] } } σ H3 x v vl vu l u s3.heap.objs.size Q I4 r1 (Heap.IsSliceOf.new ..) pl pu q3
  show wpAny (model X.prog X.w) X.A (subscriptTail e (.Slice lo hi none p2) v (.ref s3.heap.objs.size)) (EP X pins σ Q) X.xe { s3 with heap := s3.heap.push { cls := .type "slice", data := .fields #[vl, vu, .none] } }
  exact tail_any (ops := [.ref s3.heap.objs.size, v]) ht hT hg (by with_unfolding_all rfl)
def cutV (xs : List V) (lo hi : Option Int) : List V := (xs.drop (HT.sIx xs.length 0 lo)).take (HT.sIx xs.length xs.length hi - HT.sIx xs.length 0 lo)
theorem cutV_length (xs : List V) (lo hi : Option Int) : (cutV xs lo hi).length ≤ xs.length := by
  unfold cutV
  rw [List.length_take, List.length_drop]
  omega
end
end L2
namespace L2
open PySem PySem.Spec PyProof.Rows
def ixN (n : Nat) (i : Int) : Option Nat := if 0 ≤ i then (if i < n then some i.toNat else none) else if -(n : Int) ≤ i then some (i + n).toNat else none
def atI {α : Type} (xs : List α) (i : Int) : Option α := (ixN xs.length i).bind fun j => xs[j]?
theorem ixN_seq {n : Nat} {i : Int} {j : Nat} (h : ixN n i = some j) : seqIndex? i n = some j ∧ j < n ∧ -(n : Int) ≤ i ∧ i < n := by
  unfold ixN at h
  by_cases h0 : 0 ≤ i
  · rw [if_pos h0] at h
    by_cases h1 : i < n
    · rw [if_pos h1] at h
      have e : i.toNat = j := Option.some.inj h
      exact ⟨by rw [seqIndex_of h0 h1, e], by omega, by omega, h1⟩
    · rw [if_neg h1] at h; cases h
  · rw [if_neg h0] at h
    by_cases h1 : -(n : Int) ≤ i
    · rw [if_pos h1] at h
      have e : (i + n).toNat = j := Option.some.inj h
      exact ⟨by rw [seqIndex_neg (by omega) h1, e], by omega, h1, by omega⟩
    · rw [if_neg h1] at h; cases h
theorem atI_get {α : Type} {xs : List α} {i : Int} {v : α} (h : atI xs i = some v) : ∃ j, seqIndex? i xs.length = some j ∧ xs[j]? = some v ∧ j < xs.length ∧ -(xs.length : Int) ≤ i ∧ i < xs.length := by
  unfold atI at h
  cases e : ixN xs.length i with
  | none => rw [e] at h; cases h
  | some j =>
    rw [e] at h
    obtain ⟨h1, h2, h3, h4⟩ := ixN_seq e
    exact ⟨j, h1, h, h2, h3, h4⟩
theorem atI_nat {α : Type} {xs : List α} {j : Nat} {v : α} (h : xs[j]? = some v) : atI xs (j : Int) = some v := by
  have hj : j < xs.length := (List.getElem?_eq_some_iff.mp h).1
  have e : ixN xs.length (j : Int) = some j := by
    unfold ixN
    rw [if_pos (by omega), if_pos (by omega)]; simp
  unfold atI; rw [e]; exact h
def PlainIx (b : Expr) : Prop := ∀ o i, subscripted b false o i = operate [o, i] (getItem o i)
def IxR (X : Cx) (r : R2) : Prop :=
  ∀ (value slice : Expr) (pins : List (Addr × Obj)) (s : Shared) (σ : St) (H : Hp) (x y : V) (v u : Value) (Q : VK), Inv X pins σ H s → RelV x v → RelV y u → r x y H Q →
    subscripted slice false v u = operate [v, u] (getItem v u) → wpAny (model X.prog X.w) X.A (subscriptTail value slice v u) (EP X pins σ Q) X.xe s
def MtR (X : Cx) (id : String) (r : V → List V → Hp → VK → Prop) : Prop :=
  ∀ (pins : List (Addr × Obj)) (s : Shared) (σ : St) (H : Hp) (x : V) (xs : List V) (v : Value) (us : List Value) (Q : VK), Inv X pins σ H s → RelV x v → Vals xs us → r x xs H Q →
    wpAny (model X.prog X.w) X.A (call (.builtin id) (v :: us)) (EP X pins σ Q) X.xe s
section
variable {X : Cx} {a b : Expr} {ta tb : TE} {pos : Pos}
theorem pe_ix {r : R2} (hr : IxR X r) (ha : PE X a ta) (hb : PE X b tb) (hs : PlainIx b) : PE X (.Subscript a b pos) (tOp r ta tb) := by
  intro pins s σ H Q I h
  exact Subscript_ (binT ha hb I h fun v u s2 x y H2 I2 rx ry q => hr a b pins s2 σ H2 x y v u Q I2 rx ry q (hs _ _))
def rIxL (K : PySem.W.Frag) : R2 := fun x y H Q => ∃ p xs i v, x = .ref p ∧ y = .int i ∧ SqL K H p xs ∧ atI xs i = some v ∧ Q v H
def rIxT (K : PySem.W.Frag) : R2 := fun x y H Q => ∃ p xs i v, x = .ref p ∧ y = .int i ∧ SqT K H p xs ∧ atI xs i = some v ∧ Q v H
theorem ix_list : IxR X (rIxL X.K) := by
  intro value slice pins s σ H x y v u Q I rx ry h hs
  obtain ⟨p, xs, i, z, rfl, rfl, hq, he, q⟩ := h
  cases rx
  obtain ⟨t, rfl⟩ := ry
  obtain ⟨its, r, pl, hz⟩ := I.list hq
  obtain ⟨j, h1, h2, h3, h4, h5⟩ := atI_get he
  obtain ⟨w, ew, rw'⟩ := r.get h2
  have hl := r.length
  have hn := line63
  have fin : EP X pins σ Q w s := ⟨z, H, I, rw', q⟩
  by_cases h0 : 0 ≤ i
  · have hj : i.toNat = j := by
      rw [seqIndex_of h0 h5] at h1
      exact Option.some.inj h1
    exact item_listR pl.isList h0 (by omega) (by rw [hj]; simpa using ew) fin hs
  · have hj : (i + (its.toArray.size : Int)).toNat = j := by
      rw [seqIndex_neg (by omega) h4] at h1
      rw [List.size_toArray, ← hl]
      exact Option.some.inj h1
    exact subscriptTail_builtinR (x := w) pl.isList.typeIs slot_list_getitem.lookup
      (wpAny_getItem_list_neg (Q := fun r s' => r = w ∧ EP X pins σ Q r s') pl.isList (by omega) (by rw [List.size_toArray] <;> omega) (by omega) (by rw [hj]; simpa using ew) ⟨rfl, fin⟩) hs
theorem ix_tup : IxR X (rIxT X.K) := by
  intro value slice pins s σ H x y v u Q I rx ry h hs
  obtain ⟨p, xs, i, z, rfl, rfl, hq, he, q⟩ := h
  cases rx
  obtain ⟨t, rfl⟩ := ry
  obtain ⟨its, r, pl, hz⟩ := I.tuple hq
  obtain ⟨j, h1, h2, h3, h4, h5⟩ := atI_get he
  obtain ⟨w, ew, rw'⟩ := r.get h2
  have hl := r.length
  have hn := line63
  have fin : EP X pins σ Q w s := ⟨z, H, I, rw', q⟩
  exact subscriptTail_builtinR (x := w) pl.typeIs slot_tuple_getitem.lookup
    (getItem_tuple (j := j) (Q := fun r s' => r = w ∧ EP X pins σ Q r s') pl (by omega) (by omega) (by rw [List.size_toArray, ← hl]; exact h1) (by simpa using ew) ⟨rfl, fin⟩) hs
theorem mapSeq_set (its : List Value) (n j : Nat) (u : Value) : Obj.mapSeq (·.setIfInBounds j u) { cls := .type "list", data := .seq its.toArray n } = { cls := .type "list", data := .seq (its.set j u).toArray n } := by
  simp [Obj.mapSeq]
theorem Inv.lst {pins : List (Addr × Obj)} {σ : St} {H : Hp} {s : Shared} {p : Addr} {xs : List V} (I : Inv X pins σ H s) (h : H p = some (.lst xs)) :
    ∃ (its : List Value) (n : Nat), Vals xs its ∧ s.heap.get? p = some { cls := .type "list", data := .seq its.toArray n } ∧ xs.length ≤ sizeLine := by
  obtain ⟨z, its, n, r, e⟩ := I.hok p _ h
  exact ⟨its, n, r, e, z⟩
theorem Inv.lstUpd {pins : List (Addr × Obj)} {σ : St} {H : Hp} {s : Shared} {p : Addr} {xs ys : List V} {its its' : List Value} {n n' : Nat} {f : Obj → Obj} (I : Inv X pins σ H s) (h : H p = some (.lst xs))
    (ho : s.heap.get? p = some { cls := .type "list", data := .seq its.toArray n }) (hf : f { cls := .type "list", data := .seq its.toArray n } = { cls := .type "list", data := .seq its'.toArray n' }) (r : Vals ys its') (hz : ys.length ≤ sizeLine) (t : Nat) :
    Inv X pins σ (upd H p (.lst ys)) { s with heap := s.heap.update p f, toks := t } := by
  have e : (s.heap.update p f).get? p = some { cls := .type "list", data := .seq its'.toArray n' } := by
    rw [Heap.get?_update_self f ho (by rw [hf] <;> rfl), hf]
  refine I.write (x := p) (e := p) (by rw [h]; trivial) (.inl rfl) (fun b u hb q => (Heap.get?_update_other _ _ (Ne.symm hb)).trans q) ⟨_, e⟩ ?_
  exact ⟨hz, its', n', r, e⟩
def rSetL : V → V → V → Hp → (Hp → Prop) → Prop := fun o i v H Q => ∃ p xs k j, o = .ref p ∧ i = .int k ∧ H p = some (.lst xs) ∧ ixN xs.length k = some j ∧ Q (upd H p (.lst (xs.set j v)))
theorem set_list : PSet X rSetL := by
  intro pins s σ H o i v ov iv u Q I ro ri rv h
  obtain ⟨p, xs, k, j, rfl, rfl, hp, hj, q⟩ := h
  cases ro
  obtain ⟨t, rfl⟩ := ri
  obtain ⟨its, n, r, ho, hz⟩ := I.lst hp
  obtain ⟨h1, h2, h3, h4⟩ := ixN_seq hj
  have hl := r.length
  have hn := line63
  have I' : Inv X pins σ (upd H p (.lst (xs.set j v))) { s with heap := s.heap.update p (Obj.mapSeq (·.setIfInBounds j u)) } :=
    I.lstUpd hp ho (mapSeq_set its n j u) (r.set rv j) (by rw [List.length_set]; exact hz) s.toks
  by_cases h0 : 0 ≤ k
  · have hk : k.toNat = j := by
      rw [seqIndex_of h0 h4] at h1
      exact Option.some.inj h1
    exact PySem.W.ki_setAt ho h0 (by omega) (by rw [List.size_toArray, ← hl]; exact h4) (by rw [hk]; exact ⟨_, I', q⟩)
  · have hk : (k + (its.toArray.size : Int)).toNat = j := by
      rw [seqIndex_neg (by omega) h3] at h1
      rw [List.size_toArray, ← hl]
      exact Option.some.inj h1
    exact PySem.W.ki_setBack ho (by omega) (by rw [List.size_toArray, ← hl]; exact h3) (by omega) (by rw [hk]; exact ⟨_, I', q⟩)
theorem slice_bounds (lo hi : Option Int) (n : Nat) : (sliceBounds lo hi none n).1 = ((HT.sIx n 0 lo : Nat) : Int) ∧ (sliceBounds lo hi none n).2.1 = ((HT.sIx n n hi : Nat) : Int) ∧ (sliceBounds lo hi none n).2.2 = 1 := by
  refine ⟨?_, ?_, rfl⟩
  · cases lo with
    | none => simp [sliceBounds, HT.sIx]
    | some i =>
      simp only [sliceBounds, HT.sIx, Option.getD_none, show (1 : Int) > 0 by decide, if_true]
      by_cases h : i < 0
      · simp only [h, if_true] <;> omega
      · simp only [h, if_false] <;> omega
  · cases hi with
    | none => simp [sliceBounds, HT.sIx]
    | some i =>
      simp only [sliceBounds, HT.sIx, Option.getD_none, show (1 : Int) > 0 by decide, if_true]
      by_cases h : i < 0
      · simp only [h, if_true] <;> omega
      · simp only [h, if_false] <;> omega
theorem slicePick_cut (its : List Value) (lo hi : Option Int) : slicePick its.toArray lo hi none = ((its.drop (HT.sIx its.length 0 lo)).take (HT.sIx its.length its.length hi - HT.sIx its.length 0 lo)).toArray := by
  obtain ⟨h1, h2, h3⟩ := slice_bounds lo hi its.toArray.size
  unfold slicePick
  rw [h1, h2, h3]
  simp only [sliceRange_one, pick_run, List.size_toArray] <;> rfl
def rSlL (K : PySem.W.Frag) : V → Option Int → Option Int → Hp → VK → Prop := fun x lo hi H Q => ∃ a xs, x = .ref a ∧ SqL K H a xs ∧ ∀ p, H p = none → Q (.ref p) (upd H p (.lst (cutV xs lo hi)))
theorem sl_list : SlR X (rSlL X.K) := by
  intro pins s σ H x v vl vu lo hi sl Q I rx hs pl pu h
  obtain ⟨a, xs, rfl, hx, q⟩ := h
  cases rx
  obtain ⟨its, r, ht, hz⟩ := I.list hx
  have hlen := r.length
  refine ⟨"list", _, slot_list_getitem.lookup, ht.isList.typeIs, ?_⟩
  refine wpAny_getItem_list_slice ht.isList hs pl pu .none (by simp) ?_ (by rw [List.size_toArray] <;> omega)
  rw [slicePick_cut, ← hlen]
  refine ⟨.ref s.heap.objs.size, _, I.laid (t' := s.toks) (o := .lst (cutV xs lo hi)) (fun b ob q => Heap.get?_push_of_some _ q) (Nat.le_refl _) ?_, rfl, q _ (I.hok.fresh (Nat.le_refl _))⟩
  exact ⟨Nat.le_trans (cutV_length xs lo hi) hz, _, 0, (r.drop (HT.sIx xs.length 0 lo)).take (HT.sIx xs.length xs.length hi - HT.sIx xs.length 0 lo), Heap.get?_push_size _ rfl⟩
def flatV : V → Bool
  | .non => true
  | .bl _ => true
  | .int _ => true
  | .str _ => true
  | _ => false
def eqV : V → V → Bool
  | .non, .non => true
  | .bl a, .bl b => a == b
  | .bl a, .int b => (if a then 1 else 0) == b
  | .int a, .bl b => a == (if b then 1 else 0)
  | .int a, .int b => a == b
  | .str a, .str b => a == b
  | _, _ => false
theorem eqAt_V {A : Around} {s : Shared} {y x : V} {u v : Value} (ry : RelV y u) (rx : RelV x v) (fy : flatV y = true) (fx : flatV x = true) : SeqAt.EqAt A s u v (eqV y x) := by
  cases y with
  | non =>
    cases ry
    cases x with
    | non => cases rx; exact SeqAt.EqAt.same _
    | bl b => cases rx; exact SeqAt.EqAt.none_bool b
    | int b => obtain ⟨t, rfl⟩ := rx; exact SeqAt.EqAt.none_int b t
    | str b => obtain ⟨t, rfl⟩ := rx; exact SeqAt.EqAt.none_str b t
    | _ => exact absurd (show false = true from fx) Bool.false_ne_true
  | bl a =>
    cases ry
    cases x with
    | non => cases rx; exact SeqAt.EqAt.bool_none a
    | bl b => cases rx; exact SeqAt.EqAt.bool_bool a b
    | int b => obtain ⟨t, rfl⟩ := rx; exact SeqAt.EqAt.bool_int a b t
    | str b => obtain ⟨t, rfl⟩ := rx; exact SeqAt.EqAt.bool_str a b t
    | _ => exact absurd (show false = true from fx) Bool.false_ne_true
  | int a =>
    obtain ⟨t', rfl⟩ := ry
    cases x with
    | non => cases rx; exact SeqAt.EqAt.int_none a t'
    | bl b => cases rx; exact SeqAt.EqAt.int_bool a t' b
    | int b => obtain ⟨t, rfl⟩ := rx; exact SeqAt.EqAt.int_int a t' b t
    | str b => obtain ⟨t, rfl⟩ := rx; exact SeqAt.EqAt.int_str a t' b t
    | _ => exact absurd (show false = true from fx) Bool.false_ne_true
  | str a =>
    obtain ⟨t', rfl⟩ := ry
    cases x with
    | non => cases rx; exact SeqAt.EqAt.str_none a t'
    | bl b => cases rx; exact SeqAt.EqAt.str_bool a t' b
    | int b => obtain ⟨t, rfl⟩ := rx; exact SeqAt.EqAt.str_int a t' b t
    | str b => obtain ⟨t, rfl⟩ := rx; exact SeqAt.EqAt.str_str a t' b t
    | _ => exact absurd (show false = true from fx) Bool.false_ne_true
  | _ => exact absurd (show false = true from fy) Bool.false_ne_true
def eqU (x : V) (u : Value) : Bool := match u with
  | .none => eqV .non x
  | .bool b => eqV (.bl b) x
  | .int i _ => eqV (.int i) x
  | .str z _ => eqV (.str z) x
  | _ => false
theorem eqU_of {x y : V} {u : Value} (r : RelV y u) (f : flatV y = true) : eqU x u = eqV y x := by
  cases y with
  | non => cases r; rfl
  | bl b => cases r; rfl
  | int i => obtain ⟨t, rfl⟩ := r; rfl
  | str z => obtain ⟨t, rfl⟩ := r; rfl
  | _ => exact absurd (show false = true from f) Bool.false_ne_true
theorem any_eqU {x : V} : ∀ {xs : List V} {us : List Value}, Vals xs us → xs.all flatV = true → us.any (eqU x) = xs.any fun y => eqV y x
  | _, _, .nil, _ => rfl
  | y :: xs, u :: us, .cons r t, f => by
    rw [List.all_cons, Bool.and_eq_true] at f
    rw [List.any_cons, List.any_cons, eqU_of r f.1, any_eqU t f.2]
theorem mem_eqAt {A : Around} {s : Shared} {x : V} {v : Value} (rx : RelV x v) (fx : flatV x = true) : ∀ {xs : List V} {us : List Value}, Vals xs us → xs.all flatV = true → ∀ u ∈ us, SeqAt.EqAt A s u v (eqU x u)
  | _, _, .nil, _ => fun u hu => by cases hu
  | y :: xs, u :: us, .cons r t, f => fun u' hu => by
    rw [List.all_cons, Bool.and_eq_true] at f
    rcases List.mem_cons.mp hu with rfl | hu
    · rw [eqU_of r f.1]; exact eqAt_V r rx f.1 fx
    · exact mem_eqAt rx fx t f.2 u' hu
def inV (x : V) (xs : List V) : Bool := xs.any fun y => eqV y x
def rIn (K : PySem.W.Frag) (neg : Bool) : R2 := fun x y H Q => ∃ p xs, y = .ref p ∧ (SqL K H p xs ∨ SqT K H p xs) ∧ flatV x = true ∧ xs.all flatV = true ∧ Q (.bl (if neg then !inV x xs else inV x xs)) H
theorem op_in_seq : OpR X (compareOp .In) (rIn X.K false) := by
  intro pins s σ H x y v u Q I rx ry h
  obtain ⟨p, xs, rfl, hq, fx, fs, q⟩ := h
  cases ry
  rcases hq with hq | hq
  · obtain ⟨its, r, pl, hz⟩ := I.list hq
    refine SeqAt.in_listAt (eqU x) pl.isList (fun w hw => mem_eqAt rx fx r fs w (by simpa using hw)) ⟨.bl _, H, I, rfl, ?_⟩
    rw [show its.toArray.any (eqU x) = its.any (eqU x) by simp, any_eqU r fs]
    exact q
  · obtain ⟨its, r, pl, hz⟩ := I.tuple hq
    refine SeqAt.in_tupleAt (eqU x) pl (fun w hw => mem_eqAt rx fx r fs w (by simpa using hw)) ⟨.bl _, H, I, rfl, ?_⟩
    rw [show its.toArray.any (eqU x) = its.any (eqU x) by simp, any_eqU r fs]
    exact q
theorem call_len_seq : CallR X (.builtin "len") (fun xs H Q => ∃ p ys, xs = [.ref p] ∧ (SqL X.K H p ys ∨ SqT X.K H p ys) ∧ Q (.int ys.length) H) := by
  intro pins s σ H xs us Q I r h
  obtain ⟨p, ys, rfl, hq, q⟩ := h
  obtain ⟨u, rfl, rx⟩ := vals1 r
  cases rx
  have hn := line63
  rcases hq with hq | hq
  · obtain ⟨its, r', pl, hz⟩ := I.list hq
    have hlen := r'.length
    exact Calls.call_len_list pl.isList (by simp only [List.size_toArray] <;> omega) ⟨.int ys.length, H, I.tok _, ⟨s.toks + 1, by rw [List.size_toArray, hlen]⟩, q⟩
  · obtain ⟨its, r', pl, hz⟩ := I.tuple hq
    have hlen := r'.length
    exact len_tuple pl (by simp only [List.size_toArray] <;> omega) ⟨.int ys.length, H, I.tok _, ⟨s.toks + 1, by rw [List.size_toArray, hlen]⟩, q⟩
theorem call_list_of : CallR X (.type "list") (fun xs H Q => ∃ p ys, xs = [.ref p] ∧ (SqL X.K H p ys ∨ SqT X.K H p ys) ∧ ∀ l, H l = none → Q (.ref l) (upd H l (.lst ys))) := by
  intro pins s σ H xs us Q I r h
  obtain ⟨p, ys, rfl, hq, q⟩ := h
  obtain ⟨u, rfl, rx⟩ := vals1 r
  cases rx
  have fin : ∀ (its : List Value), Vals ys its → ys.length ≤ sizeLine → ∀ (h' : Heap) (c' : Nat), (∀ b o', s.heap.get? b = some o' → h'.get? b = some o') →
      h'.get? s.heap.objs.size = some { cls := .type "list", dict := none, data := .seq its.toArray c', slots := #[] } → EP X pins σ Q (.ref s.heap.objs.size) { s with heap := h' } := fun its r' hz h' c' kp e =>
    ⟨.ref s.heap.objs.size, _, I.laid (t' := s.toks) kp (Nat.le_refl _) (show ObjOk X.prog X.w _ h' _ (.lst ys) from ⟨hz, its, c', r', e⟩), rfl, q _ (I.hok.fresh (Nat.le_refl _))⟩
  rcases hq with hq | hq
  · obtain ⟨its, r', pl, hz⟩ := I.list hq
    have hlen := r'.length
    obtain ⟨o, ho, hc, n, hd⟩ := pl.isList
    exact call_list_seq p (.inl rfl) ho hc hd (fun h' c' kp e => fin its r' hz h' c' kp e) (by simp only [List.size_toArray] <;> omega)
  · obtain ⟨its, r', pl, hz⟩ := I.tuple hq
    have hlen := r'.length
    obtain ⟨o, ho, hc, n, hd⟩ := pl
    exact call_list_seq p (.inr rfl) ho hc hd (fun h' c' kp e => fin its r' hz h' c' kp e) (by simp only [List.size_toArray] <;> omega)
theorem call_tuple_of : CallR X (.type "tuple") (fun xs H Q => ∃ p ys, xs = [.ref p] ∧ ((SqL X.K H p ys ∧ ∀ l, H l = none → Q (.ref l) (upd H l (.tup ys))) ∨ (SqT X.K H p ys ∧ Q (.ref p) H))) := by
  intro pins s σ H xs us Q I r h
  obtain ⟨p, ys, rfl, h⟩ := h
  obtain ⟨u, rfl, rx⟩ := vals1 r
  cases rx
  rcases h with ⟨hq, q⟩ | ⟨hq, q⟩
  · obtain ⟨its, r', pl, hz⟩ := I.list hq
    have hlen := r'.length
    refine call_tuple_list pl.isList (fun h' kp => ?_) (by simp only [List.size_toArray] <;> omega)
    have I1 : Inv X pins σ H { s with heap := h' } := I.kept (t' := s.toks) kp
    have I2 : Inv X pins σ (upd H h'.objs.size (.tup ys)) { s with heap := h'.push { cls := .type "tuple", data := .seq its.toArray } } :=
      I1.laid (t' := s.toks) (fun b o e => Heap.get?_push_of_some _ e) (Nat.le_refl _) (show ObjOk X.prog X.w _ _ _ (.tup ys) from ⟨hz, its, r', IsTup.new _ _⟩)
    exact ⟨.ref h'.objs.size, _, I2, rfl, q _ (I1.hok.fresh (Nat.le_refl _))⟩
  · obtain ⟨its, r', pl, hz⟩ := I.tuple hq
    exact call_tuple_same pl ⟨.ref p, H, I, rfl, q⟩
def tyV (K : PySem.W.Frag) (T : String) (x : V) (H : Hp) : Prop := match x with
  | .str _ => T = "str"
  | .int _ => T = "int"
  | .ref p => (T = "list" ∧ ∃ xs, SqL K H p xs) ∨ (T = "tuple" ∧ ∃ o, K.lookup p = some o ∧ o.cls = .type "tuple" ∧ o.dict = none) ∨
      (T = "dict" ∧ ((∃ kvs, H p = some (.dK kvs)) ∨ ∃ kvs, H p = some (.dT kvs))) ∨ (T = "set" ∧ ∃ S n, H p = some (.set S n))
  | _ => False
theorem tyV_is {pins : List (Addr × Obj)} {σ : St} {H : Hp} {s : Shared} {T : String} {x : V} {v : Value} (I : Inv X pins σ H s) (r : RelV x v) (ty : tyV X.K T x H) :
    s.TypeIs v T ∧ ∀ a, v = .ref a → ∃ ob, s.heap.get? a = some ob ∧ ob.dict = none := by
  cases x with
  | str z =>
    obtain ⟨t, rfl⟩ := r
    cases (show T = "str" from ty)
    exact ⟨typeIs_str s z t, fun _ e => nomatch e⟩
  | int i =>
    obtain ⟨t, rfl⟩ := r
    cases (show T = "int" from ty)
    exact ⟨typeIs_int s i t, fun _ e => nomatch e⟩
  | ref p =>
    cases r
    rcases ty with ⟨rfl, xs, hq⟩ | ⟨rfl, o, hk, hc, hd⟩ | ⟨rfl, hk⟩ | ⟨rfl, S, n, hk⟩
    · obtain ⟨its, _, pl, _⟩ := I.list hq
      refine ⟨pl.isList.typeIs, fun a e => ?_⟩
      cases e
      obtain ⟨o, n, e, c, hd, _⟩ := pl
      exact ⟨o, e, hd⟩
    · refine ⟨⟨o, I.kIn p o hk, hc⟩, fun a e => ?_⟩
      cases e
      exact ⟨o, I.kIn _ o hk, hd⟩
    · have z : ∃ o, s.heap.get? p = some o ∧ o.ExactDict := by
        rcases hk with ⟨kvs, hk⟩ | ⟨kvs, hk⟩
        · obtain ⟨_, _, _, _, o, _, _, e, ex, _⟩ := I.hok p _ hk
          exact ⟨o, e, ex⟩
        · obtain ⟨_, _, _, _, o, _, _, e, ex, _⟩ := I.hok p _ hk
          exact ⟨o, e, ex⟩
      obtain ⟨o, e, ex⟩ := z
      refine ⟨⟨o, e, ex.1⟩, fun a e2 => ?_⟩
      cases e2
      exact ⟨o, e, ex.2.1⟩
    · obtain ⟨o, _, _, _, e, ex, _⟩ := I.hok p _ hk
      refine ⟨⟨o, e, ex.1⟩, fun a e2 => ?_⟩
      cases e2
      exact ⟨o, e, ex.2.1⟩
  | _ => exact False.elim ty
def tBM (K : PySem.W.Frag) (T : String) (r : V → List V → Hp → VK → Prop) (to : TE) (t : TA) : TE := fun σ H Q => to σ H fun x H1 => tyV K T x H1 ∧ t σ H1 fun xs H2 => r x xs H2 Q
variable {o e : Expr} {es : List Expr} {to : TE} {t : TA} {name : Str} {apos cpos : Pos} {T id : String} {r : V → List V → Hp → VK → Prop}
theorem pe_bm (pa : PlainAttrs T) (slot : Slot T name id) (hty : typeOf (.builtin id) = pure (.type "method_descriptor")) (hm : MtR X id r) (ho : PE X o to) (ha : PA X (e :: es) t)
    (hbase : attributeBase o name X.env (eval o X.env) = eval o X.env := by rfl)
    (hfew : ((backTo cpos (starEach (e :: es) X.env)).all (fun x => !x.1) && (backToKw cpos (keywordEach [] X.env)).all (fun x => x.1.isSome)
      && decide ((e :: es).length + ([] : List Keyword).length + (if ([] : List Keyword).isEmpty then 0 else 1) < 30)) = true := by rfl)
    (hline : (apos.endLine == cpos.line) = true := by rfl) (hs : starEach (e :: es) X.env = (false, eval e X.env) :: starEach es X.env := by rfl) (hplain : (backTo cpos (starEach es X.env)).any (·.1) = false := by rfl) :
    PE X (.Call (.Attribute o name apos) (e :: es) [] cpos) (tBM X.K T r to t) := by
  intro pins s σ H Q I h
  refine wpAny_Call_method_late hbase hfew hline rfl (thn (ho pins s σ H _ I h) fun v s1 ⟨x, H1, I1, r1, ty, q1⟩ => ?_)
  obtain ⟨h1, h2⟩ := tyV_is I1 r1 ty
  refine ⟨T, id, pa, slot, hty, h1, h2, ?_⟩
  have hA := ha cpos pins s1 σ H1 _ I1 q1
  rw [hs] at hA ⊢
  refine Calls.callWith_builtin (by show (false || (backTo cpos (starEach es X.env)).any (·.1)) = false; rw [hplain] <;> rfl) (Calls.evalArgs_plain ?_)
  exact thn hA fun us s2 ⟨vs, H2, I2, r2, q2⟩ => hm pins s2 σ H2 x vs v us Q I2 r1 r2 q2
end
end L2
namespace L2
open PySem PySem.Spec PyProof.Rows
def MtM (X : Cx) (id : String) (r : V → List V → Hp → VK → Prop) : Prop :=
  ∀ (pins : List (Addr × Obj)) (s : Shared) (σ : St) (H : Hp) (x : V) (xs : List V) (v : Value) (us : List Value) (Q : VK), Inv X pins σ H s → RelV x v → Vals xs us → r x xs H Q →
    wpAny (model X.prog X.w) X.A (call (.builtin id) (v :: us)) (EP X pins σ Q) X.xe s
theorem Vals.one : ∀ {x : V} {us : List Value}, Vals [x] us → ∃ u, us = [u] ∧ RelV x u
  | _, _, .cons r .nil => ⟨_, rfl, r⟩
section
variable {X : Cx} {pins : List (Addr × Obj)} {σ : St} {H : Hp} {s : Shared} {l b : Addr} {xs ys zs : List V}
theorem Inv.lset {its its' : List Value} {n : Nat} {f : Array Value → Array Value} {t' : Nat} (I : Inv X pins σ H s) (hH : H l = some (.lst xs))
    (e : s.heap.get? l = some { cls := .type "list", data := .seq its.toArray n }) (hf : f its.toArray = its'.toArray) (hv : Vals ys its') (hz : ys.length ≤ sizeLine) :
    Inv X pins σ (upd H l (.lst ys)) { s with heap := s.heap.update l (Obj.mapSeq f), toks := t' } := by
  have q := PySem.IsL.update e f
  rw [hf] at q
  refine I.write (x := l) (e := l) (by rw [hH]; exact trivial) (.inl rfl) (fun b' u hb hu => (Heap.get?_update_other s.heap (Obj.mapSeq f) (Ne.symm hb)).trans hu) ⟨_, q⟩ ?_
  exact ⟨hz, its', _, hv, q⟩
theorem Inv.lnew {its : List Value} {t' : Nat} (I : Inv X pins σ H s) (hv : Vals ys its) (hz : ys.length ≤ sizeLine) :
    Inv X pins σ (upd H s.heap.objs.size (.lst ys)) { s with heap := s.heap.push { cls := .type "list", data := .seq its.toArray }, toks := t' } :=
  I.laid (fun _ _ q => Heap.get?_push_of_some _ q) (Nat.le_refl _) ⟨hz, its, 0, hv, Heap.get?_push_size _ rfl⟩
theorem Inv.fresh (I : Inv X pins σ H s) : H s.heap.objs.size = none := I.hok.fresh (Nat.le_refl _)
theorem Inv.lstM (I : Inv X pins σ H s) (hH : H l = some (.lst xs)) : xs.length ≤ sizeLine ∧ ∃ (its : List Value) (n : Nat), Vals xs its ∧ xs.length = its.length ∧ s.heap.get? l = some { cls := .type "list", data := .seq its.toArray n } := by
  obtain ⟨z, its, n, r, e⟩ := I.hok l _ hH
  exact ⟨z, its, n, r, r.length, e⟩
theorem notLongL {n : Nat} (h : n ≤ sizeLine) : Builtin.List.listTooLong n = false := by
  unfold Builtin.List.listTooLong
  exact decide_eq_false (by omega)
end
section
variable {X : Cx}
def rAppend : V → List V → Hp → VK → Prop := fun x vs H Q => ∃ l xs y, x = .ref l ∧ vs = [y] ∧ H l = some (.lst xs) ∧ xs.length < sizeLine ∧ Q .non (upd H l (.lst (xs ++ [y])))
theorem mt_append : MtM X "list.append" rAppend := by
  intro pins s σ H x vs v us Q I rx rv h
  obtain ⟨l, xs, y, rfl, rfl, hH, hz, q⟩ := h
  cases rx
  obtain ⟨u, rfl, ru⟩ := rv.one
  obtain ⟨z, its, n, r, hl, e⟩ := I.lstM hH
  refine call_meets F.slot_list_append ⟨_, e, rfl⟩ F.entry_list_append (F.args_list_append_2 _ _) (PySem.list_append l its.toArray n u (by rw [List.size_toArray]; omega)) ⟨e, ?_⟩
  refine ⟨.non, _, I.lset (its' := its ++ [u]) hH e (by simp) (r.append (.cons ru .nil)) ?_, rfl, q⟩
  rw [List.length_append, List.length_singleton]
  omega
def rExtend : V → List V → Hp → VK → Prop := fun x vs H Q => ∃ l b xs zs, x = .ref l ∧ vs = [.ref b] ∧ H l = some (.lst xs) ∧ H b = some (.lst zs) ∧ xs.length + zs.length ≤ sizeLine ∧ Q .non (upd H l (.lst (xs ++ zs)))
theorem mt_extend : MtM X "list.extend" rExtend := by
  intro pins s σ H x vs v us Q I rx rv h
  obtain ⟨l, b, xs, zs, rfl, rfl, hH, hB, hz, q⟩ := h
  cases rx
  obtain ⟨u, rfl, ru⟩ := rv.one
  cases ru
  obtain ⟨z, its, n, r, hl, e⟩ := I.lstM hH
  obtain ⟨z2, its2, n2, r2, hl2, e2⟩ := I.lstM hB
  have hsz : its.toArray.size + its2.toArray.size ≤ sizeLine := by rw [List.size_toArray, List.size_toArray]; omega
  have hlong : ¬ (!its.toArray.isEmpty && Builtin.List.listTooLong (its.toArray.size + its2.toArray.size)) = true := by
    rw [notLongL hsz, Bool.and_false]
    exact Bool.false_ne_true
  refine call_meets F.slot_list_extend ⟨_, e, rfl⟩ F.entry_list_extend (F.args_list_extend_2 _ _)
    (AutoSeq1.list_extend_list_list_0 l its.toArray n b its2.toArray n2 hlong (by rw [List.size_toArray]; omega) (by omega)) ⟨e, e2, ?_⟩
  refine ⟨.non, _, I.lset (its' := its ++ its2) hH e (by simp) (r.append r2) ?_, rfl, q⟩
  rw [List.length_append]
  omega
def rCat : R2 := fun x y H Q => ∃ l b xs zs, x = .ref l ∧ y = .ref b ∧ H l = some (.lst xs) ∧ H b = some (.lst zs) ∧ xs.length + zs.length ≤ sizeLine ∧ ∀ p, H p = none → Q (.ref p) (upd H p (.lst (xs ++ zs)))
theorem op_cat : OpR X (binaryOp .Add) rCat := by
  intro pins s σ H x y v u Q I rx ry h
  obtain ⟨l, b, xs, zs, rfl, rfl, hH, hB, hz, q⟩ := h
  cases rx
  cases ry
  obtain ⟨z, its, n, r, hl, e⟩ := I.lstM hH
  obtain ⟨z2, its2, n2, r2, hl2, e2⟩ := I.lstM hB
  refine PySem.P.add_list e e2 ?_ (by rw [List.size_toArray, List.size_toArray]; omega)
  have ea : its.toArray ++ its2.toArray = (its ++ its2).toArray := by simp
  rw [ea]
  exact ⟨.ref _, _, I.lnew (t' := s.toks) (r.append r2) (by rw [List.length_append]; omega), rfl, q _ I.fresh⟩
end
section
variable {prog : Program} {w : World} {A : Around} {E : Value → Shared → Prop} {s : Shared}
end
section
variable {X : Cx}
end
end L2
namespace L2
open PySem PySem.Spec PyProof.Rows
theorem Vals.ints : ∀ {ns : List Int} {us : List Value}, Vals (ns.map V.int) us → IntsAre us ns
  | [], us, h => by
    rw [List.map_nil] at h
    cases h
    exact IntsAre.nil
  | n :: ns, us, h => by
    rw [List.map_cons] at h
    cases h with
    | cons r t =>
      obtain ⟨k, rfl⟩ := r
      exact IntsAre.cons n k (Vals.ints t)
theorem Vals.ref1 {a : Addr} {us : List Value} (r : Vals [V.ref a] us) : us = [Value.ref a] := by
  cases r with
  | cons r t =>
    cases t
    cases r
    rfl
section
variable {prog : Program} {w : World} {A : Around} {E : Value → Shared → Prop} {s : Shared} {l : Addr} {its : List Value} {ns : List Int} {Q : Value → Shared → Prop}
theorem min_raw (hh : A.handled = none) (hl : s.heap.IsList l its.toArray) (hi : IntsAre its ns) (hne : 0 < ns.length)
    (h : ∀ h' tk M t', (∀ b o, s.heap.get? b = some o → h'.get? b = some o) → M ∈ ns → (∀ a, a ∈ ns → M ≤ a) → Q (.int M t') { s with heap := h', toks := tk }) : wpAny (model prog w) A (call (.builtin "min") [.ref l]) Q E s := by
  obtain ⟨xs, e⟩ := hi.allInts.items
  have hn : numsOf (intItems xs).toList = ns := by rw [← e]; exact hi.numsOf
  rw [nums_intItems] at hn
  subst hn
  rw [e] at hl
  have hsz : 0 < xs.size := by simpa using hne
  refine PySem.min_intList hh hl hsz fun v h' tk hv hk => ?_
  obtain ⟨t, rfl⟩ := intItems_at hv
  obtain ⟨h1, h2⟩ := argBest_lt (numAt xs) (xs.size - 1)
  refine h h' tk _ t hk ?_ fun a ha => ?_
  · rw [numAt_eq]; exact PySem.getD_mem (by rw [List.length_map, Array.length_toList]; omega)
  · obtain ⟨j, hj, rfl⟩ := mem_getD ha
    rw [List.length_map, Array.length_toList] at hj
    rw [← numAt_eq]; exact h2 j (by omega)
end
section
variable {X : Cx}
def rMin (K : PySem.W.Frag) : List V → Hp → VK → Prop := fun vs H Q => ∃ (a : Addr) (ns : List Int), vs = [V.ref a] ∧ SqL K H a (ns.map V.int) ∧ 0 < ns.length ∧ ∀ m, m ∈ ns → (∀ y, y ∈ ns → m ≤ y) → Q (.int m) H
theorem cr_min (hc : X.calm = true) : CallR X (.builtin "min") (rMin X.K) := by
  intro pins s σ H vs us Q I r h
  obtain ⟨a, ns, rfl, hs, hne, q⟩ := h
  obtain ⟨its, rv, hl, _⟩ := I.list hs
  rw [Vals.ref1 r]
  exact min_raw (I.ok.hd hc) hl.isList rv.ints hne fun h' tk m t' hk h1 h2 => ⟨.int _, H, I.kept hk, ⟨_, rfl⟩, q m h1 h2⟩
end
section
variable {X : Cx}
end
section
variable {X : Cx}
end
section
variable {X : Cx}
end
mutual
inductive Dp (K : PySem.W.Frag) (H : Hp) : V → PyData → Prop
  | non : Dp K H .non .none
  | bl (b : Bool) : Dp K H (.bl b) (.bool b)
  | int (i : Int) : Dp K H (.int i) (.int i)
  | str (x : Str) : Dp K H (.str x) (.str x)
  | lst {a : Addr} {xs : List V} {ds : List PyData} : SqL K H a xs → DpAll K H xs ds → Dp K H (.ref a) (.list ds)
  | tup {a : Addr} {xs : List V} {ds : List PyData} : SqT K H a xs → DpAll K H xs ds → Dp K H (.ref a) (.tuple ds)
inductive DpAll (K : PySem.W.Frag) (H : Hp) : List V → List PyData → Prop
  | nil : DpAll K H [] []
  | cons {v : V} {vs : List V} {d : PyData} {ds : List PyData} : Dp K H v d → DpAll K H vs ds → DpAll K H (v :: vs) (d :: ds)
end
section
variable {X : Cx} {pins : List (Addr × Obj)} {σ : St} {H : Hp} {s : Shared}
mutual
theorem Dp.reads (I : Inv X pins σ H s) : ∀ (d : PyData) (v : V) (u : Value), Dp X.K H v d → RelV v u → ∃ as, Reads s.heap u d as
  | .none, _, _, h, r => by
    cases h
    cases r
    exact ⟨_, Reads.none⟩
  | .bool b, _, _, h, r => by
    cases h
    cases r
    exact ⟨_, Reads.bool b⟩
  | .int i, _, _, h, r => by
    cases h
    obtain ⟨t, rfl⟩ := r
    exact ⟨_, Reads.int i t⟩
  | .str x, _, _, h, r => by
    cases h
    obtain ⟨t, rfl⟩ := r
    exact ⟨_, Reads.str x t⟩
  | .list ds, _, _, h, r => by
    cases h with
    | lst hs ha =>
      cases r
      obtain ⟨its, rv, ⟨o, n, ho, hc, _, hd⟩, _⟩ := I.list hs
      obtain ⟨as, hr⟩ := Dp.readsAll I ds _ its ha rv
      exact ⟨_, Reads.list ho hc hd hr⟩
  | .tuple ds, _, _, h, r => by
    cases h with
    | tup hs ha =>
      cases r
      obtain ⟨its, rv, ⟨o, ho, hc, n, hd⟩, _⟩ := I.tuple hs
      obtain ⟨as, hr⟩ := Dp.readsAll I ds _ its ha rv
      exact ⟨_, Reads.tuple ho hc hd hr⟩
  | .dict _, _, _, h, _ => by cases h
theorem Dp.readsAll (I : Inv X pins σ H s) : ∀ (ds : List PyData) (vs : List V) (us : List Value), DpAll X.K H vs ds → Vals vs us → ∃ as, ReadsAll s.heap us ds as
  | [], _, _, h, r => by
    cases h
    cases r
    exact ⟨_, ReadsAll.nil⟩
  | d :: ds, _, _, h, r => by
    cases h with
    | cons h1 h2 =>
      cases r with
      | cons r1 r2 =>
        obtain ⟨as, q1⟩ := Dp.reads I d _ _ h1 r1
        obtain ⟨bs, q2⟩ := Dp.readsAll I ds _ _ h2 r2
        exact ⟨_, ReadsAll.cons q1 q2⟩
end
end
section
variable {X : Cx}
end
end L2
namespace L2
open PySem PySem.Spec PyProof.Rows
abbrev CellAt (h : Heap) (c : Addr) (v : Option Value) : Prop := h.IsCell c v
def relS (scope sc : Scope) : Scope :=
  { scope with names := scope.names.map fun (n, k) => if (k == .free && sc.kind == .function && sc.names.lookup n == some .cell) then (n, .cell) else (n, k) }
def cloFrom (cells : List (Str × Addr)) : List (Str × NameKind) → List (Str × Addr) → List (Str × Addr)
  | [], acc => acc
  | (n, k) :: r, acc => if k == .free then cloFrom cells r ((n, (cells.lookup n).getD 0) :: acc) else cloFrom cells r acc
theorem closure_loop (env : Env) (f : Str × NameKind → List (Str × Addr) → Sem (ForInStep (List (Str × Addr))))
    (hf : ∀ n k c, f (n, k) c = if k == .free then (do let a ← cellOf env n; pure (.yield ((n, a) :: c))) else pure (.yield c)) :
    ∀ (names : List (Str × NameKind)) (acc : List (Str × Addr)), (∀ y ∈ names, y.2 = .free → ∃ c, env.cells.lookup y.1 = some c) → forIn names acc f = pure (cloFrom env.cells names acc)
  | [], acc, _ => by rw [List.forIn_nil]; rfl
  | (n, k) :: r, acc, h => by
    rw [List.forIn_cons, hf]
    have ih := fun acc => closure_loop env f hf r acc fun y hy => h y (List.mem_cons_of_mem _ hy)
    unfold cloFrom
    by_cases hk : (k == NameKind.free) = true
    · rw [if_pos hk, if_pos hk]
      obtain ⟨c, hc⟩ := h (n, k) List.mem_cons_self (by simpa using hk)
      have e : cellOf env n = pure c := by unfold cellOf; rw [hc]
      rw [e]
      have e2 : (env.cells.lookup n).getD 0 = c := by rw [hc]; rfl
      rw [e2]
      exact ih _
    · rw [if_neg hk, if_neg hk]
      exact ih _
theorem closure_ok {scope : Scope} {env : Env} (h : ∀ y ∈ scope.names, y.2 = .free → ∃ c, env.cells.lookup y.1 = some c) : closureFor scope env = pure (cloFrom env.cells scope.names []) := by
  simp only [closureFor]
  rw [closure_loop env _ (fun n k c => rfl) scope.names [] h]
  rfl
theorem mem_lookup {α : Type} : ∀ {l : List (Str × α)} {n : Str} {c : α}, (n, c) ∈ l → ∃ c', l.lookup n = some c'
  | (k, v) :: r, n, c, h => by
    rw [List.lookup_cons]
    cases hb : n == k with
    | true => exact ⟨_, rfl⟩
    | false =>
      rcases List.mem_cons.mp h with e | h
      · cases e; simp at hb
      · exact mem_lookup h
theorem cloFrom_mem {cells : List (Str × Addr)} : ∀ {names : List (Str × NameKind)} {acc : List (Str × Addr)} {n : Str} {c : Addr}, (n, c) ∈ cloFrom cells names acc → (n, c) ∈ acc ∨ ((n, .free) ∈ names ∧ c = (cells.lookup n).getD 0)
  | [], _, _, _, h => .inl h
  | (m, k) :: r, acc, n, c, h => by
    unfold cloFrom at h
    split at h
    · rename_i hk
      have hk : k = .free := by simpa using hk
      rcases cloFrom_mem h with h | ⟨h1, h2⟩
      · rcases List.mem_cons.mp h with e | h
        · cases e; exact .inr ⟨hk ▸ List.mem_cons_self, rfl⟩
        · exact .inl h
      · exact .inr ⟨List.mem_cons_of_mem _ h1, h2⟩
    · rcases cloFrom_mem h with h | ⟨h1, h2⟩
      · exact .inl h
      · exact .inr ⟨List.mem_cons_of_mem _ h1, h2⟩
theorem cloFrom_acc {cells : List (Str × Addr)} : ∀ {names : List (Str × NameKind)} {acc : List (Str × Addr)} {p : Str × Addr}, p ∈ acc → p ∈ cloFrom cells names acc
  | [], _, _, h => h
  | (m, k) :: r, acc, p, h => by
    unfold cloFrom
    split
    · exact cloFrom_acc (List.mem_cons_of_mem _ h)
    · exact cloFrom_acc h
theorem cloFrom_has {cells : List (Str × Addr)} : ∀ {names : List (Str × NameKind)} {acc : List (Str × Addr)} {n : Str}, (n, .free) ∈ names → (n, (cells.lookup n).getD 0) ∈ cloFrom cells names acc
  | (m, k) :: r, acc, n, h => by
    unfold cloFrom
    rcases List.mem_cons.mp h with e | h
    · cases e
      exact cloFrom_acc List.mem_cons_self
    · split
      · exact cloFrom_has h
      · exact cloFrom_has h
theorem cells_mem : ∀ {names : List (Str × NameKind)} {h : Heap} {acc : List (Str × Addr)} {x : Str} {c : Addr}, (x, c) ∈ cellsFrom h.objs.size names acc →
    (x, c) ∈ acc ∨ ((x, .cell) ∈ names ∧ h.objs.size ≤ c ∧ CellAt (pushCells h names) c none)
  | [], _, _, _, _, h => .inl h
  | (n, k) :: r, h, acc, x, c, hm => by
    unfold cellsFrom at hm
    unfold pushCells
    split at hm
    · rename_i hk
      rw [if_pos hk]
      have hk : k = .cell := by simpa using hk
      rw [← Heap.size_push h { cls := .type "cell", data := .cell none }] at hm
      rcases cells_mem hm with hm | ⟨h1, h2, h3⟩
      · rcases List.mem_cons.mp hm with e | hm
        · cases e
          exact .inr ⟨hk ▸ List.mem_cons_self, Nat.le_refl _, _, pushCells_keeps r _ _ _ (Heap.get?_push_size _ rfl), rfl⟩
        · exact .inl hm
      · rw [Heap.size_push] at h2
        exact .inr ⟨List.mem_cons_of_mem _ h1, Nat.le_of_succ_le h2, h3⟩
    · rename_i hk
      rw [if_neg hk]
      rcases cells_mem hm with hm | ⟨h1, h2, h3⟩
      · exact .inl hm
      · exact .inr ⟨List.mem_cons_of_mem _ h1, h2, h3⟩
theorem cells_acc : ∀ {names : List (Str × NameKind)} {n : Nat} {acc : List (Str × Addr)} {p : Str × Addr}, p ∈ acc → p ∈ cellsFrom n names acc
  | [], _, _, _, h => h
  | (m, k) :: r, n, acc, p, h => by
    unfold cellsFrom
    split
    · exact cells_acc (List.mem_cons_of_mem _ h)
    · exact cells_acc h
theorem cells_has : ∀ {names : List (Str × NameKind)} {n : Nat} {acc : List (Str × Addr)} {x : Str}, (x, .cell) ∈ names → ∃ c, (x, c) ∈ cellsFrom n names acc
  | (m, k) :: r, n, acc, x, h => by
    unfold cellsFrom
    rcases List.mem_cons.mp h with e | h
    · cases e
      exact ⟨n, cells_acc List.mem_cons_self⟩
    · split
      · exact cells_has h
      · exact cells_has h
theorem cells_inj : ∀ {names : List (Str × NameKind)} {h : Heap} {acc : List (Str × Addr)} {x y : Str} {c : Addr}, (∀ p ∈ acc, p.2 < h.objs.size) → (∀ x y c, (x, c) ∈ acc → (y, c) ∈ acc → x = y) →
    (x, c) ∈ cellsFrom h.objs.size names acc → (y, c) ∈ cellsFrom h.objs.size names acc → x = y
  | [], _, _, _, _, _, _, hi, h1, h2 => hi _ _ _ h1 h2
  | (n, k) :: r, h, acc, x, y, c, hl, hi, h1, h2 => by
    unfold cellsFrom at h1 h2
    split at h1
    · rename_i hk
      rw [if_pos hk] at h2
      rw [← Heap.size_push h { cls := .type "cell", data := .cell none }] at h1 h2
      refine cells_inj (h := h.push _) (fun p hp => ?_) (fun x y c a b => ?_) h1 h2
      · rw [Heap.size_push]
        rcases List.mem_cons.mp hp with rfl | hp
        · exact Nat.lt_succ_self _
        · exact Nat.lt_succ_of_lt (hl p hp)
      · rcases List.mem_cons.mp a with e | a <;> rcases List.mem_cons.mp b with e' | b
        · cases e; cases e'; rfl
        · cases e; exact absurd (hl _ b) (Nat.lt_irrefl _)
        · cases e'; exact absurd (hl _ a) (Nat.lt_irrefl _)
        · exact hi _ _ _ a b
    · rename_i hk
      rw [if_neg hk] at h2
      exact cells_inj hl hi h1 h2
theorem newEnv_comp {M : Model} {A : Around} {E : Value → Shared → Prop} {s : Shared} {scope : Scope} {globals : Addr} {closure : List (Str × Addr)} {qual : Str} {func : Option Addr} {code : Value} {around : Env} {builtins : Addr} {Q : Env → Shared → Prop}
    (h : Q (newEnv scope s.heap.objs.size globals (cellsFrom (s.heap.objs.size + 1) scope.names closure) qual func code (some around) builtins)
      { s with heap := pushCells (s.heap.push { cls := .type "dict", data := .dict #[] }) scope.names }) :
    wpAny M A (newFunctionEnv scope globals closure [] qual func code (some around) builtins) Q E s := by
  simp only [newFunctionEnv, Option.isSome_some, if_true]
  refine wpAny_bind (wpAny_alloc ?_)
  refine wpAny_bind (wpAny_layCells _ (fun n k c => rfl) scope.names closure _ _ ?_)
  rw [show ({ s with heap := s.heap.push { cls := .type "dict", data := .dict #[] } } : Shared).heap.objs.size = s.heap.objs.size + 1 from Heap.size_push ..]
  rw [List.forIn_nil]
  exact wpAny_bind (wpAny_pure (wpAny_pure h))
theorem lookup_relS {sc : Scope} : ∀ {names : List (Str × NameKind)} {x : Str} {k : NameKind},
    (names.map fun (n, k) => if (k == NameKind.free && sc.kind == .function && sc.names.lookup n == some .cell) then (n, NameKind.cell) else (n, k)).lookup x = some k →
    ∃ k', names.lookup x = some k' ∧ (k = k' ∨ (k' = .free ∧ k = .cell))
  | [], _, _, h => by simp at h
  | (n, k₀) :: r, x, k, h => by
    have ih := @lookup_relS sc r x k
    have h' : List.lookup x ((if (k₀ == NameKind.free && sc.kind == .function && sc.names.lookup n == some .cell) = true then (n, NameKind.cell) else (n, k₀)) :: (r.map _)) = some k := h
    cases hx : x == n with
    | true =>
      simp only [List.lookup_cons, hx]
      by_cases hc : (k₀ == NameKind.free && sc.kind == .function && sc.names.lookup n == some .cell) = true
      · rw [if_pos hc] at h'
        simp only [List.lookup_cons, hx] at h'
        cases h'
        simp only [Bool.and_eq_true, beq_iff_eq] at hc
        exact ⟨k₀, rfl, .inr ⟨hc.1.1, rfl⟩⟩
      · rw [if_neg hc] at h'
        simp only [List.lookup_cons, hx] at h'
        cases h'
        exact ⟨_, rfl, .inl rfl⟩
    | false =>
      simp only [List.lookup_cons, hx]
      by_cases hc : (k₀ == NameKind.free && sc.kind == .function && sc.names.lookup n == some .cell) = true
      · rw [if_pos hc] at h'
        simp only [List.lookup_cons, hx] at h'
        exact ih h'
      · rw [if_neg hc] at h'
        simp only [List.lookup_cons, hx] at h'
        exact ih h'
structure BlkOk (N : List Str) (sc scope : Scope) (own : List (Str × Nat)) : Prop where
  kind : scope.kind = .function
  uniq : ∀ y ∈ scope.names, scope.names.lookup y.1 = some y.2
  ix : ∀ p ∈ own, N[p.2]? = some p.1
  free : ∀ y ∈ scope.names, y.2 = .free → sc.names.lookup y.1 = some .cell ∨ sc.names.lookup y.1 = some .free
  own : ∀ y ∈ scope.names, y.2 = .local ∨ y.2 = .cell → y.1 ∈ own.map (·.1) ∨ y.1 ∉ N
def wipe (σ : St) : List Nat → St
  | [] => σ
  | v :: vs => (wipe σ vs).set v none
theorem wipe_length (σ : St) : ∀ vs : List Nat, (wipe σ vs).length = σ.length
  | [] => rfl
  | v :: vs => by unfold wipe; rw [List.length_set, wipe_length σ vs]
theorem wipe_some {σ : St} {i : Nat} {x : V} : ∀ {vs : List Nat}, (wipe σ vs)[i]? = some (some x) → σ[i]? = some (some x) ∧ i ∉ vs
  | [], h => ⟨h, by simp⟩
  | v :: vs, h => by
    unfold wipe at h
    by_cases hi : v = i
    · subst hi
      by_cases hv : v < (wipe σ vs).length
      · rw [List.getElem?_set_self hv] at h; cases h
      · rw [List.getElem?_eq_none (by simpa using hv)] at h; cases h
    · rw [List.getElem?_set_ne hi] at h
      obtain ⟨h1, h2⟩ := wipe_some h
      exact ⟨h1, by simp only [List.mem_cons, not_or]; exact ⟨fun e => hi e.symm, h2⟩⟩
abbrev Cx.blk (X : Cx) (s : Shared) (H : Hp) (scope : Scope) (cenv : Env) (fp : List Addr) : Cx := { X with s_0 := s, H_0 := H, env := cenv, outer := X.stack, ex := fp, fn := fun x => scope.names.lookup x == some .cell, pn := [], xe := fun _ _ => False }
section
variable {X : Cx} {pins : List (Addr × Obj)} {σ : St} {H : Hp} {s : Shared}
theorem block_start {scope : Scope} {own : List (Str × Nat)} {fp : List Addr} (I : Inv X pins σ H s) (ok : BlkOk X.N X.env.scope scope own) (hN : X.N.Nodup) (hfp : ∀ b ∈ fp, FpOk X pins H b ∧ b < s.heap.objs.size) :
    Inv (X.blk s H scope (compEnvC scope (cellsFrom (s.heap.objs.size + 1) scope.names (cloFrom X.env.cells scope.names [])) s.heap.objs.size X.env) fp) [] (wipe σ (own.map (·.2))) H { s with heap := pushCells (s.heap.push { cls := .type "dict", data := .dict #[] }) scope.names } := by
  have hfree : ∀ y ∈ scope.names, y.2 = .free → ∃ c, X.env.cells.lookup y.1 = some c := fun y hy e => by
    rcases ok.free y hy e with k | k
    · exact I.ok.has _ (.inl k)
    · exact I.ok.has _ (.inr k)
  generalize hcenv : compEnvC scope (cellsFrom (s.heap.objs.size + 1) scope.names (cloFrom X.env.cells scope.names [])) s.heap.objs.size X.env = cenv
  have kp : ∀ b o, s.heap.get? b = some o → (pushCells (s.heap.push { cls := .type "dict", data := .dict #[] }) scope.names).get? b = some o := fun b o e => pushCells_keeps _ _ _ _ (Heap.get?_push_of_some _ e)
  have hL : cenv.locals = s.heap.objs.size := by rw [← hcenv]; rfl
  have hcl : cenv.cells = cellsFrom (s.heap.objs.size + 1) scope.names (cloFrom X.env.cells scope.names []) := by rw [← hcenv]; rfl
  have hsc : cenv.scope = relS scope X.env.scope := by rw [← hcenv]; rfl
  rw [← Heap.size_push s.heap { cls := .type "dict", data := .dict #[] }] at hcl
  have cm : ∀ {y c}, (y, c) ∈ cloFrom X.env.cells scope.names [] → X.env.cells.lookup y = some c ∧ c < s.heap.objs.size := fun {y c} hm => by
    rcases cloFrom_mem hm with hm | ⟨h1, rfl⟩
    · cases hm
    · obtain ⟨c, hc⟩ := hfree _ h1 rfl
      rw [hc]
      obtain ⟨w, z⟩ := I.cell _ _ hc
      exact ⟨rfl, z.lt⟩
  have mem : ∀ {y c}, cenv.cells.lookup y = some c → (X.env.cells.lookup y = some c ∧ c < s.heap.objs.size) ∨ (s.heap.objs.size + 1 ≤ c ∧ CellAt (pushCells (s.heap.push { cls := .type "dict", data := .dict #[] }) scope.names) c none) := fun {y c} e => by
    rw [hcl] at e
    rcases cells_mem (PySem.mem_of_lookup e) with hm | ⟨_, h2, h3⟩
    · exact .inl (cm hm)
    · rw [Heap.size_push] at h2; exact .inr ⟨h2, h3⟩
  have look : ∀ {y}, scope.names.lookup y = some .free → ∃ c, cenv.cells.lookup y = some c ∧ X.env.cells.lookup y = some c := fun {y} hl => by
    have hy : (y, NameKind.free) ∈ scope.names := PySem.mem_of_lookup hl
    obtain ⟨c', e'⟩ := mem_lookup (cells_acc (names := scope.names) (n := (s.heap.push { cls := .type "dict", data := .dict #[] }).objs.size) (cloFrom_has (cells := X.env.cells) (acc := []) hy))
    rw [← hcl] at e'
    refine ⟨c', e', ?_⟩
    rw [hcl] at e'
    rcases cells_mem (PySem.mem_of_lookup e') with hm | ⟨h1, _, _⟩
    · exact (cm hm).1
    · have := ok.uniq _ h1
      rw [hl] at this; cases this
  have okB : (X.blk s H scope cenv fp).Ok := by
    refine ⟨I.ok.mod, by show cenv.scope.kind = _; rw [hsc]; exact ok.kind, by show cenv.globals = _; rw [← hcenv]; exact I.ok.glob, by show cenv.builtins = _; rw [← hcenv]; exact I.ok.blt, by show s.heap.objs.size ≤ cenv.locals; rw [hL]; exact Nat.le_refl _,
      fun y z c e1 e2 => ?_, fun y hy => ?_, fun y c z e => ?_, I.ok.hd, I.ok.frames, .inl rfl, fun b hb => ⟨?_, fun y c e z => ?_⟩, I.bs, Nat.le_trans I.ok.bsz I.sz, fun b o e hb => ?_, fun b hb z => ?_, I.stack, I.stkFree⟩
    · have e1 : cenv.cells.lookup y = some c := e1
      have e2 : cenv.cells.lookup z = some c := e2
      rw [hcl] at e1 e2
      refine cells_inj (fun p hp => ?_) (fun y z c a b => I.ok.inj y z c (cm a).1 (cm b).1) (PySem.mem_of_lookup e1) (PySem.mem_of_lookup e2)
      rw [Heap.size_push]
      exact Nat.lt_succ_of_lt (cm (y := p.1) (c := p.2) hp).2
    · show ∃ c, cenv.cells.lookup y = some c
      have key : ∀ k, cenv.kindOf y = some k → (k = .cell ∨ k = .free) → ∃ c, cenv.cells.lookup y = some c := fun k hk hk' => by
        unfold Env.kindOf at hk
        rw [hsc] at hk
        obtain ⟨k', e, r⟩ := lookup_relS hk
        have : k' = .cell ∨ k' = .free := by
          rcases r with rfl | ⟨rfl, _⟩
          · exact hk'
          · exact .inr rfl
        rcases this with rfl | rfl
        · obtain ⟨c, hm⟩ := cells_has (n := (s.heap.push { cls := .type "dict", data := .dict #[] }).objs.size) (acc := cloFrom X.env.cells scope.names []) (PySem.mem_of_lookup e)
          obtain ⟨c', e'⟩ := mem_lookup hm
          exact ⟨c', by rw [hcl]; exact e'⟩
        · obtain ⟨c, h1, _⟩ := look e
          exact ⟨c, h1⟩
      rcases hy with hy | hy
      · exact key _ hy (.inl rfl)
      · exact key _ hy (.inr rfl)
    · have z : (scope.names.lookup y == some NameKind.cell) = true := z
      have z : scope.names.lookup y = some .cell := by simpa using z
      have e : cenv.cells.lookup y = some c := e
      rw [hcl] at e
      rcases cells_mem (PySem.mem_of_lookup e) with hm | ⟨_, h2, _⟩
      · rcases cloFrom_mem hm with hm | ⟨h1, _⟩
        · cases hm
        · have q := ok.uniq _ h1
          rw [z] at q; cases q
      · rw [Heap.size_push] at h2
        exact Nat.le_of_succ_le h2
    · show b ≠ cenv.locals
      rw [hL]; exact Nat.ne_of_lt (hfp b hb).2
    · have e : cenv.cells.lookup y = some c := e
      rcases mem e with ⟨h1, _⟩ | ⟨h1, _⟩
      · exact (hfp b hb).1.2.2.2.2.1 y c h1 z
      · have h2 : s.heap.objs.size + 1 ≤ b := by rw [← z]; exact h1
        exact absurd (Nat.lt_of_lt_of_le (hfp b hb).2 (Nat.le_of_succ_le h2)) (Nat.lt_irrefl _)
    · rcases (hfp b hb).1.2.2.2.1 with z | z
      · exact I.ok.noex b o e z
      · exact absurd (Nat.lt_of_lt_of_le (Heap.lt_size e) (Nat.le_trans I.ok.bsz z)) (Nat.lt_irrefl _)
    · rcases List.mem_cons.mp (I.stkSub b z) with z | z
      · exact (hfp b hb).1.2.1 z
      · exact (hfp b hb).1.2.2.1 z
  refine ⟨okB, rfl, I.bare, Un.kept kp, ⟨fun _ => none, ?_, fun i y av e1 e2 e3 => ?_⟩, fun y c e => ?_, ?_, fun y c e => ?_, fun p hp => ?_, I.hok.kept kp, by rw [wipe_length]; exact I.len⟩
  · show Heap.Ns _ cenv.locals _
    rw [hL]
    exact Heap.Ns.keeps (Heap.Ns.new ..) fun b o e => pushCells_keeps _ _ _ _ e
  · obtain ⟨e2, hne⟩ := wipe_some e2
    have hfr : scope.names.lookup y = some .free ∧ (cenv.kindOf y = some .cell ∨ cenv.kindOf y = some .free) := by
      have key : ∀ k, cenv.scope.names.lookup y = some k → k = .local ∨ k = .cell ∨ k = .free → scope.names.lookup y = some .free ∧ (cenv.kindOf y = some .cell ∨ cenv.kindOf y = some .free) := fun k hk hk' => by
        have hk0 := hk
        rw [hsc] at hk
        obtain ⟨k', e, r⟩ := lookup_relS hk
        have no : ¬ (k' = .local ∨ k' = .cell) := fun hh => by
          rcases ok.own _ (PySem.mem_of_lookup e) hh with e' | e'
          · obtain ⟨p, hp, hpy⟩ := List.mem_map.mp e'
            have e3 := ok.ix p hp
            have : p.1 = y := hpy
            rw [this] at e3
            exact hne (List.mem_map.mpr ⟨p, hp, nodup_ix hN e3 e1⟩)
          · exact e' (List.mem_of_getElem? e1)
        rcases r with rfl | ⟨rfl, rfl⟩
        · rcases hk' with rfl | rfl | rfl
          · exact absurd (.inl rfl) no
          · exact absurd (.inr rfl) no
          · exact ⟨e, .inr hk0⟩
        · exact ⟨e, .inl hk0⟩
      have e3 : Vis cenv.scope y := e3
      rcases e3 with e3 | e3 | e3
      · exact key _ e3 (.inl rfl)
      · exact key _ e3 (.inr (.inl rfl))
      · exact key _ e3 (.inr (.inr rfl))
    obtain ⟨m, hn, hl⟩ := I.loc
    have hvis : Vis X.env.scope y := (ok.free _ (PySem.mem_of_lookup hfr.1) rfl).elim (fun k => .inr (.inl k)) (fun k => .inr (.inr k))
    obtain ⟨w, r, q⟩ := hl i y av e1 e2 hvis
    refine ⟨w, r, .inr ⟨hfr.2, ?_⟩⟩
    obtain ⟨c, h1, h2⟩ := look hfr.1
    rcases q with ⟨k, _⟩ | ⟨_, c', e', z⟩
    · have k : X.env.scope.names.lookup y = some .local := k
      rcases ok.free _ (PySem.mem_of_lookup hfr.1) rfl with k' | k' <;> rw [show X.env.scope.names.lookup y = _ from k'] at k <;> cases k
    · rw [h2] at e'; cases e'
      exact ⟨c, h1, z.keeps kp⟩
  · have e : cenv.cells.lookup y = some c := e
    rcases mem e with ⟨h1, _⟩ | ⟨_, z⟩
    · obtain ⟨w, z⟩ := I.cell y c h1
      exact ⟨w, z.keeps kp⟩
    · exact ⟨_, z⟩
  · show H cenv.locals = none
    rw [hL]; exact I.hok.fresh (Nat.le_refl _)
  · have e : cenv.cells.lookup y = some c := e
    rcases mem e with ⟨h1, _⟩ | ⟨h1, _⟩
    · exact I.freeC y c h1
    · exact I.hok.fresh (Nat.le_of_succ_le h1)
  · exact absurd (show p ∈ ([] : List (Addr × Obj)) ++ [] from hp) (by simp)
theorem app_ok {E : Value → Shared → Prop} {D : Addr} {xs : List V} {y : V} {v : Value} {Q : Value → Shared → Prop} (I : Inv X pins σ H s) (hD : H D = some (.lst xs)) (hz : xs.length < sizeLine) (r : RelV y v)
    (h : ∀ s', Inv X pins σ (upd H D (.lst (xs ++ [y]))) s' → Q .none s') : wpAny (model X.prog X.w) X.A (call (.builtin "list.append") [.ref D, v]) Q E s := by
  obtain ⟨hz', its, n, ri, e⟩ := I.hok D _ hD
  have hl := ri.length
  refine append_at (hsz := by rw [List.size_toArray]; omega) e fun h' sb ho' => ?_
  refine h { s with heap := h' } (I.write (t' := s.toks) (by rw [hD]; trivial) (.inl rfl) (fun b u hb q => (sb.2 b hb).trans q) ⟨_, ho'⟩ ⟨by rw [List.length_append]; exact hz, its ++ [v], n + 1, ri.append (.cons r .nil), ?_⟩)
  rw [ho']
  simp
def PTs (X : Cx) (ifs : List Expr) (t : TT) : Prop :=
  ∀ (pins : List (Addr × Obj)) (s : Shared) (σ : St) (H : Hp) (Q : Bool → Hp → Prop), Inv X pins σ H s → t σ H Q →
    wpAny (model X.prog X.w) X.A (forIn ifs true fun c r => if r = true then do let ok ← isTrue c X.env (eval c X.env); pure (ForInStep.yield ok) else pure (ForInStep.yield r)) (TP X pins σ Q) X.xe s
def tYes : TT := fun _ H Q => Q true H
theorem pts_nil : PTs X [] tYes := fun _ _ _ H _ I h => wpAny_tests_nil ⟨H, I, h⟩
theorem pts_one {c : Expr} {t : TT} (h : PT X c t) : PTs X [c] t := fun pins s σ H Q I hw => wpAny_tests_one (h pins s σ H Q I hw)
end
theorem thnF {α : Type} {t : Sem α} {Q Q' : α → Shared → Prop} {M : Model} {A : Around} {E : Value → Shared → Prop} {s : Shared} (h : wpAny M A t Q (fun _ _ => False) s) (hQ : ∀ a s, Q a s → Q' a s) : wpAny M A t Q' E s := wpAny_mono h hQ fun _ _ z => False.elim z
theorem compLoop_any {prog : Program} {w : World} {A : Around} {R : Result → Shared → Prop} {s : Shared} {elt target iter : Expr} {ifs : List Expr} {scope : Scope} {pos : Pos} {it acc : Value} {env : Env} (I : Nat → Shared → Prop)
    (turn : ∀ n s, I n s → wpAny (model prog w) A (pyNext it) (fun r s₁ => match r with
      | none => R (.ok .next) s₁
      | some v => wpAny (model prog w) A (letOwnedTupleGo target it v) (fun _ s₁' => wpAny (model prog w) A (assign target env v) (fun _ s₂ =>
          wpAny (model prog w) A (forIn ifs true fun c r => if r = true then do let ok ← isTrue c env (eval c env); pure (ForInStep.yield ok) else pure (ForInStep.yield r)) (fun ok s₃ =>
            if ok = true then wpAny (model prog w) A (eval elt env) (fun x s₄ =>
              wpAny (model prog w) A (call (.builtin "list.append") [acc, x]) (fun _ s₅ => ∃ m, m < n ∧ I m s₅) (notedBy (model prog w) A env fun e s' => R (.error e) s') s₄) (notedBy (model prog w) A env fun e s' => R (.error e) s') s₃
            else ∃ m, m < n ∧ I m s₃) (notedBy (model prog w) A env fun e s' => R (.error e) s') s₂) (notedBy (model prog w) A env fun e s' => R (.error e) s') s₁') (notedBy (model prog w) A env fun e s' => R (.error e) s') s₁) (notedBy (model prog w) A env fun e s' => R (.error e) s') s)
    (n : Nat) (h : I n s) :
    codeAny (model prog w) A (.compLoop (.ListComp elt [⟨target, iter, ifs, 0⟩] scope pos) 0 it acc env) R s := by
  refine codeAny_loop rfl I (fun n s hI => ?_) n h
  show wpAny _ A ((compTurn (.ListComp elt [⟨target, iter, ifs, 0⟩] scope pos) 0 it acc env).onRaise (fun x => do noteFrame x env; theTreesLotGoes x)) _ _ s
  refine wpAny_noted ?_
  rw [compTurn_list]
  refine wpAny_bind (wpAny_standAt (wpAny_bind (wpAny_mono (turn n s hI) (fun r s₁ h₁ => ?_) fun _ _ h' => h')))
  cases r with
  | none => exact wpAny_pure h₁
  | some v =>
    refine wpAny_bind (wpAny_mono h₁ (fun _ s₁' h₁' => ?_) fun _ _ h' => h')
    refine wpAny_bind (wpAny_mono h₁' (fun _ s₂ h₂ => wpAny_bind (wpAny_mono h₂ (fun ok s₃ h₃ => ?_) fun _ _ h' => h')) fun _ _ h' => h')
    cases ok with
    | false => exact wpAny_pure ⟨rfl, h₃⟩
    | true =>
      exact wpAny_bind (wpAny_bind (wpAny_mono h₃ (fun x s₄ h₄ => wpAny_bind (wpAny_mono h₄ (fun _ s₅ h₅ => wpAny_pure (wpAny_pure ⟨rfl, h₅⟩)) fun _ _ h' => h')) fun _ _ h' => h'))
section
variable {X : Cx}
def tLc (wi : TI) (g : TG) (tt : TT) (te : TE) (vs : List Nat) : TE := fun σ H Q => wi σ H fun J H1 => ∀ D, H1 D = none → ∃ W : Nat → Nat → Hp → Prop, (∃ m, W 0 m (upd H1 D (.lst []))) ∧ ∀ i m H, W i m H →
  (J.stop i H ∧ Q (.ref D) H) ∨ (J.go i H ∧ ∃ Nx : Hp → Prop, (∀ H', Nx H' → ∃ m', m' < m ∧ W (i + 1) m' H') ∧ ∀ x H', J.yld i H x H' → g x (wipe σ vs) H' fun σ2 H2 => wipe σ2 vs = wipe σ vs ∧ tt σ2 H2 fun b H3 =>
    if b = true then te σ2 H3 fun y H4 => ∃ acc, H4 D = some (.lst acc) ∧ acc.length < sizeLine ∧ Nx (upd H4 D (.lst (acc ++ [y]))) else Nx H3)
theorem lc_core {pins : List (Addr × Obj)} {s : Shared} {σ : St} {H : Hp} {Q : VK} {elt tg iter : Expr} {ifs : List Expr} {scope : Scope} {own : List (Str × Nat)} {pos pos' : Pos} {wi : TI} {g : TG} {tt : TT} {te : TE} {use : Option (Value → Sem Unit)} {Qf : Value → Shared → Prop}
    (hc : X.calm = true) (hN : X.N.Nodup) (I : Inv X pins σ H s) (hi : PI X tg iter wi) (ok : BlkOk X.N X.env.scope scope own)
    (hg : ∀ (s : Shared) (H : Hp) (C : Addr) (cl : List (Str × Addr)) (fp : List Addr), PG (X.blk s H scope (compEnvC scope cl C X.env) fp) tg g) (ht : ∀ (s : Shared) (H : Hp) (C : Addr) (cl : List (Str × Addr)) (fp : List Addr), PTs (X.blk s H scope (compEnvC scope cl C X.env) fp) ifs tt)
    (he : ∀ (s : Shared) (H : Hp) (C : Addr) (cl : List (Str × Addr)) (fp : List Addr), PE (X.blk s H scope (compEnvC scope cl C X.env) fp) elt te) (hs : ∀ x, foldedSetIterable iter X.env x = pure x)
    (h : tLc wi g tt te (own.map (·.2)) σ H Q)
    (hRR : ∀ D C s' m H', Inv X pins σ H' s' → Q (.ref D) H' → s'.heap.Ns C m → FpOk X pins H' C → compPost (model X.prog X.w) X.A X.xe use Qf (.ref D) C (.ok .next) s') :
    wpAny (model X.prog X.w) X.A (comprehension (.ListComp elt [⟨tg, iter, ifs, 0⟩] scope pos) scope X.env pos' (newList []) false (eval iter X.env) use) Qf X.xe s := by
  have hfree : ∀ y ∈ scope.names, y.2 = .free → ∃ c, X.env.cells.lookup y.1 = some c := fun y hy e => by
    rcases ok.free y hy e with k | k
    · exact I.ok.has _ (.inl k)
    · exact I.ok.has _ (.inr k)
  refine wpAny_comprehension_free (use := use) rfl hs (closure_ok hfree) ok.kind (fun y hy e => by rw [ok.uniq y hy, e])
    (thn (hi pins s σ H _ I h) fun xv s1 hx => thn hx fun itv s2 h2 => ?_)
  obtain ⟨it, fp, tn, J, H2, e, I2, T, st2, f2, q⟩ := h2
  subst e
  refine wpAny_newObj_type (newEnv_comp ?_) (by show 0 ≤ sizeLine; decide)
  generalize hD : s2.heap.objs.size = D
  have hDn : H2 D = none := I2.hok.fresh (Nat.le_of_eq hD)
  obtain ⟨W, ⟨m0, w0⟩, turn⟩ := q D hDn
  -- the new list
  generalize hs3 : ({ s2 with heap := s2.heap.push { cls := .type "list", data := .seq ([] : List Value).toArray } } : Shared) = s3
  have I3 : Inv X pins σ (upd H2 D (.lst [])) s3 := by
    rw [← hs3]
    refine I2.laid (t' := s2.toks) (fun b o e => Heap.get?_push_of_some _ e) (Nat.le_of_eq hD) ⟨Nat.zero_le _, [], 0, .nil, ?_⟩
    rw [← hD]
    exact Heap.get?_push_size _ rfl
  have h3 : s3.heap = s2.heap.push { cls := .type "list", data := .seq ([] : List Value).toArray } := by rw [← hs3]
  have sz : ∀ b ∈ fp, b < s2.heap.objs.size := fun b hb => by
    obtain ⟨o, e, _⟩ := T.obj _ _ st2 b hb
    exact Heap.lt_size e
  have f3 : ∀ b ∈ fp, FpOk X pins (upd H2 D (.lst [])) b ∧ b < s3.heap.objs.size := fun b hb => by
    have hlt := sz b hb
    refine ⟨⟨?_, (f2 b hb).2⟩, by rw [h3, Heap.size_push]; exact Nat.lt_succ_of_lt hlt⟩
    rw [upd_ne (by rw [← hD]; exact Nat.ne_of_lt hlt)]
    exact (f2 b hb).1
  have st3 : tn 0 s3.heap := T.keep _ _ _ st2 fun b _ o e => by rw [h3]; exact Heap.get?_push_of_some _ e
  have I4 := block_start I3 ok hN f3
  have pg := hg s3 (upd H2 D (.lst [])) s3.heap.objs.size (cellsFrom (s3.heap.objs.size + 1) scope.names (cloFrom X.env.cells scope.names [])) fp
  have pt := ht s3 (upd H2 D (.lst [])) s3.heap.objs.size (cellsFrom (s3.heap.objs.size + 1) scope.names (cloFrom X.env.cells scope.names [])) fp
  have pe := he s3 (upd H2 D (.lst [])) s3.heap.objs.size (cellsFrom (s3.heap.objs.size + 1) scope.names (cloFrom X.env.cells scope.names [])) fp
  show codeAny _ _ (.compStart (.ListComp elt [⟨tg, iter, ifs, 0⟩] scope pos) 0 (.ref it) (.ref D) (compEnvC scope (cellsFrom (s3.heap.objs.size + 1) scope.names (cloFrom X.env.cells scope.names [])) s3.heap.objs.size X.env)) (compPost (model X.prog X.w) X.A X.xe use Qf (.ref D) s3.heap.objs.size) { s3 with heap := pushCells (s3.heap.push { cls := .type "dict", data := .dict #[] }) scope.names }
  have nfp : ∀ b ∈ fp, (upd H2 D (.lst [])) b = none := fun b hb => (f3 b hb).1.1
  generalize hce : compEnvC scope (cellsFrom (s3.heap.objs.size + 1) scope.names (cloFrom X.env.cells scope.names [])) s3.heap.objs.size X.env = ce at I4 pg pt pe ⊢
  have cL : ce.locals = s3.heap.objs.size := by subst hce; rfl
  generalize hH3 : upd H2 D (.lst []) = H3 at I3 I4 pg pt pe w0 nfp f3
  generalize hs4 : ({ s3 with heap := pushCells (s3.heap.push { cls := .type "dict", data := .dict #[] }) scope.names } : Shared) = s4 at I4 ⊢
  have st4 : tn 0 s4.heap := T.keep _ _ _ st3 fun b _ o e => by rw [← hs4]; exact pushCells_keeps _ _ _ _ (Heap.get?_push_of_some _ e)
  have stat : ∀ {σ' : St} {H' : Hp} {s' : Shared}, Inv (X.blk s3 H3 scope ce fp) [] σ' H' s' → (∀ b ∈ fp, H' b = none) → ∀ b ∈ fp, FpOk (X.blk s3 H3 scope ce fp) [] H' b := fun {σ' H' s'} I' hn b hb =>
    ⟨hn b hb, (I'.ok.exf b hb).1, I'.ok.exfs b hb, .inl hb, fun x c e => (I'.ok.exf b hb).2 x c e, fun p hp => absurd (show p ∈ ([] : List (Addr × Obj)) ++ [] from hp) (by simp)⟩
  have loop : codeAny (model X.prog X.w) X.A (.compLoop (.ListComp elt [⟨tg, iter, ifs, 0⟩] scope pos) 0 (.ref it) (.ref D) ce) (compPost (model X.prog X.w) X.A X.xe use Qf (.ref D) s3.heap.objs.size) s4 := by
    refine compLoop_any (fun n s' => ∃ i H', Inv (X.blk s3 H3 scope ce fp) [] (wipe σ (own.map (·.2))) H' s' ∧ tn i s'.heap ∧ (∀ b ∈ fp, H' b = none) ∧ W i n H') ?_ m0 ⟨0, H3, I4, st4, nfp, w0⟩
    rintro n s5 ⟨i, H5, I5, st5, n5, w5⟩
    rcases turn i n H5 w5 with ⟨stop, qq⟩ | ⟨go, Nx, hNx, step⟩
    · have td := T.done (X.blk s3 H3 scope ce fp) rfl rfl rfl hc i [] s5 _ H5 (fun _ _ => False) I5 (stat I5 n5) st5 stop
      refine thnF td fun r s6 ⟨hr, I6⟩ => ?_
      subst hr
      -- back in the def's context
      have I7 : Inv X pins σ H5 s6 := I3.call' (ch := fp) I6.os I6.base I6.hok I6.bare fun b hb => ⟨(f3 b hb).1.2.2.2.1, (f3 b hb).1.2.1, (f3 b hb).1.2.2.2.2.1, (f3 b hb).1.2.2.2.2.2⟩
      have nC : H5 s3.heap.objs.size = none := by
        have z : H5 ce.locals = none := I6.free
        rw [cL] at z
        exact z
      obtain ⟨m, hn, _⟩ := I6.loc
      have hn : s6.heap.Ns ce.locals m := hn
      rw [cL] at hn
      exact hRR D s3.heap.objs.size s6 m H5 I7 qq hn (I3.fpOk (Nat.le_refl _) nC)
    · have ti := T.item (X.blk s3 H3 scope ce fp) rfl rfl rfl hc i [] s5 _ H5 (fun _ _ => False) I5 (stat I5 n5) st5 go
      refine thnF ti fun r s6 ⟨u, hr, h6⟩ => ?_
      subst hr
      refine thnF h6 fun _ s7 ⟨x, H7, I7, r7, y7, st7, n7⟩ => ?_
      have I7' := I7.pinned (stat I7 n7) (T.obj _ _ st7)
      refine thnF (pg _ s7 _ H7 x u _ I7' r7 (step x H7 y7)) fun _ s8 ⟨σ8, H8, I8, hw8, q8⟩ => ?_
      refine thnF (pt _ s8 σ8 H8 _ I8 q8) fun b s9 ⟨H9, I9, q9⟩ => ?_
      -- the turn's end
      have fin : ∀ {s' : Shared} {H' : Hp}, Inv (X.blk s3 H3 scope ce fp) ([] ++ pinsAt fp s7.heap) σ8 H' s' → Nx H' → ∃ m, m < n ∧ ∃ i H', Inv (X.blk s3 H3 scope ce fp) [] (wipe σ (own.map (·.2))) H' s' ∧ tn i s'.heap ∧ (∀ b ∈ fp, H' b = none) ∧ W i m H' := fun {s' H'} I' nx => by
        obtain ⟨m', hm, w'⟩ := hNx H' nx
        have pin' : ∀ b ∈ fp, ∀ o, s7.heap.get? b = some o → s'.heap.get? b = some o ∧ H' b = none := fun b hb o e =>
          let z := I'.pin (b, o) (List.mem_append_right _ (List.mem_append_right _ (mem_pinsAt hb e)))
          ⟨z.1, z.2.1⟩
        have hl : (wipe σ (own.map (·.2))).length = σ8.length := by rw [← hw8, wipe_length]
        refine ⟨m', hm, i + 1, H', (I'.unpinned (pins := [])).weak hl (fun j v e => ?_), T.keep _ _ _ st7 fun b hb o e => (pin' b hb o e).1, fun b hb => ?_, w'⟩
        · rw [← hw8] at e
          exact (wipe_some e).1
        · obtain ⟨o, e, _⟩ := T.obj _ _ st7 b hb
          exact (pin' b hb o e).2
      cases b with
      | false =>
        simp only [Bool.false_eq_true, if_false] at q9 ⊢
        exact fin I9 q9
      | true =>
        simp only [if_true] at q9 ⊢
        refine thnF (pe _ s9 σ8 H9 _ I9 q9) fun z s10 ⟨yv, H10, I10, r10, acc, hD10, hz10, nx⟩ => ?_
        exact app_ok (X := X.blk s3 H3 scope ce fp) I10 hD10 hz10 r10 fun s11 I11 => fin I11 nx
  exact codeAny_compStart_list loop (T.self X.A 0 _ _ _ st4 loop)
theorem pe_lc {elt tg iter : Expr} {ifs : List Expr} {scope : Scope} {own : List (Str × Nat)} {pos : Pos} {wi : TI} {g : TG} {tt : TT} {te : TE} (hc : X.calm = true) (hN : X.N.Nodup) (hi : PI X tg iter wi) (ok : BlkOk X.N X.env.scope scope own)
    (hg : ∀ (s : Shared) (H : Hp) (C : Addr) (cl : List (Str × Addr)) (fp : List Addr), PG (X.blk s H scope (compEnvC scope cl C X.env) fp) tg g) (ht : ∀ (s : Shared) (H : Hp) (C : Addr) (cl : List (Str × Addr)) (fp : List Addr), PTs (X.blk s H scope (compEnvC scope cl C X.env) fp) ifs tt)
    (he : ∀ (s : Shared) (H : Hp) (C : Addr) (cl : List (Str × Addr)) (fp : List Addr), PE (X.blk s H scope (compEnvC scope cl C X.env) fp) elt te) (hs : ∀ x, foldedSetIterable iter X.env x = pure x := by intro _; rfl) :
    PE X (.ListComp elt [⟨tg, iter, ifs, 0⟩] scope pos) (tLc wi g tt te (own.map (·.2))) := by
  intro pins s σ H Q I h
  rw [eval_ListComp]
  refine lc_core hc hN I hi ok hg ht he hs h fun D C s' m H' I' q hn f => ⟨m, hn, fun h'' sb => ?_⟩
  obtain ⟨f0, f1, f2, f3, f4, f5⟩ := f
  exact ⟨.ref D, H', I'.turned (t' := s'.toks) (fun b o hb e => (sb.2 b hb).trans e) f0 f1 f3 f4 f5, rfl, q⟩
theorem ps_setLc {i : Nat} {y : Str} {py : Pos} {elt tg iter : Expr} {ifs : List Expr} {scope : Scope} {own : List (Str × Nat)} {pos spos : Pos} {wi : TI} {g : TG} {tt : TT} {te : TE} (hc : X.calm = true) (hN : X.N.Nodup) (hy : X.N[i]? = some y) (hyl : X.env.scope.names.lookup y = some .local)
    (hsw : swapsWith (.ListComp elt [⟨tg, iter, ifs, 0⟩] scope pos) (some (.Name y py)) spos.line X.env = pure true) (hi : PI X tg iter wi) (ok : BlkOk X.N X.env.scope scope own)
    (hg : ∀ (s : Shared) (H : Hp) (C : Addr) (cl : List (Str × Addr)) (fp : List Addr), PG (X.blk s H scope (compEnvC scope cl C X.env) fp) tg g) (ht : ∀ (s : Shared) (H : Hp) (C : Addr) (cl : List (Str × Addr)) (fp : List Addr), PTs (X.blk s H scope (compEnvC scope cl C X.env) fp) ifs tt)
    (he : ∀ (s : Shared) (H : Hp) (C : Addr) (cl : List (Str × Addr)) (fp : List Addr), PE (X.blk s H scope (compEnvC scope cl C X.env) fp) elt te) (hs : ∀ x, foldedSetIterable iter X.env x = pure x := by intro _; rfl) :
    PS X (.Assign [.Name y py] (.ListComp elt [⟨tg, iter, ifs, 0⟩] scope pos) spos) (tAsg (tLc wi g tt te (own.map (·.2))) (gName i)) := by
  intro pins s σ H D I h
  rw [exec_Assign_Name_used _ _ _ _ hsw]
  refine wpAny_bind (wpAny_standAt (wpAny_bind ?_))
  show wpAny _ X.A (do let _ ← comprehension (.ListComp elt [⟨tg, iter, ifs, 0⟩] scope pos) scope X.env (firstIterPos [⟨tg, iter, ifs, 0⟩] pos) (newList []) false (eval iter X.env) (some (assign (.Name y py) X.env))) _ _ s
  have h : tLc wi g tt te (own.map (·.2)) σ H (fun x H1 => gName i x σ H1 D.nx) := h
  refine wpAny_bind (thn (lc_core (Qf := fun _ s' => SP X pins D .next s') hc hN I hi ok hg ht he hs h fun L C s' m H' I' q hn f => ?_) fun _ s' hq => wpAny_pure (wpAny_pure hq))
  show wpAny _ _ (assign (.Name y py) X.env (.ref L)) _ _ _
  refine wpAny_assign_Name (store_ok2 (v := V.ref L) I' hN hy (.inl hyl) rfl (fun s2 I2 ⟨a, sb, ha⟩ => ?_) (.inr hyl))
  obtain ⟨f0, f1, f2, f3, f4, f5⟩ := f
  have haC : C ≠ a := by
    rcases ha with z | z
    · rw [z]; exact f1
    · exact fun e => f4 y a z e.symm
  refine ⟨m, hn.sameBut sb haC, fun h3 sb3 => ?_⟩
  exact ⟨_, H', I2.turned (t' := s2.toks) (fun b o hb e => (sb3.2 b hb).trans e) f0 f1 f3 f4 f5, q⟩
theorem sw_true {elt : Expr} {gs : List Comprehension} {scope : Scope} {pos py : Pos} {y : Str} {l : Nat} {env : Env} (hk : env.scope.kind = .function) (hy : env.scope.names.lookup y = some .local) (hl : (py.line == pos.line) = true)
    (ha : (scope.names.any fun (n, k) => n == y && (k == .local || k == .cell)) = false) : swapsWith (.ListComp elt gs scope pos) (some (.Name y py)) l env = pure true := by
  have ky : env.kindOf y = some .local := hy
  have hb : env.blockKind = .function := by unfold Env.blockKind; rw [hk]; rfl
  unfold swapsWith
  simp only [hb, ky, ha, Expr.pos, hl]
  rfl
end
theorem lc_list {K : PySem.W.Frag} {a : Addr} {xs : List V} {g : TG} {tt : TT} {te : TE} {vs : List Nat} {σ : St} {H1 : Hp} {D : Addr} {Qd : Hp → Prop} (Pv : Nat → Hp → Prop) (h0 : Pv 0 (upd H1 D (.lst []))) (hl : ∀ i H, i ≤ xs.length → Pv i H → SqL K H a xs)
    (hs : ∀ i x H, xs[i]? = some x → Pv i H → g x (wipe σ vs) H fun σ2 H2 => wipe σ2 vs = wipe σ vs ∧ tt σ2 H2 fun b H3 =>
      if b = true then te σ2 H3 fun y H4 => ∃ acc, H4 D = some (.lst acc) ∧ acc.length < sizeLine ∧ Pv (i + 1) (upd H4 D (.lst (acc ++ [y]))) else Pv (i + 1) H3) (hd : ∀ H, Pv xs.length H → Qd H) :
    ∃ W : Nat → Nat → Hp → Prop, (∃ m, W 0 m (upd H1 D (.lst []))) ∧ ∀ i m H, W i m H →
      ((Itl K a).stop i H ∧ Qd H) ∨ ((Itl K a).go i H ∧ ∃ Nx : Hp → Prop, (∀ H', Nx H' → ∃ m', m' < m ∧ W (i + 1) m' H') ∧ ∀ x H', (Itl K a).yld i H x H' → g x (wipe σ vs) H' fun σ2 H2 => wipe σ2 vs = wipe σ vs ∧ tt σ2 H2 fun b H3 =>
        if b = true then te σ2 H3 fun y H4 => ∃ acc, H4 D = some (.lst acc) ∧ acc.length < sizeLine ∧ Nx (upd H4 D (.lst (acc ++ [y]))) else Nx H3) := by
  refine ⟨fun i m H => m = xs.length - i ∧ i ≤ xs.length ∧ Pv i H, ⟨xs.length, by simp, Nat.zero_le _, h0⟩, ?_⟩
  rintro i m H ⟨rfl, hi, p⟩
  have q := hl i H hi p
  by_cases hlt : i < xs.length
  · refine .inr ⟨⟨xs, xs[i], q, by simp [hlt]⟩, Pv (i + 1), fun H' p' => ⟨xs.length - (i + 1), by omega, rfl, hlt, p'⟩, fun x H' y => ?_⟩
    obtain ⟨e, y⟩ := y
    subst e
    exact hs i x _ (y xs q) p
  · have e : i = xs.length := by omega
    subst e
    exact .inl ⟨⟨xs, q, Nat.le_refl _⟩, hd H p⟩
def blkC (N : List Str) (sc scope : Scope) (own : List (Str × Nat)) : Bool :=
  (match scope.kind with | .function => true | _ => false) && (scope.names.all fun y => decide (scope.names.lookup y.1 = some y.2)) && (own.all fun p => decide (N[p.2]? = some p.1)) &&
    (scope.names.all fun y => match y.2 with
      | .free => (match sc.names.lookup y.1 with | some .cell => true | some .free => true | _ => false)
      | .local => decide (y.1 ∈ own.map (·.1)) || decide (y.1 ∉ N)
      | .cell => decide (y.1 ∈ own.map (·.1)) || decide (y.1 ∉ N)
      | _ => true)
theorem blkOk_by {N : List Str} {sc scope : Scope} {own : List (Str × Nat)} (h : blkC N sc scope own = true) : BlkOk N sc scope own := by
  unfold blkC at h
  simp only [Bool.and_eq_true, List.all_eq_true, decide_eq_true_eq] at h
  obtain ⟨⟨⟨h1, h2⟩, h3⟩, h4⟩ := h
  refine ⟨?_, h2, h3, fun y hy e => ?_, fun y hy e => ?_⟩
  · split at h1
    · assumption
    · cases h1
  · have q := h4 y hy
    simp only [e] at q
    split at q <;> first | exact .inl (by assumption) | exact .inr (by assumption) | cases q
  · have q := h4 y hy
    rcases e with e | e <;> (simp only [e, Bool.or_eq_true, decide_eq_true_eq] at q; exact q)
end L2
namespace L2
open PySem PySem.Spec PyProof.Rows
section
variable {prog : Program} {w : World} {A : Around} {R : Result → Shared → Prop} {s : Shared} {elt t0 i0 t1 i1 : Expr} {ifs0 ifs1 : List Expr} {scope : Scope} {pos : Pos} {it acc : Value} {env : Env}
end
section
variable {X : Cx}
end
end L2
namespace L2
open PySem PySem.Spec PyProof.Rows
section
variable {κ : Type} [DecidableEq κ]
def valV (kvs : List (κ × V)) (k : κ) : Option V := (kvs.find? fun kv => decide (kv.1 = k)).map (·.2)
def putK (kvs : List (κ × V)) (k : κ) (v : V) : List (κ × V) :=
  if (kvs.any fun kv => decide (kv.1 = k)) = true then kvs.map (fun kv => if kv.1 = k then (kv.1, v) else kv) else kvs ++ [(k, v)]
theorem valV_pos {p : κ × V} {r : List (κ × V)} {k : κ} (e : p.1 = k) : valV (p :: r) k = some p.2 := by simp [valV, List.find?_cons, e]
theorem valV_neg {p : κ × V} {r : List (κ × V)} {k : κ} (e : ¬ p.1 = k) : valV (p :: r) k = valV r k := by simp [valV, List.find?_cons, e]
theorem valV_any (k : κ) : ∀ kvs : List (κ × V), (kvs.any fun kv => decide (kv.1 = k)) = (valV kvs k).isSome
  | [] => rfl
  | p :: r => by
    rw [List.any_cons]
    by_cases e : p.1 = k
    · simp only [valV_pos e, decide_eq_true e, Bool.true_or, Option.isSome_some]
    · rw [valV_neg e, decide_eq_false e, Bool.false_or]; exact valV_any k r
theorem valV_map (k j : κ) (y : V) : ∀ kvs : List (κ × V), valV (kvs.map fun kv => if kv.1 = k then (kv.1, y) else kv) j = (valV kvs j).map fun x => if j = k then y else x
  | [] => rfl
  | p :: r => by
    have ih := valV_map k j y r
    rw [List.map_cons]
    by_cases h : p.1 = k
    · rw [if_pos h]
      by_cases e : p.1 = j
      · rw [valV_pos (p := (p.1, y)) e, valV_pos e, Option.map_some, if_pos (e.symm.trans h)]
      · rw [valV_neg (p := (p.1, y)) e, valV_neg e, ih]
    · rw [if_neg h]
      by_cases e : p.1 = j
      · rw [valV_pos (p := p) e, valV_pos e, Option.map_some, if_neg (fun z => h (e.trans z))]
      · rw [valV_neg (p := p) e, valV_neg e, ih]
theorem valV_snoc (k j : κ) (y : V) : ∀ kvs : List (κ × V), valV kvs k = none → valV (kvs ++ [(k, y)]) j = if j = k then some y else valV kvs j
  | [], _ => by
    by_cases e : k = j
    · rw [if_pos e.symm]; exact valV_pos (p := (k, y)) e
    · rw [if_neg (fun z => e z.symm)]; exact valV_neg (p := (k, y)) e
  | p :: r, hn => by
    rw [List.cons_append]
    have hk : ¬ p.1 = k := fun z => by rw [valV_pos z] at hn; cases hn
    rw [valV_neg hk] at hn
    have ih := valV_snoc k j y r hn
    by_cases e : p.1 = j
    · rw [valV_pos e, valV_pos e, if_neg (fun z => hk (e.trans z))]
    · rw [valV_neg e, valV_neg e, ih]
theorem valV_put (kvs : List (κ × V)) (k j : κ) (y : V) : valV (putK kvs k y) j = if j = k then some y else valV kvs j := by
  unfold putK
  by_cases a : (kvs.any fun kv => decide (kv.1 = k)) = true
  · rw [if_pos a, valV_map]
    rw [valV_any] at a
    by_cases e : j = k
    · obtain ⟨x, hx⟩ := Option.isSome_iff_exists.mp a
      rw [if_pos e, e, hx, Option.map_some, if_pos rfl]
    · rw [if_neg e]
      cases valV kvs j with
      | none => rfl
      | some x => rw [Option.map_some, if_neg e]
  · rw [if_neg a]
    refine valV_snoc k j y kvs ?_
    rw [valV_any] at a
    cases q : valV kvs k with
    | none => rfl
    | some x => rw [q] at a; exact (a rfl).elim
theorem length_putK (kvs : List (κ × V)) (k : κ) (v : V) : (putK kvs k v).length ≤ kvs.length + 1 := by
  unfold putK
  split
  · rw [List.length_map]; omega
  · rw [List.length_append, List.length_cons, List.length_nil]; omega
theorem putK_new {kvs : List (κ × V)} {k : κ} (v : V) (h : valV kvs k = none) : putK kvs k v = kvs ++ [(k, v)] := by
  unfold putK
  rw [valV_any, h]
  exact if_neg (by decide)
theorem RelO.isSome_eq {o : Option V} {u : Option Value} (r : RelO o u) : o.isSome = u.isSome := by
  cases o with
  | none => cases u with
    | none => rfl
    | some _ => exact (show False from r).elim
  | some _ => cases u with
    | none => exact (show False from r).elim
    | some _ => rfl
theorem RelO.getD {o : Option V} {u : Option Value} {d : V} {d' : Value} (r : RelO o u) (rd : RelV d d') : RelV (o.getD d) (u.getD d') := by
  cases o with
  | none => cases u with
    | none => exact rd
    | some _ => exact (show False from r).elim
  | some _ => cases u with
    | none => exact (show False from r).elim
    | some _ => exact r
theorem KV.val {kvs : List (κ × V)} {vs : List (κ × Value)} (r : KV kvs vs) (k : κ) : RelO (valV kvs k) (valueAt vs k) := by
  unfold KV at r
  induction r with
  | nil => exact True.intro
  | @cons p q ps qs h t ih =>
    obtain ⟨h1, h2⟩ := h
    by_cases e : p.1 = k
    · have e' : q.1 = k := h1.symm.trans e
      have b : valueAt (q :: qs) k = some q.2 := by simp [valueAt, List.find?_cons, e']
      rw [valV_pos e, b]; exact h2
    · have e' : ¬ q.1 = k := fun z => e (h1.trans z)
      have b : valueAt (q :: qs) k = valueAt qs k := by simp [valueAt, List.find?_cons, e']
      rw [valV_neg e, b]; exact ih
theorem KV.any {kvs : List (κ × V)} {vs : List (κ × Value)} (r : KV kvs vs) (k : κ) : (kvs.any fun kv => decide (kv.1 = k)) = vs.any fun kv => decide (kv.1 = k) := by
  unfold KV at r
  induction r with
  | nil => rfl
  | cons h t ih => rw [List.any_cons, List.any_cons, ih, h.1]
theorem KV.repl {kvs : List (κ × V)} {vs : List (κ × Value)} (r : KV kvs vs) (k : κ) {y : V} {u : Value} (ry : RelV y u) :
    KV (kvs.map fun kv => if kv.1 = k then (kv.1, y) else kv) (vs.map fun kv => if kv.1 = k then (kv.1, u) else kv) := by
  unfold KV at r ⊢
  induction r with
  | nil => exact .nil
  | @cons p q ps qs h t ih =>
    rw [List.map_cons, List.map_cons]
    refine .cons ?_ ih
    obtain ⟨h1, h2⟩ := h
    by_cases e : p.1 = k
    · rw [if_pos e, if_pos (h1.symm.trans e)]; exact ⟨h1, ry⟩
    · rw [if_neg e, if_neg (fun z => e (h1.trans z))]; exact ⟨h1, h2⟩
theorem KV.put {kvs : List (κ × V)} {vs : List (κ × Value)} (r : KV kvs vs) (k : κ) {y : V} {u : Value} (ry : RelV y u) : KV (putK kvs k y) (stored vs k u) := by
  unfold putK stored
  rw [r.any k]
  by_cases e : (vs.any fun kv => decide (kv.1 = k)) = true
  · rw [if_pos e, if_pos e]; exact r.repl k ry
  · rw [if_neg e, if_neg e]; exact Paired.snoc r ⟨rfl, ry⟩
theorem KV.length {kvs : List (κ × V)} {vs : List (κ × Value)} (r : KV kvs vs) : kvs.length = vs.length := Paired.length r
end
theorem kV_is {P : Program} {w : World} {k : Key} {u : Value} (r : RelV (kV k) u) : (mixKind P w).is k u = true := by
  cases k with
  | inl i => obtain ⟨t, e⟩ := (show ∃ t, u = Value.int i t from r); subst e; exact mixKind_int P w i t
  | inr x => obtain ⟨t, e⟩ := (show ∃ t, u = Value.str x t from r); subst e; exact mixKind_str P w x t
theorem items_are {P : Program} {w : World} : ∀ {ks : List Key} {us : List Value}, Vals (ks.map kV) us → ItemsAre (mixKind P w) ks us
  | [], _, r => by rw [List.map_nil] at r; cases r; exact .nil
  | k :: ks, _, r => by
    rw [List.map_cons] at r
    cases r with
    | cons h t => exact .cons (kV_is h) (items_are t)
abbrev KT (H : Hp) : List (List Key × V) → List (List Key × Addr × Value) → Prop := Paired fun p q => p.1 = q.1 ∧ H q.2.1 = some (.tup (p.1.map kV)) ∧ RelV p.2 q.2.2
theorem KT.val {H : Hp} {kvs : List (List Key × V)} {xs : List (List Key × Addr × Value)} (r : KT H kvs xs) (k : List Key) : RelO (valV kvs k) ((atKey xs k).map (·.2)) := by
  induction r with
  | nil => exact True.intro
  | @cons p q ps qs h t ih =>
    obtain ⟨h1, _, h2⟩ := h
    by_cases e : p.1 = k
    · have e' : q.1 = k := h1.symm.trans e
      have b : atKey (q :: qs) k = some q.2 := by simp [atKey, List.find?_cons, e']
      rw [valV_pos e, b]; exact h2
    · have e' : ¬ q.1 = k := fun z => e (h1.trans z)
      have b : atKey (q :: qs) k = atKey qs k := by simp [atKey, List.find?_cons, e']
      rw [valV_neg e, b]; exact ih
theorem KT.repl {H : Hp} {kvs : List (List Key × V)} {xs : List (List Key × Addr × Value)} (r : KT H kvs xs) (k : List Key) {y : V} {u : Value} (ry : RelV y u) :
    KT H (kvs.map fun kv => if kv.1 = k then (kv.1, y) else kv) (xs.map (putAt k u)) := by
  induction r with
  | nil => exact .nil
  | @cons p q ps qs h t ih =>
    rw [List.map_cons, List.map_cons]
    refine .cons ?_ ih
    obtain ⟨h1, h2, h3⟩ := h
    unfold putAt
    by_cases e : p.1 = k
    · rw [if_pos e, if_pos (h1.symm.trans e)]; exact ⟨h1, h2, ry⟩
    · rw [if_neg e, if_neg (fun z => e (h1.trans z))]; exact ⟨h1, h2, h3⟩
theorem KT.put {H : Hp} {kvs : List (List Key × V)} {xs : List (List Key × Addr × Value)} (r : KT H kvs xs) (k : List Key) {b : Addr} {y : V} {u : Value} (hb : H b = some (.tup (k.map kV))) (ry : RelV y u) :
    KT H (putK kvs k y) (storedH xs k b u) := by
  have e : (kvs.any fun kv => decide (kv.1 = k)) = (atKey xs k).isSome := by
    rw [valV_any, (r.val k).isSome_eq, Option.isSome_map]
  unfold putK storedH
  rw [e]
  by_cases q : (atKey xs k).isSome = true
  · rw [if_pos q, if_pos q]; exact r.repl k ry
  · rw [if_neg q, if_neg q]; exact Paired.snoc r ⟨rfl, hb, ry⟩
theorem KT.keeps {H H' : Hp} {kvs : List (List Key × V)} {xs : List (List Key × Addr × Value)} (r : KT H kvs xs) (ht : ∀ b ys, H b = some (.tup ys) → H' b = some (.tup ys)) : KT H' kvs xs :=
  Paired.mapP r fun _ _ z => ⟨z.1, ht _ _ z.2.1, z.2.2⟩
section
variable {P : Program} {w : World} {H : Hp} {h : Heap} {a : Addr}
theorem rd_of {u : HO} (ok : HOk P w H h) (e : Rd H a u) : ObjOk P w H h a u := e.ok ok
theorem dk_rd {kvs : List (Key × V)} (ok : HOk P w H h) (e : Rd H a (.dK kvs)) : kvs.length ≤ sizeLine ∧ (a == sysModules) = false ∧ ∃ vs, KV kvs vs ∧ h.DictOf (mixKind P w) a vs :=
  show ObjOk P w H h a (.dK kvs) from rd_of ok e
theorem dk_of {kvs : List (Key × V)} (ok : HOk P w H h) (e : H a = some (.dK kvs)) : kvs.length ≤ sizeLine ∧ (a == sysModules) = false ∧ ∃ vs, KV kvs vs ∧ h.DictOf (mixKind P w) a vs := dk_rd ok (.inl e)
theorem key_of {ks : List Key} (ok : HOk P w H h) (e : H a = some (.tup (ks.map kV))) : (tupleKind (mixKind P w)).is h ks a := by
  obtain ⟨_, its, r, o, h1, h2, n, h3⟩ := (show ObjOk P w H h a (.tup (ks.map kV)) from ok a _ e)
  exact ⟨o, its.toArray, n, h1, h2, h3, by simpa using items_are r⟩
theorem dt_rd {kvs : List (List Key × V)} (ok : HOk P w H h) (e : Rd H a (.dT kvs)) : kvs.length ≤ sizeLine ∧ (a == sysModules) = false ∧
    ∃ xs, KT H kvs xs ∧ h.DictOfH (tupleKind (mixKind P w)) a xs := by
  obtain ⟨z, y, xs, r, o, es, ep, h1, h2, h3, h4, h5⟩ := (show ObjOk P w H h a (.dT kvs) from rd_of ok e)
  refine ⟨z, y, xs, r, o, es, ep, h1, h2, h3, h4, fun x hx => ?_, h5⟩
  have all : ∀ {l : List (List Key × V)} {m : List (List Key × Addr × Value)}, KT H l m → ∀ x ∈ m, (tupleKind (mixKind P w)).is h x.1 x.2.1 := by
    intro l m q
    induction q with
    | nil => intro x hx; exact nomatch hx
    | @cons p q ps qs hq t ih =>
      intro x hx
      rcases List.mem_cons.mp hx with e | hx
      · subst e
        exact key_of ok (by rw [← hq.1]; exact hq.2.1)
      · exact ih x hx
  exact all r x hx
theorem dt_of {kvs : List (List Key × V)} (ok : HOk P w H h) (e : H a = some (.dT kvs)) : kvs.length ≤ sizeLine ∧ (a == sysModules) = false ∧
    ∃ xs, KT H kvs xs ∧ h.DictOfH (tupleKind (mixKind P w)) a xs := dt_rd ok (.inl e)
end
def DGet (H : Hp) (a : Addr) (y : V) (r : Option V) : Prop :=
  (∃ kvs k, Rd H a (.dK kvs) ∧ y = kV k ∧ r = valV kvs k) ∨ ∃ kvs k b, Rd H a (.dT kvs) ∧ y = .ref b ∧ H b = some (.tup (k.map kV)) ∧ r = valV kvs k
def DPut (H : Hp) (a : Addr) (y v : V) (H' : Hp) : Prop :=
  (∃ kvs k, H a = some (.dK kvs) ∧ y = kV k ∧ kvs.length < sizeLine ∧ H' = upd H a (.dK (putK kvs k v))) ∨
  ∃ kvs k b, H a = some (.dT kvs) ∧ y = .ref b ∧ H b = some (.tup (k.map kV)) ∧ kvs.length < sizeLine ∧ H' = upd H a (.dT (putK kvs k v))
theorem DGet.k {H : Hp} {a : Addr} {kvs : List (Key × V)} {k : Key} (e : H a = some (.dK kvs)) : DGet H a (kV k) (valV kvs k) := .inl ⟨kvs, k, .inl e, rfl, rfl⟩
theorem DPut.k {H : Hp} {a : Addr} {kvs : List (Key × V)} {k : Key} {v : V} (e : H a = some (.dK kvs)) (hl : kvs.length < sizeLine) : DPut H a (kV k) v (upd H a (.dK (putK kvs k v))) := .inl ⟨kvs, k, e, rfl, hl, rfl⟩
section
variable {X : Cx} {pins : List (Addr × Obj)} {σ : St} {H : Hp} {s : Shared} {a : Addr} {y v : V} {u r : Value} {o : Option V} {A : Around} {E : Value → Shared → Prop}
theorem Inv.big (I : Inv X pins σ H s) : sysModules < s.heap.objs.size := by
  have h : mainGlobals < s.heap.objs.size := (I.mod.glob.keeps I.bk).lt
  exact Nat.lt_trans (by decide) h
theorem d_getItem {Q : Value → Shared → Prop} (hu : A.units + 1 < cLine) (I : Inv X pins σ H s) (g : DGet H a y (some v)) (ry : RelV y u) (h : ∀ w' s', Inv X pins σ H s' → RelV v w' → Q w' s') :
    wpAny (model X.prog X.w) A (getItem (.ref a) u) Q E s := by
  rcases g with ⟨kvs, k, e, ey, l⟩ | ⟨kvs, k, b, e, ey, eb, l⟩
  · subst ey
    obtain ⟨z, hd, vs, rel, dd⟩ := dk_rd I.hok e
    obtain ⟨w', hw, rw'⟩ := RelO.some_of (v := v) (o := valueAt vs k) (by rw [l]; exact rel.val k)
    exact wpAny_getItem_of (kV_is ry) dd.mapOf hw (h w' _ (I.tok _) rw')
  · subst ey
    cases (show u = Value.ref b from ry)
    obtain ⟨z, hd, xs, rel, dd⟩ := dt_rd I.hok e
    obtain ⟨w', hw, rw'⟩ := RelO.some_of (v := v) (o := (atKey xs k).map (·.2)) (by rw [l]; exact rel.val k)
    obtain ⟨p, hp, hp2⟩ := Option.map_eq_some_iff.mp hw
    refine wpAny_getItem_heap (tupleKind_room_in1 hu) (key_of I.hok eb) dd hp ?_
    rw [hp2]
    exact h w' _ (I.tok _) rw'
theorem d_notIn {Q : Value → Shared → Prop} (hu : A.units + 1 < cLine) (I : Inv X pins σ H s) (g : DGet H a y o) (ry : RelV y u) (h : ∀ s', Inv X pins σ H s' → Q (.bool (!o.isSome)) s') :
    wpAny (model X.prog X.w) A (compareOp .NotIn u (.ref a)) Q E s := by
  rcases g with ⟨kvs, k, e, ey, l⟩ | ⟨kvs, k, b, e, ey, eb, l⟩
  · subst ey
    obtain ⟨z, hd, vs, rel, dd⟩ := dk_rd I.hok e
    refine wpAny_notIn_of (kV_is ry) hd dd.mapOf ?_
    rw [← (rel.val k).isSome_eq, ← l]
    exact h _ (I.tok _)
  · subst ey
    cases (show u = Value.ref b from ry)
    obtain ⟨z, hd, xs, rel, dd⟩ := dt_rd I.hok e
    refine wpAny_notIn_heap (tupleKind_room_in1 hu) (key_of I.hok eb) hd dd ?_
    have q := (rel.val k).isSome_eq
    rw [Option.isSome_map] at q
    rw [← q, ← l]
    exact h _ (I.tok _)
theorem d_write {h' : Heap} {t' : Nat} {ob : HO} (I : Inv X pins σ H s) (mu : Mut (H a)) (hs : Heap.SameBut a s.heap h') (he : ∃ q, h'.get? a = some q) (new : ObjOk X.prog X.w (upd H a ob) h' a ob) :
    Inv X pins σ (upd H a ob) { s with heap := h', toks := t' } :=
  I.write (x := a) (e := a) mu (.inl rfl) (fun b q hb z => (hs.2 b hb).trans z) he new
theorem dk_new {P : Program} {w : World} {H' : Hp} {h' : Heap} {kvs : List (Key × V)} {vs : List (Key × Value)} (z : kvs.length ≤ sizeLine) (hd : (a == sysModules) = false) (rel : KV kvs vs) (dd : h'.DictOf (mixKind P w) a vs) :
    ObjOk P w H' h' a (.dK kvs) := ⟨z, hd, vs, rel, dd⟩
theorem d_setItem {H' : Hp} {Q : Unit → Shared → Prop} (hu : A.units + 1 < cLine) (I : Inv X pins σ H s) (g : DPut H a y v H') (ry : RelV y u) (rv : RelV v r) (h : ∀ s', Inv X pins σ H' s' → Q () s') :
    wpAny (model X.prog X.w) A (setItem (.ref a) u r) Q E s := by
  rcases g with ⟨kvs, k, e, ey, l, eH⟩ | ⟨kvs, k, b, e, ey, eb, l, eH⟩
  · subst ey eH
    obtain ⟨z, hd, vs, rel, dd⟩ := dk_of I.hok e
    have hz : vs.length ≤ sizeLine := by rw [← rel.length]; exact z
    have hl : (putK kvs k v).length ≤ sizeLine := by have := length_putK kvs k v; omega
    refine wpAny_setItem_pairs (hsz := hz) (kV_is ry) dd fun h' dd' hs => h _ ?_
    have he : ∃ q, h'.get? a = some q := let ⟨q, _, _, hq, _⟩ := dd'; ⟨q, hq⟩
    exact d_write I (by rw [e]; exact True.intro) hs he (dk_new hl hd (rel.put k rv) dd')
  · subst ey eH
    cases (show u = Value.ref b from ry)
    obtain ⟨z, hd, xs, rel, dd⟩ := dt_of I.hok e
    have hz : xs.length ≤ sizeLine := by rw [← Paired.length rel]; exact z
    have hl : (putK kvs k v).length ≤ sizeLine := by have := length_putK kvs k v; omega
    refine wpAny_setItem_heap (hsz := hz) (tupleKind_room_in1 hu) (key_of I.hok eb) dd fun h' dd' hs => h _ ?_
    obtain ⟨q, es, ep, hq, h2, h3, h4, _, h5⟩ := dd'
    refine d_write I (by rw [e]; exact True.intro) hs ⟨q, hq⟩ ⟨hl, hd, _, (rel.put k eb rv).keeps fun c ys ec => ?_, q, es, ep, hq, h2, h3, h4, h5⟩
    rw [upd_ne (ne_of ec e (fun z => nomatch z))]
    exact ec
end
section
variable {X : Cx} {pins : List (Addr × Obj)} {σ : St} {H : Hp} {s : Shared} {a : Addr} {kvs : List (Key × V)} {k : Key} {u : Value} {A : Around} {E : Value → Shared → Prop}
theorem d_len {Q : Value → Shared → Prop} (I : Inv X pins σ H s) (e : Rd H a (.dK kvs)) (h : ∀ t s', Inv X pins σ H s' → Q (.int kvs.length t) s') : wpAny (model X.prog X.w) A (call (.builtin "len") [.ref a]) Q E s := by
  obtain ⟨z, hd, vs, rel, dd⟩ := dk_rd I.hok e
  refine call_len_dict hd dd (by rw [← rel.length]; rw [sizeLine_eq] at z; omega) ?_
  rw [← rel.length]
  exact h _ _ (I.tok _)
end
def NoSl (i : Expr) : Prop := ∀ ov iv, subscripted i false ov iv = operate [ov, iv] (getItem ov iv)
theorem subD_of {prog : Program} {w : World} {A : Around} {E : Value → Shared → Prop} {s : Shared} {env : Env} {value slice : Expr} {pos : Pos} {T id : String} {Q : Value → Shared → Prop}
    (hl : typeLookup (.type T) "__getitem__" = pure (some (.builtin id))) (hs : NoSl slice)
    (h : wpAny (model prog w) A (eval value env) (fun o s₁ => wpAny (model prog w) A (eval slice env) (fun i s₂ => s₂.TypeIs o T ∧ wpAny (model prog w) A (getItem o i) Q E s₂) E s₁) E s) :
    wpAny (model prog w) A (eval (.Subscript value slice pos) env) Q E s := by
  refine Subscript_ (wpAny_mono h (fun o s₁ h₁ => wpAny_mono h₁ (fun i s₂ h₂ => ?_) fun _ _ x => x) fun _ _ x => x)
  obtain ⟨hT, h₂⟩ := h₂
  unfold subscriptTail
  refine wpAny_bind ?_
  rw [getitemInPython_of_ne hT.not_modules]
  refine wpAny_bind (wpAny_specialOf hT hl ?_)
  have fin : wpAny (model prog w) A (subscripted slice false o i) (fun r s₃ => wpAny (model prog w) A (letTemporaryGo value o r >>= fun _ => pure r) Q E s₃) E s₂ := by
    rw [hs o i]
    exact wpAny_operating (wpAny_mono h₂ (fun r s₃ h₃ => wpAny_bind (wpAny_letTemporaryGo (wpAny_pure h₃))) fun _ _ x => x)
  first
    | exact wpAny_pure (wpAny_bind fin)
    | exact wpAny_bind (wpAny_pure (wpAny_bind fin))
    | exact wpAny_bind fin
theorem dict_typeIs {X : Cx} {pins : List (Addr × Obj)} {σ : St} {H : Hp} {s : Shared} {a : Addr} {y : V} {o : Option V} (I : Inv X pins σ H s) (g : DGet H a y o) : s.TypeIs (.ref a) "dict" := by
  rcases g with ⟨kvs, k, e, _, _⟩ | ⟨kvs, k, b, e, _, _, _⟩
  · obtain ⟨_, _, vs, _, dd⟩ := dk_rd I.hok e
    exact dd.typeIs
  · obtain ⟨_, _, xs, _, dd⟩ := dt_rd I.hok e
    exact dd.typeIs
def tDGet (td ty : TE) : TE := fun σ H Q => td σ H fun x H1 => ty σ H1 fun y H2 => ∃ a v, x = .ref a ∧ DGet H2 a y (some v) ∧ Q v H2
def tDNotIn (ty td : TE) : TE := fun σ H Q => ty σ H fun y H1 => td σ H1 fun x H2 => ∃ a o, x = .ref a ∧ DGet H2 a y o ∧ Q (.bl (!o.isSome)) H2
def sDPut (td ty tv : TE) : TS := fun D σ H => tv σ H fun v H1 => td σ H1 fun x H2 => ty σ H2 fun y H3 => ∃ a H4, x = .ref a ∧ DPut H3 a y v H4 ∧ D.nx σ H4
section
variable {X : Cx} {o i e value : Expr} {pos pos' tpos : Pos} {td ty tv : TE}
theorem pe_dget (hu : X.A.units + 1 < cLine) (ho : PE X o td) (hi : PE X i ty) (hs : NoSl i) : PE X (.Subscript o i pos) (tDGet td ty) := by
  intro pins s σ H Q I h
  refine subD_of PySem.F.slot_dict_getitem.lookup hs (thn (ho pins s σ H _ I h) fun u s1 ⟨x, H1, I1, rx, q1⟩ => thn (hi pins s1 σ H1 _ I1 q1) fun iv s2 ⟨y, H2, I2, ry, a, v, ex, g, q2⟩ => ?_)
  subst ex
  obtain rfl : u = Value.ref a := rx
  exact ⟨dict_typeIs I2 g, d_getItem hu I2 g ry fun w' s3 I3 rw' => ⟨v, H2, I3, rw', q2⟩⟩
theorem pc_dnotin (hu : X.A.units + 1 < cLine) (hi : PE X i ty) (ho : PE X o td) : PC X .NotIn i o (tDNotIn ty td) := by
  intro pins s σ H Q I h
  refine thn (hi pins s σ H _ I h) fun iv s1 ⟨y, H1, I1, ry, q1⟩ => thn (ho pins s1 σ H1 _ I1 q1) fun u s2 ⟨x, H2, I2, rx, a, ov, ex, g, q2⟩ => ?_
  subst ex
  obtain rfl : u = Value.ref a := rx
  exact d_notIn hu I2 g ry fun s3 I3 => ⟨.bl (!ov.isSome), H2, I3, rfl, q2⟩
theorem ps_dput (hu : X.A.units + 1 < cLine) (ho : PE X o td) (hi : PE X i ty) (hv : PE X value tv) (hs : swapsWith value (some (.Subscript o i pos')) pos.line X.env = pure false) :
    PS X (.Assign [.Subscript o i pos'] value pos) (sDPut td ty tv) := by
  intro pins s σ H D I h
  refine wpAny_Assign_Subscript (thn (hv pins s σ H _ I h) fun r s1 ⟨v, H1, I1, rv, q1⟩ => thn (ho pins s1 σ H1 _ I1 q1) fun u s2 ⟨x, H2, I2, rx, q2⟩ => thn (hi pins s2 σ H2 _ I2 q2) fun iv s3 ⟨y, H3, I3, ry, a, H4, ex, g, q3⟩ => ?_) hs
  subst ex
  obtain rfl : u = Value.ref a := rx
  exact d_setItem hu I3 g ry rv fun s4 I4 => ⟨σ, H4, I4, q3⟩
end
theorem dk_empty {P : Program} {w : World} {H : Hp} (h : Heap) (hb : sysModules < h.objs.size) : ObjOk P w H (h.push { cls := .type "dict", data := .dict #[] }) h.objs.size (.dK []) :=
  ⟨Nat.zero_le _, beq_eq_false_iff_ne.mpr (Ne.symm (Nat.ne_of_lt hb)), [], .nil, Heap.DictOf.new h⟩
def tDNewK : TE := fun _ H Q => ∀ p, H p = none → Q (.ref p) (upd H p (.dK []))
section
variable {X : Cx} {pos : Pos}
theorem pe_dnewK : PE X (.Dict [] [] pos) tDNewK := fun pins s σ H Q I h =>
  wpAny_Dict_empty ⟨.ref s.heap.objs.size, _, I.laid (a := s.heap.objs.size) (o := .dK []) (t' := s.toks) (fun _ _ q => Heap.get?_push_of_some _ q) (Nat.le_refl _) (dk_empty s.heap I.big), rfl, h _ (I.hok.fresh (Nat.le_refl _))⟩
end
def tPairs : List (TE × TE) → St → Hp → (List (V × V) → Hp → Prop) → Prop
  | [], _, H, Q => Q [] H
  | (tk, tv) :: r, σ, H, Q => tk σ H fun x H1 => tv σ H1 fun y H2 => tPairs r σ H2 fun ps H3 => Q ((x, y) :: ps) H3
abbrev VV : List (V × V) → List (Value × Value) → Prop := Paired fun p q => RelV p.1 q.1 ∧ RelV p.2 q.2
def PPs (X : Cx) (pos : Pos) (keys : List (Option Expr)) (values : List Expr) (trs : List (TE × TE)) : Prop :=
  ∀ (pins : List (Addr × Obj)) (s : Shared) (σ : St) (H : Hp) (Q : List (V × V) → Hp → Prop), Inv X pins σ H s → tPairs trs σ H Q →
    wpAny (model X.prog X.w) X.A (evalPairs (pairTrees keys values X.env pos)) (fun vs s' => ∃ ps H', Inv X pins σ H' s' ∧ VV ps vs ∧ Q ps H') X.xe s
theorem pps_nil {X : Cx} {pos : Pos} : PPs X pos [] [] [] := fun pins s σ H Q I h => pairTrees_nil_walk ⟨[], H, I, .nil, h⟩
theorem pps_cons {X : Cx} {pos : Pos} {k v : Expr} {ks : List (Option Expr)} {vs : List Expr} {tk tv : TE} {trs : List (TE × TE)} (hk : PE X k tk) (hv : PE X v tv) (hr : PPs X pos ks vs trs) :
    PPs X pos (some k :: ks) (v :: vs) ((tk, tv) :: trs) := fun pins s σ H Q I h =>
  pairTrees_cons_walk (thn (hk pins s σ H _ I h) fun u s1 ⟨x, H1, I1, rx, q1⟩ => thn (hv pins s1 σ H1 _ I1 q1) fun w2 s2 ⟨y, H2, I2, ry, q2⟩ =>
    thn (hr pins s2 σ H2 _ I2 q2) fun ws s3 ⟨ps, H3, I3, rel, q3⟩ => ⟨(x, y) :: ps, H3, I3, .cons ⟨rx, ry⟩ rel, q3⟩)
def mergeK (kvs more : List (Key × V)) : List (Key × V) := more.foldl (fun acc kv => putK acc kv.1 kv.2) kvs
theorem KV.merge : ∀ {more : List (Key × V)} {rs : List (Key × Value)} {kvs : List (Key × V)} {vs : List (Key × Value)}, KV more rs → KV kvs vs → KV (mergeK kvs more) (merged vs rs) := by
  intro more rs kvs vs r
  unfold KV at r
  induction r generalizing kvs vs with
  | nil => intro q; exact q
  | @cons p q ps qs h t ih =>
    intro r0
    have e : KV (putK kvs p.1 p.2) (stored vs q.1 q.2) := by
      have := r0.put p.1 h.2
      rw [← h.1]; exact this
    exact ih e
theorem length_mergeK : ∀ (more kvs : List (Key × V)), (mergeK kvs more).length ≤ kvs.length + more.length
  | [], kvs => by show kvs.length ≤ kvs.length + 0; omega
  | p :: r, kvs => by
    have h1 := length_mergeK r (putK kvs p.1 p.2)
    have h2 := length_putK kvs p.1 p.2
    show (mergeK (putK kvs p.1 p.2) r).length ≤ _
    rw [List.length_cons]; omega
theorem carries_of {P : Program} {w : World} : ∀ {kvs : List (Key × V)} {ws : List (Value × Value)}, VV (kvs.map fun kv => (kV kv.1, kv.2)) ws → ∃ rs, Carries (mixKind P w) ws rs ∧ KV kvs rs
  | [], _, r => by rw [List.map_nil] at r; cases r; exact ⟨[], True.intro, .nil⟩
  | p :: kvs, _, r => by
    rw [List.map_cons] at r
    cases r with
    | @cons a b as bs h t =>
      obtain ⟨rs, c, q⟩ := carries_of (P := P) (w := w) t
      obtain ⟨b1, b2⟩ := b
      exact ⟨(p.1, b2) :: rs, ⟨kV_is h.1, rfl, c⟩, .cons ⟨rfl, h.2⟩ q⟩
def tDisp (trs : List (TE × TE)) : TE := fun σ H Q => ∀ p, H p = none → tPairs trs σ (upd H p (.dK [])) fun ps H2 => H2 p = some (.dK []) ∧ ∃ kvs : List (Key × V), ps = kvs.map (fun kv => (kV kv.1, kv.2)) ∧ kvs.length ≤ 15 ∧ Q (.ref p) (upd H2 p (.dK (mergeK [] kvs)))
theorem pe_disp {X : Cx} {pos : Pos} {keys : List (Option Expr)} {values : List Expr} {trs : List (TE × TE)} (h : PPs X pos keys values trs) (hall : keys.all (·.isSome) = true) (hl : keys.length = values.length) (h0 : keys ≠ [])
    (h15 : keys.length ≤ 15) : PE X (.Dict keys values pos) (tDisp trs) := by
  intro pins s σ H Q I q
  have hn := I.hok.fresh (Nat.le_refl s.heap.objs.size)
  have I1 := I.laid (a := s.heap.objs.size) (o := .dK []) (h' := s.heap.push { cls := .type "dict", data := .dict #[] }) (t' := s.toks) (fun _ _ q => Heap.get?_push_of_some _ q) (Nat.le_refl _) (dk_empty s.heap I.big)
  refine wpAny_Dict_walk (knd := mixKind X.prog X.w) hall hl h0 h15 (thn (h pins _ σ _ _ I1 (q _ hn)) fun ws s2 ⟨ps, H2, I2, rel, e, kvs, ep, lk, q2⟩ => ?_)
  subst ep
  obtain ⟨rs, c, rk⟩ := carries_of (P := X.prog) (w := X.w) rel
  obtain ⟨z, hd, vs0, r0, dd⟩ := dk_of I2.hok e
  cases r0
  refine ⟨rs, c, dd, fun h' dd' hs => ⟨.ref s.heap.objs.size, _, ?_, rfl, q2⟩⟩
  have hz : (mergeK [] kvs).length ≤ sizeLine := by
    have h1 := length_mergeK kvs []
    rw [List.length_nil] at h1
    rw [sizeLine_eq]; omega
  have he : ∃ q, h'.get? s.heap.objs.size = some q := let ⟨q, _, _, hq, _⟩ := dd'; ⟨q, hq⟩
  exact d_write I2 (by rw [e]; exact True.intro) hs he (dk_new hz hd (rk.merge .nil) dd')
structure M1 (X : Cx) (o : Expr) (m : Str) (apos : Pos) (e : Expr) (cpos : Pos) : Prop where
  base : attributeBase o m X.env (eval o X.env) = eval o X.env
  few : ((backTo cpos (starEach [e] X.env)).all (fun x => !x.1) && (backToKw cpos (keywordEach [] X.env)).all (fun x => x.1.isSome)
    && decide (([e] : List Expr).length + ([] : List Keyword).length + (if ([] : List Keyword).isEmpty then 0 else 1) < 30)) = true
  line : (apos.endLine == cpos.line) = true
  trees : backTo cpos (starEach [e] X.env) = [(false, eval e X.env)]
structure M2 (X : Cx) (o : Expr) (m : Str) (apos : Pos) (e f : Expr) (cpos : Pos) : Prop where
  base : attributeBase o m X.env (eval o X.env) = eval o X.env
  few : ((backTo cpos (starEach [e, f] X.env)).all (fun x => !x.1) && (backToKw cpos (keywordEach [] X.env)).all (fun x => x.1.isSome)
    && decide (([e, f] : List Expr).length + ([] : List Keyword).length + (if ([] : List Keyword).isEmpty then 0 else 1) < 30)) = true
  line : (apos.endLine == cpos.line) = true
  trees : backTo cpos (starEach [e, f] X.env) = [(false, eval e X.env), (false, eval f X.env)]
def IsD (H : Hp) (a : Addr) : Prop := (∃ kvs, Rd H a (.dK kvs)) ∨ ∃ kvs, Rd H a (.dT kvs)
theorem isD_at {X : Cx} {pins : List (Addr × Obj)} {σ : St} {H : Hp} {s : Shared} {a : Addr} (I : Inv X pins σ H s) (d : IsD H a) :
    s.TypeIs (.ref a) "dict" ∧ (∀ b, Value.ref a = .ref b → ∃ ob, s.heap.get? b = some ob ∧ ob.dict = none) ∧ (a == sysModules) = false := by
  rcases d with ⟨kvs, e⟩ | ⟨kvs, e⟩
  · obtain ⟨_, hd, vs, _, dd⟩ := dk_rd I.hok e
    refine ⟨dd.typeIs, fun b q => ?_, hd⟩
    cases q
    obtain ⟨ob, _, _, h1, h2, _⟩ := dd
    exact ⟨ob, h1, h2.2.1⟩
  · obtain ⟨_, hd, xs, _, dd⟩ := dt_rd I.hok e
    refine ⟨dd.typeIs, fun b q => ?_, hd⟩
    cases q
    obtain ⟨ob, _, _, h1, h2, _⟩ := dd
    exact ⟨ob, h1, h2.2.1⟩
section
variable {X : Cx} {pins : List (Addr × Obj)} {σ : St} {H : Hp} {s : Shared} {a : Addr} {y d : V} {u r : Value} {o : Option V} {A : Around} {E : Value → Shared → Prop}
theorem d_get2 {Q : Value → Shared → Prop} (hu : A.units + 1 < cLine) (I : Inv X pins σ H s) (g : DGet H a y o) (ry : RelV y u) (rd : RelV d r) (h : ∀ w' s', Inv X pins σ H s' → RelV (o.getD d) w' → Q w' s') :
    wpAny (model X.prog X.w) A (call (.builtin "dict.get") [.ref a, u, r]) Q E s := by
  rcases g with ⟨kvs, k, e, ey, l⟩ | ⟨kvs, k, b, e, ey, eb, l⟩
  · subst ey
    obtain ⟨z, hd, vs, rel, dd⟩ := dk_rd I.hok e
    refine call_meetsIn PySem.F.slot_dict_get dd.typeIs PySem.F.entry_dict_get (PySem.F.args_dict_get_3 _ _ _) (meets_dict_get_default (mixKind X.prog X.w) a (kV_is ry) hd r) ⟨_, dd.mapOf, h _ _ (I.tok _) ?_⟩
    rw [l]
    exact (rel.val k).getD rd
  · subst ey
    cases (show u = Value.ref b from ry)
    obtain ⟨z, hd, xs, rel, dd⟩ := dt_rd I.hok e
    refine call_meetsIn PySem.F.slot_dict_get dd.typeIs PySem.F.entry_dict_get (PySem.F.args_dict_get_3 _ _ _) (meetsH_dict_get_default (tupleKind (mixKind X.prog X.w)) a b hd r) ⟨tupleKind_room_in1 hu, k, xs, key_of I.hok eb, dd, h _ _ (I.tok _) ?_⟩
    rw [l]
    exact (rel.val k).getD rd
end
def tDGet2 (td ty tx : TE) : TE := fun σ H Q => td σ H fun x H1 => ∃ a, x = .ref a ∧ IsD H1 a ∧ ty σ H1 fun y H2 => tx σ H2 fun z H3 => ∃ o, DGet H3 a y o ∧ Q (o.getD z) H3
section
variable {X : Cx} {o e f : Expr} {apos cpos : Pos} {td ty tx : TE}
theorem pe_dget2 (hu : X.A.units + 1 < cLine) (ho : PE X o td) (he : PE X e ty) (hf : PE X f tx) (m : M2 X o "get" apos e f cpos) : PE X (.Call (.Attribute o "get" apos) [e, f] [] cpos) (tDGet2 td ty tx) := by
  intro pins s σ H Q I h
  refine wpAny_Call_method m.base m.few m.line PySem.F.plainAttrs_dict PySem.F.slot_dict_get PySem.F.type_dict_get (thn (ho pins s σ H _ I h) fun u s1 ⟨x, H1, I1, rx, a, ex, d, q1⟩ => ?_)
  subst ex
  obtain rfl : u = Value.ref a := rx
  obtain ⟨t1, t2, _⟩ := isD_at I1 d
  refine ⟨t1, t2, ?_⟩
  rw [m.trees]
  refine Calls.callWith_builtin rfl (Calls.evalArgs_plain (Calls.spliced_cons (thn (he pins s1 σ H1 _ I1 q1) fun iv s2 ⟨y, H2, I2, ry, q2⟩ =>
    Calls.spliced_cons (thn (hf pins s2 σ H2 _ I2 q2) fun fv s3 ⟨z, H3, I3, rz, ov, g, q3⟩ => Calls.spliced_nil ?_))))
  exact d_get2 hu I3 g ry rz fun w' s4 I4 rw' => ⟨_, H3, I4, rw', q3⟩
end
section
variable {X : Cx} {pins : List (Addr × Obj)} {σ : St} {H : Hp} {s : Shared} {a : Addr} {kvs : List (Key × V)} {A : Around} {E : Value → Shared → Prop}
end
section
variable {X : Cx} {pins : List (Addr × Obj)} {σ : St} {H : Hp} {s : Shared} {a : Addr} {y : V} {u : Value} {A : Around} {E : Value → Shared → Prop}
end
end L2
namespace L2
open PySem PySem.Spec PyProof.Rows
section
variable {prog : Program} {w : World} {A : Around} {E : Value → Shared → Prop}
end
section
variable {X : Cx}
end
end L2
namespace L2
open PySem PySem.Spec PyProof.Rows
section
variable {X : Cx} {pins : List (Addr × Obj)} {σ : St} {H : Hp} {s : Shared} {h' : Heap}
theorem Inv.turnedNew {t' : Nat} {ch : List Addr} {T : Addr} {ob : HO} (I : Inv X pins σ H s) (k : ∀ b o, b ∉ ch → s.heap.get? b = some o → h'.get? b = some o) (hf : ∀ b ∈ ch, FpOk X pins H b) (hT : s.heap.objs.size ≤ T)
    (new : ObjOk X.prog X.w (upd H T ob) h' T ob) : Inv X pins σ (upd H T ob) { s with heap := h', toks := t' } := by
  have hn : H T = none := I.hok.fresh hT
  have nit : ∀ b u, H b = some u → b ∉ ch := fun b u e z => by
    have q := (hf b z).1
    rw [q] at e; cases e
  refine I.step (g' := s.gens) (d' := s.drawn) (ch := ch) (fun b hb => ⟨(hf b hb).2.2.2.1, (hf b hb).2.1, (hf b hb).2.2.2.2.1, (hf b hb).2.2.2.2.2⟩) (fun b o _ _ hc e _ => k b o hc e) (fun b o _ _ hc e _ => ⟨o.slots, k b o hc e⟩)
    (fun b o _ e n => ?_) (fun b o hc e => ⟨o, k b o hc e⟩) (fun b xs e => ?_) (fun b o u e => ?_) (fun b ps e => ⟨#[], ?_⟩) (fun m hm => ?_) (fun b u e => ?_) I.bare
  · rw [upd_ne (Nat.ne_of_lt (Nat.lt_of_lt_of_le (Heap.lt_size e) hT))]; exact n
  · rw [upd_ne (ne_of_none e hn)]; exact e
  · rw [upd_ne (ne_of_none e hn)]; exact e
  · rw [upd_ne (ne_of_none e hn), e]; simp
  · obtain ⟨o, es, ep, ho, r⟩ := hm
    exact ⟨o, es, ep, k _ o (fun z => (hf _ z).2.1 rfl) ho, r⟩
  · by_cases hb : b = T
    · subst hb
      rw [upd_same] at e
      cases e
      exact new
    · rw [upd_ne hb] at e
      refine (I.hok b u e).stay (fun c v hc q => k c v ?_ q) (fun c q => by rw [upd_ne (ne_of_none q hn)]; exact q) fun c xs q => by rw [upd_ne (ne_of_none q hn)]; exact q
      rcases hc with z | z
      · rw [z]; exact nit b u e
      · exact nit c _ z
theorem Inv.lock {d : Addr} {u : HO} (I : Inv X pins σ H s) (h : H d = some u) (mu : Mut (some u)) : ∃ od, Inv X pins σ (upd H d (.frz od u)) s := by
  have x := I.hok d u h
  have ex : ∃ od, s.heap.get? d = some od := by
    cases u with
    | lst xs => obtain ⟨_, _, _, _, e⟩ := x; exact ⟨_, e⟩
    | dK kvs => obtain ⟨_, _, _, _, o, _, _, e, _⟩ := x; exact ⟨o, e⟩
    | dT kvs => obtain ⟨_, _, _, _, o, _, _, e, _⟩ := x; exact ⟨o, e⟩
    | set S n => obtain ⟨o, _, _, _, e, _⟩ := x; exact ⟨o, e⟩
    | ins C dx fs => obtain ⟨_, _, _, e, _⟩ := x; exact ⟨_, e⟩
    | ext φ => obtain ⟨_, ⟨_, e⟩, _⟩ := x; exact ⟨_, e⟩
    | _ => exact False.elim mu
  obtain ⟨od, e⟩ := ex
  have new : ObjOk X.prog X.w (upd H d (.frz od u)) s.heap d (.frz od u) := by
    refine ⟨e, x.stay (fun b v _ q => q) (fun b q => ?_) fun b xs q => ?_⟩
    · rw [upd_ne (fun z => by rw [z, h] at q; cases q; exact mu)]; exact q
    · rw [upd_ne (fun z => by rw [z, h] at q; cases q; exact mu)]; exact q
  exact ⟨od, I.write (x := d) (e := d) (t' := s.toks) (h' := s.heap) (by rw [h]; exact mu) (.inl rfl) (fun b v _ q => q) ⟨od, e⟩ new⟩
theorem Inv.nofrz {d : Addr} {u : HO} (I : Inv X pins σ H s) (h : H d = some u) (mu : Mut (some u)) : ∀ o' u', X.H_0 d ≠ some (.frz o' u') := fun o' u' e => by
  have q := I.base.frzs d o' u' e
  rw [h] at q
  cases q
  exact mu
theorem Inv.unlock {d : Addr} {od : Obj} {u : HO} (I : Inv X pins σ H s) (h : H d = some (.frz od u)) (hn : ∀ o' u', X.H_0 d ≠ some (.frz o' u')) : Inv X pins σ (upd H d u) s := by
  have neH : ∀ b o, H b = some o → (∀ o' u', o ≠ .frz o' u') → b ≠ d := fun b o e hne z => by
    rw [z, h] at e
    cases e
    exact hne _ _ rfl
  have neN : ∀ b, H b = none → b ≠ d := fun b e z => by rw [z, h] at e; cases e
  refine ⟨I.ok, I.os, I.bare, ⟨I.base.keep, I.base.slot, fun b o e n hx => ?_, I.base.there, fun b xs e => ?_, fun b o x e => ?_, fun b ps e => ?_⟩, I.loc, I.cell, ?_, fun x c e => ?_, fun p hp => ?_, fun b o e => ?_, I.len⟩
  · rw [upd_ne (neN b (I.base.free b o e n hx))]; exact I.base.free b o e n hx
  · have q := I.base.tups b xs e
    rw [upd_ne (neH b _ q (fun _ _ z => nomatch z))]; exact q
  · have q := I.base.frzs b o x e
    rw [upd_ne (fun z => by rw [z] at e; exact hn _ _ e)]; exact q
  · obtain ⟨m, q⟩ := I.base.tbls b ps e
    exact ⟨m, by rw [upd_ne (neH b _ q (fun _ _ z => nomatch z))]; exact q⟩
  · rw [upd_ne (neN _ I.free)]; exact I.free
  · rw [upd_ne (neN c (I.freeC x c e))]; exact I.freeC x c e
  · obtain ⟨e, n, r⟩ := I.pin p hp
    exact ⟨e, by rw [upd_ne (neN _ n)]; exact n, r⟩
  · by_cases hb : b = d
    · rw [hb, upd_same] at e
      cases e
      rw [hb]
      obtain ⟨_, x⟩ := I.hok d _ h
      exact x.stay (fun c v _ q => q) (fun c q => by rw [upd_ne (neH c _ q (fun _ _ z => nomatch z))]; exact q) fun c xs q => by rw [upd_ne (neH c _ q (fun _ _ z => nomatch z))]; exact q
    · rw [upd_ne hb] at e
      exact (I.hok b o e).stay (fun c v _ q => q) (fun c q => by rw [upd_ne (neH c _ q (fun _ _ z => nomatch z))]; exact q) fun c xs q => by rw [upd_ne (neH c _ q (fun _ _ z => nomatch z))]; exact q
end
def tLock (t : TS) : TS := fun D σ H => ∃ d u, H d = some u ∧ Mut (some u) ∧ ∀ od, t ⟨fun σ' H' => H' d = some (.frz od u) ∧ D.nx σ' (upd H' d u), fun v H' => H' d = some (.frz od u) ∧ D.rt v (upd H' d u), fun σ' H' => H' d = some (.frz od u) ∧ D.bk σ' (upd H' d u), fun σ' H' => H' d = some (.frz od u) ∧ D.ct σ' (upd H' d u)⟩ σ (upd H d (.frz od u))
def tLockE (t : TE) : TE := fun σ H Q => ∃ d u, H d = some u ∧ Mut (some u) ∧ ∀ od, t σ (upd H d (.frz od u)) fun v H' => H' d = some (.frz od u) ∧ Q v (upd H' d u)
section
variable {X : Cx}
theorem ps_lock {st : Stmt} {t : TS} (h : PS X st t) : PS X st (tLock t) := by
  intro pins s σ H D I hw
  obtain ⟨d, u, hd, mu, hw⟩ := hw
  obtain ⟨od, I1⟩ := I.lock hd mu
  refine thn (h pins s σ _ _ I1 (hw od)) fun f s1 q => ?_
  cases f with
  | next => obtain ⟨σ', H', I2, e, q⟩ := q; exact ⟨σ', _, I2.unlock e (I.nofrz hd mu), q⟩
  | brk => obtain ⟨σ', H', I2, e, q⟩ := q; exact ⟨σ', _, I2.unlock e (I.nofrz hd mu), q⟩
  | cont => obtain ⟨σ', H', I2, e, q⟩ := q; exact ⟨σ', _, I2.unlock e (I.nofrz hd mu), q⟩
  | ret v => obtain ⟨x, σ', H', I2, r, e, q⟩ := q; exact ⟨x, σ', _, I2.unlock e (I.nofrz hd mu), r, q⟩
theorem pe_lock {e : Expr} {t : TE} (h : PE X e t) : PE X e (tLockE t) := by
  intro pins s σ H Q I hw
  obtain ⟨d, u, hd, mu, hw⟩ := hw
  obtain ⟨od, I1⟩ := I.lock hd mu
  refine thn (h pins s σ _ _ I1 (hw od)) fun v s1 ⟨x, H1, I2, r, e2, q⟩ => ?_
  exact ⟨x, _, I2.unlock e2 (I.nofrz hd mu), r, q⟩
theorem pi_one {tg : Expr} {pins : List (Addr × Obj)} {σ : St} {H : Hp} {s : Shared} {R : It → Hp → Prop} {J : It} {tn : Nat → Heap → Prop} {tk : Nat} (I : Inv X pins σ H s) (o : Obj)
    (T : Turn X.prog X.w X.K tg J [s.heap.objs.size] s.heap.objs.size tn) (st : tn 0 (s.heap.push o)) (q : R J H) : PIE X pins σ tg R (.ref s.heap.objs.size) { s with heap := s.heap.push o, toks := tk } := by
  refine ⟨s.heap.objs.size, [s.heap.objs.size], tn, J, H, rfl, I.kept fun b ob e => Heap.get?_push_of_some _ e, T, st, fun b hb => ?_, q⟩
  have e : b = s.heap.objs.size := by simpa using hb
  subst e
  exact I.fpOk (Nat.le_refl _) (I.hok.fresh (Nat.le_refl _))
end
section
variable {X : Cx} {tg : Expr}
end
section
variable {X : Cx} {tg : Expr}
end
section
variable {prog : Program} {w : World} {A : Around} {E : Value → Shared → Prop} {s : Shared}
theorem iter_keys {d : Addr} {o : Obj} {es : Array DictEntry} {ep : Nat} {Q : Value → Shared → Prop} (hd : (d == sysModules) = false) (ho : s.heap.get? d = some o) (hc : o.ExactDict) (hdat : o.data = .dict es ep)
    (hQ : Q (.ref s.heap.objs.size) { s with heap := s.heap.push { cls := .type "dict_keyiterator", data := .fields #[.ref d, .int 0 0, .int es.size 0, .int ep 0] } }) :
    wpAny (model prog w) A (pyIter (.ref d)) Q E s := by
  have hT : s.TypeIs (.ref d) "dict" := ⟨o, ho, hc.1⟩
  refine wpAny_pyIter_slot hT F.slot_dict_iter (wpAny_call_entry F.slot_dict_iter hT F.entry_dict_iter ?_ (F.args_dict_iter_1 _))
  unfold Builtin.«dict.__iter__»
  refine wpAny_bind ?_
  unfold Builtin.Dict.dictSlotNone
  refine wpAny_bind (wpAny_notOrdered_dict hT ?_)
  show wpAny _ _ (pure (Value.ref d)) _ _ s
  refine wpAny_pure ?_
  show wpAny _ _ (Builtin.Dict.showsAll d >>= _) _ _ s
  unfold Builtin.Dict.showsAll
  rw [if_neg (by rw [hd]; exact Bool.false_ne_true)]
  refine wpAny_bind (wpAny_pure ?_)
  refine wpAny_bind (wpAny_dictEntries ho hdat ?_)
  refine wpAny_bind (wpAny_dictEpoch ho hdat ?_)
  refine wpAny_bind (wpAny_newObj_type (wpAny_pure ⟨_, rfl, "dict_keyiterator", _, ⟨_, Heap.get?_push_size _ rfl, rfl⟩, F.slot_dict_keyiterator_next.lookup, ?_⟩))
  simpa [rawInt] using hQ
theorem next_key_item {it d : Addr} {i n ep : Nat} {od : Obj} {es : Array DictEntry} {en : DictEntry} {Q : Option Value → Shared → Prop} (hit : s.heap.IsKeyIter it d i n ep) (hod : s.heap.get? d = some od) (hdd : od.data = .dict es ep)
    (hsz : es.size = n) (hx : es[i]? = some en) (hQ : ∀ h', h'.IsKeyIter it d (i + 1) n ep → Heap.SameBut it s.heap h' → Q (some en.key) { s with heap := h' }) : wpAny (model prog w) A (pyNext (.ref it)) Q E s := by
  obtain ⟨o, ho, hc, hd⟩ := id hit
  unfold pyNext
  refine wpAny_bind (wpAny_attempt (wpAny_callSpecial?_slot (name := Str.ofString "__next__") hit.typeIs F.slot_dict_keyiterator_next
    (wpAny_call_entry F.slot_dict_keyiterator_next hit.typeIs F.entry_dict_keyiterator_next ?_ (F.args_dict_keyiterator_next_1 _))))
  refine wpAny_bind (wpAny_pure ?_)
  refine wpAny_bind ?_
  refine wpAny_bind ?_
  first | refine wpAny_bind (wpAny_typeNameOfWhole_keyiter hit.typeIs (wpAny_pure ?_)) | refine wpAny_bind (wpAny_typeNameOf_keyiter hit.typeIs (wpAny_pure ?_))
  refine wpAny_bind (wpAny_fieldsOf ho hd ?_)
  have hown : Builtin.Dict_items.ownsTuple "dict_keyiterator" = false := by decide
  simp only [hown, Bool.false_eq_true, if_false]
  show wpAny _ _ (if (Value.ref d == Value.none) = true then _ else _) _ _ s
  rw [if_neg (show ¬ ((Value.ref d == Value.none) = true) from Bool.false_ne_true)]
  refine wpAny_bind (wpAny_pure ?_)
  refine wpAny_bind (wpAny_dictEntries hod hdd ?_)
  rw [if_neg (by rw [hsz]; simp)]
  refine wpAny_bind (wpAny_pure ?_)
  refine wpAny_bind (wpAny_dictEpoch hod hdd ?_)
  rw [if_neg (by simp)]
  refine wpAny_pure ?_
  obtain ⟨hlt', hen⟩ := Array.getElem?_eq_some_iff.mp hx
  simp only [show ¬ ((i : Int) < 0) from by omega, if_false, Int.toNat_natCast, Array.getElem?_eq_getElem hlt']
  refine wpAny_bind ?_
  first | refine wpAny_bind (wpAny_typeNameOfWhole_keyiter hit.typeIs (wpAny_pure ?_)) | refine wpAny_bind (wpAny_typeNameOf_keyiter hit.typeIs (wpAny_pure ?_))
  refine wpAny_bind (wpAny_isOneOf_keyiter hit.typeIs ?_)
  show wpAny _ _ (setField (.ref it) 1 (rawInt ((i : Int) + 1)) >>= _) _ _ s
  refine wpAny_bind (wpAny_setField ho hd (by simp) ?_)
  have hit' : (s.heap.update it (Obj.mapFields (·.setIfInBounds 1 (rawInt ((i : Int) + 1))))).IsKeyIter it d (i + 1) n ep :=
    ⟨_, Heap.get?_update_self _ ho (Obj.isFreed_of_fields (Obj.data_mapFields hd _)), (Obj.cls_mapFields ..).trans hc, by rw [Obj.data_mapFields hd]; simp [rawInt]⟩
  refine wpAny_bind (wpAny_holding ?_)
  refine wpAny_bind (wpAny_isOneOf_keyiter (s := { s with heap := s.heap.update it (Obj.mapFields (·.setIfInBounds 1 (rawInt ((i : Int) + 1)))) }) hit'.typeIs ?_)
  show wpAny _ _ (pure es[i].key) _ _ _
  rw [hen]
  exact wpAny_pure (wpAny_pure ⟨_, rfl, wpAny_pure (hQ _ hit' (Heap.SameBut.update ..))⟩)
theorem next_key_end {it d : Addr} {i n ep : Nat} {od : Obj} {es : Array DictEntry} {Q : Option Value → Shared → Prop} (hh : A.handled = none) (hit : s.heap.IsKeyIter it d i n ep) (hod : s.heap.get? d = some od) (hdd : od.data = .dict es ep)
    (hsz : es.size = n) (hge : n ≤ i) (hQ : ∀ h', Heap.ExtBut it s.heap h' → Q none { s with heap := h' }) : wpAny (model prog w) A (pyNext (.ref it)) Q E s := by
  obtain ⟨o, ho, hc, hd⟩ := id hit
  unfold pyNext
  refine wpAny_bind (wpAny_attempt (wpAny_callSpecial?_slot (name := Str.ofString "__next__") hit.typeIs F.slot_dict_keyiterator_next
    (wpAny_call_entry F.slot_dict_keyiterator_next hit.typeIs F.entry_dict_keyiterator_next ?_ (F.args_dict_keyiterator_next_1 _))))
  refine wpAny_bind (wpAny_pure ?_)
  refine wpAny_bind ?_
  refine wpAny_bind ?_
  first | refine wpAny_bind (wpAny_typeNameOfWhole_keyiter hit.typeIs (wpAny_pure ?_)) | refine wpAny_bind (wpAny_typeNameOf_keyiter hit.typeIs (wpAny_pure ?_))
  refine wpAny_bind (wpAny_fieldsOf ho hd ?_)
  have hown : Builtin.Dict_items.ownsTuple "dict_keyiterator" = false := by decide
  simp only [hown, Bool.false_eq_true, if_false]
  show wpAny _ _ (if (Value.ref d == Value.none) = true then _ else _) _ _ s
  rw [if_neg (show ¬ ((Value.ref d == Value.none) = true) from Bool.false_ne_true)]
  refine wpAny_bind (wpAny_pure ?_)
  refine wpAny_bind (wpAny_dictEntries hod hdd ?_)
  rw [if_neg (by rw [hsz]; simp)]
  refine wpAny_bind (wpAny_pure ?_)
  refine wpAny_bind (wpAny_dictEpoch hod hdd ?_)
  rw [if_neg (by simp)]
  refine wpAny_pure ?_
  have hge' : es.size ≤ i := by rw [hsz]; exact hge
  simp only [show ¬ ((i : Int) < 0) from by omega, if_false, Int.toNat_natCast, Array.getElem?_eq_none hge']
  refine wpAny_bind ?_
  first | refine wpAny_bind (wpAny_typeNameOfWhole_keyiter hit.typeIs (wpAny_pure ?_)) | refine wpAny_bind (wpAny_typeNameOf_keyiter hit.typeIs (wpAny_pure ?_))
  show wpAny _ _ (setField (.ref it) 0 .none >>= _) _ _ s
  refine wpAny_bind (wpAny_setField ho hd (by simp) ?_)
  show wpAny _ _ (newExc (.type "StopIteration") [] >>= _) _ _ _
  refine wpAny_bind ?_
  simp only [newExc, newTuple]
  refine wpAny_bind (wpAny_newObj_type ?_ (by size_fits))
  refine wpAny_bind (m := firstArgMember _ _) (wpAny_of_eq (a := Value.none) (by first | rfl | (simp only [firstArgMember]; rfl)) ?_)
  refine wpAny_newObj_type ?_ (by size_fits)
  simp only [raiseNew]
  refine wpAny_bind (wpAny_handled ?_)
  rw [show A.in1.handled = none from hh]
  refine wpAny_bind (wpAny_pure (wpAny_throw ?_))
  refine wpAny_bind (wpAny_isInstance (T := "StopIteration") (b := true) ⟨_, Heap.get?_push_size _ rfl, rfl⟩ isSubtype_stop ?_)
  exact wpAny_pure (hQ _ (((Heap.SameBut.update ..).extBut.push _).push _))
end
theorem kv_get {κ : Type} {kvs : List (κ × V)} {vs : List (κ × Value)} (h : KV kvs vs) : ∀ {i : Nat} {k : κ} {v : V}, kvs[i]? = some (k, v) → ∃ u, vs[i]? = some (k, u) ∧ RelV v u := by
  unfold KV at h
  induction h with
  | nil => intro i k v e; simp at e
  | @cons a b l₁ l₂ r t ih =>
    intro i k v e
    cases i with
    | zero =>
      simp only [List.getElem?_cons_zero, Option.some.injEq] at e
      subst e
      refine ⟨b.2, ?_, r.2⟩
      simp only [List.getElem?_cons_zero]
      exact congrArg some (Prod.ext r.1.symm rfl)
    | succ j =>
      simp only [List.getElem?_cons_succ] at e ⊢
      exact ih e
theorem paired_get {α β : Type} {G : α → β → Prop} {l₁ : List α} {l₂ : List β} (h : Paired G l₁ l₂) : ∀ {i : Nat} {a : α}, l₁[i]? = some a → ∃ b, l₂[i]? = some b ∧ G a b := by
  induction h with
  | nil => intro i a e; simp at e
  | @cons a b l₁ l₂ r t ih =>
    intro i a' e
    cases i with
    | zero =>
      simp only [List.getElem?_cons_zero, Option.some.injEq] at e
      subst e
      exact ⟨b, rfl, r⟩
    | succ j =>
      simp only [List.getElem?_cons_succ] at e ⊢
      exact ih e
theorem relV_key {k : Key} {u : Value} (h : keyIs k u = true) : RelV (kV k) u := by
  rcases keyIs_shape h with ⟨i, t, rfl, rfl⟩ | ⟨x, t, rfl, rfl⟩
  · exact ⟨t, rfl⟩
  · exact ⟨t, rfl⟩
section
variable {X : Cx} {pins : List (Addr × Obj)} {σ : St} {H : Hp} {s : Shared} {d : Addr} {o : Obj}
theorem Inv.frzK {kvs : List (Key × V)} (I : Inv X pins σ H s) (h : H d = some (.frz o (.dK kvs))) :
    (d == sysModules) = false ∧ s.heap.get? d = some o ∧ o.ExactDict ∧ ∃ (es : Array DictEntry) (ep : Nat) (vs : List (Key × Value)), o.data = .dict es ep ∧ es.size = kvs.length ∧ KV kvs vs ∧ s.heap.DictAt (mixKind X.prog X.w) d vs ep := by
  obtain ⟨hd, z, hs, vs, kv, o', es, ep, ho, hx, hdt, r⟩ := I.hok d _ h
  rw [hd] at ho
  cases ho
  refine ⟨hs, hd, hx, es, ep, vs, hdt, ?_, kv, o, es, hd, hx, hdt, r⟩
  have l1 := r.2.1.length
  have l2 : kvs.length = vs.length := Paired.length kv
  rw [Array.length_toList] at l1
  omega
theorem Inv.frzT {kvs : List (List Key × V)} (I : Inv X pins σ H s) (h : H d = some (.frz o (.dT kvs))) :
    (d == sysModules) = false ∧ s.heap.get? d = some o ∧ o.ExactDict ∧ ∃ (es : Array DictEntry) (ep : Nat), o.data = .dict es ep ∧ es.size = kvs.length ∧
      ∀ (i : Nat) (k : List Key) (v : V), kvs[i]? = some (k, v) → ∃ (en : DictEntry) (q : Addr), es[i]? = some en ∧ en.key = .ref q ∧ H q = some (.tup (k.map kV)) := by
  obtain ⟨hd, z, hs, xs, pr, o', es, ep, ho, hx, hdt, he, _⟩ := I.hok d _ h
  rw [hd] at ho
  cases ho
  refine ⟨hs, hd, hx, es, ep, hdt, ?_, fun i k v e => ?_⟩
  · have l1 : es.size = xs.length := size_of_entries he
    have l2 : kvs.length = xs.length := Paired.length pr
    omega
  · obtain ⟨b, hb, e1, e2, _⟩ := paired_get pr e
    have q := entry_at he i
    rw [hb] at q
    exact ⟨_, b.2.1, q, rfl, e2⟩
end
def Itk (d : Addr) (o : Obj) (kvs : List (Key × V)) : It :=
  ⟨fun i H => H d = some (.frz o (.dK kvs)) ∧ i < kvs.length, fun i H x H' => H' = H ∧ ∃ k v, kvs[i]? = some (k, v) ∧ x = kV k, fun i H => H d = some (.frz o (.dK kvs)) ∧ kvs.length ≤ i⟩
def Itkt (d : Addr) (o : Obj) (kvs : List (List Key × V)) : It :=
  ⟨fun i H => H d = some (.frz o (.dT kvs)) ∧ i < kvs.length, fun i H x H' => H' = H ∧ ∃ (k : List Key) (v : V) (q : Addr), kvs[i]? = some (k, v) ∧ x = .ref q ∧ H q = some (.tup (k.map kV)), fun i H => H d = some (.frz o (.dT kvs)) ∧ kvs.length ≤ i⟩
def Iti (d : Addr) (o : Obj) (kvs : List (Key × V)) : It :=
  ⟨fun i H => H d = some (.frz o (.dK kvs)) ∧ i < kvs.length, fun i H x H' => ∃ T k v, kvs[i]? = some (k, v) ∧ x = .ref T ∧ H T = none ∧ H' = upd H T (.tup [kV k, v]), fun i H => H d = some (.frz o (.dK kvs)) ∧ kvs.length ≤ i⟩
theorem dict_ep {o : Obj} {es es' : Array DictEntry} {ep ep' : Nat} (h : o.data = .dict es ep) (h' : o.data = .dict es' ep') : es' = es ∧ ep' = ep := by
  rw [h] at h'
  cases h'
  exact ⟨rfl, rfl⟩
section
variable {P : Program} {w : World} {K : PySem.W.Frag} {tg : Expr} {d : Addr} {o : Obj} {es : Array DictEntry} {ep : Nat}
theorem turn_keys {kvs : List (Key × V)} (it : Addr) (hod : o.data = .dict es ep) : Turn P w K tg (Itk d o kvs) [it] it (fun i h => h.IsKeyIter it d i kvs.length ep) where
  mem := by simp
  obj := fun i h st b hb => by
    have e : b = it := by simpa using hb
    subst e
    obtain ⟨oi, e, c, dd⟩ := st
    exact ⟨oi, e, fun v z => by rw [dd] at z; cases z⟩
  keep := fun i h h' st k => st.at fun oi e => k it (by simp) oi e
  item := by
    intro X hP hw hK hc i pins s σ H E I hf st hg
    subst hP hw hK
    obtain ⟨hd, hi⟩ := hg
    obtain ⟨f0, f1, f2, f3, f4, f5⟩ := hf it (by simp)
    obtain ⟨hs, hgd, hx, es', ep', vs, hdt, hsz, kv, hm⟩ := I.frzK hd
    obtain ⟨rfl, rfl⟩ := dict_ep hod hdt
    obtain ⟨⟨k, v⟩, hkv⟩ : ∃ p, kvs[i]? = some p := ⟨kvs[i], List.getElem?_eq_getElem hi⟩
    obtain ⟨u, hu, ru⟩ := kv_get kv hkv
    have hl : kvs.length = vs.length := Paired.length kv
    rw [hl] at st
    refine wpAny_pyNext_dict_item st hm hu fun key h' hkey st' sb => ?_
    have I1 : Inv X pins σ H { s with heap := h' } := I.turned (t' := s.toks) (fun b ob hb e => (sb.2 b hb).trans e) f0 f1 f3 f4 f5
    obtain ⟨oi, e, c, dd⟩ := id st'
    refine ⟨key, rfl, go_of (s := { s with heap := h' }) e c dd (by decide) ⟨kV k, H, I1, relV_key (show keyIs k key = true from hkey), ⟨rfl, k, v, hkv, rfl⟩, ?_, fun b hb => (hf b hb).1⟩⟩
    show h'.IsKeyIter it d (i + 1) kvs.length _
    rw [hl]
    exact st'
  done := by
    intro X hP hw hK hc i pins s σ H E I hf st hg
    subst hP hw hK
    obtain ⟨hd, hi⟩ := hg
    obtain ⟨f0, f1, f2, f3, f4, f5⟩ := hf it (by simp)
    obtain ⟨hs, hgd, hx, es', ep', vs, hdt, hsz, kv, hm⟩ := I.frzK hd
    obtain ⟨rfl, rfl⟩ := dict_ep hod hdt
    exact next_key_end (I.ok.hd hc) st hgd hdt hsz hi fun h' eb => ⟨rfl, I.turned (t' := s.toks) (fun b ob hb e => eb b ob hb e) f0 f1 f3 f4 f5⟩
  self := fun A i s Q E st h => wpAny_pyIter_keyiter st h
theorem turn_keysT {kvs : List (List Key × V)} (it : Addr) (hod : o.data = .dict es ep) : Turn P w K tg (Itkt d o kvs) [it] it (fun i h => h.IsKeyIter it d i kvs.length ep) where
  mem := by simp
  obj := fun i h st b hb => by
    have e : b = it := by simpa using hb
    subst e
    obtain ⟨oi, e, c, dd⟩ := st
    exact ⟨oi, e, fun v z => by rw [dd] at z; cases z⟩
  keep := fun i h h' st k => st.at fun oi e => k it (by simp) oi e
  item := by
    intro X hP hw hK hc i pins s σ H E I hf st hg
    subst hP hw hK
    obtain ⟨hd, hi⟩ := hg
    obtain ⟨f0, f1, f2, f3, f4, f5⟩ := hf it (by simp)
    obtain ⟨hs, hgd, hx, es', ep', hdt, hsz, ent⟩ := I.frzT hd
    obtain ⟨rfl, rfl⟩ := dict_ep hod hdt
    obtain ⟨⟨k, v⟩, hkv⟩ : ∃ p, kvs[i]? = some p := ⟨kvs[i], List.getElem?_eq_getElem hi⟩
    obtain ⟨en, q, hen, hkey, hq⟩ := ent i k v hkv
    refine next_key_item st hgd hdt hsz hen fun h' st' sb => ?_
    have I1 : Inv X pins σ H { s with heap := h' } := I.turned (t' := s.toks) (fun b ob hb e => (sb.2 b hb).trans e) f0 f1 f3 f4 f5
    obtain ⟨oi, e, c, dd⟩ := id st'
    exact ⟨en.key, rfl, go_of (s := { s with heap := h' }) e c dd (by decide) ⟨.ref q, H, I1, hkey, ⟨rfl, k, v, q, hkv, rfl, hq⟩, st', fun b hb => (hf b hb).1⟩⟩
  done := by
    intro X hP hw hK hc i pins s σ H E I hf st hg
    subst hP hw hK
    obtain ⟨hd, hi⟩ := hg
    obtain ⟨f0, f1, f2, f3, f4, f5⟩ := hf it (by simp)
    obtain ⟨hs, hgd, hx, es', ep', hdt, hsz, ent⟩ := I.frzT hd
    obtain ⟨rfl, rfl⟩ := dict_ep hod hdt
    exact next_key_end (I.ok.hd hc) st hgd hdt hsz hi fun h' eb => ⟨rfl, I.turned (t' := s.toks) (fun b ob hb e => eb b ob hb e) f0 f1 f3 f4 f5⟩
  self := fun A i s Q E st h => by
    refine wpAny_pyIter_slot st.typeIs F.slot_dict_keyiterator_iter (wpAny_call_entry F.slot_dict_keyiterator_iter st.typeIs F.entry_dict_keyiterator_iter ?_ (F.args_dict_keyiterator_iter_1 _))
    show wpAny _ _ (ret (.ref it)) _ _ s
    exact wpAny_pure ⟨_, rfl, "dict_keyiterator", _, st.typeIs, F.slot_dict_keyiterator_next.lookup, h⟩
theorem turn_items {kvs : List (Key × V)} {elts : List Expr} {kk : Nat} {tpos : Pos} (it : Addr) (hod : o.data = .dict es ep) :
    Turn P w K (.Tuple elts kk tpos) (Iti d o kvs) [it] it (fun i h => ∃ ok ov, IsItemIter h it d i kvs.length ep ok ov) where
  mem := by simp
  obj := fun i h st b hb => by
    have e : b = it := by simpa using hb
    subst e
    obtain ⟨ok, ov, e⟩ := st
    exact ⟨_, e, fun v z => nomatch z⟩
  keep := fun i h h' st k => let ⟨ok, ov, e⟩ := st; ⟨ok, ov, k it (by simp) _ e⟩
  item := by
    intro X hP hw hK hc i pins s σ H E I hf st hg
    subst hP hw hK
    obtain ⟨hd, hi⟩ := hg
    obtain ⟨hs, hgd, hx, es', ep', vs, hdt, hsz, kv, hm⟩ := I.frzK hd
    obtain ⟨rfl, rfl⟩ := dict_ep hod hdt
    obtain ⟨⟨k, v⟩, hkv⟩ : ∃ p, kvs[i]? = some p := ⟨kvs[i], List.getElem?_eq_getElem hi⟩
    obtain ⟨u, hu, ru⟩ := kv_get kv hkv
    have hl : kvs.length = vs.length := Paired.length kv
    obtain ⟨ok, ov, he⟩ := st
    rw [hl] at he
    have hlt : it < s.heap.objs.size := Heap.lt_size he
    refine wpAny_pyNext_items_item he hm hu fun key h' hkey ho hT hz hk => ?_
    refine ⟨_, rfl, wpAny_letOwnedTupleGo_items (s := { s with heap := h' }) ho fun h'' he' sb => ?_⟩
    have hT2 : h''.get? s.heap.objs.size = some { cls := .type "tuple", data := .seq #[key, u] } := (sb.2 _ (Nat.ne_of_gt hlt)).trans hT
    have new : ObjOk X.prog X.w (upd H s.heap.objs.size (.tup [kV k, v])) h'' s.heap.objs.size (.tup [kV k, v]) :=
      ⟨by show 2 ≤ sizeLine; decide, [key, u], .cons (relV_key (show keyIs k key = true from hkey)) (.cons ru .nil), ⟨_, hT2, rfl, _, rfl⟩⟩
    have I1 : Inv X pins σ (upd H s.heap.objs.size (.tup [kV k, v])) { s with heap := h'' } :=
      I.turnedNew (t' := s.toks) (ch := [it]) (fun b ob hb e => (sb.2 b (by simpa using hb)).trans (hk b ob (by simpa using hb) e)) hf (Nat.le_refl _) new
    refine ⟨.ref s.heap.objs.size, _, I1, rfl, ⟨_, k, v, hkv, rfl, I.hok.fresh (Nat.le_refl _), rfl⟩, ⟨key, u, ?_⟩, fun b hb => ?_⟩
    · rw [hl]; exact he'
    · have e : b = it := by simpa using hb
      rw [e, upd_ne (Nat.ne_of_lt hlt)]
      exact (hf it (by simp)).1
  done := by
    intro X hP hw hK hc i pins s σ H E I hf st hg
    subst hP hw hK
    obtain ⟨hd, hi⟩ := hg
    obtain ⟨f0, f1, f2, f3, f4, f5⟩ := hf it (by simp)
    obtain ⟨hs, hgd, hx, es', ep', vs, hdt, hsz, kv, hm⟩ := I.frzK hd
    obtain ⟨rfl, rfl⟩ := dict_ep hod hdt
    have hl : kvs.length = vs.length := Paired.length kv
    obtain ⟨ok, ov, he⟩ := st
    rw [hl] at he
    exact wpAny_pyNext_items_end (I.ok.hd hc) he hm (List.getElem?_eq_none (by omega)) fun h' eb => ⟨rfl, I.turned (t' := s.toks) (fun b ob hb e => eb b ob hb e) f0 f1 f3 f4 f5⟩
  self := fun A i s Q E st h => let ⟨_, _, e⟩ := st; PySem.W.kcp_self e h
end
def iKeys (td : TE) : TI := fun σ H R => td σ H fun x H1 => ∃ d o, x = .ref d ∧ ((∃ kvs, H1 d = some (.frz o (.dK kvs)) ∧ R (Itk d o kvs) H1) ∨ ∃ kvs, H1 d = some (.frz o (.dT kvs)) ∧ R (Itkt d o kvs) H1)
def iItems (td : TE) : TI := fun σ H R => td σ H fun x H1 => ∃ d o kvs, x = .ref d ∧ H1 d = some (.frz o (.dK kvs)) ∧ R (Iti d o kvs) H1
section
variable {X : Cx} {tg e : Expr} {td : TE} {apos cpos : Pos}
theorem pi_keys (he : PE X e td) : PI X tg e (iKeys td) := by
  intro pins s σ H R I h
  refine thn (he pins s σ H _ I h) fun u s1 ⟨x, H1, I1, rx, d, o, ex, q⟩ => ?_
  subst ex
  obtain rfl : u = Value.ref d := rx
  rcases q with ⟨kvs, hd, q⟩ | ⟨kvs, hd, q⟩
  · obtain ⟨hs, hgd, hx, es, ep, vs, hdt, hsz, kv, hm⟩ := I1.frzK hd
    refine iter_keys hs hgd hx hdt (pi_one (tk := s1.toks) I1 _ (turn_keys _ hdt) ⟨_, Heap.get?_push_size _ rfl, rfl, ?_⟩ q)
    rw [hsz] <;> rfl
  · obtain ⟨hs, hgd, hx, es, ep, hdt, hsz, ent⟩ := I1.frzT hd
    refine iter_keys hs hgd hx hdt (pi_one (tk := s1.toks) I1 _ (turn_keysT _ hdt) ⟨_, Heap.get?_push_size _ rfl, rfl, ?_⟩ q)
    rw [hsz] <;> rfl
theorem pi_items {elts : List Expr} {kk : Nat} {tpos : Pos} (he : PE X e td) (hbase : attributeBase e "items" X.env (eval e X.env) = eval e X.env := by rfl) (hline : (apos.endLine == cpos.line) = true := by rfl) :
    PI X (.Tuple elts kk tpos) (.Call (.Attribute e "items" apos) [] [] cpos) (iItems td) := by
  intro pins s σ H R I h
  refine wpAny_Call_method (T := "dict") (id := "dict.items") hbase rfl hline F.plainAttrs_dict F.slot_dict_items F.type_dict_items (thn (he pins s σ H _ I h) fun u s1 ⟨x, H1, I1, rx, d, o, kvs, ex, hd, q⟩ => ?_)
  subst ex
  obtain rfl : u = Value.ref d := rx
  obtain ⟨hs, hgd, hx, es, ep, vs, hdt, hsz, kv, hm⟩ := I1.frzK hd
  have hl : kvs.length = vs.length := Paired.length kv
  refine ⟨hm.dictOf.typeIs, hm.dictOf.mapOf.noDict, ?_⟩
  have I2 : Inv X pins σ H1 { s1 with heap := s1.heap.push { cls := .type "dict_items", data := .fields #[.ref d] } } := I1.kept (t' := s1.toks) fun b ob q => Heap.get?_push_of_some _ q
  have fin : wpAny (model X.prog X.w) X.A (pyIter (.ref s1.heap.objs.size)) (PIE X pins σ (.Tuple elts kk tpos) R) X.xe { s1 with heap := s1.heap.push { cls := .type "dict_items", data := .fields #[.ref d] } } := by
    refine wpAny_pyIter_items (d := d) (knd := mixKind X.prog X.w) ⟨_, Heap.get?_push_size _ rfl, rfl, rfl⟩ (hm.push _) (pi_one (tk := s1.toks) I2 _ (turn_items _ hdt) ⟨.none, .none, ?_⟩ q)
    rw [hl]
    exact Heap.get?_push_size _ rfl
  show wpAny _ _ (callWith cpos (.builtin "dict.items") [.ref d] [] []) _ X.xe s1
  exact method_meetsIn F.slot_dict_items F.entry_dict_items rfl (PySem.evalArgs_none ⟨rfl, hm.dictOf.typeIs, F.args_dict_items_1 _, _, meets_dict_items (mixKind X.prog X.w) d hs, ⟨vs, hm.dictOf⟩, fin⟩)
end
def Ite (K : PySem.W.Frag) (a : Addr) : It :=
  ⟨fun i H => ∃ (xs : List V) (x : V), SqL K H a xs ∧ xs[i]? = some x, fun i H v H' => ∃ T x, v = .ref T ∧ H T = none ∧ H' = upd H T (.tup [.int (i : Nat), x]) ∧ ∀ xs, SqL K H a xs → xs[i]? = some x, fun i H => ∃ xs : List V, SqL K H a xs ∧ xs.length ≤ i⟩
theorem turn_enum {P : Program} {w : World} {K : PySem.W.Frag} {elts : List Expr} {kk : Nat} {tpos : Pos} (a e it : Addr) :
    Turn P w K (.Tuple elts kk tpos) (Ite K a) [e, it] e (fun i h => (∃ old, IsEnum h e it ((i : Nat) : Int) old) ∧ h.IsListIter it a i ∧ e ≠ it) where
  mem := by simp
  obj := fun i h st b hb => by
    obtain ⟨⟨old, he⟩, ⟨o, ho, hc, hd⟩, _⟩ := st
    have e' : b = e ∨ b = it := by simpa using hb
    rcases e' with z | z
    · rw [z]; exact ⟨_, he, fun v q => nomatch q⟩
    · rw [z]; exact ⟨o, ho, fun v q => by rw [hd] at q; cases q⟩
  keep := fun i h h' st k => let ⟨⟨old, he⟩, hi, hne⟩ := st; ⟨⟨old, k e (by simp) _ he⟩, hi.at fun o q => k it (by simp) o q, hne⟩
  item := by
    intro X hP hw hK hc i pins s σ H E I hf st hg
    subst hP hw hK
    obtain ⟨⟨old, he⟩, hit, hne⟩ := st
    obtain ⟨xs, x, hq, hx⟩ := hg
    obtain ⟨its, rv, p, hz⟩ := I.list hq
    obtain ⟨u, hu, ru⟩ := rv.get hx
    have hel : e < s.heap.objs.size := Heap.lt_size he
    have hil : it < s.heap.objs.size := by obtain ⟨_, q, _⟩ := hit; exact Heap.lt_size q
    refine wpAny_pyNext_enum_item he hit p.isList (x := u) (by simpa using hu) hne fun h' ho hit' hT hsz hk => ?_
    refine ⟨_, rfl, wpAny_letOwnedTupleGo_enum (s := { s with heap := h', toks := s.toks + 1 }) ho fun h'' he' sb => ?_⟩
    have hT2 : h''.get? s.heap.objs.size = some { cls := .type "tuple", data := .seq #[.int i s.toks, u] } := (sb.2 _ (Nat.ne_of_gt hel)).trans hT
    have new : ObjOk X.prog X.w (upd H s.heap.objs.size (.tup [.int (i : Nat), x])) h'' s.heap.objs.size (.tup [.int (i : Nat), x]) :=
      ⟨by show 2 ≤ sizeLine; decide, [.int i s.toks, u], .cons ⟨_, rfl⟩ (.cons ru .nil), ⟨_, hT2, rfl, _, rfl⟩⟩
    have I1 : Inv X pins σ (upd H s.heap.objs.size (.tup [.int (i : Nat), x])) { s with heap := h'', toks := s.toks + 1 } :=
      I.turnedNew (ch := [e, it]) (fun b ob hb q => (sb.2 b (fun z => hb (by simp [z]))).trans (hk b ob (fun z => hb (by simp [z])) (fun z => hb (by simp [z])) q)) hf (Nat.le_refl _) new
    refine ⟨.ref s.heap.objs.size, _, I1, rfl, ⟨_, x, rfl, I.hok.fresh (Nat.le_refl _), rfl, fun ys hy => by rw [I.list_inj hy hq]; exact hx⟩, ⟨⟨u, ?_⟩, hit'.at fun o q => (sb.2 it (Ne.symm hne)).trans q, hne⟩, fun b hb => ?_⟩
    · have e1 : ((i + 1 : Nat) : Int) = (i : Int) + 1 := by omega
      rw [e1]; exact he'
    · have hb' : b < s.heap.objs.size := by
        have e' : b = e ∨ b = it := by simpa using hb
        rcases e' with z | z
        · rw [z]; exact hel
        · rw [z]; exact hil
      rw [upd_ne (Nat.ne_of_lt hb')]
      exact (hf b hb).1
  done := by
    intro X hP hw hK hc i pins s σ H E I hf st hg
    subst hP hw hK
    obtain ⟨⟨old, he⟩, hit, hne⟩ := st
    obtain ⟨xs, hq, hx⟩ := hg
    obtain ⟨its, rv, p, hz⟩ := I.list hq
    obtain ⟨f0, f1, f2, f3, f4, f5⟩ := hf it (by simp)
    have hl := rv.length
    exact wpAny_pyNext_enum_end (I.ok.hd hc) he hit p.isList (by simp; omega) fun h' eb => ⟨rfl, I.turned (t' := s.toks) (fun b o hb q => eb b o hb q) f0 f1 f3 f4 f5⟩
  self := fun A i s Q E st h => let ⟨⟨_, he⟩, _⟩ := st; wpAny_pyIter_enum he h
def iEnum (K : PySem.W.Frag) (ta : TA) : TI := fun σ H R => ta σ H fun vs H1 => ∃ a xs, vs = [.ref a] ∧ SqL K H1 a xs ∧ R (Ite K a) H1
theorem pi_enum {X : Cx} {e : Expr} {ta : TA} {p pos tpos : Pos} {elts : List Expr} {kk : Nat} (hg : Gl X "enumerate") (hm : X.mg "enumerate" = none) (ha : PA X [e] ta) (hs : starEach [e] X.env = [(false, eval e X.env)] := by rfl) :
    PI X (.Tuple elts kk tpos) (.Call (.Name "enumerate" p) [e] [] pos) (iEnum X.K ta) := by
  intro pins s σ H R I h
  refine Call_ (ld_blt I hg hm boot_enumerate (PyProof.Rows.callWith_type1 (thn (ha pos pins s σ H _ I h) fun us s1 ⟨vs, H1, I1, r1, q1⟩ => ?_) hs rfl))
  obtain ⟨a, xs, ex, hq, q⟩ := q1
  subst ex
  cases r1 with
  | cons r rr =>
    cases rr
    cases r
    obtain ⟨its, rv, p', hz⟩ := I1.list hq
    refine call_enumerate_list p'.isList fun h' he hit hsz hk => wpAny_pyIter_enum he ?_
    have I2 : Inv X pins σ H1 { s1 with heap := h' } := I1.kept (t' := s1.toks) hk
    refine ⟨s1.heap.objs.size + 1, [s1.heap.objs.size + 1, s1.heap.objs.size], _, _, H1, rfl, I2, turn_enum a (s1.heap.objs.size + 1) s1.heap.objs.size, ⟨⟨.none, he⟩, hit, Nat.succ_ne_self _⟩, fun b hb => ?_, q⟩
    have e' : b = s1.heap.objs.size + 1 ∨ b = s1.heap.objs.size := by simpa using hb
    have hle : s1.heap.objs.size ≤ b := by
      rcases e' with z | z
      · rw [z]; exact Nat.le_add_right _ _
      · rw [z]; exact Nat.le_refl _
    exact I1.fpOk hle (I1.hok.fresh hle)
end L2
section 
namespace Bits
open PySem PyProof.Rows
end Bits
end 
section 
namespace TL
open PySem PySem.Builtin PySem.Builtin.Str PySem.StrLaws
end TL
end 
namespace L2
open PySem PySem.Spec PyProof.Rows
section
variable {X : Cx} {pins : List (Addr × Obj)} {σ : St} {H : Hp} {s : Shared} {Q : VK}
end
section
variable {X : Cx}
end
section
variable {X : Cx} {o e : Expr} {to te : TE}
end
end L2
namespace L2
open PySem PySem.Spec PyProof.Rows
section
variable {X : Cx}
end
end L2
namespace Att
open PySem PySem.W PySem.Calls PyProof.Rows
section
variable {prog : Program} {w : World} {A : Around} {E : Value → Shared → Prop} {s : Shared} {K : Frag}
end
end Att
namespace L2
open PySem PySem.Spec PyProof.Rows
end L2
namespace L2
open PySem PySem.Spec PyProof.Rows
end L2
namespace L2
open PySem PySem.Spec PyProof.Rows
def inClass (s : Stmt) (j : Nat) : Stmt := match s with
  | .ClassDef _ _ _ body _ _ _ _ _ _ _ => body.getD j (.Pass ⟨0, 0, 0, 0⟩)
  | _ => .Pass ⟨0, 0, 0, 0⟩
def defArgs (s : Stmt) : Arguments := match s with
  | .FunctionDef _ a _ _ _ _ _ _ _ _ => a
  | _ => { posonlyargs := [], args := [], vararg := none, kwonlyargs := [], kw_defaults := [], kwarg := none, defaults := [] }
def defBody (s : Stmt) : List Stmt := match s with
  | .FunctionDef _ _ b _ _ _ _ _ _ _ => b
  | _ => []
def defScope (s : Stmt) : Scope := match s with
  | .FunctionDef _ _ _ _ _ _ sc _ _ _ => sc
  | _ => { kind := .function, names := [], isGenerator := false, isCoroutine := false }
abbrev CX0 : CXT := fun _ _ _ _ _ _ => False
abbrev E0 : XK := fun _ _ _ => False
theorem pass0 {X : Cx} : Passes CX0 X E0 := fun _ _ _ _ _ _ _ h => h.elim
structure Fun (K : PySem.W.Frag) (x qual : Str) (st : Stmt) (f : Addr) (fd : FuncData) : Prop where
  ex : ∃ (oc : Value) (od : Option Addr) (kV doc pm : Value) (an : Option Addr) (cdv ct : Value) (osl : Array (Option Value)),
    fd = PySem.W.fnOf x qual (defArgs st) (defBody st) (defScope st) .none kV doc pm an cdv ct ∧ K.lookup f = some ⟨oc, od, .func fd, osl⟩ ∧ PySem.W.codeIn K cdv qual = true
  kp : PySem.W.keepIn K (.ref f) = true
section
variable {P : Program} {w : World} {K : PySem.W.Frag} {mg : Str → Option Value} {base : Heap}
theorem Fun.ok {x qual : Str} {st : Stmt} {f : Addr} {fd : FuncData} {N ps : List Str} {k : Nat} {sp : Sp} (F : Fun K x qual st f fd) (S : FnScope N ps (defScope st)) (len : ∀ vs H Q E, sp vs H Q E → vs.length = ps.length)
    (hbody : ∀ (cdv : Value) (A : Around) (outer : List Env) (s : Shared) (H : Hp) (vs : List V) (Q : VK) (E : XK), Room k (A.deeper (envOfC qual (defScope st) s.heap.objs.size f cdv)) → sp vs H Q E →
      ∃ t, PSs (cxOf CX0 P w K mg base N qual (defScope st) f cdv A outer s H E).nox (defBody st) t ∧ t { nx := fun _ H' => Q .non H', rt := Q } (start N vs) H) : FnOk P w K mg base CX0 (k + 1) f fd ps sp := by
  obtain ⟨oc, od, kV, doc, pm, an, cdv, ct, osl, rfl, lk, hcd⟩ := F.ex
  refine fn_of lk hcd S len fun A outer s H vs Q E hr hsp => ?_
  obtain ⟨t, h, q⟩ := hbody cdv A outer s H vs Q E hr hsp
  exact ⟨t, h.nox, q⟩
theorem Fun.binds {x qual : Str} {st : Stmt} {f : Addr} {fd : FuncData} {ps : List Str} (F : Fun K x qual st f fd)
    (h : ∀ (kV doc pm : Value) (an : Option Addr) (cdv ct : Value) (us : List Value), us.length = ps.length → bindArgs (PySem.W.fnOf x qual (defArgs st) (defBody st) (defScope st) .none kV doc pm an cdv ct) ⟨us, []⟩ = pure (ps.zip us)) : Binds K fd ps [] := by
  obtain ⟨oc, od, kV, doc, pm, an, cdv, ct, osl, rfl, lk, hcd⟩ := F.ex
  exact .all (h kV doc pm an cdv ct)
theorem fun_mk {x qual : Str} {st : Stmt} {f : Addr} {oc : Value} {od an : Option Addr} {osl : Array (Option Value)} {kV doc pm cdv ct : Value} (l : K.lookup f = some ⟨oc, od, .func (PySem.W.fnOf x qual (defArgs st) (defBody st) (defScope st) .none kV doc pm an cdv ct), osl⟩)
    (c : PySem.W.codeIn K cdv qual = true) (k : PySem.W.keepIn K (.ref f) = true) : Fun K x qual st f (PySem.W.fnOf x qual (defArgs st) (defBody st) (defScope st) .none kV doc pm an cdv ct) := ⟨⟨oc, od, kV, doc, pm, an, cdv, ct, osl, rfl, l, c⟩, k⟩
end
theorem hu_of {A : Around} {k : Nat} (hr : Room k A) : A.units + 1 < cLine := Nat.lt_of_le_of_lt (Nat.add_le_add_left (by decide : 1 ≤ 64) _) hr.units
section
variable {X : Cx}
theorem pv (i : Nat) {x : Str} {pos : Pos} (hN : X.N[i]? = some x := by rfl) (hv : Vis X.env.scope x := by first | exact Or.inl rfl | exact Or.inr (Or.inl rfl) | exact Or.inr (Or.inr rfl)) (hd : (x == ("__debug__" : Str)) = false := by decide)
    (hcd : (x == ("__classdict__" : Str)) = false := by decide) : PE X (.Name x pos) (tVar i) := pe_var hN hv hd hcd
theorem call_lenD : CallR X (.builtin "len") (fun xs H Q => ∃ a kvs, xs = [V.ref a] ∧ H a = some (.dK kvs) ∧ Q (.int kvs.length) H) := by
  intro pins s σ H xs us Q I r h
  obtain ⟨a, kvs, rfl, ha, q⟩ := h
  obtain ⟨u, rfl, ru⟩ := vals1 r
  cases ru
  exact d_len I (.inl ha) fun t s' I' => ⟨.int kvs.length, H, I', ⟨t, rfl⟩, q⟩
end
theorem iteF {A B : Prop} (h : B) : if false = true then A else B := by
  rw [if_neg Bool.false_ne_true]
  exact h
theorem iteT {A B : Prop} (h : A) : if true = true then A else B := by
  rw [if_pos rfl]
  exact h
theorem ite2 {c A B : Prop} [Decidable c] (h1 : c → A) (h2 : ¬ c → B) : if c then A else B := by
  by_cases h : c
  · rw [if_pos h]
    exact h1 h
  · rw [if_neg h]
    exact h2 h
def Same (H H' : Hp) : Prop := ∀ b o, H b = some o → H' b = some o
theorem Same.refl (H : Hp) : Same H H := fun _ _ h => h
theorem Same.trans {H H1 H2 : Hp} (a : Same H H1) (b : Same H1 H2) : Same H H2 := fun c o h => b c o (a c o h)
theorem Same.free {H H' : Hp} (e : Same H H') {l : Addr} (h : H' l = Option.none) : H l = Option.none := by
  cases q : H l with
  | none => rfl
  | some o =>
    rw [e l o q] at h
    cases h
theorem Same.seq {K : PySem.W.Frag} {H H' : Hp} {a : Addr} {xs : List V} (e : Same H H') (h : SqL K H a xs) : SqL K H' a xs := by
  rcases h with (h | ⟨o, h⟩) | h
  · exact .inl (.inl (e _ _ h))
  · exact .inl (.inr ⟨o, e _ _ h⟩)
  · exact .inr h
section
variable {κ : Type} [DecidableEq κ]
end
theorem Same.made {H H1 : Hp} {x dx C : Addr} (nx : H x = Option.none) (nd : H dx = Option.none) (k : ∀ b o, (upd (upd H dx (.own x)) x (.ins C dx [])) b = some o → b ≠ x → H1 b = some o) : Same H H1 := fun b o e =>
  k b o (by rw [upd_ne (ne_of_none e nx), upd_ne (ne_of_none e nd)]; exact e) (ne_of_none e nx)
end L2
end
section
set_option Elab.async false
set_option linter.all false
set_option maxRecDepth 100000
set_option maxHeartbeats 2000000
namespace L2
open PySem PySem.Spec PyProof.Rows
open PySem.W (WData Codec OpenSpec Well WellAll ReadsW ReadsAllW)
mutual
/-- x stands for the datum d, lists and tuples all the way -/
inductive Dw (K : PySem.W.Frag) (H : Hp) : V → WData → Prop
  | non : Dw K H .non .none
  | bl (b : Bool) : Dw K H (.bl b) (.bool b)
  | int (i : Int) : Dw K H (.int i) (.int i)
  | str (x : Str) : Dw K H (.str x) (.str x)
  | byt (b : Array UInt8) : Dw K H (.byt b) (.bytes b.toList)
  | lst {a : Addr} {xs : List V} {ds : List WData} : SqL K H a xs → DwAll K H xs ds → Dw K H (.ref a) (.list ds)
  | tup {a : Addr} {xs : List V} {ds : List WData} : SqT K H a xs → DwAll K H xs ds → Dw K H (.ref a) (.tuple ds)
inductive DwAll (K : PySem.W.Frag) (H : Hp) : List V → List WData → Prop
  | nil : DwAll K H [] []
  | cons {v : V} {vs : List V} {d : WData} {ds : List WData} : Dw K H v d → DwAll K H vs ds → DwAll K H (v :: vs) (d :: ds)
end
theorem dw_ints {K : PySem.W.Frag} {H : Hp} : ∀ ns : List Int, DwAll K H (ns.map V.int) (ns.map WData.int)
  | [] => .nil
  | n :: r => .cons (.int n) (dw_ints r)
theorem ints_dw {K : PySem.W.Frag} {H : Hp} : ∀ (ns : List Int) (xs : List V), DwAll K H xs (ns.map WData.int) → xs = ns.map V.int
  | [], xs, h => by
    cases h
    rfl
  | n :: r, xs, h => by
    cases h with
    | cons h1 h2 =>
      cases h1
      rw [ints_dw r _ h2] <;> rfl
section
variable {P : Program} {w : World} {K : PySem.W.Frag} {H : Hp} {h : Heap} {R : PySem.W.WRecords} {cl : Str → Option Addr}
theorem sqL_at {a : Addr} {xs : List V} (hok : HOk P w H h) (KX : K.In h) (q : SqL K H a xs) : ∃ (its : List Value) (o : Obj) (n : Nat), Vals xs its ∧ h.get? a = some o ∧ o.cls = .type "list" ∧ o.data = .seq its.toArray n := by
  rcases q with q | ⟨o, its, n, e, hc, _, hd, _, hv⟩
  · obtain ⟨_, its, n, hv, e⟩ := (show ObjOk P w H h a (.lst xs) from q.ok hok)
    exact ⟨its, _, n, hv, e, rfl, rfl⟩
  · exact ⟨its.toList, o, n, hv, KX _ _ e, hc, by simp [hd]⟩
theorem sqT_at {a : Addr} {xs : List V} (hok : HOk P w H h) (KX : K.In h) (q : SqT K H a xs) : ∃ (its : List Value) (o : Obj) (n : Nat), Vals xs its ∧ h.get? a = some o ∧ o.cls = .type "tuple" ∧ o.data = .seq its.toArray n := by
  rcases q with q | ⟨o, its, n, e, hc, hd, _, hv⟩
  · obtain ⟨_, its, hv, o, e, hc, n, hd⟩ := (show ObjOk P w H h a (.tup xs) from q.ok hok)
    exact ⟨its, o, n, hv, e, hc, hd⟩
  · exact ⟨its.toList, o, n, hv, KX _ _ e, hc, by simp [hd]⟩
mutual
theorem Dw.reads (hok : HOk P w H h) (KX : K.In h) : ∀ (d : WData) (v : V) (u : Value), Dw K H v d → RelV v u → ∃ as, ReadsW R cl h u d as
  | .none, _, _, x, r => by
    cases x
    cases r
    exact ⟨_, ReadsW.none⟩
  | .bool b, _, _, x, r => by
    cases x
    cases r
    exact ⟨_, ReadsW.bool b⟩
  | .int i, _, _, x, r => by
    cases x
    obtain ⟨t, rfl⟩ := r
    exact ⟨_, ReadsW.int i t⟩
  | .str s, _, _, x, r => by
    cases x
    obtain ⟨t, rfl⟩ := r
    exact ⟨_, ReadsW.str s t⟩
  | .bytes b, _, _, x, r => by
    cases x
    obtain ⟨t, rfl⟩ := r
    exact ⟨_, ReadsW.bytes _ t⟩
  | .list ds, _, _, x, r => by
    cases x with
    | lst hs ha =>
      cases r
      obtain ⟨its, o, n, rv, ho, hc, hd⟩ := sqL_at hok KX hs
      obtain ⟨as, hr⟩ := Dw.readsAll hok KX ds _ its ha rv
      exact ⟨_, ReadsW.list ho hc hd hr⟩
  | .tuple ds, _, _, x, r => by
    cases x with
    | tup hs ha =>
      cases r
      obtain ⟨its, o, n, rv, ho, hc, hd⟩ := sqT_at hok KX hs
      obtain ⟨as, hr⟩ := Dw.readsAll hok KX ds _ its ha rv
      exact ⟨_, ReadsW.tuple ho hc hd hr⟩
  | .float _, _, _, x, _ => by cases x
  | .dict _, _, _, x, _ => by cases x
  | .bytearray _, _, _, x, _ => by cases x
  | .set _, _, _, x, _ => by cases x
  | .frozenset _, _, _, x, _ => by cases x
  | .obj _ _, _, _, x, _ => by cases x
theorem Dw.readsAll (hok : HOk P w H h) (KX : K.In h) : ∀ (ds : List WData) (vs : List V) (us : List Value), DwAll K H vs ds → Vals vs us → ∃ as, ReadsAllW R cl h us ds as
  | [], _, _, x, r => by
    cases x
    cases r
    exact ⟨_, ReadsAllW.nil⟩
  | d :: ds, _, _, x, r => by
    cases x with
    | cons h1 h2 =>
      cases r with
      | cons r1 r2 =>
        obtain ⟨as, q1⟩ := Dw.reads hok KX d _ _ h1 r1
        obtain ⟨bs, q2⟩ := Dw.readsAll hok KX ds _ _ h2 r2
        exact ⟨_, ReadsAllW.cons q1 q2⟩
end
end
mutual
/-- data that a codec tells -/
def plW : WData → Bool
  | .none => true
  | .bool _ => true
  | .int _ => true
  | .str _ => true
  | .bytes _ => true
  | .list xs => plWs xs
  | .tuple xs => plWs xs
  | _ => false
def plWs : List WData → Bool
  | [] => true
  | x :: r => plW x && plWs r
end
theorem plWs_map {α : Type} {f : α → WData} (h : ∀ a, plW (f a) = true) : ∀ l : List α, plWs (l.map f) = true
  | [] => rfl
  | x :: r => by
    show (plW (f x) && plWs (r.map f)) = true
    rw [h x, plWs_map h r] <;> rfl
theorem pl_enc : ∀ (c : Codec) (a : c.denote), plW (c.enc a) = true
  | .unit, _ => rfl
  | .bool, _ => rfl
  | .int _ _, _ => rfl
  | .nat _ _, _ => rfl
  | .u8, _ => rfl
  | .bytes _ _, _ => rfl
  | .text _ _ _ _, _ => rfl
  | .list _ _ c, a => plWs_map (fun x => pl_enc c x) a
  | .pair c d, a => by
    show (plW (c.enc a.1) && (plW (d.enc a.2) && true)) = true
    rw [pl_enc c a.1, pl_enc d a.2] <;> rfl
  | .triple c d e, a => by
    show (plW (c.enc a.1) && (plW (d.enc a.2.1) && (plW (e.enc a.2.2) && true))) = true
    rw [pl_enc c a.1, pl_enc d a.2.1, pl_enc e a.2.2] <;> rfl
  | .option c, none => rfl
  | .option c, some x => pl_enc c x
theorem pl_encAll : ∀ (cs : List Codec) (a : Codec.denoteAll cs), plWs (Codec.encAll cs a) = true
  | [], _ => rfl
  | c :: cs, a => by
    show (plW (c.enc a.1) && plWs (Codec.encAll cs a.2)) = true
    rw [pl_enc c a.1, pl_encAll cs a.2] <;> rfl
theorem weight_mem : ∀ {xs : List WData} {d : WData}, d ∈ xs → d.weight ≤ WData.weightAll xs
  | [], d, h => absurd h (by simp)
  | x :: r, d, h => by
    show d.weight ≤ x.weight + 1 + WData.weightAll r
    rcases List.mem_cons.mp h with e | m
    · rw [e]
      omega
    · have z := weight_mem m
      omega
def toV : Value → V
  | .none => .non
  | .bool b => .bl b
  | .int i _ => .int i
  | .str x _ => .str x
  | .bytes b _ => .byt b
  | .ref a => .ref a
  | _ => .non
def OkU (A : List Addr) : Value → Prop
  | .none => True
  | .bool _ => True
  | .int _ _ => True
  | .str _ _ => True
  | .bytes _ _ => True
  | .ref a => a ∈ A
  | _ => False
theorem OkU.mono {A B : List Addr} (h : ∀ a ∈ A, a ∈ B) : ∀ {u : Value}, OkU A u → OkU B u := fun {u} x => by
  cases u with
  | ref a => exact h a x
  | none => trivial
  | bool b => trivial
  | int i t => trivial
  | str s t => trivial
  | bytes b t => trivial
  | _ => exact False.elim x
theorem relV_toV {A : List Addr} {u : Value} (x : OkU A u) : RelV (toV u) u := by
  cases u with
  | ref a => rfl
  | none => rfl
  | bool b => rfl
  | int i t => exact ⟨t, rfl⟩
  | str s t => exact ⟨t, rfl⟩
  | bytes b t => exact ⟨t, rfl⟩
  | _ => exact False.elim x
theorem vals_toV {A : List Addr} : ∀ {vs : List Value}, (∀ u ∈ vs, OkU A u) → Vals (vs.map toV) vs
  | [], _ => .nil
  | u :: r, h => .cons (relV_toV (h u (List.mem_cons_self ..))) (vals_toV fun x hx => h x (List.mem_cons_of_mem _ hx))
def ArgOb (h : Heap) (A : List Addr) (a : Addr) : Prop := ∃ vs : List Value, vs.length ≤ sizeLine ∧ (∀ u ∈ vs, OkU A u) ∧
  (h.get? a = some { cls := .type "list", data := .seq vs.toArray } ∨ h.get? a = some { cls := .type "tuple", data := .seq vs.toArray })
theorem ArgOb.mono {h : Heap} {A B : List Addr} {a : Addr} (k : ∀ a ∈ A, a ∈ B) (x : ArgOb h A a) : ArgOb h B a := by
  obtain ⟨vs, h1, h2, h3⟩ := x
  exact ⟨vs, h1, fun u hu => (h2 u hu).mono k, h3⟩
theorem wellAll_len {P : Params} {h : Heap} : ∀ {vs : List Value} {ds : List WData}, WellAll P h vs ds → vs.length = ds.length
  | _, _, .nil => rfl
  | _, _, .cons _ b => by
    show _ + 1 = _ + 1
    rw [wellAll_len b]
theorem well_list {P : Params} {h : Heap} {v : Value} {ds : List WData} (x : Well P h v (.list ds)) : ∃ (a : Addr) (vs : List Value), v = .ref a ∧ h.get? a = some { cls := .type "list", data := .seq vs.toArray } ∧ WellAll P h vs ds := by
  cases x with
  | list ho hall => exact ⟨_, _, rfl, ho, hall⟩
theorem well_tuple {P : Params} {h : Heap} {v : Value} {ds : List WData} (x : Well P h v (.tuple ds)) : ∃ (a : Addr) (vs : List Value), v = .ref a ∧ h.get? a = some { cls := .type "tuple", data := .seq vs.toArray } ∧ WellAll P h vs ds := by
  cases x with
  | tuple ho hall => exact ⟨_, _, rfl, ho, hall⟩
theorem well_cons {P : Params} {h : Heap} {us : List Value} {d : WData} {ds : List WData} (x : WellAll P h us (d :: ds)) : ∃ (v : Value) (vs : List Value), us = v :: vs ∧ Well P h v d ∧ WellAll P h vs ds := by
  cases x with
  | cons a b => exact ⟨_, _, rfl, a, b⟩
theorem line_of {n : Nat} (h : n ≤ 1048576) : n ≤ sizeLine := Nat.le_trans h (by decide)
section
variable {P : Params} {h : Heap}
mutual
theorem area_one : ∀ (d : WData) (v : Value), Well P h v d → plW d = true → d.weight ≤ 1048576 → ∃ A : List Addr, OkU A v ∧ ∀ a ∈ A, ArgOb h A a
  | .none, _, x, _, _ => by
    cases x
    exact ⟨[], trivial, fun a m => absurd m (by simp)⟩
  | .bool b, _, x, _, _ => by
    cases x
    exact ⟨[], trivial, fun a m => absurd m (by simp)⟩
  | .int i, _, x, _, _ => by
    cases x
    exact ⟨[], trivial, fun a m => absurd m (by simp)⟩
  | .str s, _, x, _, _ => by
    cases x
    exact ⟨[], trivial, fun a m => absurd m (by simp)⟩
  | .bytes b, _, x, _, _ => by
    cases x
    exact ⟨[], trivial, fun a m => absurd m (by simp)⟩
  | .list ds, _, x, p, z => by
    obtain ⟨a, vs, rfl, ho, hall⟩ := well_list x
    have z2 : WData.weightAll ds ≤ 1048576 := z
    obtain ⟨A, h1, h2⟩ := area_all ds _ hall p fun d hd => Nat.le_trans (weight_mem hd) z2
    have k : ∀ b ∈ A, b ∈ a :: A := fun b hb => List.mem_cons_of_mem _ hb
    refine ⟨a :: A, List.mem_cons_self .., fun b hb => ?_⟩
    rcases List.mem_cons.mp hb with e | m
    · rw [e]
      exact ⟨vs, line_of (by rw [wellAll_len hall]; exact Nat.le_trans (PySem.W.length_le_weightAllW ds) z2), fun u hu => (h1 u hu).mono k, .inl ho⟩
    · exact (h2 b m).mono k
  | .tuple ds, _, x, p, z => by
    obtain ⟨a, vs, rfl, ho, hall⟩ := well_tuple x
    have z2 : WData.weightAll ds ≤ 1048576 := z
    obtain ⟨A, h1, h2⟩ := area_all ds _ hall p fun d hd => Nat.le_trans (weight_mem hd) z2
    have k : ∀ b ∈ A, b ∈ a :: A := fun b hb => List.mem_cons_of_mem _ hb
    refine ⟨a :: A, List.mem_cons_self .., fun b hb => ?_⟩
    rcases List.mem_cons.mp hb with e | m
    · rw [e]
      exact ⟨vs, line_of (by rw [wellAll_len hall]; exact Nat.le_trans (PySem.W.length_le_weightAllW ds) z2), fun u hu => (h1 u hu).mono k, .inr ho⟩
    · exact (h2 b m).mono k
  | .float _, _, _, p, _ => Bool.noConfusion (show false = true from p)
  | .dict _, _, _, p, _ => Bool.noConfusion (show false = true from p)
  | .bytearray _, _, _, p, _ => Bool.noConfusion (show false = true from p)
  | .set _, _, _, p, _ => Bool.noConfusion (show false = true from p)
  | .frozenset _, _, _, p, _ => Bool.noConfusion (show false = true from p)
  | .obj _ _, _, _, p, _ => Bool.noConfusion (show false = true from p)
theorem area_all : ∀ (ds : List WData) (vs : List Value), WellAll P h vs ds → plWs ds = true → (∀ d ∈ ds, d.weight ≤ 1048576) → ∃ A : List Addr, (∀ u ∈ vs, OkU A u) ∧ ∀ a ∈ A, ArgOb h A a
  | [], _, x, _, _ => by
    cases x
    exact ⟨[], fun u m => absurd m (by simp), fun a m => absurd m (by simp)⟩
  | d :: ds, _, x, p, z => by
    obtain ⟨v, vs, rfl, x1, x2⟩ := well_cons x
    have q : plW d = true ∧ plWs ds = true := Bool.and_eq_true_iff.mp p
    obtain ⟨A, a1, a2⟩ := area_one d v x1 q.1 (z d (List.mem_cons_self ..))
    obtain ⟨B, b1, b2⟩ := area_all ds vs x2 q.2 fun e he => z e (List.mem_cons_of_mem _ he)
    have kA : ∀ b ∈ A, b ∈ A ++ B := fun b hb => List.mem_append.mpr (.inl hb)
    have kB : ∀ b ∈ B, b ∈ A ++ B := fun b hb => List.mem_append.mpr (.inr hb)
    refine ⟨A ++ B, fun u hu => ?_, fun b hb => ?_⟩
    · rcases List.mem_cons.mp hu with e | m
      · rw [e]
        exact a1.mono kA
      · exact (b1 u m).mono kB
    · rcases List.mem_append.mp hb with m | m
      · exact (a2 b m).mono kA
      · exact (b2 b m).mono kB
end
end
def hoOf (o : Obj) : Option HO := match o.data with
  | .seq vs _ => if (o.cls == Value.type "list") = true then some (.frz o (.lst (vs.toList.map toV))) else some (.frz o (.tup (vs.toList.map toV)))
  | _ => none
def argH (K : PySem.W.Frag) (h : Heap) (A : List Addr) : Hp := fun b => if b ∈ A then (if (K.lookup b).isNone = true then (h.get? b).bind hoOf else none) else none
def OnlyF (H : Hp) : Prop := ∀ b, H b = none ∨ ∃ o u, H b = some (.frz o u)
theorem hoOf_lst (vs : List Value) : hoOf { cls := .type "list", data := .seq vs.toArray } = some (.frz { cls := .type "list", data := .seq vs.toArray } (.lst (vs.map toV))) := by
  show (if (Value.type "list" == Value.type "list") = true then some (HO.frz { cls := .type "list", data := .seq vs.toArray } (.lst (vs.toArray.toList.map toV))) else some (HO.frz { cls := .type "list", data := .seq vs.toArray } (.tup (vs.toArray.toList.map toV)))) = _
  rw [if_pos (beq_self_eq_true _)]
theorem hoOf_tup (vs : List Value) : hoOf { cls := .type "tuple", data := .seq vs.toArray } = some (.frz { cls := .type "tuple", data := .seq vs.toArray } (.tup (vs.map toV))) := by
  show (if (Value.type "tuple" == Value.type "list") = true then some (HO.frz { cls := .type "tuple", data := .seq vs.toArray } (.lst (vs.toArray.toList.map toV))) else some (HO.frz { cls := .type "tuple", data := .seq vs.toArray } (.tup (vs.toArray.toList.map toV)))) = _
  rw [if_neg (by decide)]
section
variable {P : Program} {w : World} {K : PySem.W.Frag} {h : Heap} {A : List Addr}
theorem argH_at {b : Addr} {o : Obj} (hb : b ∈ A) (hk : K.lookup b = none) (e : h.get? b = some o) : argH K h A b = hoOf o := by
  unfold argH
  rw [if_pos hb, hk, if_pos (show (none : Option Obj).isNone = true from rfl), e] <;> rfl
theorem of_argH {b : Addr} {u : HO} (q : argH K h A b = some u) : b ∈ A ∧ K.lookup b = none := by
  unfold argH at q
  by_cases hb : b ∈ A
  · rw [if_pos hb] at q
    cases hk : K.lookup b with
    | none => exact ⟨hb, rfl⟩
    | some o =>
      rw [hk, if_neg (by simp)] at q
      cases q
  · rw [if_neg hb] at q
    cases q
theorem argH_is (ar : ∀ a ∈ A, ArgOb h A a) {b : Addr} {u : HO} (q : argH K h A b = some u) : K.lookup b = none ∧ ∃ vs : List Value, vs.length ≤ sizeLine ∧ (∀ u ∈ vs, OkU A u) ∧
    ((h.get? b = some { cls := .type "list", data := .seq vs.toArray } ∧ u = .frz { cls := .type "list", data := .seq vs.toArray } (.lst (vs.map toV))) ∨
     (h.get? b = some { cls := .type "tuple", data := .seq vs.toArray } ∧ u = .frz { cls := .type "tuple", data := .seq vs.toArray } (.tup (vs.map toV)))) := by
  obtain ⟨hb, hk⟩ := of_argH q
  obtain ⟨vs, h1, h2, h3⟩ := ar b hb
  refine ⟨hk, vs, h1, h2, ?_⟩
  rcases h3 with e | e
  · rw [argH_at hb hk e, hoOf_lst] at q
    exact .inl ⟨e, (Option.some.inj q).symm⟩
  · rw [argH_at hb hk e, hoOf_tup] at q
    exact .inr ⟨e, (Option.some.inj q).symm⟩
theorem argH_only (ar : ∀ a ∈ A, ArgOb h A a) : OnlyF (argH K h A) := fun b => by
  cases q : argH K h A b with
  | none => exact .inl rfl
  | some u =>
    obtain ⟨_, vs, _, _, ⟨_, e⟩ | ⟨_, e⟩⟩ := argH_is ar q
    · exact .inr ⟨_, _, by rw [e]⟩
    · exact .inr ⟨_, _, by rw [e]⟩
theorem argH_ok (ar : ∀ a ∈ A, ArgOb h A a) : HOk P w (argH K h A) h := fun b u q => by
  obtain ⟨_, vs, h1, h2, ⟨e, rfl⟩ | ⟨e, rfl⟩⟩ := argH_is ar q
  · exact ⟨e, by rw [List.length_map]; exact h1, vs, _, vals_toV h2, e⟩
  · exact ⟨e, by rw [List.length_map]; exact h1, vs, vals_toV h2, _, e, rfl, _, rfl⟩
theorem seq_inj {c c' : Value} {vs us : List Value} (e : (some { cls := c, data := .seq vs.toArray } : Option Obj) = some { cls := c', data := .seq us.toArray }) : c = c' ∧ vs = us := by
  have e1 := Option.some.inj e
  have e2 : c = c' := congrArg Obj.cls e1
  have e3 : Data.seq vs.toArray = Data.seq us.toArray := congrArg Obj.data e1
  injection e3 with e4
  refine ⟨e2, ?_⟩
  have e5 := congrArg Array.toList e4
  simpa using e5
theorem argL (KX : K.In h) (ar : ∀ a ∈ A, ArgOb h A a) {a : Addr} {vs : List Value} (ha : a ∈ A) (e : h.get? a = some { cls := .type "list", data := .seq vs.toArray }) : (∀ u ∈ vs, OkU A u) ∧ SqL K (argH K h A) a (vs.map toV) := by
  obtain ⟨us, h1, h2, h3⟩ := ar a ha
  have hu : us = vs := by
    rcases h3 with q | q
    · rw [e] at q
      exact (seq_inj q).2.symm
    · rw [e] at q
      exact absurd (Value.type.inj (seq_inj q).1) (by decide)
  subst hu
  refine ⟨h2, ?_⟩
  cases hk : K.lookup a with
  | none => exact .inl (.inr ⟨_, by rw [argH_at ha hk e, hoOf_lst]⟩)
  | some o =>
    have e2 := KX a o hk
    rw [e] at e2
    obtain rfl := Option.some.inj e2
    exact .inr ⟨_, us.toArray, _, hk, rfl, rfl, rfl, by rw [List.size_toArray]; exact h1, by simpa using vals_toV h2⟩
theorem argT (KX : K.In h) (ar : ∀ a ∈ A, ArgOb h A a) {a : Addr} {vs : List Value} (ha : a ∈ A) (e : h.get? a = some { cls := .type "tuple", data := .seq vs.toArray }) : (∀ u ∈ vs, OkU A u) ∧ SqT K (argH K h A) a (vs.map toV) := by
  obtain ⟨us, h1, h2, h3⟩ := ar a ha
  have hu : us = vs := by
    rcases h3 with q | q
    · rw [e] at q
      exact absurd (Value.type.inj (seq_inj q).1) (by decide)
    · rw [e] at q
      exact (seq_inj q).2.symm
  subst hu
  refine ⟨h2, ?_⟩
  cases hk : K.lookup a with
  | none => exact .inl (.inr ⟨_, by rw [argH_at ha hk e, hoOf_tup]⟩)
  | some o =>
    have e2 := KX a o hk
    rw [e] at e2
    obtain rfl := Option.some.inj e2
    exact .inr ⟨_, us.toArray, _, hk, rfl, rfl, by rw [List.size_toArray]; exact h1, by simpa using vals_toV h2⟩
mutual
theorem dw_one {Pm : Params} (KX : K.In h) (ar : ∀ a ∈ A, ArgOb h A a) : ∀ (d : WData) (v : Value), Well Pm h v d → plW d = true → OkU A v → Dw K (argH K h A) (toV v) d
  | .none, _, x, _, _ => by
    cases x
    exact .non
  | .bool b, _, x, _, _ => by
    cases x
    exact .bl b
  | .int i, _, x, _, _ => by
    cases x
    exact .int i
  | .str s, _, x, _, _ => by
    cases x
    exact .str s
  | .bytes b, _, x, _, _ => by
    cases x
    have z := Dw.byt (K := K) (H := argH K h A) b.toArray
    exact z
  | .list ds, _, x, p, hu => by
    obtain ⟨a, vs, rfl, ho, hall⟩ := well_list x
    obtain ⟨h2, hs⟩ := argL KX ar hu ho
    exact .lst hs (dw_all KX ar ds _ hall p h2)
  | .tuple ds, _, x, p, hu => by
    obtain ⟨a, vs, rfl, ho, hall⟩ := well_tuple x
    obtain ⟨h2, hs⟩ := argT KX ar hu ho
    exact .tup hs (dw_all KX ar ds _ hall p h2)
  | .float _, _, _, p, _ => Bool.noConfusion (show false = true from p)
  | .dict _, _, _, p, _ => Bool.noConfusion (show false = true from p)
  | .bytearray _, _, _, p, _ => Bool.noConfusion (show false = true from p)
  | .set _, _, _, p, _ => Bool.noConfusion (show false = true from p)
  | .frozenset _, _, _, p, _ => Bool.noConfusion (show false = true from p)
  | .obj _ _, _, _, p, _ => Bool.noConfusion (show false = true from p)
theorem dw_all {Pm : Params} (KX : K.In h) (ar : ∀ a ∈ A, ArgOb h A a) : ∀ (ds : List WData) (vs : List Value), WellAll Pm h vs ds → plWs ds = true → (∀ u ∈ vs, OkU A u) → DwAll K (argH K h A) (vs.map toV) ds
  | [], _, x, _, _ => by
    cases x
    exact .nil
  | d :: ds, _, x, p, hu => by
    obtain ⟨v, vs, rfl, x1, x2⟩ := well_cons x
    have q : plW d = true ∧ plWs ds = true := Bool.and_eq_true_iff.mp p
    exact .cons (dw_one KX ar d v x1 q.1 (hu _ (List.mem_cons_self ..))) (dw_all KX ar ds vs x2 q.2 fun u m => hu u (List.mem_cons_of_mem _ m))
end
end
theorem spec_call {P : Program} {w : World} {K : PySem.W.Frag} {mg mb : Str → Option Value} {CX : CXT} {k : Nat} {fa : Addr} {fd : FuncData} {ps : List Str} {sp : Sp} {s₁ : Shared} {vals : List Value} {ds : List WData} {R : PySem.W.WRecords} {cl : Str → Option Addr} {d0 : WData}
    (KX : K.In s₁.heap) (hns : s₁.heap.Ns mainGlobals mg) (hb : s₁.heap.Ns builtinsNs mb) (hbb : ∀ x : Str, x ≠ "__name__" → mb x = bootBuiltins x) (hlim : s₁.heap.NoLimit) (hg : s₁.gens = #[])
    (hwl : WellAll w.params s₁.heap vals ds) (hpl : plWs ds = true) (hwt : ∀ d ∈ ds, d.weight ≤ 1048576) (hr : Room k callerA)
    (F : ∀ base : Heap, K.In base → base.Ns mainGlobals mg → FnOk P w K mg base CX k fa fd ps sp) (hbind : ∀ (s : Shared) (us : List Value), us.length = ps.length → BindsTo s fd ⟨us, []⟩ (ps.zip us)) (hlen : ds.length = ps.length)
    (hsp : ∀ (H : Hp) (xs : List V), OnlyF H → DwAll K H xs ds → sp xs H (fun v H' => Dw K H' v d0) fun _ _ _ => False)
    (hCX : ∀ H e s', CX [] H s₁ (fun _ _ _ => False) e s' → False) :
    codeAny (model P w) callerA (.call (.ref fa) ⟨vals, []⟩) (fun r s' => ∃ u as, r = .ok (.ret u) ∧ ReadsW R cl s'.heap u d0 as ∧ OldK s₁.heap s'.heap ∧ s'.os = s₁.os ∧ AllBare s'.gens) s₁ := by
  obtain ⟨A, ho, ar⟩ := area_all ds vals hwl hpl hwt
  have hO : OnlyF (argH K s₁.heap A) := argH_only ar
  have hok : HOk P w (argH K s₁.heap A) s₁.heap := argH_ok ar
  have hS := dw_all KX ar ds vals hwl hpl ho
  have hV := vals_toV ho
  have hK : ∀ b u, argH K s₁.heap A b = some u → K.lookup b = none := fun b u q => (argH_is ar q).1
  have noA : ∀ {b : Addr} {o : Obj} {es : Array DictEntry} {ep : Nat}, s₁.heap.get? b = some o → o.data = .dict es ep → argH K s₁.heap A b = none := fun {b o es ep} e d => by
    cases q : argH K s₁.heap A b with
    | none => rfl
    | some u =>
      obtain ⟨_, vs, _, _, ⟨e2, _⟩ | ⟨e2, _⟩⟩ := argH_is ar q
      · rw [e2] at e
        cases e
        have d' : Data.seq vs.toArray _ = Data.dict es ep := d
        cases d'
      · rw [e2] at e
        cases e
        have d' : Data.seq vs.toArray _ = Data.dict es ep := d
        cases d'
  generalize argH K s₁.heap A = H at hO hok hS hK noA
  have base_of : ∀ {b : Addr} {o : Obj}, s₁.heap.get? b = some o → H b = none → (hidT s₁.heap H).get? b = some o := fun e n => hidT_get e n
  have nsK : ∀ {b : Addr} {m : Str → Option Value}, s₁.heap.Ns b m → (hidT s₁.heap H).Ns b m := fun {b m} ⟨o, es, ep, e, d, r⟩ => ⟨o, es, ep, base_of e (noA e d), d, r⟩
  have nK : ∀ b o, K.lookup b = some o → H b = none := fun b o e => by
    cases q : H b with
    | none => rfl
    | some u =>
      rw [hK b u q] at e
      cases e
  have hKb : K.In (hidT s₁.heap H) := fun b o e => base_of (KX b o e) (nK b o e)
  have hM : Mod K mg (hidT s₁.heap H) := ⟨hKb, nsK hns, ⟨mb, nsK hb, hbb⟩, let ⟨mc, h1, h2⟩ := hlim; ⟨mc, nsK h1, h2⟩⟩
  have e0 : Env0 P w K mg (hidT s₁.heap H) callerA [] s₁ H := ⟨rfl, hM, fun b o e => of_hidT e, Nat.le_of_eq (hidT_size _ _), trivial, fun b hb => absurd (show b ∈ ([] : List Addr) from hb) (by simp), hok, .of_eq hg⟩
  have hl : vals.length = ps.length := by rw [wellAll_len hwl]; exact hlen
  refine codeAny_mono ((F _ hKb (nsK hns)).run callerA [] s₁ H ⟨vals, []⟩ vals (vals.map toV) _ _ hr e0 (hbind s₁ vals hl) hV (hsp H _ hO hS)) fun r s' x => ?_
  cases r with
  | error e => exact (hCX H e s' x).elim
  | ok fl =>
    cases fl with
    | next => exact False.elim x
    | brk => exact False.elim x
    | cont => exact False.elim x
    | ret u =>
      obtain ⟨v, H', os, bare, un, hok', r', q⟩ := x
      have kept : ∀ b o, s₁.heap.get? b = some o → s'.heap.get? b = some o := fun b o e => by
        cases q2 : H b with
        | none => exact un.keep b o e q2 (by intro z; exact absurd (show b ∈ ([] : List Addr) from z) (by simp)) (by simp)
        | some u2 =>
          rcases hO b with z | ⟨ob, u3, z⟩
          · rw [q2] at z
            cases z
          · have z2 := un.frzs b ob _ z
            obtain ⟨e1, _⟩ := hok b _ z
            obtain ⟨e2, _⟩ := hok' b _ z2
            rw [e] at e1
            cases e1
            exact e2
      have KX' : K.In s'.heap := fun b o e => kept b o (KX b o e)
      obtain ⟨as, hrd⟩ := Dw.reads (R := R) (cl := cl) hok' KX' d0 v u q r'
      exact ⟨u, as, rfl, hrd, OldK.of_keep kept, os, bare⟩
theorem layable_weight {ds : List WData} (h : WData.layableAll ds = true) : ∀ d ∈ ds, d.weight ≤ 1048576 := fun d hd =>
  (PySem.W.layableW_iff.mp (List.all_eq_true.mp h d hd)).2.2
theorem encAll_len : ∀ (cs : List Codec) (a : Codec.denoteAll cs), (Codec.encAll cs a).length = cs.length
  | [], _ => rfl
  | c :: cs, a => by
    show (Codec.encAll cs a.2).length + 1 = cs.length + 1
    rw [encAll_len cs a.2]
theorem walk_spec {r : OpenSpec} {k : Nat} {q : Program} {loose : List Str} {XP : (Str → Option Value) → Heap → Prop} {YP : World → Heap → Prop} {d : DefRec} {K : Params → PySem.W.Frag} {CX : World → CXT} {ps : List Str} {sp : World → Sp}
    (hwell : r.wellSaid = true) (hdf : d.params.defaults = []) (hlen : r.args.length = ps.length) (hr : Room k callerA)
    (hY : ∀ (w : World) (h : Heap), YP w h → (K w.params).In h)
    (F : ∀ (w : World) (mg : Str → Option Value) (fa : Addr) (h : Heap), YP w h → (K w.params).In h → h.Ns mainGlobals mg → mg d.name = some (.ref fa) →
      ∃ fd : FuncData, (∀ (s : Shared) (us : List Value), us.length = ps.length → BindsTo s fd ⟨us, []⟩ (ps.zip us)) ∧
        ∀ base : Heap, (K w.params).In base → base.Ns mainGlobals mg → FnOk r.prog w (K w.params) mg base (CX w) k fa fd ps (sp w))
    (hsp : ∀ (w : World) (H : Hp) (xs : List V) (a : Codec.denoteAll r.args), OnlyF H → Codec.withinAll r.args a = true → Codec.app r.args r.asked a = true → DwAll (K w.params) H xs (Codec.encAll r.args a) →
      sp w xs H (fun v H' => Dw (K w.params) H' v (r.ret.enc (Codec.app r.args r.f a))) fun _ _ _ => False)
    (hCX : ∀ (w : World) (H : Hp) (s : Shared) (e : Value) (s' : Shared), CX w [] H s (fun _ _ _ => False) e s' → False) :
    PySem.W.WalkOS q loose XP YP r d [] (fun f vs => PySem.call f vs) := by
  intro w s_0 s₁ mg mb G Y fa o pm cd doc dV kV ho hd hcd hD hmg hg args vals as hpre hlay hrd hwl hlo
  obtain ⟨a, e1, e2⟩ := PySem.W.os_pre_some hpre
  obtain ⟨e3, hwi⟩ := Codec.encAll_of_decAll r.args args a e1
  subst e3
  have KX := hY w _ Y
  obtain ⟨fd, hb, hF⟩ := F w mg fa _ Y KX G.T.g hmg
  refine PySem.W.enter_call (codeAny_mono (spec_call (R := []) (cl := classAt s_0.heap) (d0 := r.ret.enc (Codec.app r.args r.f a)) KX G.T.g G.T.b G.T.builtins G.T.nolimit hg hwl (pl_encAll _ _) (layable_weight hlay) hr hF hb (by rw [encAll_len]; exact hlen)
    (fun H xs hO hS => hsp w H xs a hO hwi e2 hS) fun H e s' => hCX w H s₁ e s') fun r' s' hq => ?_)
  obtain ⟨u, as', rfl, h1, h2, h3, h4⟩ := hq
  exact ⟨.inl ⟨u, _, as', rfl, fun _ => rfl, h1, (OpenSpec.post_iff hwell hwi _ _).mpr rfl, fun z => Bool.noConfusion (show false = true from z)⟩, h2, h3, h4⟩
theorem walk_specK {r : OpenSpec} {k : Nat} {q : Program} {loose : List Str} {XP : (Str → Option Value) → Heap → Prop} {YP : World → Heap → Prop} {d : DefRec} {K : Params → PySem.W.Frag} {CX : CXT} {ps : List Str} {sp : PySem.W.Frag → Sp}
    (hwell : r.wellSaid = true) (hdf : d.params.defaults = []) (hlen : r.args.length = ps.length) (hr : Room k callerA)
    (hY : ∀ (w : World) (h : Heap), YP w h → (K w.params).In h)
    (F : ∀ (w : World) (mg : Str → Option Value) (fa : Addr) (h : Heap), YP w h → (K w.params).In h → h.Ns mainGlobals mg → mg d.name = some (.ref fa) →
      ∃ fd : FuncData, (∀ (s : Shared) (us : List Value), us.length = ps.length → BindsTo s fd ⟨us, []⟩ (ps.zip us)) ∧
        ∀ base : Heap, (K w.params).In base → base.Ns mainGlobals mg → FnOk r.prog w (K w.params) mg base CX k fa fd ps (sp (K w.params)))
    (hsp : ∀ (K : PySem.W.Frag) (H : Hp) (xs : List V) (a : Codec.denoteAll r.args), OnlyF H → Codec.withinAll r.args a = true → Codec.app r.args r.asked a = true → DwAll K H xs (Codec.encAll r.args a) →
      sp K xs H (fun v H' => Dw K H' v (r.ret.enc (Codec.app r.args r.f a))) fun _ _ _ => False)
    (hCX : ∀ (H : Hp) (s : Shared) (e : Value) (s' : Shared), CX [] H s (fun _ _ _ => False) e s' → False) :
    PySem.W.WalkOS q loose XP YP r d [] (fun f vs => PySem.call f vs) :=
  walk_spec (K := K) (CX := fun _ => CX) (sp := fun w => sp (K w.params)) hwell hdf hlen hr hY F (fun w H xs a h1 h2 h3 h4 => hsp (K w.params) H xs a h1 h2 h3 h4) fun _ H s e s' => hCX H s e s'
end L2
end
set_option maxHeartbeats 2000000
namespace EwM
open Kct8

/-! ### lists -/
theorem contains_iff {l : List Nat} {x : Nat} : l.contains x = true ↔ x ∈ l := by simp

/-- what one row of coming marks adds to those that were met -/
def add1 (seen : List Nat) (a : List Nat) (xs : List Nat) : List Nat := xs.foldl (fun (a : List Nat) x => if seen.contains x || a.contains x then a else a ++ [x]) a
theorem add1_nil (seen a : List Nat) : add1 seen a [] = a := rfl
theorem add1_snoc (seen a xs : List Nat) (x : Nat) : add1 seen a (xs ++ [x]) = if seen.contains x || (add1 seen a xs).contains x then add1 seen a xs else add1 seen a xs ++ [x] := by
  unfold add1; rw [List.foldl_append]; rfl
theorem new_nil (l : List Work) (seen : List Nat) : new l [] seen = [] := rfl
theorem new_snoc (l : List Work) (ms seen : List Nat) (m : Nat) : new l (ms ++ [m]) seen = add1 seen (new l ms seen) (nexts l m) := by
  unfold new add1; rw [List.foldl_append]; rfl

theorem add1_mem {seen : List Nat} : ∀ (xs a : List Nat) (y : Nat), y ∈ add1 seen a xs ↔ y ∈ a ∨ (y ∈ xs ∧ y ∉ seen)
  | [], a, y => by simp [add1]
  | x :: xs, a, y => by
    have h := add1_mem (seen := seen) xs (if seen.contains x || a.contains x then a else a ++ [x]) y
    show y ∈ add1 seen (if seen.contains x || a.contains x then a else a ++ [x]) xs ↔ _
    rw [h]
    by_cases c : (seen.contains x || a.contains x) = true
    · rw [if_pos c]
      rw [Bool.or_eq_true, contains_iff, contains_iff] at c
      constructor
      · rintro (h | ⟨h, k⟩)
        · exact .inl h
        · exact .inr ⟨List.mem_cons_of_mem _ h, k⟩
      · rintro (h | ⟨h, k⟩)
        · exact .inl h
        · rcases List.mem_cons.mp h with rfl | h
          · rcases c with c | c
            · exact absurd c k
            · exact .inl c
          · exact .inr ⟨h, k⟩
    · rw [if_neg c]
      rw [Bool.or_eq_true, contains_iff, contains_iff] at c
      have c1 : x ∉ seen := fun z => c (.inl z)
      simp only [List.mem_append, List.mem_cons, List.not_mem_nil, or_false]
      constructor
      · rintro ((h | rfl) | ⟨h, k⟩)
        · exact .inl h
        · exact .inr ⟨.inl rfl, c1⟩
        · exact .inr ⟨.inr h, k⟩
      · rintro (h | ⟨rfl | h, k⟩)
        · exact .inl (.inl h)
        · exact .inl (.inr rfl)
        · exact .inr ⟨h, k⟩
theorem add1_nodup {seen : List Nat} : ∀ (xs a : List Nat), (seen ++ a).Nodup → (seen ++ add1 seen a xs).Nodup
  | [], a, h => h
  | x :: xs, a, h => by
    show (seen ++ add1 seen (if seen.contains x || a.contains x then a else a ++ [x]) xs).Nodup
    refine add1_nodup xs _ ?_
    by_cases c : (seen.contains x || a.contains x) = true
    · rw [if_pos c]; exact h
    · rw [if_neg c]
      rw [Bool.or_eq_true, contains_iff, contains_iff] at c
      rw [← List.append_assoc]
      refine List.nodup_append.mpr ⟨h, by simp, ?_⟩
      intro y hy z hz e
      have ez : z = x := by simpa using hz
      subst ez; subst e
      exact c (List.mem_append.mp hy)
theorem new_mem {l : List Work} {seen : List Nat} : ∀ (ms : List Nat) (y : Nat), y ∈ new l ms seen ↔ ∃ m ∈ ms, y ∈ nexts l m ∧ y ∉ seen := by
  have gen : ∀ (ms a : List Nat) (y : Nat), y ∈ ms.foldl (fun (a : List Nat) m => add1 seen a (nexts l m)) a ↔ y ∈ a ∨ ∃ m ∈ ms, y ∈ nexts l m ∧ y ∉ seen := by
    intro ms
    induction ms with
    | nil => intro a y; simp
    | cons m ms ih =>
      intro a y
      rw [List.foldl_cons, ih, add1_mem]
      simp only [List.mem_cons]
      constructor
      · rintro ((h | h) | ⟨k, hk, h⟩)
        · exact .inl h
        · exact .inr ⟨m, .inl rfl, h⟩
        · exact .inr ⟨k, .inr hk, h⟩
      · rintro (h | ⟨k, rfl | hk, h⟩)
        · exact .inl (.inl h)
        · exact .inl (.inr h)
        · exact .inr ⟨k, hk, h⟩
  intro ms y
  have := gen ms [] y
  simpa [new, add1] using this
theorem new_nodup {l : List Work} {seen : List Nat} (h : seen.Nodup) (ms : List Nat) : (seen ++ new l ms seen).Nodup := by
  have gen : ∀ (ms a : List Nat), (seen ++ a).Nodup → (seen ++ ms.foldl (fun (a : List Nat) m => add1 seen a (nexts l m)) a).Nodup := by
    intro ms
    induction ms with
    | nil => intro a h; exact h
    | cons m ms ih => intro a h; rw [List.foldl_cons]; exact ih _ (add1_nodup _ _ h)
  exact gen ms [] (by simpa using h)

/-! ### all marks: the search, as its loop has it -/
/-- behind: those whose next ones have been looked at; newest: those that are due; together those that were met -/
structure Looked (l : List Work) (behind newest : List Nat) : Prop where
  nd : (behind ++ newest).Nodup
  few : (behind ++ newest).length ≤ MANY
  cl : ∀ m ∈ behind, ∀ x ∈ nexts l m, x ∈ behind ++ newest
  one : FIRST ∈ behind ++ newest
  eq : ∃ f, all l = comes l f newest (behind ++ newest) ∧ MANY + 2 ≤ (behind ++ newest).length + f

theorem looked_start (l : List Work) : Looked l [] [FIRST] :=
  ⟨by simp, by decide, (by intro m h; simp at h), by simp, ⟨MANY + 1, rfl, by decide⟩⟩
theorem looked_many {l : List Work} {b n : List Nat} (L : Looked l b n) (h : MANY < (b ++ n).length + (new l n (b ++ n)).length) : all l = none := by
  obtain ⟨f, e, hf⟩ := L.eq
  have := L.few
  match f, e, hf with
  | 0, e, hf => omega
  | f + 1, e, hf =>
    rw [e]
    unfold comes
    have ne : (new l n (b ++ n)).isEmpty = false := by
      cases q : new l n (b ++ n) with
      | nil => rw [q] at h; simp at h; simp at this; omega
      | cons => rfl
    simp only [ne]
    rw [if_neg (by decide), if_pos h]
theorem looked_step {l : List Work} {b n : List Nat} (L : Looked l b n) (h : ¬ MANY < (b ++ n).length + (new l n (b ++ n)).length) : Looked l (b ++ n) (new l n (b ++ n)) := by
  refine ⟨new_nodup L.nd n, by rw [List.length_append]; omega, fun m hm x hx => ?_, List.mem_append_left _ L.one, ?_⟩
  · rcases List.mem_append.mp hm with hb | hn
    · exact List.mem_append_left _ (L.cl m hb x hx)
    · by_cases hs : x ∈ b ++ n
      · exact List.mem_append_left _ hs
      · exact List.mem_append_right _ ((new_mem n x).mpr ⟨m, hn, hx, hs⟩)
  · obtain ⟨f, e, hf⟩ := L.eq
    have := L.few
    match f, e, hf with
    | 0, e, hf => omega
    | f + 1, e, hf =>
      cases q : new l n (b ++ n) with
      | nil =>
        refine ⟨f + 1, ?_, by rw [List.append_nil]; exact hf⟩
        rw [e]
        unfold comes
        rw [q]
        simp only [List.append_nil, new_nil, List.isEmpty_nil, if_true]
      | cons y ys =>
        refine ⟨f, ?_, by rw [List.length_append, List.length_cons]; omega⟩
        rw [e]
        conv => lhs; unfold comes
        rw [q]
        simp only [List.isEmpty_cons]
        rw [if_neg (by decide), if_neg (by rw [← q]; exact h)]
theorem looked_end {l : List Work} {b : List Nat} (L : Looked l b []) : all l = some b := by
  obtain ⟨f, e, hf⟩ := L.eq
  have h2 := L.few
  rw [List.append_nil] at e hf h2
  match f, e, hf with
  | 0, e, hf => omega
  | f + 1, e, hf =>
    rw [e]
    unfold comes
    rw [new_nil]
    rfl
/-- how many loops are left: an upper bound -/
def lookedLeft (b n : List Nat) : Nat := (MANY + 1 - b.length) + (if n.isEmpty then 0 else 0)
end EwM

namespace EwM
open Kct8

/-! ### the least -/
theorem lessOf_of {l : List Nat} {m : Nat} (h1 : m ∈ l) (h2 : ∀ y ∈ l, m ≤ y) : lessOf l = some m := by
  induction l generalizing m with
  | nil => simp at h1
  | cons a l ih =>
    unfold lessOf
    cases l with
    | nil =>
      have e : m = a := by simpa using h1
      subst e; rfl
    | cons b r =>
      -- the least of the rest
      have ex : ∀ (l : List Nat), l ≠ [] → ∃ k, k ∈ l ∧ ∀ y ∈ l, k ≤ y := by
        intro l
        induction l with
        | nil => intro h; exact absurd rfl h
        | cons c l ihl =>
          intro _
          cases l with
          | nil => exact ⟨c, by simp, by simp⟩
          | cons d r =>
            obtain ⟨k, hk, hl⟩ := ihl (by simp)
            by_cases hc : c ≤ k
            · exact ⟨c, by simp, fun y hy => by
                rcases List.mem_cons.mp hy with rfl | hy
                · exact Nat.le_refl _
                · exact Nat.le_trans hc (hl y hy)⟩
            · exact ⟨k, List.mem_cons_of_mem _ hk, fun y hy => by
                rcases List.mem_cons.mp hy with rfl | hy
                · omega
                · exact hl y hy⟩
      obtain ⟨k, hk, hl⟩ := ex (b :: r) (by simp)
      rw [ih hk hl]
      have ma := h2 a (by simp)
      have mk := h2 k (List.mem_cons_of_mem _ hk)
      show some (if k < a then k else a) = some m
      rcases List.mem_cons.mp h1 with rfl | h1
      · by_cases c : k < m
        · omega
        · rw [if_neg c]
      · have := hl m h1
        by_cases c : k < a
        · rw [if_pos c]; congr 1; omega
        · rw [if_neg c]; congr 1; omega
theorem lessOf_nil : lessOf [] = none := rfl
theorem find_filter {α : Type} (p : α → Bool) : ∀ (l : List α), l.find? p = (l.filter p).head?
  | [] => rfl
  | a :: l => by
    by_cases h : p a = true
    · rw [List.find?_cons_of_pos h, List.filter_cons_of_pos h]; rfl
    · rw [List.find?_cons_of_neg h, List.filter_cons_of_neg h]; exact find_filter p l
theorem lessOf_sorted {l : List Nat} (h : l.Pairwise (· < ·)) : lessOf l = l.head? := by
  cases l with
  | nil => rfl
  | cons a r =>
    exact lessOf_of (by simp) fun y hy => by
      rcases List.mem_cons.mp hy with rfl | hy
      · exact Nat.le_refl _
      · exact Nat.le_of_lt (List.rel_of_pairwise_cons h hy)
theorem find_range (p : Nat → Bool) (n : Nat) : (List.range n).find? p = lessOf ((List.range n).filter p) := by
  rw [find_filter, lessOf_sorted]
  exact List.Pairwise.filter p (List.pairwise_lt_range)

/-! ### what is wrong, as four lists -/
def dbl (l : List Work) (s : List Nat) : List Nat := (List.range l.length).filter fun i => (l[i]?).any fun w => s.any fun m => isOn w m && doubles w m
def crowd (s : List Nat) : List Nat := s.filter fun m => (m &&& END) != 0 && m != END
def idle (l : List Work) (s : List Nat) : List Nat := (List.range l.length).filter fun i => (l[i]?).any fun w => !(s.any fun m => can w m)
def firstFault : Nat → List (List Nat) → Option (Nat × Nat)
  | _, [] => none
  | k, l :: r => match lessOf l with
    | some m => some (k, m)
    | none => firstFault (k + 1) r
theorem wrong_eq (l : List Work) (s : List Nat) : wrong l s = firstFault 1 [dbl l s, lost l s, crowd s, idle l s] := by
  unfold wrong
  rw [find_range, find_range]
  simp only [firstFault]
  show (match lessOf (dbl l s) with | some i => _ | none => _) = _
  cases lessOf (dbl l s) with
  | some i => rfl
  | none =>
    simp only []
    cases lessOf (lost l s) with
    | some i => rfl
    | none =>
      simp only []
      show (match lessOf (crowd s) with | some i => _ | none => _) = _
      cases lessOf (crowd s) with
      | some i => rfl
      | none =>
        simp only []
        show (match lessOf (idle l s) with | some i => _ | none => _) = _
        cases lessOf (idle l s) with
        | some i => rfl
        | none => rfl

/-! ### from where the end can be come to -/
inductive Rch (l : List Work) : Nat → Prop
  | here : Rch l END
  | step {m x : Nat} : x ∈ nexts l m → Rch l x → Rch l m
theorem filter_le {α : Type} {p q : α → Bool} : ∀ {s : List α}, (∀ m ∈ s, p m = true → q m = true) → (s.filter p).length ≤ (s.filter q).length
  | [], _ => by simp
  | a :: s, h => by
    have ih := filter_le (s := s) (p := p) (q := q) fun m hm => h m (List.mem_cons_of_mem _ hm)
    by_cases c : p a = true
    · rw [List.filter_cons_of_pos c, List.filter_cons_of_pos (h a (by simp) c)]; simp; exact ih
    · rw [List.filter_cons_of_neg c]
      by_cases d : q a = true
      · rw [List.filter_cons_of_pos d, List.length_cons]; omega
      · rw [List.filter_cons_of_neg d]; exact ih
theorem filter_eq_of_len {α : Type} {p q : α → Bool} : ∀ {s : List α}, (∀ m ∈ s, p m = true → q m = true) → (s.filter q).length = (s.filter p).length → ∀ m ∈ s, q m = true → p m = true
  | [], _, _ => by simp
  | a :: s, h, e => by
    have hs : ∀ m ∈ s, p m = true → q m = true := fun m hm => h m (List.mem_cons_of_mem _ hm)
    have le := filter_le hs
    by_cases c : p a = true
    · rw [List.filter_cons_of_pos c, List.filter_cons_of_pos (h a (by simp) c), List.length_cons, List.length_cons] at e
      intro m hm hq
      rcases List.mem_cons.mp hm with rfl | hm
      · exact c
      · exact filter_eq_of_len hs (by omega) m hm hq
    · rw [List.filter_cons_of_neg c] at e
      by_cases d : q a = true
      · rw [List.filter_cons_of_pos d, List.length_cons] at e; omega
      · rw [List.filter_cons_of_neg d] at e
        intro m hm hq
        rcases List.mem_cons.mp hm with rfl | hm
        · exact absurd hq d
        · exact filter_eq_of_len hs e m hm hq
structure Good (l : List Work) (s e : List Nat) : Prop where
  sub : ∀ m ∈ e, m ∈ s ∧ Rch l m
  end_ : END ∈ s → END ∈ e
  cl : ∀ m ∈ s, ∀ x ∈ nexts l m, x ∈ e → m ∈ e
theorem ending_good {l : List Work} {s : List Nat} : ∀ (f : Nat) (p : Nat → Bool), (∀ m ∈ s.filter p, Rch l m) → (END ∈ s → END ∈ s.filter p) → s.length ≤ (s.filter p).length + f → Good l s (ending l s f (s.filter p))
  | 0, p, h1, h2, h3 => by
    unfold ending
    have all : ∀ m ∈ s, p m = true := by
      have e : (s.filter fun _ => true).length = (s.filter p).length := by
        have := List.length_filter_le p s
        rw [show (s.filter fun _ => true) = s from List.filter_eq_self.mpr (by simp)]
        omega
      intro m hm
      exact filter_eq_of_len (p := p) (q := fun _ => true) (fun _ _ _ => rfl) e m hm rfl
    exact ⟨fun m hm => ⟨(List.mem_filter.mp hm).1, h1 m hm⟩, h2, fun m hm x _ _ => List.mem_filter.mpr ⟨hm, all m hm⟩⟩
  | f + 1, p, h1, h2, h3 => by
    unfold ending
    simp only []
    have imp : ∀ m ∈ s, p m = true → ((s.filter p).contains m || (nexts l m).any fun x => (s.filter p).contains x) = true := fun m hm hp => by
      rw [Bool.or_eq_true]; exact .inl (contains_iff.mpr (List.mem_filter.mpr ⟨hm, hp⟩))
    by_cases c : (back l s (s.filter p)).length = (s.filter p).length
    · rw [if_pos c]
      have key := filter_eq_of_len imp c
      refine ⟨fun m hm => ⟨(List.mem_filter.mp hm).1, h1 m hm⟩, h2, fun m hm x hx hxe => List.mem_filter.mpr ⟨hm, key m hm ?_⟩⟩
      rw [Bool.or_eq_true]
      exact .inr (List.any_eq_true.mpr ⟨x, hx, contains_iff.mpr hxe⟩)
    · rw [if_neg c]
      have le : (s.filter p).length ≤ (back l s (s.filter p)).length := filter_le imp
      refine ending_good f _ (fun m hm => ?_) (fun he => ?_) ?_
      · obtain ⟨hs, hq⟩ := List.mem_filter.mp hm
        rw [Bool.or_eq_true] at hq
        rcases hq with hq | hq
        · exact h1 m (contains_iff.mp hq)
        · obtain ⟨x, hx, hxe⟩ := List.any_eq_true.mp hq
          exact .step hx (h1 x (contains_iff.mp hxe))
      · have h := h2 he
        exact List.mem_filter.mpr ⟨he, by rw [Bool.or_eq_true]; exact .inl (contains_iff.mpr h)⟩
      · show s.length ≤ (back l s (s.filter p)).length + f
        omega
theorem ending_mem {l : List Work} {s : List Nat} (cl : ∀ m ∈ s, ∀ x ∈ nexts l m, x ∈ s) {m : Nat} (hm : m ∈ s) : m ∈ ending l s s.length (s.filter fun m => m == END) ↔ Rch l m := by
  have G : Good l s (ending l s s.length (s.filter fun m => m == END)) := by
    refine ending_good s.length (fun m => m == END) (fun m hm => ?_) (fun he => List.mem_filter.mpr ⟨he, by simp⟩) (by omega)
    have e : m = END := by simpa using (List.mem_filter.mp hm).2
    subst e; exact .here
  constructor
  · exact fun h => (G.sub m h).2
  · intro h
    induction h with
    | here => exact G.end_ hm
    | step hx _ ih => exact G.cl _ hm _ hx (ih (cl _ hm _ hx))
/-- the end and those that come to it, gathered backwards: E all of them, each of which but the newest has been looked back from -/
structure Back (l : List Work) (s E newest : List Nat) : Prop where
  nd : E.Nodup
  rch : ∀ m ∈ E, Rch l m
  sub : ∀ m ∈ E, m = END ∨ m ∈ s
  new : ∀ m ∈ newest, m ∈ E
  end_ : END ∈ E
  cl : ∀ x ∈ E, x ∉ newest → ∀ m ∈ s, x ∈ nexts l m → m ∈ E
theorem back_lost {l : List Work} {s E : List Nat} (cl : ∀ m ∈ s, ∀ x ∈ nexts l m, x ∈ s) (B : Back l s E []) : (s.filter fun m => !E.contains m) = lost l s := by
  unfold lost
  simp only []
  refine List.filter_congr fun m hm => ?_
  congr 1
  have h1 := ending_mem cl hm
  have h2 : m ∈ E ↔ Rch l m := by
    constructor
    · exact B.rch m
    · intro h
      induction h with
      | here => exact B.end_
      | step hx _ ih => exact B.cl _ (ih (cl _ hm _ hx) (ending_mem cl (cl _ hm _ hx))) (by simp) _ hm hx
  have h3 : m ∈ E ↔ m ∈ ending l s s.length (s.filter fun m => m == END) := h2.trans h1.symm
  by_cases c : m ∈ E
  · rw [contains_iff.mpr c, contains_iff.mpr (h3.mp c)]
  · have c' := fun z => c (h3.mpr z)
    rw [Bool.eq_false_iff.mpr (fun z => c (contains_iff.mp z)), Bool.eq_false_iff.mpr (fun z => c' (contains_iff.mp z))]
end EwM

namespace EwM
open Kct8

/-! ### the list of calls, call by call -/
theorem whole_id (c : List (List Int)) : PyKct8.whole c = c := by
  unfold PyKct8.whole
  split <;> rfl
theorem shape_rows {p : Int} {a : Nat × Nat} (h : PyKct8.shape p = some a) : a.2 = 0 := by
  unfold PyKct8.shape at h
  repeat' split at h
  all_goals first | (cases h; rfl) | cases h
theorem flat_turn {f : Nat} {p : Int} {r : List Int} {cs : List (List (List Int))} (h : PyFlat.calls PyKct8.shape f (p :: r) = some cs) :
    ∃ (n f' : Nat) (cs' : List (List (List Int))), PyKct8.shape p = some (n, 0) ∧ n ≤ r.length ∧ f = f' + 1 ∧ cs = [p :: r.take n] :: cs' ∧ PyFlat.calls PyKct8.shape f' (r.drop n) = some cs' := by
  match f, h with
  | 0, h => simp [PyFlat.calls] at h
  | f + 1, h =>
    unfold PyFlat.calls PyFlat.call at h
    simp only [] at h
    cases hs : PyKct8.shape p with
    | none => rw [hs] at h; simp at h
    | some a =>
      obtain ⟨n, k⟩ := a
      have hk : k = 0 := shape_rows hs
      subst hk
      rw [hs] at h
      simp only [PyFlat.rows] at h
      by_cases hl : r.length < n
      · rw [if_pos hl] at h; simp at h
      · rw [if_neg hl] at h
        simp only [] at h
        cases hc : PyFlat.calls PyKct8.shape f (r.drop n) with
        | none => rw [hc] at h; simp at h
        | some cs' =>
          rw [hc] at h
          simp only [Option.some.injEq] at h
          exact ⟨n, f, cs', rfl, by omega, rfl, h.symm, hc⟩
/-- what is still to be answered, the state being s -/
structure Due (l : List Int) (at_ : Nat) (s : Abs) (out : List Int) : Prop where
  le : at_ ≤ l.length
  cs : ∃ f cs, PyFlat.calls PyKct8.shape f (l.drop at_) = some cs ∧ (∀ c ∈ cs, Kct8Neutral.asked1 c = true) ∧ PyKct8.answers l = out ++ PyFlat.told (PyFlat.played Kct8Neutral.step s cs)
theorem map_whole (cs : List (List (List Int))) : cs.map PyKct8.whole = cs := by
  induction cs with
  | nil => rfl
  | cons c cs ih => rw [List.map_cons, whole_id, ih]
theorem due_start {l : List Int} (h : PyKct8.answers_asked l = true) : Due l 0 Kct8.first [] := by
  unfold PyKct8.answers_asked PyKct8.calls at h
  cases hc : PyFlat.calls PyKct8.shape l.length l with
  | none => rw [hc] at h; simp at h
  | some cs =>
    rw [hc] at h
    simp only [map_whole, Bool.and_eq_true] at h
    refine ⟨Nat.zero_le _, l.length, cs, hc, ?_, ?_⟩
    · have h2 := h.2
      unfold Kct8Neutral.asked at h2
      simp only [Bool.and_eq_true] at h2
      exact List.all_eq_true.mp h2.1.2.1
    · unfold PyKct8.answers PyKct8.calls
      rw [hc]
      simp only [map_whole]
      rfl
theorem due_end {l : List Int} {at_ : Nat} {s : Abs} {out : List Int} (D : Due l at_ s out) (h : l.length ≤ at_) : PyKct8.answers l = out := by
  obtain ⟨f, cs, h1, _, h3⟩ := D.cs
  rw [List.drop_eq_nil_of_le h] at h1
  have e : cs = [] := by
    match f, h1 with
    | 0, h1 => unfold PyFlat.calls at h1; exact (Option.some.inj h1).symm
    | _ + 1, h1 => unfold PyFlat.calls at h1; exact (Option.some.inj h1).symm
  subst e
  rw [h3]
  simp [PyFlat.played, PyFlat.told]
/-- a call that is due: its number p, its numbers xs -/
theorem due_turn {l : List Int} {at_ : Nat} {s : Abs} {out : List Int} (D : Due l at_ s out) {p : Int} (hp : l[at_]? = some p) :
    ∃ n : Nat, PyKct8.shape p = some (n, 0) ∧ at_ + 1 + n ≤ l.length ∧ Kct8Neutral.asked1 [p :: (l.drop (at_ + 1)).take n] = true ∧
      Due l (at_ + 1 + n) (Kct8Neutral.step s [p :: (l.drop (at_ + 1)).take n]).1 (out ++ (((Kct8Neutral.step s [p :: (l.drop (at_ + 1)).take n]).2.length : Int) :: (Kct8Neutral.step s [p :: (l.drop (at_ + 1)).take n]).2)) := by
  obtain ⟨f, cs, h1, h2, h3⟩ := D.cs
  have hlt : at_ < l.length := (List.getElem?_eq_some_iff.mp hp).1
  have e : l.drop at_ = p :: l.drop (at_ + 1) := by
    rw [List.drop_eq_getElem_cons hlt]
    congr 1
    exact (List.getElem?_eq_some_iff.mp hp).2
  rw [e] at h1
  obtain ⟨n, f', cs', g1, g2, g3, g4, g5⟩ := flat_turn h1
  subst g4
  rw [List.length_drop] at g2
  refine ⟨n, g1, by omega, h2 _ (by simp), by omega, f', cs', ?_, fun c hc => h2 c (List.mem_cons_of_mem _ hc), ?_⟩
  · rw [List.drop_drop] at g5
    exact g5
  · rw [h3]
    simp only [PyFlat.played, PyFlat.told, List.flatMap_cons, List.append_assoc]
end EwM

namespace EwM
open Kct8 PySem

/-! ### bits -/
theorem xor_add_and : ∀ (a b : Nat), (a ^^^ b) + 2 * (a &&& b) = a + b := by
  intro a
  induction a using Nat.strongRecOn with
  | _ a ih =>
    intro b
    by_cases ha : a = 0
    · subst ha; simp
    · have h := ih (a / 2) (by omega) (b / 2)
      rw [← Nat.xor_div_two, ← Nat.and_div_two] at h
      have e3 := @Nat.xor_mod_two_eq_one a b
      have e4 := @Nat.and_mod_two_eq_one a b
      omega
theorem or_add_and (a b : Nat) : (a ||| b) + (a &&& b) = a + b := by
  have h1 : (a ||| b) = (a ^^^ b) ^^^ (a &&& b) := by
    apply Nat.eq_of_testBit_eq
    intro i
    simp only [Nat.testBit_or, Nat.testBit_xor, Nat.testBit_and]
    cases a.testBit i <;> cases b.testBit i <;> rfl
  have h2 : (a ^^^ b) &&& (a &&& b) = 0 := by
    apply Nat.eq_of_testBit_eq
    intro i
    simp only [Nat.testBit_xor, Nat.testBit_and, Nat.zero_testBit]
    cases a.testBit i <;> cases b.testBit i <;> rfl
  have h3 := xor_add_and (a ^^^ b) (a &&& b)
  rw [h2, ← h1] at h3
  have h4 := xor_add_and a b
  omega
theorem sub_and (x t : Nat) : x - (x &&& t) = x ^^^ (x &&& t) := by
  have h := xor_add_and x (x &&& t)
  have e : x &&& (x &&& t) = x &&& t := by
    apply Nat.eq_of_testBit_eq
    intro i
    simp only [Nat.testBit_and]
    cases x.testBit i <;> cases t.testBit i <;> rfl
  rw [e] at h
  omega
theorem and_le (x t : Nat) : x &&& t ≤ x := Nat.and_le_left
theorem bAnd (a b : Nat) : Builtin.bitAnd (a : Int) (b : Int) = ((a &&& b : Nat) : Int) := by
  unfold Builtin.bitAnd
  simp
theorem bNot_neg (t : Nat) : decide ((0 : Int) ≤ Builtin.bitNot (t : Int)) = false := by
  unfold Builtin.bitNot
  exact decide_eq_false (by omega)
theorem bNot_not (x : Int) : Builtin.bitNot (Builtin.bitNot x) = x := by
  unfold Builtin.bitNot; omega
/-- what of x isn't in t -/
theorem bAndNot (x t : Nat) : Builtin.bitAnd (x : Int) (Builtin.bitNot (t : Int)) = ((x ^^^ (x &&& t) : Nat) : Int) := by
  unfold Builtin.bitAnd
  rw [bNot_neg, decide_eq_true (by omega : (0 : Int) ≤ (x : Int))]
  simp only [bNot_not, Int.toNat_natCast]
  rw [← sub_and]
  have := and_le x t
  omega
theorem bOr (a b : Nat) : Builtin.bitOr (a : Int) (b : Int) = ((a ||| b : Nat) : Int) := by
  unfold Builtin.bitOr Builtin.bitAnd
  rw [bNot_neg, bNot_neg]
  simp only [bNot_not, Int.toNat_natCast]
theorem on_iff {w : Work} {m : Nat} : isOn w m = decide (((m &&& w.takes : Nat) : Int) = (w.takes : Int)) := by
  unfold isOn
  by_cases h : m &&& w.takes = w.takes
  · rw [h]; simp
  · rw [decide_eq_false (by omega)]; simpa using h
theorem on_and {w : Work} {m : Nat} (h : isOn w m = true) : m &&& w.takes = w.takes := by simpa [isOn] using h
theorem on_bit {w : Work} {m : Nat} (h : isOn w m = true) (i : Nat) : (m.testBit i && w.takes.testBit i) = w.takes.testBit i := by
  rw [← Nat.testBit_and, on_and h]
theorem dbl_bits {w : Work} {m : Nat} (h : isOn w m = true) : (m &&& w.gives) ^^^ ((m &&& w.gives) &&& w.takes) = (m ^^^ w.takes) &&& w.gives := by
  apply Nat.eq_of_testBit_eq
  intro i
  have := on_bit h i
  simp only [Nat.testBit_xor, Nat.testBit_and]
  revert this
  cases m.testBit i <;> cases w.takes.testBit i <;> cases w.gives.testBit i <;> decide
theorem dbl_iff {w : Work} {m : Nat} (h : isOn w m = true) : doubles w m = !decide ((((m &&& w.gives) ^^^ ((m &&& w.gives) &&& w.takes) : Nat) : Int) = 0) := by
  rw [dbl_bits h]
  unfold doubles
  by_cases c : (m ^^^ w.takes) &&& w.gives = 0
  · rw [c]; rfl
  · rw [decide_eq_false (by omega)]
    simpa using c
theorem next_bits {w : Work} {m : Nat} (h : isOn w m = true) : (m ^^^ (m &&& w.takes)) ||| w.gives = next w m := by
  unfold Kct8.next
  rw [on_and h]
end EwM

namespace EwM
open Kct8

/-! ### how far: the search, as a loop has it -/
theorem same_iff {a b : Case} : same a b = true ↔ a = b := by
  unfold same
  rw [Bool.and_eq_true]
  constructor
  · rintro ⟨h1, h2⟩
    cases a; cases b
    simp only [beq_iff_eq] at h1 h2
    subst h1; subst h2; rfl
  · rintro rfl
    simp
theorem any_same {l : List Case} {y : Case} : l.any (same y) = true ↔ y ∈ l := by
  rw [List.any_eq_true]
  constructor
  · rintro ⟨z, hz, e⟩; rw [same_iff] at e; subst e; exact hz
  · intro h; exact ⟨y, h, same_iff.mpr rfl⟩
theorem any_same2 {l : Rows} {y : Case} : l.any (fun z => same z.1 y) = true ↔ y ∈ l.map Prod.fst := by
  rw [List.any_eq_true, List.mem_map]
  constructor
  · rintro ⟨z, hz, e⟩; rw [same_iff] at e; exact ⟨z, hz, e⟩
  · rintro ⟨z, hz, e⟩; exact ⟨z, hz, same_iff.mpr e⟩
/-- the row's first move: that of where it comes from, else its own -/
def firstOf (f : Option Move) (v : Move) : Option Move := match f with
  | some f => some f
  | none => some v
/-- one case's coming ones are laid to those that come -/
def lay1 (c : Course) (seen : List Case) (x : Case × Option Move) (a : Rows) (vs : List Move) : Rows := vs.foldl (fun (a : Rows) v =>
  let y := done c x.1 v.1 v.2
  if seen.any (same y) || a.any (fun z => same z.1 y) then a else a ++ [(y, match x.2 with
    | some f => some f
    | none => some v)]) a
theorem lay1_nil (c : Course) (seen : List Case) (x : Case × Option Move) (a : Rows) : lay1 c seen x a [] = a := rfl
instance : DecidableEq Case := fun a b => if h : a.marks = b.marks ∧ a.did = b.did then isTrue (by cases a; cases b; simp_all) else isFalse (fun e => h (by rw [e]; exact ⟨rfl, rfl⟩))
theorem lay1_snoc (c : Course) (seen : List Case) (x : Case × Option Move) (a : Rows) (vs : List Move) (v : Move) : lay1 c seen x a (vs ++ [v]) =
    if done c x.1 v.1 v.2 ∈ seen ++ (lay1 c seen x a vs).map Prod.fst then lay1 c seen x a vs else lay1 c seen x a vs ++ [(done c x.1 v.1 v.2, firstOf x.2 v)] := by
  unfold lay1
  rw [List.foldl_append]
  simp only [List.foldl_cons, List.foldl_nil]
  generalize (List.foldl _ a vs) = b
  by_cases h : done c x.1 v.1 v.2 ∈ seen ++ b.map Prod.fst
  · rw [if_pos h, if_pos]
    rw [Bool.or_eq_true, any_same, any_same2]
    exact List.mem_append.mp h
  · rw [if_neg h, if_neg]
    · rfl
    · rw [Bool.or_eq_true, any_same, any_same2]
      exact fun z => h (List.mem_append.mpr z)
theorem onward_nil (c : Course) (seen : List Case) : onward c [] seen = [] := rfl
theorem onward_snoc (c : Course) (r : Rows) (x : Case × Option Move) (seen : List Case) : onward c (r ++ [x]) seen = lay1 c seen x (onward c r seen) (moves c x.1) := by
  unfold onward lay1
  rw [List.foldl_append]
  rfl
/-- the search stands before its k-th row of cases -/
structure Sought (c : Course) (x0 : Case) (k : Nat) (r : Rows) (seen : List Case) : Prop where
  few : seen.length ≤ MANY
  eq : ∃ f, far c x0 = search c f k r seen ∧ MANY + 2 ≤ seen.length + f
theorem sought_start (c : Course) (x : Case) : Sought c x 0 [(x, none)] [x] := ⟨by show 1 ≤ MANY; decide, MANY + 1, rfl, by show MANY + 2 ≤ 1 + (MANY + 1); decide⟩
section
variable {c : Course} {x0 : Case} {k : Nat} {r : Rows} {seen : List Case}
theorem sought_ends (S : Sought c x0 k r seen) {x : Case × Option Move} (h : (r.find? fun x => x.1.marks == END) = some x) : far c x0 = .ends k x.2 := by
  obtain ⟨f, e, hf⟩ := S.eq
  have := S.few
  match f, e, hf with
  | 0, e, hf => omega
  | f + 1, e, hf => rw [e]; unfold search; rw [h]
theorem sought_no (S : Sought c x0 k r seen) (h : (r.find? fun x => x.1.marks == END) = none) (hn : onward c r seen = []) : far c x0 = .no := by
  obtain ⟨f, e, hf⟩ := S.eq
  have := S.few
  match f, e, hf with
  | 0, e, hf => omega
  | f + 1, e, hf => rw [e]; unfold search; rw [h]; simp only [hn]; rfl
theorem sought_many (S : Sought c x0 k r seen) (h : (r.find? fun x => x.1.marks == END) = none) (hm : MANY < seen.length + (onward c r seen).length) : far c x0 = .many := by
  obtain ⟨f, e, hf⟩ := S.eq
  have hw := S.few
  match f, e, hf with
  | 0, e, hf => omega
  | f + 1, e, hf =>
    rw [e]; unfold search; rw [h]
    have ne : (onward c r seen).isEmpty = false := by
      cases q : onward c r seen with
      | nil => rw [q] at hm; simp at hm; omega
      | cons => rfl
    simp only [ne]
    rw [if_neg (by decide), if_pos hm]
theorem sought_step (S : Sought c x0 k r seen) (h : (r.find? fun x => x.1.marks == END) = none) (hn : onward c r seen ≠ []) (hm : ¬ MANY < seen.length + (onward c r seen).length) :
    Sought c x0 (k + 1) (onward c r seen) (seen ++ (onward c r seen).map Prod.fst) := by
  refine ⟨by rw [List.length_append, List.length_map]; omega, ?_⟩
  obtain ⟨f, e, hf⟩ := S.eq
  have hw := S.few
  match f, e, hf with
  | 0, e, hf => omega
  | f + 1, e, hf =>
    refine ⟨f, ?_, ?_⟩
    · rw [e]
      conv => lhs; unfold search
      rw [h]
      have ne : (onward c r seen).isEmpty = false := by
        cases q : onward c r seen with
        | nil => exact absurd q hn
        | cons => rfl
      simp only [ne]
      rw [if_neg (by decide), if_neg hm]
    · rw [List.length_append, List.length_map]
      have : 0 < (onward c r seen).length := List.length_pos_iff.mpr hn
      omega
end
end EwM

namespace EwM
open Kct8

/-! ### a number by its bits -/
def ofB (f : Nat → Bool) : Nat → Nat
  | 0 => 0
  | n + 1 => ofB f n ||| (if f n then 2 ^ n else 0)
theorem ofB_bit (f : Nat → Bool) : ∀ (n i : Nat), (ofB f n).testBit i = (decide (i < n) && f i)
  | 0, i => by simp [ofB]
  | n + 1, i => by
    unfold ofB
    rw [Nat.testBit_or, ofB_bit f n i]
    by_cases h : i = n
    · subst h
      cases q : f i
      · simp
      · simp [Nat.testBit_two_pow_self]
    · have e : (if f n = true then 2 ^ n else 0).testBit i = false := by
        cases f n
        · simp
        · rw [if_pos rfl]; exact Nat.testBit_two_pow_of_ne (Ne.symm h)
      rw [e, Bool.or_false]
      congr 1
      exact decide_eq_decide.mpr (by omega)
theorem testBit_big {a n i : Nat} (h : a < 2 ^ n) (hi : n ≤ i) : a.testBit i = false := Nat.testBit_lt_two_pow (Nat.lt_of_lt_of_le h (Nat.pow_le_pow_right (by decide) hi))

/-! ### a case as a number -/
def encF (x : Case) (j : Nat) : Bool := if j < 16 then x.marks.testBit j else (didOf x ((j - 16) % 8)).testBit ((j - 16) / 8)
def enc (x : Case) : Nat := ofB (encF x) 144
structure CourseOk (c : Course) : Prop where
  wl : c.works.length ≤ 16
  wk : ∀ w ∈ c.works, w.takes < 65536 ∧ w.gives < 65536
  pl : c.people.length ≤ 8
  ap : ∀ a ∈ c.aparts, a.1 < c.works.length ∧ a.2 < c.works.length
structure CaseOk (n : Nat) (x : Case) : Prop where
  mrk : x.marks < 65536
  len : x.did.length = n
  few : n ≤ 8
  dd : ∀ d ∈ x.did, d < 65536
theorem CaseOk.didLt {n : Nat} {x : Case} (h : CaseOk n x) (p : Nat) : didOf x p < 65536 := by
  unfold didOf
  rw [List.getD_eq_getElem?_getD]
  cases q : x.did[p]? with
  | none => show 0 < 65536; decide
  | some d => exact h.dd d (List.mem_of_getElem? q)
theorem didOf_out {n : Nat} {x : Case} (h : CaseOk n x) {p : Nat} (hp : n ≤ p) : didOf x p = 0 := by
  unfold didOf
  rw [List.getD_eq_getElem?_getD, List.getElem?_eq_none (by rw [h.len]; exact hp)]
  rfl
theorem enc_low (x : Case) {j : Nat} (h : j < 16) : (enc x).testBit j = x.marks.testBit j := by
  unfold enc
  rw [ofB_bit, decide_eq_true (by omega), Bool.true_and]
  unfold encF
  rw [if_pos h]
theorem enc_high (x : Case) {i p : Nat} (hi : i < 16) (hp : p < 8) : (enc x).testBit (16 + 8 * i + p) = (didOf x p).testBit i := by
  unfold enc
  rw [ofB_bit, decide_eq_true (by omega), Bool.true_and]
  unfold encF
  rw [if_neg (by omega), show (16 + 8 * i + p - 16) % 8 = p by omega, show (16 + 8 * i + p - 16) / 8 = i by omega]
theorem split_bit (j : Nat) (h : 16 ≤ j) (h2 : j < 144) : ∃ i p, i < 16 ∧ p < 8 ∧ j = 16 + 8 * i + p := ⟨(j - 16) / 8, (j - 16) % 8, by omega, by omega, by omega⟩
theorem enc_out (x : Case) {j : Nat} (h : 144 ≤ j) : (enc x).testBit j = false := by
  unfold enc
  rw [ofB_bit, decide_eq_false (by omega), Bool.false_and]
theorem enc_eq {n m : Nat} {x : Case} (hm : ∀ j, j < 16 → m.testBit j = x.marks.testBit j) (hd : ∀ i p, i < 16 → p < 8 → m.testBit (16 + 8 * i + p) = (didOf x p).testBit i) (ho : ∀ j, 144 ≤ j → m.testBit j = false) (_h : CaseOk n x) : m = enc x := by
  apply Nat.eq_of_testBit_eq
  intro j
  by_cases h1 : j < 16
  · rw [hm j h1, enc_low x h1]
  · by_cases h2 : j < 144
    · obtain ⟨i, p, hi, hp, rfl⟩ := split_bit j (by omega) h2
      rw [hd i p hi hp, enc_high x hi hp]
    · rw [ho j (by omega), enc_out x (by omega)]
theorem enc_marks {n : Nat} {x : Case} (h : CaseOk n x) : enc x &&& 65535 = x.marks := by
  apply Nat.eq_of_testBit_eq
  intro j
  rw [Nat.testBit_and, show (65535 : Nat) = 2 ^ 16 - 1 from rfl, Nat.testBit_two_pow_sub_one]
  by_cases h1 : j < 16
  · rw [enc_low x h1]; simp [h1]
  · have e := testBit_big (n := 16) (i := j) h.mrk (by omega)
    rw [e]; simp [h1]
theorem enc_inj {n : Nat} {x y : Case} (hx : CaseOk n x) (hy : CaseOk n y) (e : enc x = enc y) : x = y := by
  have m : x.marks = y.marks := by rw [← enc_marks hx, ← enc_marks hy, e]
  have d : ∀ p, didOf x p = didOf y p := by
    intro p
    by_cases hp : p < 8
    · apply Nat.eq_of_testBit_eq
      intro i
      by_cases hi : i < 16
      · rw [← enc_high x hi hp, ← enc_high y hi hp, e]
      · rw [testBit_big (n := 16) (hx.didLt p) (by omega), testBit_big (n := 16) (hy.didLt p) (by omega)]
    · rw [didOf_out hx (by have := hx.few; omega), didOf_out hy (by have := hy.few; omega)]
  obtain ⟨xm, xd⟩ := x
  obtain ⟨ym, yd⟩ := y
  have m' : xm = ym := m
  have hl : xd.length = yd.length := hx.len.trans hy.len.symm
  have d' : xd = yd := by
    apply List.ext_getElem? 
    intro p
    have := d p
    unfold didOf at this
    simp only [List.getD_eq_getElem?_getD] at this
    by_cases hp : p < xd.length
    · rw [List.getElem?_eq_getElem hp, List.getElem?_eq_getElem (by omega)] at this ⊢
      exact congrArg some this
    · rw [List.getElem?_eq_none (by omega), List.getElem?_eq_none (by omega)]
  rw [m', d']
/-- one more person changes no number -/
theorem enc_more (x : Case) : enc ({ x with did := x.did ++ [0] } : Case) = enc x := by
  have e : ∀ p, didOf ({ x with did := x.did ++ [0] } : Case) p = didOf x p := by
    intro p
    unfold didOf
    simp only [List.getD_eq_getElem?_getD]
    by_cases h : p < x.did.length
    · rw [List.getElem?_append_left h]
    · rw [List.getElem?_append_right (by omega), List.getElem?_eq_none (l := x.did) (by omega)]
      cases q : p - x.did.length with
      | zero => simp
      | succ k => simp
  unfold enc
  congr 1
  funext j
  unfold encF
  rw [e]
theorem CaseOk.more {n : Nat} {x : Case} (h : CaseOk n x) (hn : n + 1 ≤ 8) : CaseOk (n + 1) ({ x with did := x.did ++ [0] } : Case) := by
  refine ⟨h.mrk, by simp [h.len], hn, fun d hd => ?_⟩
  rcases List.mem_append.mp hd with q | q
  · exact h.dd d q
  · have e : d = 0 := by simpa using q
    subst e; decide
theorem CaseOk.new {α : Type} (l : List α) (h : l.length ≤ 8) : CaseOk l.length ⟨1, l.map fun _ => 0⟩ := by
  refine ⟨by show 1 < 65536; decide, by simp, h, fun d hd => ?_⟩
  obtain ⟨_, _, e⟩ := List.mem_map.mp hd
  subst e; decide
theorem enc_new {α : Type} (l : List α) (h : l.length ≤ 8) : enc ⟨1, l.map fun _ => 0⟩ = 1 := by
  symm
  refine enc_eq (n := l.length) (fun j _ => rfl) (fun i p _ _ => ?_) (fun j hj => ?_) (CaseOk.new l h)
  · have e : didOf ⟨1, l.map fun _ => 0⟩ p = 0 := by
      unfold didOf
      rw [List.getD_eq_getElem?_getD]
      show ((l.map fun _ => 0)[p]?).getD 0 = 0
      rw [List.getElem?_map]
      cases l[p]? <;> rfl
    rw [e, Nat.zero_testBit]
    exact testBit_big (n := 1) (by decide) (by omega)
  · exact testBit_big (n := 1) (by decide) (by omega)

/-! ### moves -/
structure Mv where
  number : Nat
  who : Nat
  takes : Nat
  bars : Nat
  brings : Nat
def othersOf (c : Course) (i : Nat) : List Nat := ((c.aparts.filter fun z => z.2 == i).map (·.1)) ++ ((c.aparts.filter fun z => z.1 == i).map (·.2))
def didBit (i p : Nat) : Nat := 2 ^ (16 + 8 * i + p)
def barsOf (b : Nat) (os : List Nat) (p : Nat) : Nat := os.foldl (fun b o => b ||| didBit o p) b
def mvOf (w : Work) (os : List Nat) (i p : Nat) : Mv := ⟨i, p, w.takes, barsOf (w.gives ^^^ (w.gives &&& w.takes)) os p, if os.length = 0 then w.gives else w.gives ||| didBit i p⟩
def fits (m : Mv) (n : Nat) : Bool := ((n &&& m.takes) == m.takes) && ((n &&& m.bars) == 0)
def behind (m : Mv) (n : Nat) : Nat := (n ^^^ (n &&& m.takes)) ||| m.brings
theorem others_mem {c : Course} {i j : Nat} : j ∈ othersOf c i ↔ isApart c i j = true := by
  unfold othersOf isApart
  rw [List.mem_append, List.mem_map, List.mem_map, List.any_eq_true]
  constructor
  · rintro (⟨z, hz, rfl⟩ | ⟨z, hz, rfl⟩)
    · obtain ⟨h1, h2⟩ := List.mem_filter.mp hz
      have e : z.2 = i := by simpa using h2
      exact ⟨z, h1, by subst e; simp⟩
    · obtain ⟨h1, h2⟩ := List.mem_filter.mp hz
      have e : z.1 = i := by simpa using h2
      exact ⟨z, h1, by subst e; simp⟩
  · rintro ⟨z, hz, h⟩
    rw [Bool.or_eq_true, beq_iff_eq, beq_iff_eq] at h
    rcases h with rfl | rfl
    · exact .inr ⟨_, List.mem_filter.mpr ⟨hz, by simp⟩, rfl⟩
    · exact .inl ⟨_, List.mem_filter.mpr ⟨hz, by simp⟩, rfl⟩
theorem others_lt {c : Course} (h : CourseOk c) {i j : Nat} (hj : j ∈ othersOf c i) : j < c.works.length := by
  rcases List.mem_append.mp hj with q | q
  · obtain ⟨z, hz, rfl⟩ := List.mem_map.mp q
    exact (h.ap z (List.mem_filter.mp hz).1).1
  · obtain ⟨z, hz, rfl⟩ := List.mem_map.mp q
    exact (h.ap z (List.mem_filter.mp hz).1).2
theorem counts_iff {c : Course} {i : Nat} : counts c i = true ↔ (othersOf c i).length ≠ 0 := by
  unfold counts
  rw [List.any_eq_true]
  constructor
  · rintro ⟨z, hz, h⟩
    rw [Bool.or_eq_true] at h
    intro e
    have e' := List.eq_nil_of_length_eq_zero e
    rcases h with h | h
    · have m : z.2 ∈ othersOf c i := List.mem_append_right _ (List.mem_map.mpr ⟨z, List.mem_filter.mpr ⟨hz, h⟩, rfl⟩)
      rw [e'] at m; simp at m
    · have m : z.1 ∈ othersOf c i := List.mem_append_left _ (List.mem_map.mpr ⟨z, List.mem_filter.mpr ⟨hz, h⟩, rfl⟩)
      rw [e'] at m; simp at m
  · intro h
    cases q : othersOf c i with
    | nil => rw [q] at h; exact absurd rfl h
    | cons a r =>
      have m : a ∈ othersOf c i := by rw [q]; simp
      rcases List.mem_append.mp m with m | m
      · obtain ⟨z, hz, rfl⟩ := List.mem_map.mp m
        obtain ⟨h1, h2⟩ := List.mem_filter.mp hz
        exact ⟨z, h1, by rw [Bool.or_eq_true]; exact .inr h2⟩
      · obtain ⟨z, hz, rfl⟩ := List.mem_map.mp m
        obtain ⟨h1, h2⟩ := List.mem_filter.mp hz
        exact ⟨z, h1, by rw [Bool.or_eq_true]; exact .inl h2⟩
theorem barsOf_bit (p j : Nat) : ∀ (os : List Nat) (b : Nat), (barsOf b os p).testBit j = (b.testBit j || os.any fun o => decide (16 + 8 * o + p = j))
  | [], b => by simp [barsOf]
  | o :: os, b => by
    show (barsOf (b ||| didBit o p) os p).testBit j = _
    rw [barsOf_bit p j os, Nat.testBit_or, List.any_cons]
    unfold didBit
    rw [Nat.testBit_two_pow, Bool.or_assoc]
theorem and_zero_iff {a b : Nat} : a &&& b = 0 ↔ ∀ j, (a.testBit j && b.testBit j) = false := by
  constructor
  · intro h j
    rw [← Nat.testBit_and, h, Nat.zero_testBit]
  · intro h
    apply Nat.eq_of_testBit_eq
    intro j
    rw [Nat.testBit_and, h j, Nat.zero_testBit]
theorem and_self_iff {a b : Nat} : a &&& b = b ↔ ∀ j, b.testBit j = true → a.testBit j = true := by
  constructor
  · intro h j hj
    have := congrArg (·.testBit j) h
    simp only [Nat.testBit_and, hj, Bool.and_true] at this
    exact this
  · intro h
    apply Nat.eq_of_testBit_eq
    intro j
    rw [Nat.testBit_and]
    cases q : b.testBit j
    · simp
    · rw [h j q]; rfl
theorem low_of {a j : Nat} (h : a < 65536) (hj : a.testBit j = true) : j < 16 := by
  by_cases c : j < 16
  · exact c
  · rw [testBit_big (n := 16) h (by omega)] at hj; cases hj
section
variable {c : Course} {x : Case} {w : Work} {i p : Nat}
theorem fits_takes (hw : w.takes < 65536) : ((enc x &&& w.takes) == w.takes) = isOn w x.marks := by
  unfold isOn
  rw [Bool.eq_iff_iff, beq_iff_eq, beq_iff_eq, and_self_iff, and_self_iff]
  constructor
  · intro h j hj
    rw [← enc_low x (low_of hw hj)]; exact h j hj
  · intro h j hj
    rw [enc_low x (low_of hw hj)]; exact h j hj
theorem fits_iff (hc : CourseOk c) (hx : CaseOk c.people.length x) (hw : c.works[i]? = some w) (hp : p < c.people.length) :
    fits (mvOf w (othersOf c i) i p) (enc x) = (can w x.marks && !barred c x i p) := by
  obtain ⟨wt, wg⟩ := hc.wk w (List.mem_of_getElem? hw)
  have p8 : p < 8 := Nat.lt_of_lt_of_le hp hc.pl
  unfold fits
  show (((enc x &&& w.takes) == w.takes) && ((enc x &&& barsOf (w.gives ^^^ (w.gives &&& w.takes)) (othersOf c i) p) == 0)) = _
  rw [fits_takes wt]
  unfold can
  cases on : isOn w x.marks with
  | false => rfl
  | true =>
    rw [Bool.true_and, Bool.true_and, Bool.eq_iff_iff, beq_iff_eq, and_zero_iff, Bool.and_eq_true]
    have key : ∀ j, (w.gives ^^^ (w.gives &&& w.takes)).testBit j = (w.gives.testBit j && !w.takes.testBit j) := by
      intro j
      rw [Nat.testBit_xor, Nat.testBit_and]
      cases w.gives.testBit j <;> cases w.takes.testBit j <;> rfl
    constructor
    · intro h
      constructor
      · unfold doubles
        rw [Bool.not_eq_true', bne_eq_false_iff_eq, and_zero_iff]
        intro j
        have hj := h j
        rw [barsOf_bit, key] at hj
        rw [Nat.testBit_xor]
        cases gq : w.gives.testBit j with
        | false => simp
        | true =>
          have j16 := low_of wg gq
          rw [enc_low x j16, gq] at hj
          have ob := on_bit on j
          revert hj ob
          cases x.marks.testBit j <;> cases w.takes.testBit j <;> simp
      · rw [Bool.not_eq_true', Bool.eq_false_iff]
        intro hb
        unfold barred at hb
        obtain ⟨j, hj, hb⟩ := List.any_eq_true.mp hb
        rw [Bool.and_eq_true] at hb
        have jl : j < c.works.length := List.mem_range.mp hj
        have j16 : j < 16 := Nat.lt_of_lt_of_le jl hc.wl
        have h1 := h (16 + 8 * j + p)
        rw [enc_high x j16 p8, barsOf_bit, hb.1, Bool.true_and, Bool.or_eq_false_iff] at h1
        have h2 := h1.2
        rw [List.any_eq_false] at h2
        exact h2 j (others_mem.mpr hb.2) (by simp)
    · rintro ⟨hd, hb⟩ j
      rw [Bool.not_eq_true'] at hd hb
      rw [barsOf_bit, key]
      by_cases j16 : j < 16
      · have no : ((othersOf c i).any fun o => decide (16 + 8 * o + p = j)) = false := by
          rw [List.any_eq_false]
          intro o _ h
          have := of_decide_eq_true h
          omega
        rw [no, Bool.or_false, enc_low x j16]
        unfold doubles at hd
        rw [bne_eq_false_iff_eq, and_zero_iff] at hd
        have := hd j
        rw [Nat.testBit_xor] at this
        have ob := on_bit on j
        revert this ob
        cases x.marks.testBit j <;> cases w.takes.testBit j <;> cases w.gives.testBit j <;> simp
      · have g0 : w.gives.testBit j = false := testBit_big (n := 16) wg (by omega)
        rw [g0, Bool.false_and, Bool.false_or]
        cases q : ((othersOf c i).any fun o => decide (16 + 8 * o + p = j)) with
        | false => rw [Bool.and_false]
        | true =>
          rw [Bool.and_true]
          obtain ⟨o, ho, eo⟩ := List.any_eq_true.mp q
          have eo := of_decide_eq_true eo
          subst eo
          have ol := others_lt hc ho
          rw [enc_high x (Nat.lt_of_lt_of_le ol hc.wl) p8, Bool.eq_false_iff]
          intro t
          rw [Bool.eq_false_iff] at hb
          exact hb (List.any_eq_true.mpr ⟨o, List.mem_range.mpr ol, by rw [Bool.and_eq_true]; exact ⟨t, others_mem.mp ho⟩⟩)
theorem next_lt {w : Work} {m : Nat} (hm : m < 65536) (ht : w.takes < 65536) (hg : w.gives < 65536) : Kct8.next w m < 65536 := by
  unfold Kct8.next
  exact Nat.or_lt_two_pow (n := 16) (Nat.xor_lt_two_pow (n := 16) hm ht) hg
theorem done_ok (hc : CourseOk c) (hx : CaseOk c.people.length x) (hw : c.works[i]? = some w) : CaseOk c.people.length (done c x i p) := by
  obtain ⟨wt, wg⟩ := hc.wk w (List.mem_of_getElem? hw)
  have i16 : i < 16 := Nat.lt_of_lt_of_le (List.getElem?_eq_some_iff.mp hw).1 hc.wl
  unfold done
  rw [hw]
  refine ⟨next_lt hx.mrk wt wg, ?_, hx.few, ?_⟩
  · show (if counts c i = true then x.did.set p (didOf x p ||| 2 ^ i) else x.did).length = _
    split
    · rw [List.length_set]; exact hx.len
    · exact hx.len
  · intro d hd
    have hd : d ∈ (if counts c i = true then x.did.set p (didOf x p ||| 2 ^ i) else x.did) := hd
    split at hd
    · rcases List.mem_or_eq_of_mem_set hd with q | q
      · exact hx.dd d q
      · subst q
        exact Nat.or_lt_two_pow (n := 16) (hx.didLt p) (Nat.pow_lt_pow_right (by decide) i16)
    · exact hx.dd d hd
theorem behind_enc (hc : CourseOk c) (hx : CaseOk c.people.length x) (hw : c.works[i]? = some w) (hp : p < c.people.length) (on : isOn w x.marks = true) :
    behind (mvOf w (othersOf c i) i p) (enc x) = enc (done c x i p) := by
  obtain ⟨wt, wg⟩ := hc.wk w (List.mem_of_getElem? hw)
  have p8 : p < 8 := Nat.lt_of_lt_of_le hp hc.pl
  have i16 : i < 16 := Nat.lt_of_lt_of_le (List.getElem?_eq_some_iff.mp hw).1 hc.wl
  have br : ∀ j, (mvOf w (othersOf c i) i p).brings.testBit j = (w.gives.testBit j || (counts c i && decide (16 + 8 * i + p = j))) := by
    intro j
    show (if (othersOf c i).length = 0 then w.gives else w.gives ||| didBit i p).testBit j = _
    cases q : counts c i with
    | true =>
      rw [if_neg (counts_iff.mp q), Nat.testBit_or]
      unfold didBit
      rw [Nat.testBit_two_pow, Bool.true_and]
    | false =>
      have e : (othersOf c i).length = 0 := Decidable.byContradiction fun z => by rw [counts_iff.mpr z] at q; cases q
      rw [if_pos e, Bool.false_and, Bool.or_false]
  have bb : ∀ j, (behind (mvOf w (othersOf c i) i p) (enc x)).testBit j = (((enc x).testBit j && !w.takes.testBit j) || (w.gives.testBit j || (counts c i && decide (16 + 8 * i + p = j)))) := by
    intro j
    unfold behind
    rw [Nat.testBit_or, br]
    congr 1
    show (enc x ^^^ (enc x &&& w.takes)).testBit j = _
    rw [Nat.testBit_xor, Nat.testBit_and]
    cases (enc x).testBit j <;> cases w.takes.testBit j <;> rfl
  refine enc_eq (n := c.people.length) (fun j hj => ?_) (fun k q hk hq => ?_) (fun j hj => ?_) (done_ok hc hx hw)
  · rw [bb, enc_low x hj, decide_eq_false (by omega : ¬ 16 + 8 * i + p = j), Bool.and_false, Bool.or_false]
    have e : (done c x i p).marks = Kct8.next w x.marks := by unfold done; rw [hw]
    rw [e, ← next_bits on, Nat.testBit_or, Nat.testBit_xor, Nat.testBit_and]
    cases x.marks.testBit j <;> cases w.takes.testBit j <;> rfl
  · rw [bb, enc_high x hk hq, testBit_big (n := 16) wt (by omega : 16 ≤ 16 + 8 * k + q), testBit_big (n := 16) wg (by omega : 16 ≤ 16 + 8 * k + q), Bool.not_false, Bool.and_true, Bool.false_or]
    have e : (done c x i p).did = if counts c i = true then x.did.set p (didOf x p ||| 2 ^ i) else x.did := rfl
    unfold didOf
    rw [e]
    cases cq : counts c i with
    | false =>
      rw [if_neg (by decide), Bool.false_and, Bool.or_false]
    | true =>
      rw [if_pos rfl, Bool.true_and]
      by_cases hpq : p = q
      · subst hpq
        simp only [List.getD_eq_getElem?_getD]
        rw [List.getElem?_set_self (by rw [hx.len]; exact hp)]
        show _ = (didOf x p ||| 2 ^ i).testBit k
        rw [Nat.testBit_or, Nat.testBit_two_pow]
        show ((didOf x p).testBit k || _) = _
        congr 1
        exact decide_eq_decide.mpr (by omega)
      · simp only [List.getD_eq_getElem?_getD]
        rw [List.getElem?_set_ne hpq, decide_eq_false (by omega), Bool.or_false]
  · rw [bb, enc_out x hj, testBit_big (n := 16) wg (by omega : 16 ≤ j), decide_eq_false (by omega)]
    simp
end

/-! ### all moves of a course -/
def cellOf (c : Course) (i p : Nat) : Option Mv := match c.works[i]? with
  | some w => if plays c i p then some (mvOf w (othersOf c i) i p) else none
  | none => none
def mvsTo (c : Course) (i p : Nat) : List Mv := ((List.range i).flatMap fun k => (List.range c.people.length).filterMap (cellOf c k)) ++ (List.range p).filterMap (cellOf c i)
def mvs (c : Course) : List Mv := mvsTo c c.works.length 0
theorem mvsTo_step (c : Course) (i p : Nat) : mvsTo c i (p + 1) = mvsTo c i p ++ (cellOf c i p).toList := by
  unfold mvsTo
  rw [List.range_succ, List.filterMap_append, List.append_assoc]
  have e : ([p] : List Nat).filterMap (cellOf c i) = (cellOf c i p).toList := by
    cases q : cellOf c i p <;> simp [q]
  rw [e]
theorem mvsTo_row (c : Course) (i : Nat) : mvsTo c i c.people.length = mvsTo c (i + 1) 0 := by
  unfold mvsTo
  rw [List.range_succ, List.flatMap_append]
  simp
theorem mvs_mem {c : Course} {m : Mv} (h : m ∈ mvs c) : ∃ i p w, c.works[i]? = some w ∧ p < c.people.length ∧ plays c i p = true ∧ m = mvOf w (othersOf c i) i p := by
  unfold mvs mvsTo at h
  simp only [List.range_zero, List.filterMap_nil, List.append_nil] at h
  obtain ⟨i, _, h⟩ := List.mem_flatMap.mp h
  obtain ⟨p, hp, h⟩ := List.mem_filterMap.mp h
  unfold cellOf at h
  cases q : c.works[i]? with
  | none => rw [q] at h; cases h
  | some w =>
    rw [q] at h
    simp only [] at h
    split at h
    · rename_i hh
      exact ⟨i, p, w, q, List.mem_range.mp hp, hh, (Option.some.inj h).symm⟩
    · cases h
theorem mvs_len (c : Course) (h : CourseOk c) : (mvs c).length ≤ 128 := by
  unfold mvs mvsTo
  simp only [List.range_zero, List.filterMap_nil, List.append_nil]
  have one : ∀ k, ((List.range c.people.length).filterMap (cellOf c k)).length ≤ 8 := fun k => by
    have := List.length_filterMap_le (cellOf c k) (List.range c.people.length)
    rw [List.length_range] at this
    exact Nat.le_trans this h.pl
  have all : ∀ n, ((List.range n).flatMap fun k => (List.range c.people.length).filterMap (cellOf c k)).length ≤ n * 8 := by
    intro n
    induction n with
    | zero => simp
    | succ n ih =>
      rw [List.range_succ, List.flatMap_append, List.length_append]
      have := one n
      simp only [List.flatMap_cons, List.flatMap_nil, List.append_nil]
      omega
  have := all c.works.length
  have := h.wl
  omega
theorem fm_congr {α β : Type} {f g : α → Option β} : ∀ {l : List α}, (∀ a ∈ l, f a = g a) → l.filterMap f = l.filterMap g
  | [], _ => rfl
  | a :: l, h => by
    rw [List.filterMap_cons, List.filterMap_cons, h a (by simp), fm_congr fun b hb => h b (List.mem_cons_of_mem _ hb)]
def nw (m : Mv) : Kct8.Move := (m.number, m.who)
theorem moves_eq {c : Course} {x : Case} (hc : CourseOk c) (hx : CaseOk c.people.length x) : moves c x = ((mvs c).filter fun m => fits m (enc x)).map nw := by
  unfold moves mvs mvsTo
  simp only [List.range_zero, List.filterMap_nil, List.append_nil]
  rw [List.filter_flatMap, List.map_flatMap]
  congr 1
  funext i
  rw [List.filter_filterMap, List.map_filterMap]
  refine fm_congr fun p hp => ?_
  have hp := List.mem_range.mp hp
  unfold may cellOf
  cases q : c.works[i]? with
  | none => simp
  | some w =>
    simp only [Option.any_some]
    cases pl : plays c i p with
    | false => simp
    | true =>
      simp only [if_true, Option.filter_some]
      rw [fits_iff hc hx q hp]
      by_cases h : (can w x.marks && !barred c x i p) = true
      · rw [if_pos h, if_pos (by rw [Bool.and_true]; exact h)]; rfl
      · rw [if_neg h, if_neg (by rw [Bool.and_true]; exact h)]; rfl
end EwM

namespace EwM
open Kct8
theorem snocInd {α : Type} {C : List α → Prop} (nil : C []) (snoc : ∀ (l : List α) (x : α), C l → C (l ++ [x])) (l : List α) : C l := by
  have all : ∀ r : List α, C r.reverse := by
    intro r
    induction r with
    | nil => exact nil
    | cons x r ih => rw [List.reverse_cons]; exact snoc _ _ ih
  have h := all l.reverse
  rw [List.reverse_reverse] at h
  exact h
theorem lay1_len (c : Course) (seen : List Case) (x : Case × Option Move) : ∀ (vs : List Move) (a : Rows), a.length ≤ (lay1 c seen x a vs).length := by
  intro vs
  induction vs using snocInd with
  | nil => intro a; exact Nat.le_refl _
  | snoc vs v ih =>
    intro a
    rw [lay1_snoc]
    split
    · exact ih a
    · rw [List.length_append]; exact Nat.le_trans (ih a) (Nat.le_add_right _ _)
theorem lay1_le (c : Course) (seen : List Case) (x : Case × Option Move) (a : Rows) : ∀ (vs : List Move), (lay1 c seen x a vs).length ≤ a.length + vs.length := by
  intro vs
  induction vs using snocInd with
  | nil => exact Nat.le_refl _
  | snoc vs v ih =>
    rw [lay1_snoc, List.length_append]
    split
    · omega
    · rw [List.length_append]; simp only [List.length_cons, List.length_nil]; omega
theorem onward_len (c : Course) (seen : List Case) (r : Rows) : ∀ (r' : Rows), (onward c r seen).length ≤ (onward c (r ++ r') seen).length := by
  intro r'
  induction r' using snocInd with
  | nil => rw [List.append_nil]; exact Nat.le_refl _
  | snoc r' x ih =>
    rw [← List.append_assoc, onward_snoc]
    exact Nat.le_trans ih (lay1_len _ _ _ _ _)
theorem onward_take (c : Course) (seen : List Case) (r : Rows) (n : Nat) : (onward c (r.take n) seen).length ≤ (onward c r seen).length := by
  have h := onward_len c seen (r.take n) (r.drop n)
  rw [List.take_append_drop] at h
  exact h
theorem lay1_first {c : Course} {seen : List Case} {x : Case × Option Move} {a : Rows} (ha : ∀ y ∈ a, ∃ v, y.2 = some v) : ∀ (vs : List Move), ∀ y ∈ lay1 c seen x a vs, ∃ v, y.2 = some v := by
  intro vs
  induction vs using snocInd with
  | nil => exact ha
  | snoc vs v ih =>
    intro y hy
    rw [lay1_snoc] at hy
    split at hy
    · exact ih y hy
    · rcases List.mem_append.mp hy with q | q
      · exact ih y q
      · have e : y = (done c x.1 v.1 v.2, firstOf x.2 v) := by simpa using q
        subst e
        unfold firstOf
        cases x.2 with
        | none => exact ⟨v, rfl⟩
        | some f => exact ⟨f, rfl⟩
theorem onward_first {c : Course} {seen : List Case} : ∀ (r : Rows), ∀ y ∈ onward c r seen, ∃ v, y.2 = some v := by
  intro r
  induction r using snocInd with
  | nil => intro y hy; rw [onward_nil] at hy; simp at hy
  | snoc r x ih =>
    rw [onward_snoc]
    exact lay1_first ih _
/-- how far, as the answer's numbers -/
def farL : Far → List Int
  | .ends k none => [k]
  | .ends k (some v) => [k, v.1, v.2]
  | .no => [-33]
  | .many => [-75]
theorem find_first {α : Type} {p : α → Bool} {l : List α} {i : Nat} {x : α} (h : l[i]? = some x) (hx : p x = true) (no : ∀ y ∈ l.take i, p y = false) : l.find? p = some x := by
  have e : l = l.take i ++ x :: l.drop (i + 1) := by
    have lt := (List.getElem?_eq_some_iff.mp h).1
    have ex := (List.getElem?_eq_some_iff.mp h).2
    rw [← ex, List.getElem_cons_drop, List.take_append_drop]
  rw [e, List.find?_append]
  have n : (l.take i).find? p = none := by
    rw [List.find?_eq_none]
    intro y hy
    rw [no y hy]
    exact Bool.false_ne_true
  rw [n, Option.none_or, List.find?_cons_of_pos hx]
theorem find_none {α : Type} {p : α → Bool} {l : List α} (no : ∀ y ∈ l, p y = false) : l.find? p = none := by
  rw [List.find?_eq_none]
  intro y hy
  rw [no y hy]
  exact Bool.false_ne_true
end EwM

namespace EwM
open Kct8
theorem nodup_le : ∀ {E L : List Nat}, E.Nodup → (∀ x ∈ E, x ∈ L) → E.length ≤ L.length
  | [], _, _, _ => Nat.zero_le _
  | e :: E, L, h, s => by
    obtain ⟨h1, h2⟩ := List.nodup_cons.mp h
    have m : e ∈ L := s e (by simp)
    have ih := nodup_le (E := E) (L := L.erase e) h2 fun x hx => (List.mem_erase_of_ne (fun z => h1 (by rw [← z]; exact hx))).mpr (s x (List.mem_cons_of_mem _ hx))
    rw [List.length_erase_of_mem m] at ih
    have pos : 0 < L.length := List.length_pos_of_mem m
    rw [List.length_cons]
    omega
section
variable {l : List Work} {s E p : List Nat}
theorem back_start (l : List Work) (s : List Nat) : Back l s [END] [END] :=
  ⟨by simp, fun m hm => by have e : m = END := by simpa using hm
                           subst e; exact .here, fun m hm => .inl (by simpa using hm), fun m hm => hm, by simp, fun x hx hn => absurd hx hn⟩
theorem back_add (B : Back l s E p) {e x0 : Nat} (he : e ∈ s) (hx : x0 ∈ E) (hn : x0 ∈ nexts l e) (ne : e ∉ E) : Back l s (E ++ [e]) (p ++ [e]) := by
  refine ⟨?_, fun m hm => ?_, fun m hm => ?_, fun m hm => ?_, List.mem_append_left _ B.end_, fun x hx' hn' m hm hxm => ?_⟩
  · refine List.nodup_append.mpr ⟨B.nd, by simp, fun a ha b hb z => ?_⟩
    have e' : b = e := by simpa using hb
    subst e'; subst z; exact ne ha
  · rcases List.mem_append.mp hm with q | q
    · exact B.rch m q
    · have e' : m = e := by simpa using q
      subst e'; exact .step hn (B.rch _ hx)
  · rcases List.mem_append.mp hm with q | q
    · exact B.sub m q
    · have e' : m = e := by simpa using q
      subst e'; exact .inr he
  · rcases List.mem_append.mp hm with q | q
    · exact List.mem_append_left _ (B.new m q)
    · exact List.mem_append_right _ q
  · rcases List.mem_append.mp hx' with q | q
    · exact List.mem_append_left _ (B.cl x q (fun z => hn' (List.mem_append_left _ z)) m hm hxm)
    · exact absurd (List.mem_append_right _ q) hn'
theorem back_done {x0 : Nat} (B : Back l s E (x0 :: p)) (h : ∀ m ∈ s, x0 ∈ nexts l m → m ∈ E) : Back l s E p := by
  refine ⟨B.nd, B.rch, B.sub, fun m hm => B.new m (List.mem_cons_of_mem _ hm), B.end_, fun x hx hn m hm hxm => ?_⟩
  by_cases e : x = x0
  · subst e; exact h m hm hxm
  · exact B.cl x hx (fun z => by
      rcases List.mem_cons.mp z with q | q
      · exact e q
      · exact hn q) m hm hxm
theorem back_len (B : Back l s E p) : E.length ≤ s.length + 1 := by
  have := nodup_le (L := END :: s) B.nd fun x hx => by
    rcases B.sub x hx with q | q
    · rw [q]; simp
    · exact List.mem_cons_of_mem _ q
  simpa using this
end
end EwM

namespace EwM
open Kct8
/-! ### people as they stand in a list: their parts, or that they left -/
def popt (q : Person) : Option Nat := if q.there then some q.parts else none
def opP : Option Nat → Person
  | none => ⟨0, false⟩
  | some n => ⟨n, true⟩
def crs (c : Course) (ps : List (Option Nat)) : Course := { c with people := ps.map opP }
theorem plays_opt (c : Course) (i p : Nat) : plays (crs c (c.people.map popt)) i p = plays c i p := by
  unfold plays crs
  simp only [List.map_map, List.getElem?_map]
  cases c.works[i]? with
  | none => rfl
  | some w =>
    cases c.people[p]? with
    | none => rfl
    | some q =>
      obtain ⟨k, th⟩ := q
      cases th <;> rfl
theorem far_congr {c c' : Course} (hw : c.works = c'.works) (ha : c.aparts = c'.aparts) (hl : c.people.length = c'.people.length) (hp : ∀ i p, plays c i p = plays c' i p) (x : Case) : far c x = far c' x := by
  have hA : isApart c = isApart c' := by funext i j; unfold isApart; rw [ha]
  have hC : counts c = counts c' := by funext i; unfold counts; rw [ha]
  have hB : barred c = barred c' := by funext x i p; unfold barred; rw [hw, hA]
  have hM : may c = may c' := by funext x i p; unfold may; rw [hw, hB, hp]
  have hD : done c = done c' := by funext x i p; unfold done; rw [hw, hC]
  have hV : moves c = moves c' := by funext x; unfold moves; rw [hw, hl, hM]
  have hO : onward c = onward c' := by funext r seen; unfold onward; rw [hV, hD]
  have hS : ∀ f k r seen, search c f k r seen = search c' f k r seen := by
    intro f
    induction f with
    | zero => intro k r seen; rfl
    | succ f ih =>
      intro k r seen
      unfold search
      rw [hO]
      split
      · rfl
      · simp only [ih]
  unfold far
  exact hS _ _ _ _
theorem far_opt (c : Course) (x : Case) : far (crs c (c.people.map popt)) x = far c x :=
  far_congr (c := crs c (c.people.map popt)) (c' := c) rfl rfl (by unfold crs; simp) (plays_opt c) x
def farN : Far → Int
  | .ends k _ => k
  | .no => -33
  | .many => -75
theorem farL_head (f : Far) : (farL f)[0]? = some (farN f) := by
  cases f with
  | ends k v => cases v <;> rfl
  | no => rfl
  | many => rfl
theorem farL_len (f : Far) : (farL f).length ≤ 3 := by
  cases f with
  | ends k v => cases v <;> simp [farL]
  | no => simp [farL]
  | many => simp [farL]
theorem crs_ok {c : Course} (ok : CourseOk c) {ps : List (Option Nat)} (h : ps.length ≤ 8) : CourseOk (crs c ps) := ⟨ok.wl, ok.wk, by unfold crs; simpa using h, ok.ap⟩
theorem crs_len (c : Course) (ps : List (Option Nat)) : (crs c ps).people.length = ps.length := by unfold crs; simp
end EwM

namespace Ew
open PySem PySem.Spec PyProof.Rows L2

/-! ### a key that is a pair: a number, and a tuple of numbers and Nones -/
abbrev NK := Int × List (Option Int)
def oIs : Option Int → Value → Bool
  | none, v => (match v with | .none => true | _ => false)
  | some i, v => Value.isInt i v
theorem oIs_shape : ∀ {k : Option Int} {v : Value}, oIs k v = true → (k = none ∧ v = Value.none) ∨ ∃ i t, k = some i ∧ v = Value.int i t
  | none, v, h => by
    cases v <;> first | exact .inl ⟨rfl, rfl⟩ | cases h
  | some i, v, h => by
    obtain ⟨t, e⟩ := Value.isInt_shape (k := i) (v := v) h
    exact .inr ⟨i, t, rfl, e⟩
def oHash : Option Int → Int
  | none => 0xFCA86420
  | some i => hashInt i
section
variable {prog : Program} {w : World} {A : Around} {E : Value → Shared → Prop} {s : Shared}
theorem pyHash_none {Q : Int → Shared → Prop} (h : Q 0xFCA86420 { s with toks := s.toks + 1 }) : wpAny (model prog w) A (pyHash .none) Q E s := by
  have ty : s.TypeIs Value.none "NoneType" := rfl
  unfold pyHash pyHashByItsType
  have nh : [Value.none].any Value.onHeap = false := rfl
  refine wpAny_bind ?_
  rw [cRoomFor, if_neg (by rw [nh]; exact Bool.false_ne_true)]
  refine wpAny_pure (wpAny_bind (wpAny_specialOf ty F.slot_NoneType_hash.lookup ?_))
  show wpAny _ _ (if (some (Value.builtin "NoneType.__hash__") == some Value.none) = true then _ else _) Q E s
  rw [if_neg (by rw [beq_builtin_none]; exact Bool.false_ne_true)]
  refine wpAny_bind (wpAny_specialOf ty F.slot_NoneType_hash.lookup ?_)
  show wpAny _ _ (callSpecialIfBoundUnlessNone? .none "__hash__" _ >>= _) Q E s
  refine wpAny_bind (wpAny_callSpecialIfBoundUnlessNone?_slot ty F.slot_NoneType_hash (wpAny_call_entry F.slot_NoneType_hash ty F.entry_NoneType_hash
    (show wpAny _ _ (do ret (← mkInt 0xFCA86420)) _ _ s from wpAny_ret_mkInt ?_) (F.args_NoneType_hash_1 _)))
  show wpAny _ _ (if (decide (-(2 : Int) ^ 63 ≤ 0xFCA86420) && decide ((0xFCA86420 : Int) < 2 ^ 63)) = true then _ else _) Q E _
  rw [if_pos (by decide)]
  exact wpAny_pure h
end
def oKind (prog : Program) (w : World) : PySem.KeyKind prog w (Option Int) where
  is := oIs
  hash := oHash
  inj := fun v a b ha hb => by
    rcases oIs_shape ha with ⟨rfl, rfl⟩ | ⟨i, t, rfl, rfl⟩
    · rcases oIs_shape hb with ⟨rfl, _⟩ | ⟨j, u, rfl, e⟩
      · rfl
      · exact nomatch e
    · rcases oIs_shape hb with ⟨rfl, e⟩ | ⟨j, u, rfl, e⟩
      · exact nomatch e
      · injection e with e1 _; rw [e1]
  byValue := fun k v h => by
    rcases oIs_shape h with ⟨rfl, rfl⟩ | ⟨i, t, rfl, rfl⟩ <;> rfl
  pyHash := fun hv h => by
    rcases oIs_shape hv with ⟨rfl, rfl⟩ | ⟨i, t, rfl, rfl⟩
    · exact pyHash_none h
    · exact wpAny_pyHash_int h
  eqBool := fun hu hv h => by
    rcases oIs_shape hu with ⟨rfl, rfl⟩ | ⟨i, t, rfl, rfl⟩
    · rcases oIs_shape hv with ⟨rfl, rfl⟩ | ⟨j, u, rfl, rfl⟩
      · exact SeqAt.EqAt.same _ _ _ _ _ h
      · exact SeqAt.EqAt.none_int j u _ _ _ _ h
    · rcases oIs_shape hv with ⟨rfl, rfl⟩ | ⟨j, u, rfl, rfl⟩
      · exact SeqAt.EqAt.int_none i t _ _ _ _ h
      · have e : decide (some i = some j) = (i == j) := by
          by_cases q : i = j
          · subst q; simp
          · rw [decide_eq_false fun z => q (Option.some.inj z)]; exact (beq_eq_false_iff_ne.mpr q).symm
        rw [e] at h
        exact wpAny_eqBool_int h
  «strs» := fun k x t v h => by
    rcases oIs_shape h with ⟨_, e⟩ | ⟨i, u, _, e⟩ <;> exact nomatch e
theorem items_any {P P' : Program} {w w' : World} : ∀ {ks : List (Option Int)} {us : List Value}, ItemsAre (oKind P w) ks us → ItemsAre (oKind P' w') ks us
  | _, _, .nil => .nil
  | _, _, .cons h t => .cons h (items_any t)
/-- the pair at a: its number and its tuple -/
def IsNK (prog : Program) (w : World) (h : Heap) (k : NK) (a : Addr) : Prop := ∃ o v b n, h.get? a = some o ∧ o.cls = .type "tuple" ∧ o.data = .seq #[v, .ref b] n ∧ Value.isInt k.1 v = true ∧ IsTupleKey (oKind prog w) h k.2 b
def nkHash (prog : Program) (w : World) (k : NK) : Int := reduceHash (Builtin.Tuple.tupleHashOf [hashInt k.1, tupleKeyHash (oKind prog w) k.2])
section
variable {prog : Program} {w : World} {A : Around} {E : Value → Shared → Prop} {s : Shared}
theorem IsNK.ty {k : NK} {a : Addr} (x : IsNK prog w s.heap k a) : s.TypeIs (.ref a) "tuple" := let ⟨o, _, _, _, ho, hc, _⟩ := x; ⟨o, ho, hc⟩
theorem IsNK.inj {h : Heap} {a : Addr} {x y : NK} (hx : IsNK prog w h x a) (hy : IsNK prog w h y a) : x = y := by
  obtain ⟨o, v, b, n, ho, _, hd, hi, ht⟩ := hx
  obtain ⟨o', v', b', n', ho', _, hd', hi', ht'⟩ := hy
  obtain rfl : o = o' := Option.some.inj (ho.symm.trans ho')
  rw [hd] at hd'
  injection hd' with h1 _
  have h2 : [v, Value.ref b] = [v', Value.ref b'] := congrArg Array.toList h1
  injection h2 with h3 h4
  injection h4 with h5 _
  injection h5 with h6
  subst h3; subst h6
  obtain ⟨x1, x2⟩ := x
  obtain ⟨y1, y2⟩ := y
  have e1 : x1 = y1 := Value.isInt_inj v _ _ hi hi'
  have e2 : x2 = y2 := ht.inj ht'
  rw [e1, e2]
theorem IsNK.keeps {h h' : Heap} {k : NK} {a d : Addr} {o : Obj} {es ep} (x : IsNK prog w h k a) (ho : h.get? d = some o) (hd : o.data = .dict es ep) (hs : Heap.SameBut d h h') : IsNK prog w h' k a := by
  obtain ⟨o', v, b, n, ho', hc, hd', hi, ht⟩ := x
  have ne : a ≠ d := by
    rintro rfl
    obtain rfl : o' = o := Option.some.inj (ho'.symm.trans ho)
    rw [hd] at hd'; exact nomatch hd'
  exact ⟨o', v, b, n, (hs.2 a ne).trans ho', hc, hd', hi, ht.keeps ho hd hs⟩
theorem pyHash_nk {k : NK} {a : Addr} {Q : Int → Shared → Prop} (hu : A.units + 1 < cLine) (hk : IsNK prog w s.heap k a) (h : Q (nkHash prog w k) { s with toks := s.toks + (k.2.length + 3) }) :
    wpAny (model prog w) A (pyHash (.ref a)) Q E s := by
  have ty := hk.ty
  obtain ⟨o, v, b, n, ho, _, hd, hi, ht⟩ := hk
  obtain ⟨t, rfl⟩ := Value.isInt_shape hi
  unfold pyHash pyHashByItsType
  refine wpAny_bind (wpAny_cRoomFor_or (.inr (by omega)) (wpAny_bind (wpAny_specialOf ty F.slot_tuple_hash.lookup ?_)))
  show wpAny _ _ (if (some (Value.builtin "tuple.__hash__") == some Value.none) = true then _ else _) Q E s
  rw [if_neg (by rw [beq_builtin_none]; exact Bool.false_ne_true)]
  refine wpAny_bind (wpAny_specialOf ty F.slot_tuple_hash.lookup ?_)
  show wpAny _ _ (callSpecialIfBoundUnlessNone? (.ref a) "__hash__" _ >>= _) Q E s
  refine wpAny_bind (wpAny_callSpecialIfBoundUnlessNone?_slot ty F.slot_tuple_hash (wpAny_call_entry F.slot_tuple_hash ty F.entry_tuple_hash ?_ (F.args_tuple_hash_1 _)))
  show wpAny _ _ (Builtin.Tuple.tupleItemsOf (.ref a) >>= _) _ _ s
  refine wpAny_bind (wpAny_tupleItemsOf ho hd (wpAny_bind ?_))
  rw [← Array.forIn_toList]
  refine wpAny_forIn_list _ (fun rest (g : Array Int) s' => (rest = [Value.int k.1 t, .ref b] ∧ g.toList = [] ∧ s' = s) ∨ (rest = [Value.ref b] ∧ g.toList = [hashInt k.1] ∧ s' = { s with toks := s.toks + 1 }) ∨
    (rest = [] ∧ g.toList = [hashInt k.1, tupleKeyHash (oKind prog w) k.2] ∧ s' = { s with toks := s.toks + (k.2.length + 2) })) _ ?_ ?_ _ _ (.inl ⟨rfl, rfl, rfl⟩)
  · rintro x rest g s' (⟨e, hg, rfl⟩ | ⟨e, hg, rfl⟩ | ⟨e, _, _⟩)
    · injection e with e1 e2
      subst e1 e2
      refine wpAny_bind (wpAny_pyHash_int ?_)
      first
        | exact wpAny_pure (.inr (.inl ⟨rfl, by simp [hg], rfl⟩))
        | exact wpAny_bind (wpAny_pure (wpAny_pure (.inr (.inl ⟨rfl, by simp [hg], rfl⟩))))
    · injection e with e1 e2
      subst e1 e2
      refine wpAny_bind (wpAny_pyHash_tuple (knd := oKind prog w) (show A.units + 1 < cLine from hu) (s := { s with toks := s.toks + 1 }) ht ?_)
      have et : s.toks + 1 + (k.2.length + 1) = s.toks + (k.2.length + 2) := by omega
      first
        | exact wpAny_pure (.inr (.inr ⟨rfl, by simp [hg], by simp [et]⟩))
        | exact wpAny_bind (wpAny_pure (wpAny_pure (.inr (.inr ⟨rfl, by simp [hg], by simp [et]⟩))))
    · exact nomatch e
  · rintro g s' (⟨e, _, _⟩ | ⟨e, _, _⟩ | ⟨_, hg, rfl⟩)
    · exact nomatch e
    · exact nomatch e
    · show wpAny _ _ (retInt (Builtin.Tuple.tupleHashOf g.toList)) _ _ _
      rw [hg]
      refine wpAny_ret_mkInt ?_
      have et : s.toks + (k.2.length + 2) + 1 = s.toks + (k.2.length + 3) := by omega
      unfold nkHash reduceHash at h
      generalize Builtin.Tuple.tupleHashOf [hashInt k.1, tupleKeyHash (oKind prog w) k.2] = z at h ⊢
      show wpAny _ _ (if (decide (-(2 : Int) ^ 63 ≤ z) && decide (z < 2 ^ 63)) = true then _ else _) Q E _
      by_cases c : (decide (-(2 : Int) ^ 63 ≤ z) && decide (z < 2 ^ 63)) = true
      · rw [if_pos c] at h ⊢
        exact wpAny_pure (by simpa [et] using h)
      · rw [if_neg c] at h ⊢
        exact wpAny_bind (wpAny_rule (wpAny_pure (by simpa [et] using h)))
theorem eqBool_nk {x y : NK} {a b : Addr} {Q : Bool → Shared → Prop} (hu : A.units + 1 < cLine) (hx : IsNK prog w s.heap x a) (hy : IsNK prog w s.heap y b) (h : Q (decide (x = y)) s) :
    wpAny (model prog w) A (eqBool (.ref a) (.ref b)) Q E s := by
  by_cases e : a = b
  · subst e
    obtain rfl := hx.inj hy
    rw [decide_eq_true rfl] at h
    exact SeqAt.EqAt.same _ _ _ _ _ h
  · obtain ⟨o, v, c, n, ho, hc, hd, hi, ht⟩ := hx
    obtain ⟨o', v', c', n', ho', hc', hd', hi', ht'⟩ := hy
    obtain ⟨t, rfl⟩ := Value.isInt_shape hi
    obtain ⟨t', rfl⟩ := Value.isInt_shape hi'
    have T1 : s.heap.IsTuple a #[.int x.1 t, .ref c] := ⟨o, ho, hc, n, hd⟩
    have T2 : s.heap.IsTuple b #[.int y.1 t', .ref c'] := ⟨o', ho', hc', n', hd'⟩
    have key : SeqAt.RcAt A s (.ref a) (.ref b) ((List.range (min (#[Value.int x.1 t, .ref c] : Array Value).size (#[Value.int y.1 t', .ref c'] : Array Value).size)).all (fun j => if j = 0 then x.1 == y.1 else decide (x.2 = y.2)) && (#[Value.int x.1 t, .ref c] : Array Value).size == (#[Value.int y.1 t', .ref c'] : Array Value).size) :=
      SeqAt.RcAt.tuples T1 T2 (by omega) fun j h1 h2 => by
        match j, h1, h2 with
        | 0, _, _ => exact SeqAt.EqAt.int_int _ _ _ _
        | 1, _, _ => exact fun P' w' E' Q' q' => wpAny_eqBool_tuple (knd := oKind P' w') (show A.units + 1 < cLine from hu) (let ⟨o, i, n, z1, z2, z3, z4⟩ := ht; ⟨o, i, n, z1, z2, z3, items_any z4⟩) (let ⟨o, i, n, z1, z2, z3, z4⟩ := ht'; ⟨o, i, n, z1, z2, z3, items_any z4⟩) q'
        | j + 2, h1, _ => exact absurd h1 (by simp)
    have e2 : ((List.range (min (#[Value.int x.1 t, .ref c] : Array Value).size (#[Value.int y.1 t', .ref c'] : Array Value).size)).all (fun j => if j = 0 then x.1 == y.1 else decide (x.2 = y.2)) && (#[Value.int x.1 t, .ref c] : Array Value).size == (#[Value.int y.1 t', .ref c'] : Array Value).size) = decide (x = y) := by
      show ((List.range 2).all (fun j => if j = 0 then x.1 == y.1 else decide (x.2 = y.2)) && true) = _
      rw [Bool.and_true]
      show ((x.1 == y.1) && (decide (x.2 = y.2) && true)) = _
      rw [Bool.and_true, Bool.eq_iff_iff, Bool.and_eq_true, beq_iff_eq, decide_eq_true_eq, decide_eq_true_eq]
      exact ⟨fun ⟨p, q⟩ => Prod.ext p q, fun p => by rw [p]; exact ⟨rfl, rfl⟩⟩
    rw [e2] at key
    exact SeqAt.EqAt.of_refs e key _ _ _ _ h
theorem quiet_in {ks : List (Option Int)} {a : Addr} {n : Nat} {Q : Bool → Shared → Prop} (hk : IsTupleKey (oKind prog w) s.heap ks a) (h : Q true s) : wpAny (model prog w) A (eqIsQuiet (n + 1) (.ref a)) Q E s := by
  have ty := hk.typeIs
  obtain ⟨o, items, m, ho, _, hd, hi⟩ := hk
  unfold eqIsQuiet
  refine wpAny_bind (wpAny_specialOf ty F.slot_tuple_eq.lookup ?_)
  show wpAny _ _ (isInstance (.ref a) (.type "tuple") >>= _) _ _ s
  refine wpAny_bind (wpAny_isInstance ty isSubtype_tuple_tuple ?_)
  simp only [Bool.not_true, Bool.false_eq_true, if_false]
  refine wpAny_bind (wpAny_seqItems ho hd (wpAny_bind ?_))
  show wpAny _ _ (forIn items _ _) _ _ s
  rw [← Array.forIn_toList]
  refine wpAny_forIn_list _ (fun rest r s' => r.1 = none ∧ s' = s ∧ ∀ v ∈ rest, carriedByValue v = true) _ ?_ ?_ _ _ ⟨rfl, rfl, hi.byValue⟩
  · rintro v rest r s' ⟨hr, rfl, all⟩
    rw [eqIsQuiet_byValue _ (all v List.mem_cons_self)]
    refine wpAny_bind (wpAny_pure ?_)
    simp only [Bool.not_true, Bool.false_eq_true, if_false]
    exact wpAny_pure ⟨rfl, rfl, fun u hu => all u (List.mem_cons_of_mem _ hu)⟩
  · rintro ⟨r1, r2⟩ s' ⟨hr, rfl, _⟩
    simp only at hr
    subst hr
    exact wpAny_pure h
theorem quiet_nk {k : NK} {a : Addr} {Q : Bool → Shared → Prop} (hk : IsNK prog w s.heap k a) (h : Q true s) : wpAny (model prog w) A (eqIsQuiet 8 (.ref a)) Q E s := by
  have ty := hk.ty
  obtain ⟨o, v, b, m, ho, _, hd, hi, ht⟩ := hk
  obtain ⟨t, rfl⟩ := Value.isInt_shape hi
  unfold eqIsQuiet
  refine wpAny_bind (wpAny_specialOf ty F.slot_tuple_eq.lookup ?_)
  show wpAny _ _ (isInstance (.ref a) (.type "tuple") >>= _) _ _ s
  refine wpAny_bind (wpAny_isInstance ty isSubtype_tuple_tuple ?_)
  simp only [Bool.not_true, Bool.false_eq_true, if_false]
  refine wpAny_bind (wpAny_seqItems ho hd (wpAny_bind ?_))
  show wpAny _ _ (forIn (#[Value.int k.1 t, .ref b] : Array Value) _ _) _ _ s
  rw [← Array.forIn_toList]
  refine wpAny_forIn_list _ (fun rest r s' => r.1 = none ∧ s' = s ∧ ∀ v ∈ rest, carriedByValue v = true ∨ v = .ref b) _ ?_ ?_ _ _ ⟨rfl, rfl, fun v hv => ?_⟩
  · rintro v rest r s' ⟨hr, rfl, all⟩
    rcases all v List.mem_cons_self with z | z
    · rw [eqIsQuiet_byValue _ z]
      refine wpAny_bind (wpAny_pure ?_)
      simp only [Bool.not_true, Bool.false_eq_true, if_false]
      exact wpAny_pure ⟨rfl, rfl, fun u hu => all u (List.mem_cons_of_mem _ hu)⟩
    · subst z
      refine wpAny_bind (quiet_in ht ?_)
      simp only [Bool.not_true, Bool.false_eq_true, if_false]
      exact wpAny_pure ⟨rfl, rfl, fun u hu => all u (List.mem_cons_of_mem _ hu)⟩
  · rintro ⟨r1, r2⟩ s' ⟨hr, rfl, _⟩
    simp only at hr
    subst hr
    exact wpAny_pure h
  · have hv : v ∈ [Value.int k.1 t, .ref b] := hv
    rcases List.mem_cons.mp hv with z | z
    · subst z; exact .inl rfl
    · exact .inr (by simpa using z)
end
def nkKind (prog : Program) (w : World) : HeapKind prog w NK where
  is := IsNK prog w
  hash := nkHash prog w
  draws := fun k => k.2.length + 3
  room := fun A => A.units + 1 < cLine
  inj := fun hx hy => hx.inj hy
  keeps := fun x ho hd hs => x.keeps ho hd hs
  pyHash := fun hu hk h => pyHash_nk hu hk h
  eqBool := fun hu hx hy h => eqBool_nk hu hx hy h
  quiet := fun hk h => quiet_nk hk h
end Ew

namespace Ew
open PySem PySem.Spec PyProof.Rows L2

/-! ### a dict whose keys are such pairs -/
def oV : Option Int → V
  | none => .non
  | some i => .int i
abbrev MRow := NK × Addr × V
abbrev RRow := NK × Addr × Value
abbrev MPair : List MRow → List RRow → Prop := Paired fun p q => p.1 = q.1 ∧ p.2.1 = q.2.1 ∧ RelV p.2.2 q.2.2
def memoO (P : Program) (w : World) (a : Addr) (kvs : List MRow) : HO := .ext fun h => kvs.length ≤ sizeLine ∧ (a == sysModules) = false ∧ ∃ xs : List RRow, MPair kvs xs ∧
  ∃ o es ep, h.get? a = some o ∧ o.ExactDict ∧ o.data = .dict es ep ∧ es.toList = xs.map (entryOfKey (nkKind P w)) ∧ (xs.map (·.1)).Nodup
/-- the pair stands at the value y -/
def MKey (H : Hp) (y : V) (k : NK) : Prop := ∃ q b, y = .ref q ∧ H q = some (.tup [.int k.1, .ref b]) ∧ H b = some (.tup (k.2.map oV))
def KeysAt (H : Hp) (kvs : List MRow) : Prop := ∀ e ∈ kvs, MKey H (.ref e.2.1) e.1
def lookM (kvs : List MRow) (k : NK) : Option V := (kvs.find? fun e => decide (e.1 = k)).map (·.2.2)
theorem MKey.tups {H H' : Hp} {y : V} {k : NK} (h : MKey H y k) (t : ∀ b xs, H b = some (.tup xs) → H' b = some (.tup xs)) : MKey H' y k := let ⟨q, b, e, h1, h2⟩ := h; ⟨q, b, e, t _ _ h1, t _ _ h2⟩
theorem KeysAt.tups {H H' : Hp} {kvs : List MRow} (h : KeysAt H kvs) (t : ∀ b xs, H b = some (.tup xs) → H' b = some (.tup xs)) : KeysAt H' kvs := fun e he => (h e he).tups t
theorem oV_is {P : Program} {w : World} : ∀ {ks : List (Option Int)} {us : List Value}, Vals (ks.map oV) us → ItemsAre (oKind P w) ks us
  | [], _, r => by rw [List.map_nil] at r; cases r; exact .nil
  | k :: ks, _, r => by
    rw [List.map_cons] at r
    cases r with
    | cons h t =>
      refine .cons ?_ (oV_is t)
      cases k with
      | none => cases (show _ = Value.none from h); rfl
      | some i => obtain ⟨t, e⟩ := (show ∃ t, _ = Value.int i t from h); subst e; exact (show Value.isInt i (Value.int i t) = true by simp [Value.isInt])
section
variable {P : Program} {w : World} {H : Hp} {h : Heap}
theorem nk_of {k : NK} {q b : Addr} (ok : HOk P w H h) (e1 : H q = some (.tup [.int k.1, .ref b])) (e2 : H b = some (.tup (k.2.map oV))) : IsNK P w h k q := by
  obtain ⟨_, its, r, o, h1, h2, n, h3⟩ := (show ObjOk P w H h q (.tup [.int k.1, .ref b]) from ok q _ e1)
  obtain ⟨_, its', r', o', h1', h2', n', h3'⟩ := (show ObjOk P w H h b (.tup (k.2.map oV)) from ok b _ e2)
  cases r with
  | cons ra rb =>
    cases rb with
    | cons rb rc =>
      cases rc
      obtain ⟨t, rfl⟩ := ra
      cases rb
      exact ⟨o, .int k.1 t, b, n, h1, h2, h3, by simp [Value.isInt], o', its'.toArray, n', h1', h2', h3', by simpa using oV_is r'⟩
theorem MPair.look {kvs : List MRow} {xs : List RRow} (r : MPair kvs xs) (k : NK) : RelO (lookM kvs k) ((atKey xs k).map (·.2)) := by
  induction r with
  | nil => exact True.intro
  | @cons p q ps qs h t ih =>
    obtain ⟨h1, _, h2⟩ := h
    by_cases e : p.1 = k
    · have e' : q.1 = k := h1.symm.trans e
      have b : atKey (q :: qs) k = some q.2 := by simp [atKey, List.find?_cons, e']
      have b' : lookM (p :: ps) k = some p.2.2 := by simp [lookM, List.find?_cons, e]
      rw [b, b']; exact h2
    · have e' : ¬ q.1 = k := fun z => e (h1.trans z)
      have b : atKey (q :: qs) k = atKey qs k := by simp [atKey, List.find?_cons, e']
      have b' : lookM (p :: ps) k = lookM ps k := by simp [lookM, List.find?_cons, e]
      rw [b, b']; exact ih
theorem memo_at {a : Addr} {kvs : List MRow} (ok : HOk P w H h) (e : H a = some (memoO P w a kvs)) (ks : KeysAt H kvs) : kvs.length ≤ sizeLine ∧ (a == sysModules) = false ∧ ∃ xs, MPair kvs xs ∧ h.DictOfH (nkKind P w) a xs := by
  obtain ⟨⟨z, y, xs, r, o, es, ep, h1, h2, h3, h4, h5⟩, _⟩ := (show ObjOk P w H h a (memoO P w a kvs) from ok a _ e)
  refine ⟨z, y, xs, r, o, es, ep, h1, h2, h3, h4, ?_, h5⟩
  have all : ∀ {l : List MRow} {m : List RRow}, MPair l m → KeysAt H l → ∀ x ∈ m, IsNK P w h x.1 x.2.1 := by
    intro l m q
    induction q with
    | nil => intro _ x hx; exact nomatch hx
    | @cons p q ps qs hq t ih =>
      intro kk x hx
      rcases List.mem_cons.mp hx with e | hx
      · subst e
        obtain ⟨g, b, eg, g1, g2⟩ := kk p List.mem_cons_self
        cases eg
        rw [← hq.2.1]
        rw [hq.1] at g1 g2
        exact nk_of ok g1 g2
      · exact ih (fun e he => kk e (List.mem_cons_of_mem _ he)) x hx
  exact all r ks
theorem memo_ok {a : Addr} {kvs : List MRow} {xs : List RRow} (z : kvs.length ≤ sizeLine) (y : (a == sysModules) = false) (r : MPair kvs xs) (d : h.DictOfH (nkKind P w) a xs) : ObjOk P w H h a (memoO P w a kvs) := by
  obtain ⟨o, es, ep, h1, h2, h3, h4, _, h5⟩ := d
  exact ⟨⟨z, y, xs, r, o, es, ep, h1, h2, h3, h4, h5⟩, ⟨o, h1⟩, fun g1 g2 ⟨z, y, xs, r, o, es, ep, h1, h2⟩ k => ⟨z, y, xs, r, o, es, ep, k o h1, h2⟩⟩
end
theorem room2 {A : Around} {k : Nat} (hr : Room k A) : A.units + 2 < cLine := by have := hr.units; omega
section
variable {X : Cx} {o i e f value : Expr} {pos pos' : Pos} {td ty tv tx : TE}
/-- {} to be such a dict -/
def tMNew (X : Cx) : TE := fun _ H Q => ∀ p, H p = none → Q (.ref p) (upd H p (memoO X.prog X.w p []))
theorem pe_mnew : PE X (.Dict [] [] pos) (tMNew X) := fun pins s σ H Q I h =>
  wpAny_Dict_empty ⟨.ref s.heap.objs.size, _, I.laid (a := s.heap.objs.size) (o := memoO X.prog X.w s.heap.objs.size []) (t' := s.toks) (fun _ _ q => Heap.get?_push_of_some _ q) (Nat.le_refl _)
    (memo_ok (xs := []) (Nat.zero_le _) (beq_eq_false_iff_ne.mpr (Ne.symm (Nat.ne_of_lt I.big))) .nil (Heap.DictOfH.new s.heap)), rfl, h _ (I.hok.fresh (Nat.le_refl _))⟩
/-- y not in d -/
def tMNotIn (X : Cx) (ty td : TE) : TE := fun σ H Q => ty σ H fun y H1 => td σ H1 fun x H2 => ∃ a kvs k, x = .ref a ∧ H2 a = some (memoO X.prog X.w a kvs) ∧ KeysAt H2 kvs ∧ MKey H2 y k ∧ Q (.bl (!(lookM kvs k).isSome)) H2
theorem pc_mnotin (hu : X.A.units + 2 < cLine) (hi : PE X i ty) (ho : PE X o td) : PC X .NotIn i o (tMNotIn X ty td) := by
  intro pins s σ H Q I h
  refine thn (hi pins s σ H _ I h) fun iv s1 ⟨y, H1, I1, ry, q1⟩ => thn (ho pins s1 σ H1 _ I1 q1) fun u s2 ⟨x, H2, I2, rx, a, kvs, k, ex, ea, ks, mk, q2⟩ => ?_
  subst ex
  obtain rfl : u = Value.ref a := rx
  obtain ⟨q, b, rfl, k1, k2⟩ := mk
  cases (show iv = Value.ref q from ry)
  obtain ⟨_, hd, xs, rel, dd⟩ := memo_at I2.hok ea ks
  refine wpAny_notIn_heap (knd := nkKind X.prog X.w) (show X.A.units + 1 + 1 < cLine by omega) (nk_of I2.hok k1 k2) hd dd ⟨.bl _, H2, I2.tok _, ?_, q2⟩
  have e := (rel.look k).isSome_eq
  rw [Option.isSome_map] at e
  rw [e]
  rfl
/-- d[y], there -/
def tMGet (X : Cx) (td ty : TE) : TE := fun σ H Q => td σ H fun x H1 => ty σ H1 fun y H2 => ∃ a kvs k v, x = .ref a ∧ H2 a = some (memoO X.prog X.w a kvs) ∧ KeysAt H2 kvs ∧ MKey H2 y k ∧ lookM kvs k = some v ∧ Q v H2
theorem pe_mget (hu : X.A.units + 2 < cLine) (ho : PE X o td) (hi : PE X i ty) (hs : NoSl i) : PE X (.Subscript o i pos) (tMGet X td ty) := by
  intro pins s σ H Q I h
  refine subD_of PySem.F.slot_dict_getitem.lookup hs (thn (ho pins s σ H _ I h) fun u s1 ⟨x, H1, I1, rx, q1⟩ => thn (hi pins s1 σ H1 _ I1 q1) fun iv s2 ⟨y, H2, I2, ry, a, kvs, k, v, ex, ea, ks, mk, lk, q2⟩ => ?_)
  subst ex
  obtain rfl : u = Value.ref a := rx
  obtain ⟨q, b, rfl, k1, k2⟩ := mk
  cases (show iv = Value.ref q from ry)
  obtain ⟨_, hd, xs, rel, dd⟩ := memo_at I2.hok ea ks
  obtain ⟨w', hw, rw'⟩ := RelO.some_of (v := v) (o := (atKey xs k).map (·.2)) (by rw [← lk]; exact rel.look k)
  obtain ⟨p, hp, hp2⟩ := Option.map_eq_some_iff.mp hw
  refine ⟨dd.typeIs, wpAny_getItem_heap (knd := nkKind X.prog X.w) (show X.A.units + 1 + 1 < cLine by omega) (nk_of I2.hok k1 k2) dd hp ⟨v, H2, I2.tok _, ?_, q2⟩⟩
  rw [hp2]
  exact rw'
/-- d[y] = v, y new -/
def sMPut (X : Cx) (td ty tv : TE) : TS := fun D σ H => tv σ H fun v H1 => td σ H1 fun x H2 => ty σ H2 fun y H3 => ∃ a kvs k q, x = .ref a ∧ y = .ref q ∧ H3 a = some (memoO X.prog X.w a kvs) ∧ KeysAt H3 kvs ∧ MKey H3 y k ∧ lookM kvs k = none ∧ kvs.length < sizeLine ∧
  D.nx σ (upd H3 a (memoO X.prog X.w a (kvs ++ [(k, q, v)])))
theorem ps_mput (hu : X.A.units + 2 < cLine) (ho : PE X o td) (hi : PE X i ty) (hv : PE X value tv) (hs : swapsWith value (some (.Subscript o i pos')) pos.line X.env = pure false) :
    PS X (.Assign [.Subscript o i pos'] value pos) (sMPut X td ty tv) := by
  intro pins s σ H D I h
  refine wpAny_Assign_Subscript (thn (hv pins s σ H _ I h) fun r s1 ⟨v, H1, I1, rv, q1⟩ => thn (ho pins s1 σ H1 _ I1 q1) fun u s2 ⟨x, H2, I2, rx, q2⟩ => thn (hi pins s2 σ H2 _ I2 q2) fun iv s3 ⟨y, H3, I3, ry, a, kvs, k, q, ex, ey, ea, ks, mk, lk, hl, q3⟩ => ?_) hs
  subst ex ey
  obtain rfl : u = Value.ref a := rx
  cases (show iv = Value.ref q from ry)
  obtain ⟨q', b, eq, k1, k2⟩ := mk
  cases eq
  obtain ⟨z, hd, xs, rel, dd⟩ := memo_at I3.hok ea ks
  have none : atKey xs k = none := by
    have e := (rel.look k).isSome_eq
    rw [lk, Option.isSome_map] at e
    cases q : atKey xs k with
    | none => rfl
    | some p => rw [q] at e; cases e
  refine wpAny_setItem_heap (knd := nkKind X.prog X.w) (hsz := by rw [← Paired.length rel]; exact z) (show X.A.units + 1 + 1 < cLine by omega) (nk_of I3.hok k1 k2) dd fun h' dd' hs => ⟨σ, _, ?_, q3⟩
  obtain ⟨o', es', ep', g1, g2⟩ := dd'
  rw [storedH_new none] at g2
  exact d_write I3 (by rw [ea]; exact True.intro) hs ⟨o', g1⟩ (memo_ok (xs := xs ++ [(k, q, r)]) (by rw [List.length_append]; show kvs.length + 1 ≤ sizeLine; omega) hd (Paired.snoc rel ⟨rfl, rfl, rv⟩) ⟨o', es', ep', g1, g2⟩)

/-! ### d.setdefault(y, z) -/
def tDSd (td ty tx : TE) : TE := fun σ H Q => td σ H fun x H1 => ∃ a, x = .ref a ∧ IsD H1 a ∧ ty σ H1 fun y H2 => tx σ H2 fun z H3 => ∃ kvs k, H3 a = some (.dK kvs) ∧ y = kV k ∧ kvs.length < sizeLine ∧
  (∀ v, valV kvs k = some v → Q v H3) ∧ (valV kvs k = none → Q z (upd H3 a (.dK (putK kvs k z))))
theorem pe_dsd {apos cpos : Pos} (ho : PE X o td) (he : PE X e ty) (hf : PE X f tx) (m : M2 X o "setdefault" apos e f cpos) : PE X (.Call (.Attribute o "setdefault" apos) [e, f] [] cpos) (tDSd td ty tx) := by
  intro pins s σ H Q I h
  refine wpAny_Call_method m.base m.few m.line PySem.F.plainAttrs_dict PySem.F.slot_dict_setdefault PySem.F.type_dict_setdefault (thn (ho pins s σ H _ I h) fun u s1 ⟨x, H1, I1, rx, a, ex, d, q1⟩ => ?_)
  subst ex
  obtain rfl : u = Value.ref a := rx
  obtain ⟨t1, t2, _⟩ := isD_at I1 d
  refine ⟨t1, t2, ?_⟩
  rw [m.trees]
  refine Calls.callWith_builtin rfl (Calls.evalArgs_plain (Calls.spliced_cons (thn (he pins s1 σ H1 _ I1 q1) fun iv s2 ⟨y, H2, I2, ry, q2⟩ =>
    Calls.spliced_cons (thn (hf pins s2 σ H2 _ I2 q2) fun fv s3 ⟨z, H3, I3, rz, kvs, k, ea, ey, hl, g1, g2⟩ => Calls.spliced_nil ?_))))
  subst ey
  obtain ⟨zz, hd, vs, rel, dd⟩ := dk_of I3.hok ea
  refine call_meetsIn PySem.F.slot_dict_setdefault dd.typeIs PySem.F.entry_dict_setdefault (PySem.F.args_dict_setdefault_3 _ _ _) (kt_meets_setdefault (mixKind X.prog X.w) a (kV_is ry) hd fv) ⟨vs, dd, by rw [← rel.length]; exact zz, fun v' hv' => ?_, fun hn h' dd' hs => ?_⟩
  · have e := rel.val k
    rw [hv'] at e
    cases q : valV kvs k with
    | none => rw [q] at e; exact e.elim
    | some v =>
      rw [q] at e
      exact ⟨v, H3, I3.tok _, e, g1 v q⟩
  · have e := rel.val k
    rw [hn] at e
    have n : valV kvs k = none := by
      cases q : valV kvs k with
      | none => rfl
      | some v => rw [q] at e; exact e.elim
    have he : ∃ q, h'.get? a = some q := let ⟨q, _, _, hq, _⟩ := dd'; ⟨q, hq⟩
    have len := length_putK kvs k z
    exact ⟨z, _, d_write I3 (by rw [ea]; exact True.intro) hs he (dk_new (by omega) hd (rel.put k rz) dd'), rz, g2 n⟩
end
end Ew

namespace Ew
open PySem PySem.Spec PyProof.Rows L2
open AutoSeq1 (wpAny_loadPart')

/-! ### enumerate(t, start=1), t a tuple -/
section
variable {prog : Program} {w : World} {A : Around} {E : Value → Shared → Prop} {s : Shared}
theorem nextOf_tup {it t : Addr} {i : Nat} {items : Array Value} {x : Value} {Q : Value → Shared → Prop} (ht : s.heap.IsTupleIter it t i) (hl : s.heap.IsTuple t items) (hx : items[i]? = some x)
    (q : ∀ h', h'.IsTupleIter it t (i + 1) → Heap.SameBut it s.heap h' → Q x { s with heap := h' }) : wpAny (model prog w) A (Builtin.SmallTypes.nextOf (.ref it)) Q E s := by
  obtain ⟨o, ho, hc, hd⟩ := id ht
  obtain ⟨ol, hol, _, nl, hdl⟩ := hl
  unfold Builtin.SmallTypes.nextOf
  refine wpAny_bind (wpAny_callSpecial?_slot (name := Str.ofString "__next__") ht.typeIs F.slot_tuple_iterator_next (wpAny_call_entry F.slot_tuple_iterator_next ht.typeIs F.entry_tuple_iterator_next ?_ (F.args_tuple_iterator_next_1 _)))
  show wpAny _ _ (field (.ref it) 0 >>= _) _ _ s
  refine wpAny_bind (wpAny_field ho hd (x := .ref t) rfl ?_)
  show wpAny _ _ (if (Value.ref t == Value.none) = true then _ else _) _ _ s
  rw [if_neg (show ¬ ((Value.ref t == Value.none) = true) from Bool.false_ne_true)]
  show wpAny _ _ (field (.ref it) 1 >>= _) _ _ s
  refine wpAny_bind (wpAny_field ho hd (x := .int i 0) rfl ?_)
  show wpAny _ _ (seqItems? (.ref t) >>= _) _ _ s
  refine wpAny_bind (wpAny_seqItems hol hdl ?_)
  simp only [Int.toNat_natCast, hx]
  refine wpAny_bind (wpAny_setField ho hd (by simp) (wpAny_pure ⟨x, rfl, wpAny_pure (q _ ?_ (Heap.SameBut.update ..))⟩))
  exact ⟨_, Heap.get?_update_self _ ho (Obj.isFreed_of_fields (Obj.data_mapFields hd _)), (Obj.cls_mapFields ..).trans hc, by rw [Obj.data_mapFields hd]; simp [rawInt]⟩
theorem nextOf_tupEnd {it t : Addr} {i : Nat} {items : Array Value} {Q : Value → Shared → Prop} (hh : A.handled = none) (ht : s.heap.IsTupleIter it t i) (hl : s.heap.IsTuple t items) (hx : items[i]? = none)
    (q : ∀ h' e, Heap.ExtBut it s.heap h' → (∃ o, h'.get? e = some o ∧ o.cls = .type "StopIteration") → E (.ref e) { s with heap := h' }) : wpAny (model prog w) A (Builtin.SmallTypes.nextOf (.ref it)) Q E s := by
  obtain ⟨o, ho, hc, hd⟩ := id ht
  obtain ⟨ol, hol, _, nl, hdl⟩ := hl
  unfold Builtin.SmallTypes.nextOf
  refine wpAny_bind (wpAny_callSpecial?_slot (name := Str.ofString "__next__") ht.typeIs F.slot_tuple_iterator_next (wpAny_call_entry F.slot_tuple_iterator_next ht.typeIs F.entry_tuple_iterator_next ?_ (F.args_tuple_iterator_next_1 _)))
  show wpAny _ _ (field (.ref it) 0 >>= _) _ _ s
  refine wpAny_bind (wpAny_field ho hd (x := .ref t) rfl ?_)
  show wpAny _ _ (if (Value.ref t == Value.none) = true then _ else _) _ _ s
  rw [if_neg (show ¬ ((Value.ref t == Value.none) = true) from Bool.false_ne_true)]
  show wpAny _ _ (field (.ref it) 1 >>= _) _ _ s
  refine wpAny_bind (wpAny_field ho hd (x := .int i 0) rfl ?_)
  show wpAny _ _ (seqItems? (.ref t) >>= _) _ _ s
  refine wpAny_bind (wpAny_seqItems hol hdl ?_)
  simp only [Int.toNat_natCast, hx]
  refine wpAny_bind (wpAny_rule (wpAny_bind (wpAny_setField ho hd (by simp) ?_)))
  show wpAny _ _ (newExc (.type "StopIteration") [] >>= _) _ _ _
  refine wpAny_bind ?_
  simp only [newExc, newTuple]
  refine wpAny_bind (wpAny_newObj_type ?_ (by size_fits))
  refine wpAny_bind (m := firstArgMember _ _) (wpAny_of_eq (a := Value.none) (by first | rfl | (simp only [firstArgMember]; rfl)) (wpAny_newObj_type ?_ (by size_fits)))
  simp only [raiseNew]
  refine wpAny_bind (wpAny_handled ?_)
  first | rw [show A.in1.handled = none from hh] | rw [hh]
  exact wpAny_bind (wpAny_pure (wpAny_throw (q _ _ (((Heap.SameBut.update ..).extBut.push _).push _) ⟨_, Heap.get?_push_size _ rfl, rfl⟩)))
/-- the draws of a tuple's iterator, numbered from one -/
theorem draws1 (hh : A.handled = none) (it t : Addr) (hne : t ≠ it) (items : Array Value) : Draws prog w A it [it, t] (items.size + 1) (fun j x => items[j - 1]? = some x) (fun j h => 1 ≤ j ∧ h.IsTupleIter it t (j - 1) ∧ h.IsTuple t items) where
  live := fun _ _ st => let ⟨_, ⟨o, ho, _⟩, _⟩ := st; ⟨o, ho⟩
  frame := fun j h h' st k => let ⟨h1, h2, ⟨o, ho, r⟩⟩ := st; ⟨h1, h2.at fun o e => k it (by simp) o e, ⟨o, k t (by simp) o ho, r⟩⟩
  item := fun j s Q E hj st q => by
    obtain ⟨h1, h2, h3⟩ := st
    have lt : j - 1 < items.size := by omega
    have ex : items[j - 1]? = some items[j - 1] := by simp [lt]
    refine nextOf_tup h2 h3 ex fun h' h2' sb => q _ h' s.toks ex ⟨by omega, ?_, ?_⟩ sb
    · have e : j + 1 - 1 = j - 1 + 1 := by omega
      rw [e]; exact h2'
    · obtain ⟨o, ho, r⟩ := h3
      exact ⟨o, (sb.2 t hne).trans ho, r⟩
  done := fun s Q E st q => by
    obtain ⟨h1, h2, h3⟩ := st
    exact nextOf_tupEnd hh h2 h3 (by simp) q
end
theorem meets_enum1 (t : Addr) (items : Array Value) (n : Nat) (dct : Option Addr) (sl : Array (Option Value)) (tk : Tok) :
    Meets (Builtin.«enumerate.__new__» ⟨[.type "enumerate", .ref t], [(Str.ofString "start", .int 1 tk)]⟩) (fun _ R s => s.heap.get? t = some { cls := .type "tuple", dict := dct, data := .seq items n, slots := sl } ∧
      R (.ok (.ret (.ref (s.heap.push { cls := .type "tuple_iterator", data := .fields #[.ref t, .int 0 0] }).objs.size)))
        { s with heap := (s.heap.push { cls := .type "tuple_iterator", data := .fields #[.ref t, .int 0 0] }).push { cls := .type "enumerate", data := .fields #[.none, .bool false, .ref s.heap.objs.size, rawInt 1, .none, .none] } }) :=
  .of_wp fun prog w A R s h => by
    obtain ⟨hp, g, d, tk', os⟩ := s; obtain ⟨hl, h⟩ := h
    have hsub := sub_enumerate
    have hL : Heap.IsTuple (Shared.heap ⟨hp, g, d, tk', os⟩) t items := ⟨_, hl, rfl, n, rfl⟩
    wp_walk using wpAny_loadPart' hl
    refine wpAny_stack_any fun st => wpAny_pure ?_
    split
    · rename_i c _ _ _ _ _
      cases (c == Value.type "enumerate")
      · wp_walk using wpAny_loadPart' hl, wpAny_pyIter_tuple hL
        exact ⟨_, rfl, h⟩
      · wp_walk using wpAny_loadPart' hl, wpAny_pyIter_tuple hL
        exact ⟨_, rfl, h⟩
    · wp_walk using wpAny_loadPart' hl, wpAny_pyIter_tuple hL
      exact ⟨_, rfl, h⟩
end Ew

namespace Ew
open PySem PySem.Spec PyProof.Rows L2
section
variable {prog : Program} {w : World} {A : Around} {E : Value → Shared → Prop} {s : Shared}
theorem check_enum1 (a b : Value) : checkTypeCall "enumerate" ⟨[a], [(Str.ofString "start", b)]⟩ = pure () := by kernel_rfl
theorem checkNew_enum1 (a b : Value) : checkBuiltinCall "enumerate.__new__" ⟨[.type "enumerate", a], [(Str.ofString "start", b)]⟩ = pure () := by kernel_rfl
theorem init_enum1 (obj a b : Value) : Meets (Builtin.«object.__init__» ⟨[obj, a], [(Str.ofString "start", b)]⟩) (fun _ R s => s.TypeIs obj "enumerate" ∧ R (.ok (.ret .none)) s) := by
  refine Meets.of_wp fun prog w A R s hs => ?_
  obtain ⟨ty, q⟩ := hs
  have e1 := F.called_enumerate.init.lookup
  have e2 := F.called_enumerate.made
  have e3 : (some "enumerate.__new__" != some "object.__new__") = true := by decide
  repeat (any_goals (first | assumption | wp_step))
  exact ⟨_, rfl, q⟩
theorem initArgs_enum1 (obj a b : Value) : argsOk "object.__init__" ⟨[obj, a], [(Str.ofString "start", b)]⟩ := by
  unfold argsOk
  rfl
theorem call_enum1 {t : Addr} {items : Array Value} {tk : Tok} {Q : Value → Shared → Prop} (hL : s.heap.IsTuple t items)
    (h : ∀ h', IsEnum h' (s.heap.objs.size + 1) s.heap.objs.size 1 .none → h'.IsTupleIter s.heap.objs.size t 0 → (∀ b o, s.heap.get? b = some o → h'.get? b = some o) → Q (.ref (s.heap.objs.size + 1)) { s with heap := h' }) :
    wpAny (model prog w) A (call (.type "enumerate") [.ref t] [(Str.ofString "start", .int 1 tk)]) Q E s := by
  obtain ⟨⟨c, dct, dt, sl⟩, hl, hc, n, hd⟩ := hL
  replace hc : c = .type "tuple" := hc
  replace hd : dt = .seq items n := hd
  subst hc hd
  have ft := F.called_enumerate
  obtain ⟨c, tl, hmro⟩ := ft.mro
  have hmade := ft.made
  have hsub := ft.sub
  have hct := check_enum1 (.ref t) (.int 1 tk)
  have hcn := checkNew_enum1 (.ref t) (.int 1 tk)
  refine wpAny_call (codeAny_of_tree ?_)
  show wpAny _ _ (callAny (.type "enumerate") _) _ _ _
  refine wpAny_pure ⟨Code.quiet_builtin _ (by decide +kernel), codeAny_builtin F.entry_type_call ?_⟩
  rw [Around.under_plain (weight_type_call_type "enumerate" [.ref t] [(Str.ofString "start", .int 1 tk)]) (units_type_call_type "enumerate" [.ref t] [(Str.ofString "start", .int 1 tk)])]
  have h1 := ft.notType
  have h2 := ft.canCreate
  repeat (any_goals (first | assumption | wp_step))
  refine codeAny_mono (codeAny_call_builtin (R := wants (fun obj s₁ => s₁.TypeIs obj "enumerate" ∧ Q obj s₁) E) ft.plain F.entry_enumerate_new (wpAny_of_eq hcn (meets_enum1 t items n dct sl tk prog w A.in1 _ s ⟨hl, ?_⟩))) fun r s1 hr => ?_
  · have hz : (s.heap.push { cls := .type "tuple_iterator", data := .fields #[.ref t, .int 0 0] }).objs.size = s.heap.objs.size + 1 := Heap.size_push ..
    show _ ∧ _
    rw [hz]
    have he : IsEnum ((s.heap.push { cls := .type "tuple_iterator", data := .fields #[.ref t, .int 0 0] }).push { cls := .type "enumerate", data := .fields #[.none, .bool false, .ref s.heap.objs.size, rawInt 1, .none, .none] }) (s.heap.objs.size + 1) s.heap.objs.size 1 .none := by
      have := Heap.get?_push_size (s.heap.push { cls := .type "tuple_iterator", data := .fields #[.ref t, .int 0 0] }) (o := { cls := .type "enumerate", data := .fields #[.none, .bool false, .ref s.heap.objs.size, rawInt 1, .none, .none] }) rfl
      rw [hz] at this; exact this
    exact ⟨⟨_, he, rfl⟩, h _ he ⟨_, Heap.get?_push_of_some _ (Heap.get?_push_size _ rfl), rfl, rfl⟩ fun b o x => Heap.get?_push_of_some _ (Heap.get?_push_of_some _ x)⟩
  · cases r with
    | error e => exact hr
    | ok fl =>
      cases fl with
      | ret obj =>
        obtain ⟨hT, hq⟩ := hr
        have hli := ft.init.lookup
        have hbi := ft.init.bind obj
        repeat (any_goals (first | assumption | wp_step))
        refine codeAny_mono (codeAny_call_builtin (R := wants (fun r s₂ => r = .none ∧ Q obj s₂) E) ft.init.plain F.entry_object_init (ft.init.check _ _ _ _ _ _ _ _ hT (initArgs_enum1 _ _ _) (init_enum1 obj (.ref t) (.int 1 tk) prog w A.in1 _ s1 ⟨hT, rfl, hq⟩))) fun r2 s2 hr2 => ?_
        cases r2 with
        | error e => exact hr2
        | ok fl2 =>
          cases fl2 with
          | ret r =>
            obtain ⟨rfl, hq⟩ := hr2
            repeat (any_goals (first | assumption | wp_step))
          | _ => exact hr2.elim
      | _ => exact hr.elim
end
end Ew

namespace Ew
open PySem PySem.Spec PyProof.Rows L2
/-- the tuple at a, each item in a new pair, numbered from one -/
def Ite1 (K : PySem.W.Frag) (a : Addr) : It :=
  ⟨fun i H => ∃ (xs : List V) (x : V), SqT K H a xs ∧ xs[i]? = some x, fun i H v H' => ∃ T x, v = .ref T ∧ H T = none ∧ H' = upd H T (.tup [.int ((i + 1 : Nat) : Int), x]) ∧ ∀ xs, SqT K H a xs → xs[i]? = some x, fun i H => ∃ xs : List V, SqT K H a xs ∧ xs.length = i⟩
theorem turn_enum1 {P : Program} {w : World} {K : PySem.W.Frag} {elts : List Expr} {kk : Nat} {tpos : Pos} (a e it : Addr) :
    Turn P w K (.Tuple elts kk tpos) (Ite1 K a) [e, it] e (fun i h => (∃ old, IsEnum h e it ((i + 1 : Nat) : Int) old) ∧ h.IsTupleIter it a i ∧ e ≠ it ∧ a ≠ it ∧ a ≠ e) where
  mem := by simp
  obj := fun i h st b hb => by
    obtain ⟨⟨old, he⟩, ⟨o, ho, hc, hd⟩, _⟩ := st
    have e' : b = e ∨ b = it := by simpa using hb
    rcases e' with z | z
    · rw [z]; exact ⟨_, he, fun v q => nomatch q⟩
    · rw [z]; exact ⟨o, ho, fun v q => by rw [hd] at q; cases q⟩
  keep := fun i h h' st k => let ⟨⟨old, he⟩, hi, hne⟩ := st; ⟨⟨old, k e (by simp) _ he⟩, hi.at fun o q => k it (by simp) o q, hne⟩
  item := by
    intro X hP hw hK hc i pins s σ H E I hf st hg
    subst hP hw hK
    obtain ⟨⟨old, he⟩, hit, hne, ha1, ha2⟩ := st
    obtain ⟨xs, x, hq, hx⟩ := hg
    obtain ⟨its, rv, p, hz⟩ := I.tuple hq
    obtain ⟨u, hu, ru⟩ := rv.get hx
    have hel : e < s.heap.objs.size := Heap.lt_size he
    have hil : it < s.heap.objs.size := by obtain ⟨_, q, _⟩ := hit; exact Heap.lt_size q
    have lt : i < its.toArray.size := by have := (List.getElem?_eq_some_iff.mp hu).1; simpa using this
    have D := draws1 (prog := X.prog) (w := X.w) (A := X.A.in1) (show X.A.in1.handled = none from I.ok.hd hc) it a ha1 its.toArray
    refine wpAny_pyNext_enum_itemD D (i := i + 1) he ⟨by omega, hit, p⟩ (by omega) hne (by simp only [List.mem_cons, List.not_mem_nil, or_false, not_or]; exact ⟨hne, Ne.symm ha2⟩) fun x' h' tk hx' ho hst hT hsz hk => ?_
    have ex : x' = u := by
      have q : its.toArray[i + 1 - 1]? = some x' := hx'
      rw [Nat.add_sub_cancel] at q
      have q2 : its[i]? = some x' := by simpa using q
      rw [hu] at q2
      exact (Option.some.inj q2).symm
    subst ex
    refine ⟨_, rfl, wpAny_letOwnedTupleGo_enum (s := { s with heap := h', toks := tk + 1 }) ho fun h'' he' sb => ?_⟩
    have hT2 : h''.get? s.heap.objs.size = some { cls := .type "tuple", data := .seq #[.int ((i + 1 : Nat) : Int) tk, x'] } := (sb.2 _ (Nat.ne_of_gt hel)).trans hT
    have new : ObjOk X.prog X.w (upd H s.heap.objs.size (.tup [.int ((i + 1 : Nat) : Int), x])) h'' s.heap.objs.size (.tup [.int ((i + 1 : Nat) : Int), x]) :=
      ⟨by show 2 ≤ sizeLine; decide, [.int ((i + 1 : Nat) : Int) tk, x'], .cons ⟨_, rfl⟩ (.cons ru .nil), ⟨_, hT2, rfl, _, rfl⟩⟩
    have I1 : Inv X pins σ (upd H s.heap.objs.size (.tup [.int ((i + 1 : Nat) : Int), x])) { s with heap := h'', toks := tk + 1 } :=
      I.turnedNew (ch := [e, it]) (fun b ob hb q => (sb.2 b (fun z => hb (by simp [z]))).trans (hk b ob (fun z => hb (by simp [z])) (fun z => hb (by simp [z])) q)) hf (Nat.le_refl _) new
    refine ⟨.ref s.heap.objs.size, _, I1, rfl, ⟨_, x, rfl, I.hok.fresh (Nat.le_refl _), rfl, fun ys hy => by rw [I.tuple_inj hy hq]; exact hx⟩, ⟨⟨x', ?_⟩, ?_, hne, ha1, ha2⟩, fun b hb => ?_⟩
    · have e1 : ((i + 1 + 1 : Nat) : Int) = ((i + 1 : Nat) : Int) + 1 := by omega
      rw [e1]; exact he'
    · have q := hst.2.1
      have e1 : i + 1 + 1 - 1 = i + 1 := by omega
      rw [e1] at q
      exact q.at fun o z => (sb.2 it (Ne.symm hne)).trans z
    · have hb' : b < s.heap.objs.size := by
        have e' : b = e ∨ b = it := by simpa using hb
        rcases e' with z | z
        · rw [z]; exact hel
        · rw [z]; exact hil
      rw [upd_ne (Nat.ne_of_lt hb')]
      exact (hf b hb).1
  done := by
    intro X hP hw hK hc i pins s σ H E I hf st hg
    subst hP hw hK
    obtain ⟨⟨old, he⟩, hit, hne, ha1, ha2⟩ := st
    obtain ⟨xs, hq, hx⟩ := hg
    obtain ⟨its, rv, p, hz⟩ := I.tuple hq
    obtain ⟨f0, f1, f2, f3, f4, f5⟩ := hf it (by simp)
    have hl := rv.length
    have ei : its.toArray.size = i := by rw [List.size_toArray, ← hl, hx]
    have D := draws1 (prog := X.prog) (w := X.w) (A := X.A.in1) (show X.A.in1.handled = none from I.ok.hd hc) it a ha1 its.toArray
    exact wpAny_pyNext_enum_endD D he ⟨by omega, by rw [ei]; exact hit, p⟩ fun h' eb => ⟨rfl, I.turned (t' := s.toks) (fun b o hb q => eb b o hb q) f0 f1 f3 f4 f5⟩
  self := fun A i s Q E st h => let ⟨⟨_, he⟩, _⟩ := st; wpAny_pyIter_enum he h
def iEnum1 (K : PySem.W.Frag) (ta : TA) : TI := fun σ H R => ta σ H fun vs H1 => ∃ a xs, vs = [.ref a] ∧ SqT K H1 a xs ∧ R (Ite1 K a) H1
theorem pi_enum1 {X : Cx} {e : Expr} {ta : TA} {p pos tpos kp cp : Pos} {elts : List Expr} {kk ck : Nat} (hg : Gl X "enumerate") (hm : X.mg "enumerate" = none) (ha : PA X [e] ta) (hs : starEach [e] X.env = [(false, eval e X.env)] := by rfl) :
    PI X (.Tuple elts kk tpos) (.Call (.Name "enumerate" p) [e] [⟨some "start", .Constant (.int 1) ck cp, kp⟩] pos) (iEnum1 X.K ta) := by
  intro pins s σ H R I h
  refine wpAny_Call_Name_kw (ld_blt I hg hm boot_enumerate ?_)
  have plain : (backTo pos (starEach [e] X.env)).any (·.1) = false := by rw [hs]; rfl
  have tr : backTo pos (starEach [e] X.env) = (false, eval e X.env) :: [] := by rw [hs]; rfl
  unfold callWith
  refine wpAny_bind (wpAny_holding ?_)
  have key : wpAny (model X.prog X.w) X.A (evalArgs (.type "enumerate") true (backTo pos (starEach [e] X.env)) (backToKw pos (keywordEach [⟨some "start", .Constant (.int 1) ck cp, kp⟩] X.env)))
      (fun a s1 => ∃ vs us H1 tk, Inv X pins σ H1 s1 ∧ Vals vs us ∧ a = ⟨us, [(Str.ofString "start", .int 1 tk)]⟩ ∧ ∃ a xs, vs = [.ref a] ∧ SqT X.K H1 a xs ∧ R (Ite1 X.K a) H1) X.xe s := by
    have hA := ha pos pins s σ H _ I h
    rw [tr] at hA ⊢
    refine evalArgs_kwB rfl (thn hA fun us s1 ⟨vs, H1, I1, r1, q1⟩ => ?_)
    refine kws_cons (thn (pe_int pins s1 σ H1 (fun v H' => v = .int 1 ∧ H' = H1) I1 ⟨rfl, rfl⟩) fun u s2 ⟨v, H2, I2, rv, ev, eH⟩ => kws_nil ?_)
    subst ev eH
    obtain ⟨tk, rfl⟩ := rv
    exact ⟨vs, us, _, tk, I2, r1, rfl, q1⟩
  refine thn key fun a s1 ⟨vs, us, H1, tk, I1, r1, ea, t, xs, ev, hq, q⟩ => wpAny_bind (wpAny_standAt ?_)
  subst ea ev
  cases r1 with
  | cons r rr =>
    cases rr
    cases r
    obtain ⟨its, rv, p', hz⟩ := I1.tuple hq
    have kw : (backToKw pos (keywordEach [⟨some "start", .Constant (.int 1) ck cp, kp⟩] X.env)).any (·.1.isNone) = false := rfl
    simp only [plain, kw, Bool.or_false]
    refine wpAny_bind (wpAny_pure ?_)
    have hlt : t < s1.heap.objs.size := p'.lt
    refine wpAny_bind (call_enum1 p' fun h' he hit hk => wpAny_bind (wpAny_holding (wpAny_point (wpAny_pure (wpAny_pyIter_enum he ?_)))))
    have I2 : Inv X pins σ H1 { s1 with heap := h' } := I1.kept (t' := s1.toks) hk
    refine ⟨s1.heap.objs.size + 1, [s1.heap.objs.size + 1, s1.heap.objs.size], _, _, H1, rfl, I2, turn_enum1 t (s1.heap.objs.size + 1) s1.heap.objs.size, ⟨⟨.none, he⟩, hit, Nat.succ_ne_self _, Nat.ne_of_lt hlt, Nat.ne_of_lt (Nat.lt_succ_of_lt hlt)⟩, fun b hb => ?_, q⟩
    have e' : b = s1.heap.objs.size + 1 ∨ b = s1.heap.objs.size := by simpa using hb
    have hle : s1.heap.objs.size ≤ b := by
      rcases e' with z | z
      · rw [z]; exact Nat.le_add_right _ _
      · rw [z]; exact Nat.le_refl _
    exact I1.fpOk hle (I1.hok.fresh hle)
theorem for_enum1 {K : PySem.W.Frag} {a : Addr} {xs : List V} {g : TG} {tb : TS} {D : Ends} {σ : L2.St} {H : Hp} (Pv : Nat → L2.St → Hp → Prop) (h0 : Pv 0 σ H) (hl : ∀ i σ H, i ≤ xs.length → Pv i σ H → SqT K H a xs)
    (hs : ∀ i x σ H T, xs[i]? = some x → Pv i σ H → H T = none → g (.ref T) σ (upd H T (.tup [.int ((i + 1 : Nat) : Int), x])) fun σ2 H2 => tb { D with nx := Pv (i + 1), ct := Pv (i + 1), bk := D.nx } σ2 H2) (hd : ∀ σ H, Pv xs.length σ H → D.nx σ H) :
    ∃ W : Nat → Nat → L2.St → Hp → Prop, (∃ m, W 0 m σ H) ∧ ∀ i m σ H, W i m σ H →
      ((Ite1 K a).stop i H ∧ D.nx σ H) ∨ ((Ite1 K a).go i H ∧ ∃ N : L2.St → Hp → Prop, (∀ σ' H', N σ' H' → ∃ m', m' < m ∧ W (i + 1) m' σ' H') ∧ ∀ x H', (Ite1 K a).yld i H x H' → g x σ H' fun σ2 H2 => tb { D with nx := N, ct := N, bk := D.nx } σ2 H2) := by
  refine ⟨fun i m σ H => m = xs.length - i ∧ i ≤ xs.length ∧ Pv i σ H, ⟨xs.length, by simp, Nat.zero_le _, h0⟩, ?_⟩
  rintro i m σ H ⟨rfl, hi, p⟩
  have q := hl i σ H hi p
  by_cases hlt : i < xs.length
  · refine .inr ⟨⟨xs, xs[i], q, by simp [hlt]⟩, Pv (i + 1), fun σ' H' p' => ⟨xs.length - (i + 1), by omega, rfl, hlt, p'⟩, fun x H' y => ?_⟩
    obtain ⟨T, z, e1, e2, e3, y⟩ := y
    subst e1 e3
    exact hs i z σ _ T (y xs q) p e2
  · have e : i = xs.length := by omega
    subst e
    exact .inl ⟨⟨xs, q, rfl⟩, hd σ H p⟩
theorem for_enum {K : PySem.W.Frag} {a : Addr} {xs : List V} {g : TG} {tb : TS} {D : Ends} {σ : L2.St} {H : Hp} (Pv : Nat → L2.St → Hp → Prop) (h0 : Pv 0 σ H) (hl : ∀ i σ H, i ≤ xs.length → Pv i σ H → SqL K H a xs)
    (hs : ∀ i x σ H T, xs[i]? = some x → Pv i σ H → H T = none → g (.ref T) σ (upd H T (.tup [.int (i : Nat), x])) fun σ2 H2 => tb { D with nx := Pv (i + 1), ct := Pv (i + 1), bk := D.nx } σ2 H2) (hd : ∀ σ H, Pv xs.length σ H → D.nx σ H) :
    ∃ W : Nat → Nat → L2.St → Hp → Prop, (∃ m, W 0 m σ H) ∧ ∀ i m σ H, W i m σ H →
      ((Ite K a).stop i H ∧ D.nx σ H) ∨ ((Ite K a).go i H ∧ ∃ N : L2.St → Hp → Prop, (∀ σ' H', N σ' H' → ∃ m', m' < m ∧ W (i + 1) m' σ' H') ∧ ∀ x H', (Ite K a).yld i H x H' → g x σ H' fun σ2 H2 => tb { D with nx := N, ct := N, bk := D.nx } σ2 H2) := by
  refine ⟨fun i m σ H => m = xs.length - i ∧ i ≤ xs.length ∧ Pv i σ H, ⟨xs.length, by simp, Nat.zero_le _, h0⟩, ?_⟩
  rintro i m σ H ⟨rfl, hi, p⟩
  have q := hl i σ H hi p
  by_cases hlt : i < xs.length
  · refine .inr ⟨⟨xs, xs[i], q, by simp [hlt]⟩, Pv (i + 1), fun σ' H' p' => ⟨xs.length - (i + 1), by omega, rfl, hlt, p'⟩, fun x H' y => ?_⟩
    obtain ⟨T, z, e1, e2, e3, y⟩ := y
    subst e1 e3
    exact hs i z σ _ T (y xs q) p e2
  · have e : i = xs.length := by omega
    subst e
    exact .inl ⟨⟨xs, q, Nat.le_refl _⟩, hd σ H p⟩
end Ew

namespace Ew
open PySem PySem.Spec PyProof.Rows L2 EwM

/-! ### the text by places -/
def top (i : Nat) : Stmt := PySem.Challenge.pw_endingwork_s01_answers.main.body.getD i (.Pass ⟨0, 0, 0, 0⟩)
/-- a def of the module, a method of a class, as they stand behind the top -/
structure Gf (K : PySem.W.Frag) (mg : Str → Option Value) (x : Str) (st : Stmt) (ps : List Str) (f : Addr) (fd : FuncData) : Prop where
  fn : Fun K x x st f fd
  at_ : mg x = some (.ref f)
  b : Binds K fd ps []
structure Mf (K : PySem.W.Frag) (C : Addr) (x q : Str) (st : Stmt) (ps : List Str) (f : Addr) (fd : FuncData) : Prop where
  fn : Fun K x q st f fd
  m : Meth K C x f
  b : Binds K fd ps []
/-- where they stand -/
structure Adr where
  c : Nat → Addr
  f : Nat → Addr
  d : Nat → FuncData
  h : Addr
abbrev s_marks_of : Stmt := top 9
abbrev s_has_ended : Stmt := top 10
abbrev s_did_bit : Stmt := top 11
abbrev s_apart_from : Stmt := top 12
abbrev s_plays : Stmt := top 13
abbrev s_moves_of : Stmt := top 15
abbrev s_those_that_come : Stmt := top 19
abbrev s_how_far : Stmt := top 20
abbrev s_one_step_more : Stmt := top 22
abbrev s_all_marks : Stmt := top 23
abbrev s_those_ahead : Stmt := top 24
abbrev s_marks_that_can_end : Stmt := top 25
abbrev s_doubles_somewhere : Stmt := top 26
abbrev s_is_done_somewhere : Stmt := top 27
abbrev s_doubling_steps : Stmt := top 28
abbrev s_stuck_marks : Stmt := top 29
abbrev s_crowded_ends : Stmt := top 30
abbrev s_idle_steps : Stmt := top 31
abbrev s_first_fault : Stmt := top 32
abbrev s_is_some_places : Stmt := top 47
abbrev s_is_a_step : Stmt := top 48
abbrev s_answer_on_cases : Stmt := top 61
abbrev s_answer : Stmt := top 62
abbrev s_answers : Stmt := top 63
abbrev s_Step_init : Stmt := inClass (top 4) 0
abbrev s_Step_doubles : Stmt := inClass (top 4) 1
abbrev s_Step_can_be_done : Stmt := inClass (top 4) 2
abbrev s_Step_marks_behind : Stmt := inClass (top 4) 3
abbrev s_Move_init : Stmt := inClass (top 14) 0
abbrev s_Move_fits : Stmt := inClass (top 14) 1
abbrev s_Move_case_behind : Stmt := inClass (top 14) 2
abbrev s_Machine_init : Stmt := inClass (top 49) 0
abbrev s_Machine_begin : Stmt := inClass (top 49) 1
abbrev s_Machine_work : Stmt := inClass (top 49) 2
abbrev s_Machine_apart : Stmt := inClass (top 49) 3
abbrev s_Machine_person : Stmt := inClass (top 49) 4
abbrev s_Machine_ready : Stmt := inClass (top 49) 5
abbrev s_Machine_far_of : Stmt := inClass (top 49) 6
abbrev s_Machine_far_of_all : Stmt := inClass (top 49) 7
abbrev s_Machine_open_case : Stmt := inClass (top 49) 8
abbrev s_Machine_do : Stmt := inClass (top 49) 9
abbrev s_Machine_next_step : Stmt := inClass (top 49) 10
abbrev s_Machine_state : Stmt := inClass (top 49) 11
abbrev s_Machine_leave : Stmt := inClass (top 49) 12
/-- what the module's top has written -/
structure Txt (K : PySem.W.Frag) (mg : Str → Option Value) (a : Adr) : Prop where
  c_BEGINNING : ∃ t, mg "BEGINNING" = some (.int (1) t)
  c_END : ∃ t, mg "END" = some (.int (2) t)
  c_MOST_TOGETHER : ∃ t, mg "MOST_TOGETHER" = some (.int (1024) t)
  c_ALL_PLACES : ∃ t, mg "ALL_PLACES" = some (.int (65535) t)
  c_PLACES : ∃ t, mg "PLACES" = some (.int (16) t)
  c_MOST_PEOPLE : ∃ t, mg "MOST_PEOPLE" = some (.int (8) t)
  c_COULD_NOT_END : ∃ t, mg "COULD_NOT_END" = some (.int (-33) t)
  c_TOO_MANY_TO_TELL : ∃ t, mg "TOO_MANY_TO_TELL" = some (.int (-75) t)
  c_MAY_NOT : ∃ t, mg "MAY_NOT" = some (.int (-1) t)
  c_NO_SUCH : ∃ t, mg "NO_SUCH" = some (.int (-2) t)
  c_CANNOT_BE_DONE : ∃ t, mg "CANNOT_BE_DONE" = some (.int (-11) t)
  c_IS_TAKEN : ∃ t, mg "IS_TAKEN" = some (.int (-16) t)
  c_NOT_TAKEN : ∃ t, mg "NOT_TAKEN" = some (.int (-16) t)
  c_DID_ONE_APART : ∃ t, mg "DID_ONE_APART" = some (.int (-17) t)
  c_NOT_SO : ∃ t, mg "NOT_SO" = some (.int (-22) t)
  c_TOO_MANY : ∃ t, mg "TOO_MANY" = some (.int (-28) t)
  c_MOST_BITS : ∃ t, mg "MOST_BITS" = some (.int (65535) t)
  c_MOST_PART : ∃ t, mg "MOST_PART" = some (.int (15) t)
  c_MOST_STEPS : ∃ t, mg "MOST_STEPS" = some (.int (16) t)
  c_MOST_TOLD_APART : ∃ t, mg "MOST_TOLD_APART" = some (.int (32) t)
  c_MOST_CASES : ∃ t, mg "MOST_CASES" = some (.int (16) t)
  c_BEGIN : ∃ t, mg "BEGIN" = some (.int (0) t)
  c_WORK : ∃ t, mg "WORK" = some (.int (1) t)
  c_APART : ∃ t, mg "APART" = some (.int (2) t)
  c_PERSON : ∃ t, mg "PERSON" = some (.int (3) t)
  c_READY : ∃ t, mg "READY" = some (.int (4) t)
  c_OPEN : ∃ t, mg "OPEN" = some (.int (5) t)
  c_DO : ∃ t, mg "DO" = some (.int (6) t)
  c_NEXT : ∃ t, mg "NEXT" = some (.int (7) t)
  c_STATE : ∃ t, mg "STATE" = some (.int (8) t)
  b_len : mg "len" = none
  b_enumerate : mg "enumerate" = none
  b_min : mg "min" = none
  b_max : mg "max" = none
  b_tuple : mg "tuple" = none
  b_list : mg "list" = none
  handed : mg "HANDED" = some (.ref a.h)
  handedAt : ∀ H : Hp, SqT K H a.h ([0, 3, 2, 1, 0, 0, 3, 1, 1, 1].map V.int)
  cl_Step : Cls K (a.c 4)
  mg_Step : mg "Step" = some (.ref (a.c 4))
  mk_Step : Mk K (a.c 4) (a.f 400)
  in_Step : Fun K "__init__" "Step.__init__" s_Step_init (a.f 400) (a.d 400)
  bi_Step : Binds K (a.d 400) ["self", "takes", "gives", "part"] []
  n_Step_takes : NoAttr K (a.c 4) "takes"
  n_Step_gives : NoAttr K (a.c 4) "gives"
  n_Step_part : NoAttr K (a.c 4) "part"
  m_Step_doubles : Mf K (a.c 4) "doubles" "Step.doubles" s_Step_doubles ["self", "marks"] (a.f 401) (a.d 401)
  m_Step_can_be_done : Mf K (a.c 4) "can_be_done" "Step.can_be_done" s_Step_can_be_done ["self", "marks"] (a.f 402) (a.d 402)
  m_Step_marks_behind : Mf K (a.c 4) "marks_behind" "Step.marks_behind" s_Step_marks_behind ["self", "marks"] (a.f 403) (a.d 403)
  cl_Move : Cls K (a.c 14)
  mg_Move : mg "Move" = some (.ref (a.c 14))
  mk_Move : Mk K (a.c 14) (a.f 1400)
  in_Move : Fun K "__init__" "Move.__init__" s_Move_init (a.f 1400) (a.d 1400)
  bi_Move : Binds K (a.d 1400) ["self", "number", "who", "step", "others"] []
  n_Move_number : NoAttr K (a.c 14) "number"
  n_Move_who : NoAttr K (a.c 14) "who"
  n_Move_takes : NoAttr K (a.c 14) "takes"
  n_Move_bars : NoAttr K (a.c 14) "bars"
  n_Move_brings : NoAttr K (a.c 14) "brings"
  m_Move_fits : Mf K (a.c 14) "fits" "Move.fits" s_Move_fits ["self", "case"] (a.f 1401) (a.d 1401)
  m_Move_case_behind : Mf K (a.c 14) "case_behind" "Move.case_behind" s_Move_case_behind ["self", "case"] (a.f 1402) (a.d 1402)
  cl_Machine : Cls K (a.c 49)
  mg_Machine : mg "Machine" = some (.ref (a.c 49))
  mk_Machine : Mk K (a.c 49) (a.f 4900)
  in_Machine : Fun K "__init__" "Machine.__init__" s_Machine_init (a.f 4900) (a.d 4900)
  bi_Machine : Binds K (a.d 4900) ["self"] []
  n_Machine_steps : NoAttr K (a.c 49) "steps"
  n_Machine_told_apart : NoAttr K (a.c 49) "told_apart"
  n_Machine_people : NoAttr K (a.c 49) "people"
  n_Machine_cases : NoAttr K (a.c 49) "cases"
  n_Machine_taken : NoAttr K (a.c 49) "taken"
  n_Machine_told_far : NoAttr K (a.c 49) "told_far"
  m_Machine_begin : Mf K (a.c 49) "begin" "Machine.begin" s_Machine_begin ["self"] (a.f 4901) (a.d 4901)
  m_Machine_work : Mf K (a.c 49) "work" "Machine.work" s_Machine_work ["self", "takes", "gives", "part"] (a.f 4902) (a.d 4902)
  m_Machine_apart : Mf K (a.c 49) "apart" "Machine.apart" s_Machine_apart ["self", "a", "b"] (a.f 4903) (a.d 4903)
  m_Machine_person : Mf K (a.c 49) "person" "Machine.person" s_Machine_person ["self", "parts"] (a.f 4904) (a.d 4904)
  m_Machine_ready : Mf K (a.c 49) "ready" "Machine.ready" s_Machine_ready ["self"] (a.f 4905) (a.d 4905)
  m_Machine_far_of : Mf K (a.c 49) "far_of" "Machine.far_of" s_Machine_far_of ["self", "case", "people"] (a.f 4906) (a.d 4906)
  m_Machine_far_of_all : Mf K (a.c 49) "far_of_all" "Machine.far_of_all" s_Machine_far_of_all ["self", "people"] (a.f 4907) (a.d 4907)
  m_Machine_open_case : Mf K (a.c 49) "open_case" "Machine.open_case" s_Machine_open_case ["self"] (a.f 4908) (a.d 4908)
  m_Machine_do : Mf K (a.c 49) "do" "Machine.do" s_Machine_do ["self", "k", "step", "person"] (a.f 4909) (a.d 4909)
  m_Machine_next_step : Mf K (a.c 49) "next_step" "Machine.next_step" s_Machine_next_step ["self", "k"] (a.f 4910) (a.d 4910)
  m_Machine_state : Mf K (a.c 49) "state" "Machine.state" s_Machine_state ["self", "k"] (a.f 4911) (a.d 4911)
  m_Machine_leave : Mf K (a.c 49) "leave" "Machine.leave" s_Machine_leave ["self", "person"] (a.f 4912) (a.d 4912)
  g_marks_of : Gf K mg "marks_of" s_marks_of ["case"] (a.f 9) (a.d 9)
  g_has_ended : Gf K mg "has_ended" s_has_ended ["case"] (a.f 10) (a.d 10)
  g_did_bit : Gf K mg "did_bit" s_did_bit ["number", "who"] (a.f 11) (a.d 11)
  g_apart_from : Gf K mg "apart_from" s_apart_from ["number", "told_apart"] (a.f 12) (a.d 12)
  g_plays : Gf K mg "plays" s_plays ["parts", "part"] (a.f 13) (a.d 13)
  g_moves_of : Gf K mg "moves_of" s_moves_of ["people", "steps", "told_apart"] (a.f 15) (a.d 15)
  g_those_that_come : Gf K mg "those_that_come" s_those_that_come ["moves", "newest", "begun_by"] (a.f 19) (a.d 19)
  g_how_far : Gf K mg "how_far" s_how_far ["moves", "case"] (a.f 20) (a.d 20)
  g_one_step_more : Gf K mg "one_step_more" s_one_step_more ["steps", "marks"] (a.f 22) (a.d 22)
  g_all_marks : Gf K mg "all_marks" s_all_marks ["steps"] (a.f 23) (a.d 23)
  g_those_ahead : Gf K mg "those_ahead" s_those_ahead ["behind"] (a.f 24) (a.d 24)
  g_marks_that_can_end : Gf K mg "marks_that_can_end" s_marks_that_can_end ["behind"] (a.f 25) (a.d 25)
  g_doubles_somewhere : Gf K mg "doubles_somewhere" s_doubles_somewhere ["step", "behind"] (a.f 26) (a.d 26)
  g_is_done_somewhere : Gf K mg "is_done_somewhere" s_is_done_somewhere ["step", "behind"] (a.f 27) (a.d 27)
  g_doubling_steps : Gf K mg "doubling_steps" s_doubling_steps ["steps", "behind"] (a.f 28) (a.d 28)
  g_stuck_marks : Gf K mg "stuck_marks" s_stuck_marks ["behind"] (a.f 29) (a.d 29)
  g_crowded_ends : Gf K mg "crowded_ends" s_crowded_ends ["behind"] (a.f 30) (a.d 30)
  g_idle_steps : Gf K mg "idle_steps" s_idle_steps ["steps", "behind"] (a.f 31) (a.d 31)
  g_first_fault : Gf K mg "first_fault" s_first_fault ["steps", "behind"] (a.f 32) (a.d 32)
  g_is_some_places : Gf K mg "is_some_places" s_is_some_places ["bits"] (a.f 47) (a.d 47)
  g_is_a_step : Gf K mg "is_a_step" s_is_a_step ["takes", "gives", "part"] (a.f 48) (a.d 48)
  g_answer_on_cases : Gf K mg "answer_on_cases" s_answer_on_cases ["machine", "call", "handed"] (a.f 61) (a.d 61)
  g_answer : Gf K mg "answer" s_answer ["machine", "call", "handed"] (a.f 62) (a.d 62)
  g_answers : Gf K mg "answers" s_answers ["calls"] (a.f 63) (a.d 63)

section
variable {X : Cx}
/-- a constant of the module -/
theorem pcon {x : Str} {i : Int} {pos : Pos} (h : ∃ t, X.mg x = some (.int i t)) (hg : Gl X x := by rfl) (hd : (x == ("__debug__" : Str)) = false := by decide) : PE X (.Name x pos) (tC (.int i)) := by
  obtain ⟨t, e⟩ := h
  exact pe_glob hg e ⟨t, rfl⟩ hd
end
theorem upd_id {H : Hp} {d : Addr} {u : HO} (h : H d = some u) : upd H d u = H := by
  funext b
  unfold upd
  by_cases e : b = d
  · rw [if_pos e, e, h]
  · rw [if_neg e]
theorem upd_back {H : Hp} {d : Addr} {u v : HO} (h : H d = some u) : upd (upd H d v) d u = H := by rw [upd_upd, upd_id h]
/-- a new object leaves what was there -/
theorem Same.new {H : Hp} {l : Addr} {o : HO} (h : H l = none) : Same H (upd H l o) := fun b u e => by rw [upd_ne (ne_of_none e h)]; exact e
theorem Same.tup {H H' : Hp} (s : Same H H') : ∀ b xs, H b = some (.tup xs) → H' b = some (.tup xs) := fun b xs e => s b _ e
/-- changed at l alone, which was new -/
theorem Same.over {H H' : Hp} {l : Addr} {o : HO} (h : H l = none) (s : Same H H') : Same H (upd H' l o) := fun b u e => by rw [upd_ne (ne_of_none e h)]; exact s b u e
theorem nat_dec {a b : Nat} : decide (V.int (a : Int) = V.int (b : Int)) = decide (a = b) := by
  by_cases h : a = b
  · rw [h]; simp
  · rw [decide_eq_false h, decide_eq_false fun z => h (by have := V.int.inj z; omega)]
end Ew

namespace Ew
open PySem PySem.Spec PyProof.Rows L2 EwM
open Kct8 (Work isOn doubles can nexts Course Case Person)

/-! ### a step -/
def stF (w : Work) : List (Str × V) := [("takes", .int (w.takes : Int)), ("gives", .int (w.gives : Int)), ("part", .int (w.part : Int))]
def StepAt (a : Adr) (H : Hp) (p : Addr) (w : Work) : Prop := ∃ dx, H p = some (.ins (a.c 4) dx (stF w))
theorem StepAt.same {a : Adr} {H H' : Hp} {p : Addr} {w : Work} (h : StepAt a H p w) (s : Same H H') : StepAt a H' p w := let ⟨dx, e⟩ := h; ⟨dx, s _ _ e⟩
/-- the steps, one behind another -/
structure StepsAt (a : Adr) (H : Hp) (l : Addr) (as : List Addr) (ws : List Work) : Prop where
  lst : H l = some (.lst (as.map V.ref))
  len : as.length = ws.length
  at_ : ∀ (i : Nat) (p : Addr) (w : Work), as[i]? = some p → ws[i]? = some w → StepAt a H p w
theorem StepsAt.same {a : Adr} {H H' : Hp} {l : Addr} {as : List Addr} {ws : List Work} (h : StepsAt a H l as ws) (s : Same H H') : StepsAt a H' l as ws :=
  ⟨s _ _ h.lst, h.len, fun i p w hp hw => (h.at_ i p w hp hw).same s⟩
theorem get_map {α : Type} {f : α → V} {l : List α} {i : Nat} {y : V} (h : (l.map f)[i]? = some y) : ∃ z, l[i]? = some z ∧ y = f z := by
  rw [List.getElem?_map] at h
  cases e : l[i]? with
  | none => rw [e] at h; cases h
  | some z => rw [e] at h; exact ⟨z, rfl, (Option.some.inj h).symm⟩
theorem get_of {α : Type} {l : List α} {n i : Nat} {y : α} {β : Type} {m : List β} (h : l[i]? = some y) (e : l.length = m.length) : ∃ z, m[i]? = some z := by
  have := (List.getElem?_eq_some_iff.mp h).1
  exact ⟨m[i]'(by omega), List.getElem?_eq_getElem (by omega)⟩
theorem StepsAt.get {a : Adr} {H : Hp} {l : Addr} {as : List Addr} {ws : List Work} (h : StepsAt a H l as ws) {i : Nat} {y : V} (hy : (as.map V.ref)[i]? = some y) : ∃ p w, y = .ref p ∧ ws[i]? = some w ∧ StepAt a H p w := by
  obtain ⟨p, hp, rfl⟩ := get_map hy
  obtain ⟨w, hw⟩ := get_of (n := 0) hp h.len
  exact ⟨p, w, rfl, hw, h.at_ i p w hp hw⟩

/-! ### promises -/
def spDoubles (a : Adr) : Sp := fun vs H Q _ => ∃ (p : Addr) (w : Work) (m : Nat), vs = [.ref p, .int (m : Int)] ∧ StepAt a H p w ∧ Q (.bl (isOn w m && doubles w m)) H
def spCan (a : Adr) : Sp := fun vs H Q _ => ∃ (p : Addr) (w : Work) (m : Nat), vs = [.ref p, .int (m : Int)] ∧ StepAt a H p w ∧ Q (.bl (can w m)) H
def spBehind (a : Adr) : Sp := fun vs H Q _ => ∃ (p : Addr) (w : Work) (m : Nat), vs = [.ref p, .int (m : Int)] ∧ StepAt a H p w ∧ isOn w m = true ∧ Q (.int (Kct8.next w m : Nat)) H
def spStepInit (a : Adr) : Sp := fun vs H Q _ => ∃ (p dx : Addr) (w : Work), vs = [.ref p, .int (w.takes : Int), .int (w.gives : Int), .int (w.part : Int)] ∧ H p = some (.ins (a.c 4) dx []) ∧
  ∀ H' : Hp, StepAt a H' p w → (∀ b o, H b = some o → b ≠ p → H' b = some o) → Q .non H'
/-! ### the tests -/
theorem on_dec {w : Work} {m : Nat} : decide (V.int (Builtin.bitAnd (m : Int) (w.takes : Int)) = V.int (w.takes : Int)) = isOn w m := by
  rw [bAnd, on_iff]
  by_cases h : ((m &&& w.takes : Nat) : Int) = (w.takes : Int)
  · rw [h]; simp
  · rw [decide_eq_false h, decide_eq_false fun z => h (V.int.inj z)]
theorem dbl_dec {w : Work} {m : Nat} (h : isOn w m = true) : decide (V.int (Builtin.bitAnd (Builtin.bitAnd (m : Int) (w.gives : Int)) (Builtin.bitNot (w.takes : Int))) = V.int 0) = !doubles w m := by
  rw [bAnd, bAndNot, dbl_iff h, Bool.not_not]
  by_cases c : (((m &&& w.gives) ^^^ ((m &&& w.gives) &&& w.takes) : Nat) : Int) = 0
  · rw [c]; simp
  · rw [decide_eq_false c, decide_eq_false fun z => c (V.int.inj z)]
theorem behind_eq {w : Work} {m : Nat} (h : isOn w m = true) : Builtin.bitOr (Builtin.bitAnd (m : Int) (Builtin.bitNot (w.takes : Int))) (w.gives : Int) = ((Kct8.next w m : Nat) : Int) := by
  rw [bAndNot, bOr, next_bits h]
section
variable {P : Program} {w : World} {K : PySem.W.Frag} {mg : Str → Option Value} {base : Heap} {a : Adr}
theorem sc_StepInit : FnScope ["self", "takes", "gives", "part"] ["self", "takes", "gives", "part"] (defScope s_Step_init) := ⟨rfl, rfl, rfl, by decide +kernel, rfl, by decide +kernel, by decide +kernel⟩
theorem ok_StepInit (T : Txt K mg a) : FnOk P w K mg base CX0 1 (a.f 400) (a.d 400) ["self", "takes", "gives", "part"] (spStepInit a) := by
  refine T.in_Step.ok sc_StepInit (fun vs H Q E h => ?_) (fun cdv A outer s H vs Q E hr h => ?_)
  · obtain ⟨p, dx, w, rfl, _⟩ := h
    rfl
  · obtain ⟨p, dx, w, rfl, hp, k⟩ := h
    refine ⟨_, pss_cons (ps_fld (pv 0) (pv 1) rfl) (pss_cons (ps_fld (pv 0) (pv 2) rfl) (pss_one (ps_fld (pv 0) (pv 3) rfl))), ?_⟩
    refine ⟨_, rfl, _, rfl, p, a.c 4, dx, [], rfl, hp, T.cl_Step, T.n_Step_takes, (by show 0 < 1000; decide), ?_⟩
    refine ⟨_, rfl, _, rfl, p, a.c 4, dx, _, rfl, upd_same, T.cl_Step, T.n_Step_gives, (by show 1 < 1000; decide), ?_⟩
    refine ⟨_, rfl, _, rfl, p, a.c 4, dx, _, rfl, upd_same, T.cl_Step, T.n_Step_part, (by show 2 < 1000; decide), ?_⟩
    refine k _ ⟨dx, Eq.trans upd_same ?_⟩ fun b o e hb => by rw [upd_ne hb, upd_ne hb, upd_ne hb]; exact e
    rfl
theorem sc_doubles : FnScope ["self", "marks"] ["self", "marks"] (defScope s_Step_doubles) := ⟨rfl, rfl, rfl, by decide +kernel, rfl, by decide +kernel, by decide +kernel⟩
theorem ok_doubles (T : Txt K mg a) : FnOk P w K mg base CX0 1 (a.f 401) (a.d 401) ["self", "marks"] (spDoubles a) := by
  refine T.m_Step_doubles.fn.ok sc_doubles (fun vs H Q E h => ?_) (fun cdv A outer s H vs Q E hr h => ?_)
  · obtain ⟨a, w, m, rfl, _⟩ := h
    rfl
  · obtain ⟨p, w, m, rfl, ⟨dx, h1⟩, q⟩ := h
    refine ⟨_, pss_one (ps_ret (pe_and (pe_cmpR op_eq (pe_op op_and (pv 1) (pe_fld (pv 0) rfl)) (pe_fld (pv 0) rfl) (nomark _))
      (pe_one (pe_cmpR op_ne (pe_op op_and (pe_op op_and (pv 1) (pe_fld (pv 0) rfl)) (pe_un un_inv (pe_fld (pv 0) rfl))) pe_int (nomark _))))), ?_⟩
    refine ⟨_, rfl, _, rfl, p, a.c 4, dx, _, _, rfl, h1, T.cl_Step, T.n_Step_takes, rfl, _, _, rfl, rfl, _, rfl, p, a.c 4, dx, _, _, rfl, h1, T.cl_Step, T.n_Step_takes, rfl, rfl, _, rfl, ?_⟩
    refine ite2 (fun h => ?_) (fun h => ?_)
    · have on : isOn w m = true := on_dec.symm.trans h
      refine ⟨_, rfl, _, rfl, p, a.c 4, dx, _, _, rfl, h1, T.cl_Step, T.n_Step_gives, rfl, _, _, rfl, rfl, _, rfl, p, a.c 4, dx, _, _, rfl, h1, T.cl_Step, T.n_Step_takes, rfl, _, rfl, _, _, rfl, rfl, rfl, ?_⟩
      have e : (isOn w m && doubles w m) = !decide (V.int (Builtin.bitAnd (Builtin.bitAnd (m : Int) (w.gives : Int)) (Builtin.bitNot (w.takes : Int))) = V.int 0) := by rw [dbl_dec on, on, Bool.not_not]; rfl
      rw [e] at q
      exact q
    · have on : isOn w m = false := by rw [← on_dec]; exact Bool.eq_false_iff.mpr h
      rw [on] at q
      exact q
theorem sc_can : FnScope ["self", "marks"] ["self", "marks"] (defScope s_Step_can_be_done) := ⟨rfl, rfl, rfl, by decide +kernel, rfl, by decide +kernel, by decide +kernel⟩
theorem ok_can (T : Txt K mg a) : FnOk P w K mg base CX0 1 (a.f 402) (a.d 402) ["self", "marks"] (spCan a) := by
  refine T.m_Step_can_be_done.fn.ok sc_can (fun vs H Q E h => ?_) (fun cdv A outer s H vs Q E hr h => ?_)
  · obtain ⟨a, w, m, rfl, _⟩ := h
    rfl
  · obtain ⟨p, w, m, rfl, ⟨dx, h1⟩, q⟩ := h
    refine ⟨_, pss_one (ps_ret (pe_and (pe_cmpR op_eq (pe_op op_and (pv 1) (pe_fld (pv 0) rfl)) (pe_fld (pv 0) rfl) (nomark _))
      (pe_one (pe_cmpR op_eq (pe_op op_and (pe_op op_and (pv 1) (pe_fld (pv 0) rfl)) (pe_un un_inv (pe_fld (pv 0) rfl))) pe_int (nomark _))))), ?_⟩
    refine ⟨_, rfl, _, rfl, p, a.c 4, dx, _, _, rfl, h1, T.cl_Step, T.n_Step_takes, rfl, _, _, rfl, rfl, _, rfl, p, a.c 4, dx, _, _, rfl, h1, T.cl_Step, T.n_Step_takes, rfl, rfl, _, rfl, ?_⟩
    refine ite2 (fun h => ?_) (fun h => ?_)
    · have on : isOn w m = true := on_dec.symm.trans h
      refine ⟨_, rfl, _, rfl, p, a.c 4, dx, _, _, rfl, h1, T.cl_Step, T.n_Step_gives, rfl, _, _, rfl, rfl, _, rfl, p, a.c 4, dx, _, _, rfl, h1, T.cl_Step, T.n_Step_takes, rfl, _, rfl, _, _, rfl, rfl, rfl, ?_⟩
      have e : can w m = decide (V.int (Builtin.bitAnd (Builtin.bitAnd (m : Int) (w.gives : Int)) (Builtin.bitNot (w.takes : Int))) = V.int 0) := by rw [dbl_dec on]; unfold can; rw [on]; rfl
      rw [e] at q
      exact q
    · have on : can w m = false := by unfold can; rw [← on_dec, Bool.eq_false_iff.mpr h]; rfl
      rw [on] at q
      exact q
theorem sc_behind : FnScope ["self", "marks"] ["self", "marks"] (defScope s_Step_marks_behind) := ⟨rfl, rfl, rfl, by decide +kernel, rfl, by decide +kernel, by decide +kernel⟩
theorem ok_behind (T : Txt K mg a) : FnOk P w K mg base CX0 1 (a.f 403) (a.d 403) ["self", "marks"] (spBehind a) := by
  refine T.m_Step_marks_behind.fn.ok sc_behind (fun vs H Q E h => ?_) (fun cdv A outer s H vs Q E hr h => ?_)
  · obtain ⟨a, w, m, rfl, _⟩ := h
    rfl
  · obtain ⟨p, w, m, rfl, ⟨dx, h1⟩, on, q⟩ := h
    refine ⟨_, pss_one (ps_ret (pe_op op_or (pe_op op_and (pv 1) (pe_un un_inv (pe_fld (pv 0) rfl))) (pe_fld (pv 0) rfl))), ?_⟩
    refine ⟨_, rfl, _, rfl, p, a.c 4, dx, _, _, rfl, h1, T.cl_Step, T.n_Step_takes, rfl, _, rfl, _, _, rfl, rfl, _, rfl, p, a.c 4, dx, _, _, rfl, h1, T.cl_Step, T.n_Step_gives, rfl, _, _, rfl, rfl, ?_⟩
    rw [← behind_eq on] at q
    exact q

/-! ### a case, its marks -/
def spMarksOf : Sp := fun vs H Q _ => ∃ n : Nat, vs = [.int (n : Int)] ∧ Q (.int ((n &&& 65535 : Nat) : Int)) H
def spHasEnded : Sp := fun vs H Q _ => ∃ n : Nat, vs = [.int (n : Int)] ∧ Q (.bl (decide (n &&& 65535 = 2))) H
def spDidBit : Sp := fun vs H Q _ => ∃ i p : Nat, vs = [.int (i : Int), .int (p : Int)] ∧ i < 16 ∧ p < 8 ∧ Q (.int ((didBit i p : Nat) : Int)) H
def pV (q : Person) : V := if q.there then .int (q.parts : Int) else .non
def spPlays : Sp := fun vs H Q _ => ∃ (q : Person) (k : Nat), vs = [pV q, .int (k : Int)] ∧ Q (.bl (q.there && q.parts.testBit k)) H
theorem sc_marks_of : FnScope ["case"] ["case"] (defScope s_marks_of) := ⟨rfl, rfl, rfl, by decide +kernel, rfl, by decide +kernel, by decide +kernel⟩
theorem ok_marks_of (T : Txt K mg a) : FnOk P w K mg base CX0 1 (a.f 9) (a.d 9) ["case"] spMarksOf := by
  refine T.g_marks_of.fn.ok sc_marks_of (fun vs H Q E h => ?_) (fun cdv A outer s H vs Q E hr h => ?_)
  · obtain ⟨n, rfl, _⟩ := h
    rfl
  · obtain ⟨n, rfl, q⟩ := h
    refine ⟨_, pss_one (ps_ret (pe_op op_and (pv 0) (pcon T.c_ALL_PLACES))), ?_⟩
    refine ⟨_, rfl, _, _, rfl, rfl, ?_⟩
    have e := bAnd n 65535
    rw [← e] at q
    exact q
theorem sc_has_ended : FnScope ["case"] ["case"] (defScope s_has_ended) := ⟨rfl, rfl, rfl, by decide +kernel, rfl, by decide +kernel, by decide +kernel⟩
theorem ok_has_ended (T : Txt K mg a) : FnOk P w K mg base CX0 2 (a.f 10) (a.d 10) ["case"] spHasEnded := by
  refine T.g_has_ended.fn.ok sc_has_ended (fun vs H Q E h => ?_) (fun cdv A outer s H vs Q E hr h => ?_)
  · obtain ⟨n, rfl, _⟩ := h
    rfl
  · obtain ⟨n, rfl, q⟩ := h
    refine ⟨_, pss_one (ps_ret (pe_cmpR op_eq (pe_call (ok_marks_of T) hr rfl T.g_marks_of.at_ T.g_marks_of.fn.kp T.g_marks_of.b .nil pass0 (pa_cons (pv 0) pa_nil)) (pcon T.c_END) (nomark _))), ?_⟩
    refine ⟨_, rfl, n, rfl, rfl, ?_⟩
    have e : decide (V.int ((n &&& 65535 : Nat) : Int) = V.int 2) = decide (n &&& 65535 = 2) := nat_dec (b := 2)
    rw [← e] at q
    exact q
theorem sc_did_bit : FnScope ["number", "who"] ["number", "who"] (defScope s_did_bit) := ⟨rfl, rfl, rfl, by decide +kernel, rfl, by decide +kernel, by decide +kernel⟩
theorem ok_did_bit (T : Txt K mg a) : FnOk P w K mg base CX0 1 (a.f 11) (a.d 11) ["number", "who"] spDidBit := by
  refine T.g_did_bit.fn.ok sc_did_bit (fun vs H Q E h => ?_) (fun cdv A outer s H vs Q E hr h => ?_)
  · obtain ⟨i, p, rfl, _⟩ := h
    rfl
  · obtain ⟨i, p, rfl, hi, hp, q⟩ := h
    refine ⟨_, pss_one (ps_ret (pe_op op_shl pe_int (pe_op op_add (pe_op op_add (pcon T.c_PLACES) (pe_op op_mul (pcon T.c_MOST_PEOPLE) (pv 0))) (pv 1)))), ?_⟩
    refine ⟨_, rfl, _, _, rfl, rfl, .inl ⟨by decide, by decide⟩, _, _, rfl, rfl, _, rfl, _, _, rfl, rfl, _, _, rfl, rfl, ⟨by omega, by omega, by decide⟩, ?_⟩
    have e : (1 : Int) * 2 ^ ((16 : Int) + 8 * (i : Int) + (p : Int)).toNat = ((didBit i p : Nat) : Int) := by
      have e1 : ((16 : Int) + 8 * (i : Int) + (p : Int)).toNat = 16 + 8 * i + p := by omega
      rw [e1, Int.one_mul]
      unfold didBit
      exact (Int.natCast_pow 2 _).symm
    rw [← e] at q
    exact q
theorem sc_plays : FnScope ["parts", "part"] ["parts", "part"] (defScope s_plays) := ⟨rfl, rfl, rfl, by decide +kernel, rfl, by decide +kernel, by decide +kernel⟩
theorem bit_dec (n k : Nat) : decide (V.int (Builtin.bitAnd ((n : Int) / 2 ^ ((k : Int)).toNat) 1) = V.int 1) = n.testBit k := by
  have e1 : ((n : Int) / 2 ^ ((k : Int)).toNat) = ((n >>> k : Nat) : Int) := by
    rw [Nat.shiftRight_eq_div_pow, Int.toNat_natCast]
    simp
  rw [e1]
  have e2 := bAnd (n >>> k) 1
  rw [show ((1 : Nat) : Int) = 1 from rfl] at e2
  rw [e2]
  have e3 := nat_dec (a := (n >>> k) &&& 1) (b := 1)
  rw [show ((1 : Nat) : Int) = 1 from rfl] at e3
  rw [e3]
  unfold Nat.testBit
  rw [Nat.and_comm 1]
  have : (n >>> k) &&& 1 = 0 ∨ (n >>> k) &&& 1 = 1 := by
    rw [Nat.and_one_is_mod]; omega
  rcases this with h | h <;> rw [h] <;> rfl
theorem ok_plays (T : Txt K mg a) : FnOk P w K mg base CX0 1 (a.f 13) (a.d 13) ["parts", "part"] spPlays := by
  refine T.g_plays.fn.ok sc_plays (fun vs H Q E h => ?_) (fun cdv A outer s H vs Q E hr h => ?_)
  · obtain ⟨n, k, rfl, _⟩ := h
    rfl
  · obtain ⟨⟨n, th⟩, k, rfl, q⟩ := h
    refine ⟨_, pss_one (ps_ret (pe_and (pe_cmp (pc_notN (pv 0))) (pe_one (pe_cmpR op_eq (pe_op op_and (pe_op op_shr (pv 0) (pv 1)) pe_int) pe_int (nomark _))))), ?_⟩
    cases th with
    | false => exact ⟨_, rfl, _, rfl, iteF q⟩
    | true =>
      refine ⟨_, rfl, _, rfl, iteT ?_⟩
      refine ⟨_, rfl, _, rfl, _, _, rfl, rfl, (by show (0 : Int) ≤ (k : Int); omega), _, _, rfl, rfl, rfl, ?_⟩
      have q : Q (.bl (n.testBit k)) H := q
      rw [← bit_dec n k] at q
      exact q
end
end Ew

namespace Ew
open PySem PySem.Spec PyProof.Rows L2 EwM
open Kct8 (Work isOn doubles can nexts Course Case Person)

theorem take_one {α : Type} {l : List α} {i : Nat} {z : α} (h : l[i]? = some z) : l.take (i + 1) = l.take i ++ [z] := by
  rw [List.take_add_one, h]; rfl
theorem take_fil {α : Type} {l : List α} {i : Nat} {z : α} (p : α → Bool) (h : l[i]? = some z) : (l.take (i + 1)).filter p = (l.take i).filter p ++ (if p z = true then [z] else []) := by
  rw [take_one h, List.filter_append]
  congr 1
  cases q : p z <;> simp [q]
theorem small {n m : Nat} (h : n ≤ m) (hm : m < 16777216) : n < sizeLine := by
  have e : sizeLine = 16777216 := by decide
  omega
theorem smallE {n m : Nat} (h : n ≤ m) (hm : m ≤ 16777216) : n ≤ sizeLine := by
  have e : sizeLine = 16777216 := by decide
  omega
/-- what was told apart, one pair behind another -/
structure ApsAt (H : Hp) (l : Addr) (ts : List Addr) (aps : List (Nat × Nat)) : Prop where
  lst : H l = some (.lst (ts.map V.ref))
  len : ts.length = aps.length
  at_ : ∀ (i : Nat) (t : Addr) (z : Nat × Nat), ts[i]? = some t → aps[i]? = some z → H t = some (.tup [.int (z.1 : Int), .int (z.2 : Int)])
theorem ApsAt.same {H H' : Hp} {l : Addr} {ts : List Addr} {aps : List (Nat × Nat)} (h : ApsAt H l ts aps) (s : Same H H') : ApsAt H' l ts aps :=
  ⟨s _ _ h.lst, h.len, fun i p w hp hw => s _ _ (h.at_ i p w hp hw)⟩
theorem ApsAt.get {H : Hp} {l : Addr} {ts : List Addr} {aps : List (Nat × Nat)} (h : ApsAt H l ts aps) {i : Nat} {y : V} (hy : (ts.map V.ref)[i]? = some y) : ∃ t z, y = .ref t ∧ aps[i]? = some z ∧ H t = some (.tup [.int (z.1 : Int), .int (z.2 : Int)]) := by
  obtain ⟨p, hp, rfl⟩ := get_map hy
  obtain ⟨w, hw⟩ := get_of (n := 0) hp h.len
  exact ⟨p, w, rfl, hw, h.at_ i p w hp hw⟩
def spApart : Sp := fun vs H Q _ => ∃ (c : Course) (i : Nat) (l : Addr) (ts : List Addr), vs = [.int (i : Int), .ref l] ∧ ApsAt H l ts c.aparts ∧ c.aparts.length ≤ 32 ∧
  ∀ (r : Addr) (H' : Hp), Same H H' → H r = none → H' r = some (.lst ((othersOf c i).map fun (k : Nat) => V.int (k : Int))) → Q (.ref r) H'
section
variable {P : Program} {w : World} {K : PySem.W.Frag} {mg : Str → Option Value} {base : Heap} {a : Adr}
theorem sc_apart_from : FnScope ["number", "told_apart", "firsts", "seconds", "a", "b"] ["number", "told_apart"] (defScope s_apart_from) := ⟨rfl, rfl, rfl, by decide +kernel, rfl, by decide +kernel, by decide +kernel⟩
theorem ok_apart_from (T : Txt K mg a) : FnOk P w K mg base CX0 1 (a.f 12) (a.d 12) ["number", "told_apart"] spApart := by
  refine T.g_apart_from.fn.ok sc_apart_from (fun vs H Q E h => ?_) (fun cdv A outer s H vs Q E hr h => ?_)
  · obtain ⟨c, i, l, ts, rfl, _⟩ := h
    rfl
  · obtain ⟨c, n, l, ts, rfl, A1, few, k⟩ := h
    have nd := sc_apart_from.nd
    refine ⟨_, pss_cons (ps_setLc (i := 2) (g := gTup K 2 (gCons (gName 4) (gCons (gName 5) gNil))) (own := [("a", 4), ("b", 5)]) rfl nd rfl rfl (sw_true rfl rfl rfl (by decide +kernel)) (pi_list (pv 1)) (blkOk_by (by kernel_rfl))
        (fun _ _ _ _ _ => by exact pg_tup rfl (pgs_cons (pg_name (i := 4) nd rfl (Or.inl rfl)) (pgs_cons (pg_name (i := 5) nd rfl (Or.inl rfl)) pgs_nil))) (fun _ _ _ _ _ => by exact pts_one (pt_cmpR op_eq (pv 5) (pv 0) (nomark _))) (fun _ _ _ _ _ => by exact pv 4))
      (pss_cons (ps_setLc (i := 3) (g := gTup K 2 (gCons (gName 4) (gCons (gName 5) gNil))) (own := [("a", 4), ("b", 5)]) rfl nd rfl rfl (sw_true rfl rfl rfl (by decide +kernel)) (pi_list (pv 1)) (blkOk_by (by kernel_rfl))
        (fun _ _ _ _ _ => by exact pg_tup rfl (pgs_cons (pg_name (i := 4) nd rfl (Or.inl rfl)) (pgs_cons (pg_name (i := 5) nd rfl (Or.inl rfl)) pgs_nil))) (fun _ _ _ _ _ => by exact pts_one (pt_cmpR op_eq (pv 4) (pv 0) (nomark _))) (fun _ _ _ _ _ => by exact pv 5))
      (pss_one (ps_ret (pe_op op_cat (pv 2) (pv 3))))), ?_⟩
    have fewL : ∀ (p : Nat × Nat → Bool) (f : Nat × Nat → V) (i : Nat), (((c.aparts.take i).filter p).map f).length ≤ 32 := fun p f i => by
      rw [List.length_map]
      exact Nat.le_trans (List.length_filter_le _ _) (Nat.le_trans (by rw [List.length_take]; exact Nat.min_le_right _ _) few)
    refine ⟨_, rfl, l, rfl, ⟨_, SqL.of A1.lst⟩, fun D1 n1 => ?_⟩
    refine lc_list (K := K) (a := l) (xs := ts.map V.ref) (fun i H1 => H1 D1 = some (.lst (((c.aparts.take i).filter fun z => z.2 == n).map fun z => V.int (z.1 : Int))) ∧ Same H H1) ⟨upd_same, Same.new n1⟩ (fun i H1 _ ⟨_, s1⟩ => SqL.of (s1 _ _ A1.lst)) ?_ ?_
    · rintro i y H1 hi ⟨e1, s1⟩
      obtain ⟨t, z, rfl, hz, ht⟩ := A1.get hi
      refine ⟨t, _, rfl, SqT.of (s1 _ _ ht), rfl, _, _, rfl, _, _, rfl, rfl, rfl, ?_⟩
      refine ⟨_, rfl, _, rfl, rfl, _, rfl, ?_⟩
      rw [nat_dec]
      have fl := take_fil (fun z : Nat × Nat => z.2 == n) hz
      refine ite2 (fun h => ?_) (fun h => ?_)
      · refine ⟨_, rfl, _, e1, small (fewL _ _ _) (by decide), ?_, fun b o e => ?_⟩
        · rw [upd_same, fl, if_pos (by simpa using h), List.map_append]; rfl
        · rw [upd_ne (ne_of_none e n1)]; exact s1 b o e
      · refine ⟨?_, s1⟩
        rw [e1, fl, if_neg (by simpa using h), List.append_nil]
    · rintro H1 ⟨e1, s1⟩
      rw [List.length_map, A1.len, List.take_length] at e1
      refine ⟨_, rfl, l, rfl, ⟨_, SqL.of (s1 _ _ A1.lst)⟩, fun D2 n2 => ?_⟩
      refine lc_list (K := K) (a := l) (xs := ts.map V.ref) (fun i H2 => H2 D2 = some (.lst (((c.aparts.take i).filter fun z => z.1 == n).map fun z => V.int (z.2 : Int))) ∧ Same H1 H2) ⟨upd_same, Same.new n2⟩ (fun i H2 _ ⟨_, s2⟩ => SqL.of (s2 _ _ (s1 _ _ A1.lst))) ?_ ?_
      · rintro i y H2 hi ⟨e2, s2⟩
        obtain ⟨t, z, rfl, hz, ht⟩ := A1.get hi
        refine ⟨t, _, rfl, SqT.of (s2 _ _ (s1 _ _ ht)), rfl, _, _, rfl, _, _, rfl, rfl, rfl, ?_⟩
        refine ⟨_, rfl, _, rfl, rfl, _, rfl, ?_⟩
        rw [nat_dec]
        have fl := take_fil (fun z : Nat × Nat => z.1 == n) hz
        refine ite2 (fun h => ?_) (fun h => ?_)
        · refine ⟨_, rfl, _, e2, small (fewL _ _ _) (by decide), ?_, fun b o e => ?_⟩
          · rw [upd_same, fl, if_pos (by simpa using h), List.map_append]; rfl
          · rw [upd_ne (ne_of_none e n2)]; exact s2 b o e
        · refine ⟨?_, s2⟩
          rw [e2, fl, if_neg (by simpa using h), List.append_nil]
      · rintro H2 ⟨e2, s2⟩
        rw [List.length_map, A1.len, List.take_length] at e2
        have l1 := fewL (fun z => z.2 == n) (fun z => V.int (z.1 : Int)) c.aparts.length
        have l2 := fewL (fun z => z.1 == n) (fun z => V.int (z.2 : Int)) c.aparts.length
        rw [List.take_length] at l1 l2
        refine ⟨_, rfl, _, rfl, D1, D2, _, _, rfl, rfl, s2 _ _ e1, e2, smallE (m := 64) (by omega) (by decide), fun r hr => ?_⟩
        refine k r _ (Same.over (s1.free (s2.free hr)) (s1.trans s2)) (s1.free (s2.free hr)) (Eq.trans upd_same ?_)
        unfold othersOf
        rw [List.map_append, List.map_map, List.map_map]
        rfl
end
end Ew

namespace Ew
open PySem PySem.Spec PyProof.Rows L2 EwM
open Kct8 (Work isOn doubles can nexts Course Case Person)

/-! ### a move -/
def mvF (m : Mv) : List (Str × V) := [("number", .int (m.number : Int)), ("who", .int (m.who : Int)), ("takes", .int (m.takes : Int)), ("bars", .int (m.bars : Int)), ("brings", .int (m.brings : Int))]
def MoveAt (a : Adr) (H : Hp) (p : Addr) (m : Mv) : Prop := ∃ dx, H p = some (.ins (a.c 14) dx (mvF m))
theorem MoveAt.same {a : Adr} {H H' : Hp} {p : Addr} {m : Mv} (h : MoveAt a H p m) (s : Same H H') : MoveAt a H' p m := let ⟨dx, e⟩ := h; ⟨dx, s _ _ e⟩
def nums (l : List Nat) : List V := l.map fun (k : Nat) => V.int (k : Int)
theorem nums_get {l : List Nat} {i : Nat} {y : V} (h : (nums l)[i]? = some y) : ∃ k : Nat, l[i]? = some k ∧ y = V.int (k : Int) := get_map h
theorem nums_len (l : List Nat) : (nums l).length = l.length := List.length_map _
theorem nums_snoc (l : List Nat) (k : Nat) : nums (l ++ [k]) = nums l ++ [V.int (k : Int)] := by unfold nums; rw [List.map_append]; rfl
def spMoveInit (a : Adr) : Sp := fun vs H Q _ => ∃ (p dx st lo : Addr) (i j : Nat) (w : Work) (os : List Nat), vs = [.ref p, .int (i : Int), .int (j : Int), .ref st, .ref lo] ∧ H p = some (.ins (a.c 14) dx []) ∧ StepAt a H st w ∧ H lo = some (.lst (nums os)) ∧
  i < 16 ∧ j < 8 ∧ (∀ k ∈ os, k < 16) ∧ os.length ≤ 64 ∧ ∀ H' : Hp, MoveAt a H' p (mvOf w os i j) → (∀ b o, H b = some o → b ≠ p → H' b = some o) → Q .non H'
def spFits (a : Adr) : Sp := fun vs H Q _ => ∃ (p : Addr) (m : Mv) (n : Nat), vs = [.ref p, .int (n : Int)] ∧ MoveAt a H p m ∧ Q (.bl (fits m n)) H
def spCaseBehind (a : Adr) : Sp := fun vs H Q _ => ∃ (p : Addr) (m : Mv) (n : Nat), vs = [.ref p, .int (n : Int)] ∧ MoveAt a H p m ∧ Q (.int ((behind m n : Nat) : Int)) H
theorem barsOf_snoc (b : Nat) (os : List Nat) (o p : Nat) : barsOf b (os ++ [o]) p = barsOf b os p ||| didBit o p := by
  unfold barsOf; rw [List.foldl_append]; rfl
section
variable {P : Program} {w : World} {K : PySem.W.Frag} {mg : Str → Option Value} {base : Heap} {a : Adr}
theorem sc_MoveInit : FnScope ["self", "number", "who", "step", "others", "other"] ["self", "number", "who", "step", "others"] (defScope s_Move_init) := ⟨rfl, rfl, rfl, by decide +kernel, rfl, by decide +kernel, by decide +kernel⟩
theorem ok_MoveInit (T : Txt K mg a) : FnOk P w K mg base CX0 2 (a.f 1400) (a.d 1400) ["self", "number", "who", "step", "others"] (spMoveInit a) := by
  refine T.in_Move.ok sc_MoveInit (fun vs H Q E h => ?_) (fun cdv A outer s H vs Q E hr h => ?_)
  · obtain ⟨p, dx, st, lo, i, j, w, os, rfl, _⟩ := h
    rfl
  · obtain ⟨p, dx, st, lo, i, j, w, os, rfl, hp, ⟨dst, hst⟩, hlo, hi, hj, ho, few, k⟩ := h
    have nd := sc_MoveInit.nd
    refine ⟨_, pss_cons (ps_fld (pv 0) (pv 1) rfl) (pss_cons (ps_fld (pv 0) (pv 2) rfl) (pss_cons (ps_fld (pv 0) (pe_fld (pv 3) rfl) rfl)
      (pss_cons (ps_fld (pv 0) (pe_op op_and (pe_fld (pv 3) rfl) (pe_un un_inv (pe_fld (pv 3) rfl))) rfl) (pss_cons (ps_fld (pv 0) (pe_fld (pv 3) rfl) rfl)
      (pss_cons (ps_for PassesOwn.never rfl (pi_list (pv 4)) (pg_name (i := 5) nd rfl (Or.inl rfl))
        (pss_one (ps_fldaug (pv 0) (pe_call (ok_did_bit T) hr rfl T.g_did_bit.at_ T.g_did_bit.fn.kp T.g_did_bit.b .nil pass0 (pa_cons (pv 5) (pa_cons (pv 2) pa_nil))) iop_or)))
      (pss_one (ps_if (pt_cmpR op_gt (pe_callB call_len_seq (by rfl) T.b_len PySem.boot_len (pa_cons (pv 4) pa_nil)) pe_int (nomark _))
        (pss_one (ps_fldaug (pv 0) (pe_call (ok_did_bit T) hr rfl T.g_did_bit.at_ T.g_did_bit.fn.kp T.g_did_bit.b .nil pass0 (pa_cons (pv 1) (pa_cons (pv 2) pa_nil))) iop_or)) pss_nil))))))), ?_⟩
    have nst : st ≠ p := ne_of hst hp (by intro z; injection z with _ _ z3; exact absurd (congrArg List.length z3) (by unfold stF; simp))
    have nlo : lo ≠ p := ne_of hlo hp (by intro z; cases z)
    refine ⟨_, rfl, _, rfl, p, a.c 14, dx, [], rfl, hp, T.cl_Move, T.n_Move_number, (by show 0 < 1000; decide), ?_⟩
    refine ⟨_, rfl, _, rfl, p, a.c 14, dx, _, rfl, upd_same, T.cl_Move, T.n_Move_who, (by show 1 < 1000; decide), ?_⟩
    rw [upd_upd]
    refine ⟨_, rfl, st, a.c 4, dst, _, _, rfl, (upd_ne nst).trans hst, T.cl_Step, T.n_Step_takes, rfl, _, rfl, p, a.c 14, dx, _, rfl, upd_same, T.cl_Move, T.n_Move_takes, (by show 2 < 1000; decide), ?_⟩
    rw [upd_upd]
    refine ⟨_, rfl, st, a.c 4, dst, _, _, rfl, (upd_ne nst).trans hst, T.cl_Step, T.n_Step_gives, rfl, _, rfl, st, a.c 4, dst, _, _, rfl, (upd_ne nst).trans hst, T.cl_Step, T.n_Step_takes, rfl, _, rfl, _, _, rfl, rfl, _, rfl, p, a.c 14, dx, _, rfl, upd_same, T.cl_Move, T.n_Move_bars, (by show 3 < 1000; decide), ?_⟩
    rw [upd_upd]
    refine ⟨_, rfl, st, a.c 4, dst, _, _, rfl, (upd_ne nst).trans hst, T.cl_Step, T.n_Step_gives, rfl, _, rfl, p, a.c 14, dx, _, rfl, upd_same, T.cl_Move, T.n_Move_brings, (by show 4 < 1000; decide), ?_⟩
    rw [upd_upd]
    refine ⟨_, rfl, lo, rfl, ⟨_, SqL.of ((upd_ne nlo).trans hlo)⟩, ?_⟩
    refine for_list (K := K) (a := lo) (xs := nums os) (fun t σ H' => ∃ v : Option V, σ = [some (.ref p), some (.int (i : Int)), some (.int (j : Int)), some (.ref st), some (.ref lo), v] ∧
      H' p = some (.ins (a.c 14) dx (mvF ⟨i, j, w.takes, barsOf (w.gives ^^^ (w.gives &&& w.takes)) (os.take t) j, w.gives⟩)) ∧ ∀ b o, H b = some o → b ≠ p → H' b = some o)
      ⟨none, rfl, Eq.trans upd_same ?_, fun b o e hb => by rw [upd_ne hb]; exact e⟩ (fun t σ H' _ ⟨_, _, _, s1⟩ => SqL.of (s1 _ _ hlo nlo)) ?_ ?_
    · have e := bAndNot w.gives w.takes
      show some (HO.ins (a.c 14) dx [("number", V.int (i : Int)), ("who", V.int (j : Int)), ("takes", V.int (w.takes : Int)), ("bars", V.int (Builtin.bitAnd (w.gives : Int) (Builtin.bitNot (w.takes : Int)))), ("brings", V.int (w.gives : Int))]) = _
      rw [e]
      rfl
    · rintro t y σ H' ht ⟨v, rfl, e1, s1⟩
      obtain ⟨o, hto, rfl⟩ := nums_get ht
      have ol := ho o (List.mem_of_getElem? hto)
      refine ⟨_, rfl, p, a.c 14, dx, _, _, rfl, e1, T.cl_Move, T.n_Move_bars, rfl, _, rfl, _, rfl, o, j, rfl, ol, hj, _, _, rfl, rfl, dx, _, e1, (by show 5 < 1000; decide), ?_⟩
      refine ⟨_, rfl, Eq.trans upd_same ?_, fun b o e hb => by rw [upd_ne hb]; exact s1 b o e hb⟩
      rw [take_one hto, barsOf_snoc]
      have e := bOr (barsOf (w.gives ^^^ (w.gives &&& w.takes)) (os.take t) j) (didBit o j)
      show some (HO.ins (a.c 14) dx [("number", V.int (i : Int)), ("who", V.int (j : Int)), ("takes", V.int (w.takes : Int)), ("bars", V.int (Builtin.bitOr _ _)), ("brings", V.int (w.gives : Int))]) = _
      rw [e]
      rfl
    · rintro σ H' ⟨v, rfl, e1, s1⟩
      rw [nums_len, List.take_length] at e1
      refine ⟨_, rfl, lo, _, rfl, .inl (SqL.of (s1 _ _ hlo nlo)), _, _, rfl, rfl, _, rfl, ?_⟩
      rw [nums_len]
      refine ite2 (fun h => ?_) (fun h => ?_)
      · have h : (0 : Int) < (os.length : Int) := of_decide_eq_true h
        refine ⟨_, rfl, p, a.c 14, dx, _, _, rfl, e1, T.cl_Move, T.n_Move_brings, rfl, _, rfl, _, rfl, i, j, rfl, hi, hj, _, _, rfl, rfl, dx, _, e1, (by show 5 < 1000; decide), ?_⟩
        refine k _ ⟨dx, Eq.trans upd_same ?_⟩ fun b o e hb => by rw [upd_ne hb]; exact s1 b o e hb
        unfold mvOf
        rw [if_neg (by omega)]
        have e := bOr w.gives (didBit i j)
        show some (HO.ins (a.c 14) dx [("number", V.int (i : Int)), ("who", V.int (j : Int)), ("takes", V.int (w.takes : Int)), ("bars", V.int _), ("brings", V.int (Builtin.bitOr _ _))]) = _
        rw [e]
        rfl
      · have h : ¬ (0 : Int) < (os.length : Int) := fun z => h (decide_eq_true z)
        refine k _ ⟨dx, ?_⟩ s1
        unfold mvOf
        rw [if_pos (by omega)]
        exact e1
theorem sc_fits : FnScope ["self", "case"] ["self", "case"] (defScope s_Move_fits) := ⟨rfl, rfl, rfl, by decide +kernel, rfl, by decide +kernel, by decide +kernel⟩
theorem ok_fits (T : Txt K mg a) : FnOk P w K mg base CX0 1 (a.f 1401) (a.d 1401) ["self", "case"] (spFits a) := by
  refine T.m_Move_fits.fn.ok sc_fits (fun vs H Q E h => ?_) (fun cdv A outer s H vs Q E hr h => ?_)
  · obtain ⟨a, w, m, rfl, _⟩ := h
    rfl
  · obtain ⟨p, m, n, rfl, ⟨dx, h1⟩, q⟩ := h
    refine ⟨_, pss_one (ps_ret (pe_and (pe_cmpR op_eq (pe_op op_and (pv 1) (pe_fld (pv 0) rfl)) (pe_fld (pv 0) rfl) (nomark _))
      (pe_one (pe_cmpR op_eq (pe_op op_and (pv 1) (pe_fld (pv 0) rfl)) pe_int (nomark _))))), ?_⟩
    refine ⟨_, rfl, _, rfl, p, a.c 14, dx, _, _, rfl, h1, T.cl_Move, T.n_Move_takes, rfl, _, _, rfl, rfl, _, rfl, p, a.c 14, dx, _, _, rfl, h1, T.cl_Move, T.n_Move_takes, rfl, rfl, _, rfl, ?_⟩
    have d1 : decide (V.int (Builtin.bitAnd (n : Int) (m.takes : Int)) = V.int (m.takes : Int)) = ((n &&& m.takes) == m.takes) := by
      rw [bAnd, nat_dec]; rfl
    have d2 : decide (V.int (Builtin.bitAnd (n : Int) (m.bars : Int)) = V.int 0) = ((n &&& m.bars) == 0) := by
      rw [bAnd]
      exact (nat_dec (b := 0)).trans rfl
    rw [d1]
    unfold fits at q
    refine ite2 (fun h => ?_) (fun h => ?_)
    · refine ⟨_, rfl, _, rfl, p, a.c 14, dx, _, _, rfl, h1, T.cl_Move, T.n_Move_bars, rfl, _, _, rfl, rfl, rfl, ?_⟩
      rw [h, Bool.true_and, ← d2] at q
      exact q
    · rw [Bool.eq_false_iff.mpr h] at q
      exact q
theorem sc_case_behind : FnScope ["self", "case"] ["self", "case"] (defScope s_Move_case_behind) := ⟨rfl, rfl, rfl, by decide +kernel, rfl, by decide +kernel, by decide +kernel⟩
theorem ok_case_behind (T : Txt K mg a) : FnOk P w K mg base CX0 1 (a.f 1402) (a.d 1402) ["self", "case"] (spCaseBehind a) := by
  refine T.m_Move_case_behind.fn.ok sc_case_behind (fun vs H Q E h => ?_) (fun cdv A outer s H vs Q E hr h => ?_)
  · obtain ⟨a, w, m, rfl, _⟩ := h
    rfl
  · obtain ⟨p, m, n, rfl, ⟨dx, h1⟩, q⟩ := h
    refine ⟨_, pss_one (ps_ret (pe_op op_or (pe_op op_and (pv 1) (pe_un un_inv (pe_fld (pv 0) rfl))) (pe_fld (pv 0) rfl))), ?_⟩
    refine ⟨_, rfl, _, rfl, p, a.c 14, dx, _, _, rfl, h1, T.cl_Move, T.n_Move_takes, rfl, _, rfl, _, _, rfl, rfl, _, rfl, p, a.c 14, dx, _, _, rfl, h1, T.cl_Move, T.n_Move_brings, rfl, _, _, rfl, rfl, ?_⟩
    have e : Builtin.bitOr (Builtin.bitAnd (n : Int) (Builtin.bitNot (m.takes : Int))) (m.brings : Int) = ((behind m n : Nat) : Int) := by rw [bAndNot, bOr]; rfl
    rw [← e] at q
    exact q
end
end Ew

namespace Ew
open PySem PySem.Spec PyProof.Rows L2 EwM
open Kct8 (Work isOn doubles can nexts Course Case Person)

structure MovesAt (a : Adr) (H : Hp) (l : Addr) (as : List Addr) (ms : List Mv) : Prop where
  lst : H l = some (.lst (as.map V.ref))
  len : as.length = ms.length
  at_ : ∀ (i : Nat) (p : Addr) (m : Mv), as[i]? = some p → ms[i]? = some m → MoveAt a H p m
theorem MovesAt.same {a : Adr} {H H' : Hp} {l : Addr} {as : List Addr} {ms : List Mv} (h : MovesAt a H l as ms) (s : Same H H') : MovesAt a H' l as ms :=
  ⟨s _ _ h.lst, h.len, fun i p w hp hw => (h.at_ i p w hp hw).same s⟩
theorem MovesAt.get {a : Adr} {H : Hp} {l : Addr} {as : List Addr} {ms : List Mv} (h : MovesAt a H l as ms) {i : Nat} {y : V} (hy : (as.map V.ref)[i]? = some y) : ∃ p m, y = .ref p ∧ ms[i]? = some m ∧ MoveAt a H p m := by
  obtain ⟨p, hp, rfl⟩ := get_map hy
  obtain ⟨m, hm⟩ := get_of (n := 0) hp h.len
  exact ⟨p, m, rfl, hm, h.at_ i p m hp hm⟩
/-- one more move is laid to the list -/
theorem MovesAt.push {a : Adr} {H : Hp} {l x : Addr} {as : List Addr} {ms : List Mv} {m : Mv} (h : MovesAt a H l as ms) (hx : MoveAt a H x m) : MovesAt a (upd H l (.lst (as.map V.ref ++ [V.ref x]))) l (as ++ [x]) (ms ++ [m]) := by
  have ne : ∀ {p : Addr} {m : Mv}, MoveAt a H p m → MoveAt a (upd H l (.lst (as.map V.ref ++ [V.ref x]))) p m := fun ⟨dx, e⟩ => ⟨dx, by rw [upd_ne (ne_of e h.lst (by intro z; cases z))]; exact e⟩
  refine ⟨by rw [upd_same, List.map_append]; rfl, by rw [List.length_append, List.length_append, h.len]; rfl, fun i p m' hp hm => ?_⟩
  by_cases hi : i < as.length
  · rw [List.getElem?_append_left hi] at hp
    rw [List.getElem?_append_left (by rw [← h.len]; exact hi)] at hm
    exact ne (h.at_ i p m' hp hm)
  · rw [List.getElem?_append_right (by omega)] at hp
    rw [List.getElem?_append_right (by rw [← h.len]; omega)] at hm
    rw [← h.len] at hm
    cases q : i - as.length with
    | zero =>
      rw [q] at hp hm
      cases Option.some.inj hp
      cases Option.some.inj hm
      exact ne hx
    | succ n => rw [q] at hp; simp at hp
def spMovesOf (a : Adr) : Sp := fun vs H Q _ => ∃ (c : Course) (lp ls la : Addr) (sa ta : List Addr), vs = [.ref lp, .ref ls, .ref la] ∧ H lp = some (.lst (c.people.map pV)) ∧ StepsAt a H ls sa c.works ∧ ApsAt H la ta c.aparts ∧ CourseOk c ∧ c.aparts.length ≤ 32 ∧
  ∀ (r : Addr) (H' : Hp) (as : List Addr), Same H H' → H r = none → MovesAt a H' r as (mvs c) → Q (.ref r) H'
theorem othersOf_len (c : Course) (i : Nat) (h : c.aparts.length ≤ 32) : (othersOf c i).length ≤ 64 := by
  unfold othersOf
  rw [List.length_append, List.length_map, List.length_map]
  have h1 := List.length_filter_le (fun z : Nat × Nat => z.2 == i) c.aparts
  have h2 := List.length_filter_le (fun z : Nat × Nat => z.1 == i) c.aparts
  omega
theorem mvsTo_len (c : Course) (h : CourseOk c) (i p : Nat) (hi : i ≤ 16) (hp : p ≤ 8) : (mvsTo c i p).length ≤ 136 := by
  unfold mvsTo
  rw [List.length_append]
  have one : ∀ k, ((List.range c.people.length).filterMap (cellOf c k)).length ≤ 8 := fun k => by
    have := List.length_filterMap_le (cellOf c k) (List.range c.people.length)
    rw [List.length_range] at this
    exact Nat.le_trans this h.pl
  have all : ∀ n, ((List.range n).flatMap fun k => (List.range c.people.length).filterMap (cellOf c k)).length ≤ n * 8 := by
    intro n
    induction n with
    | zero => simp
    | succ n ih =>
      rw [List.range_succ, List.flatMap_append, List.length_append]
      have := one n
      simp only [List.flatMap_cons, List.flatMap_nil, List.append_nil]
      omega
  have h1 := all i
  have h2 := List.length_filterMap_le (cellOf c i) (List.range p)
  rw [List.length_range] at h2
  omega
section
variable {P : Program} {w : World} {K : PySem.W.Frag} {mg : Str → Option Value} {base : Heap} {a : Adr}
theorem sc_moves_of : FnScope ["people", "steps", "told_apart", "moves", "number", "step", "others", "who", "parts"] ["people", "steps", "told_apart"] (defScope s_moves_of) := ⟨rfl, rfl, rfl, by decide +kernel, rfl, by decide +kernel, by decide +kernel⟩
theorem ok_moves_of (T : Txt K mg a) : FnOk P w K mg base CX0 4 (a.f 15) (a.d 15) ["people", "steps", "told_apart"] (spMovesOf a) := by
  refine T.g_moves_of.fn.ok sc_moves_of (fun vs H Q E h => ?_) (fun cdv A outer s H vs Q E hr h => ?_)
  · obtain ⟨c, lp, ls, la, sa, ta, rfl, _⟩ := h
    rfl
  · obtain ⟨c, lp, ls, la, sa, ta, rfl, hp, S, Ap, ok, few, k⟩ := h
    have nd := sc_moves_of.nd
    have hr1 := hr.mono (j := 1) (by decide)
    refine ⟨_, pss_cons (ps_set (i := 3) nd rfl (Or.inl rfl) (pe_lst pa_nil))
      (pss_cons (ps_for PassesOwn.never rfl (pi_enum rfl T.b_enumerate (pa_cons (pv 1) pa_nil)) (pg_tup rfl (pgs_cons (pg_name (i := 4) nd rfl (Or.inl rfl)) (pgs_cons (pg_name (i := 5) nd rfl (Or.inl rfl)) pgs_nil)))
        (pss_cons (ps_set (i := 6) nd rfl (Or.inl rfl) (pe_call (ok_apart_from T) hr1 rfl T.g_apart_from.at_ T.g_apart_from.fn.kp T.g_apart_from.b .nil pass0 (pa_cons (pv 4) (pa_cons (pv 2) pa_nil))))
        (pss_one (ps_for PassesOwn.never rfl (pi_enum rfl T.b_enumerate (pa_cons (pv 0) pa_nil)) (pg_tup rfl (pgs_cons (pg_name (i := 7) nd rfl (Or.inl rfl)) (pgs_cons (pg_name (i := 8) nd rfl (Or.inl rfl)) pgs_nil)))
          (pss_one (ps_if (pt_val (pe_call (ok_plays T) hr1 rfl T.g_plays.at_ T.g_plays.fn.kp T.g_plays.b .nil pass0 (pa_cons (pv 8) (pa_cons (pe_fld (pv 5) rfl) pa_nil))))
            (pss_one (ps_expr (pe_bm PySem.F.plainAttrs_list PySem.F.slot_list_append PySem.F.type_list_append mt_append (pv 3) (pa_cons (pe_make T.mk_Move (ok_MoveInit T) hr rfl T.mg_Move T.bi_Move .nil pass0 (pa_cons (pv 4) (pa_cons (pv 7) (pa_cons (pv 5) (pa_cons (pv 6) pa_nil))))) pa_nil)))) pss_nil))))))
      (pss_one (ps_ret (pv 3)))), ?_⟩
    refine ⟨Nat.zero_le _, fun r n1 => ?_⟩
    refine ⟨_, rfl, ls, _, rfl, SqL.of (Same.new n1 _ _ S.lst), ?_⟩
    refine for_enum (K := K) (a := ls) (xs := sa.map V.ref) (fun i σ H1 => ∃ v4 v5 v6 v7 v8 : Option V, σ = [some (.ref lp), some (.ref ls), some (.ref la), some (.ref r), v4, v5, v6, v7, v8] ∧ Same H H1 ∧ ∃ as, MovesAt a H1 r as (mvsTo c i 0))
      ⟨none, none, none, none, none, rfl, Same.new n1, [], upd_same, rfl, fun i p m hp => by simp at hp⟩ (fun i σ H1 _ ⟨_, _, _, _, _, _, s1, _⟩ => SqL.of (s1 _ _ S.lst)) ?_ ?_
    · rintro i y σ H1 T1 hi ⟨v4, v5, v6, v7, v8, rfl, s1, as, M⟩ nT1
      obtain ⟨st, wk, rfl, hw, hst⟩ := S.get hi
      have i16 : i < 16 := Nat.lt_of_lt_of_le (List.getElem?_eq_some_iff.mp hw).1 ok.wl
      refine ⟨T1, _, rfl, SqT.of upd_same, rfl, _, _, rfl, _, _, rfl, rfl, ?_⟩
      have s2 : Same H1 (upd H1 T1 (.tup [.int (i : Nat), .ref st])) := Same.new nT1
      refine ⟨_, rfl, _, rfl, c, i, la, ta, rfl, Ap.same (s1.trans s2), few, fun lo H2 s3 n3 e3 => ?_⟩
      have sH2 : Same H H2 := s1.trans (s2.trans s3)
      have M2 := M.same (s2.trans s3)
      have nlr : lo ≠ r := (ne_of_none (s2 _ _ M.lst) n3).symm
      have hlo : H lo = none := (s1.trans s2).free n3
      refine ⟨_, rfl, lp, _, rfl, SqL.of (sH2 _ _ hp), ?_⟩
      refine for_enum (K := K) (a := lp) (xs := c.people.map pV) (fun p σ H3 => ∃ v7 v8 : Option V, σ = [some (.ref lp), some (.ref ls), some (.ref la), some (.ref r), some (.int (i : Nat)), some (.ref st), some (.ref lo), v7, v8] ∧ Same H H3 ∧ H3 lo = some (.lst (nums (othersOf c i))) ∧ ∃ as, MovesAt a H3 r as (mvsTo c i p))
        ⟨v7, v8, rfl, sH2, e3, as, M2⟩ (fun p σ H3 _ ⟨_, _, _, s4, _⟩ => SqL.of (s4 _ _ hp)) ?_ ?_
      · rintro p y σ H3 T3 hpy ⟨v7, v8, rfl, s4, e4, as, M3⟩ nT3
        obtain ⟨q, hq, rfl⟩ := get_map hpy
        have pl : p < c.people.length := (List.getElem?_eq_some_iff.mp hq).1
        have p8 : p < 8 := Nat.lt_of_lt_of_le pl ok.pl
        refine ⟨T3, _, rfl, SqT.of upd_same, rfl, _, _, rfl, _, _, rfl, rfl, ?_⟩
        have s5 : Same H3 (upd H3 T3 (.tup [.int (p : Nat), pV q])) := Same.new nT3
        have sH5 := s4.trans s5
        obtain ⟨dst, hdst⟩ := hst.same sH5
        refine ⟨_, rfl, _, rfl, st, a.c 4, dst, _, _, rfl, hdst, T.cl_Step, T.n_Step_part, rfl, q, wk.part, rfl, _, rfl, ?_⟩
        have pe : Kct8.plays c i p = (q.there && q.parts.testBit wk.part) := by unfold Kct8.plays; rw [hw, hq]
        rw [← pe]
        have cell : cellOf c i p = if Kct8.plays c i p = true then some (mvOf wk (othersOf c i) i p) else none := by unfold EwM.cellOf; rw [hw]
        refine ite2 (fun h => ?_) (fun h => ?_)
        · refine ⟨_, rfl, .inl ⟨rfl, _, SqL.of (s5 _ _ M3.lst)⟩, _, rfl, _, rfl, _, rfl, _, rfl, fun x dx nx ndx ne => ?_⟩
          have ex : ∀ {b o}, (upd H3 T3 (.tup [.int (p : Nat), pV q])) b = some o → (upd (upd (upd H3 T3 (.tup [.int (p : Nat), pV q])) dx (.own x)) x (.ins (a.c 14) dx [])) b = some o := fun {b o} e => by
            rw [upd_ne (ne_of_none e nx), upd_ne (ne_of_none e ndx)]; exact e
          refine ⟨x, dx, st, lo, i, p, wk, othersOf c i, rfl, upd_same, ⟨dst, ex hdst⟩, ex (s5 _ _ e4), i16, p8, fun k hk => Nat.lt_of_lt_of_le (others_lt ok hk) ok.wl, othersOf_len c i few, fun H6 hM kp => ⟨rfl, ?_⟩⟩
          have s6 : Same (upd H3 T3 (.tup [.int (p : Nat), pV q])) H6 := Same.made nx ndx kp
          have M6 := M3.same (s5.trans s6)
          have l6 : (as.map V.ref).length ≤ 136 := by
            rw [List.length_map, M3.len]
            exact mvsTo_len c ok i p (by omega) (by omega)
          refine ⟨r, _, _, rfl, rfl, M6.lst, small l6 (by decide), _, _, rfl, fun b o e => ?_, ?_, as ++ [x], ?_⟩
          · rw [upd_ne (ne_of_none e n1)]; exact s6 _ _ (s5 _ _ (s4 _ _ e))
          · rw [upd_ne nlr]; exact s6 _ _ (s5 _ _ e4)
          · rw [mvsTo_step, cell, if_pos h]
            exact M6.push hM
        · refine ⟨_, _, rfl, sH5, s5 _ _ e4, as, ?_⟩
          rw [mvsTo_step, cell, if_neg h]
          show MovesAt a _ r as (mvsTo c i p ++ [])
          rw [List.append_nil]
          exact M3.same s5
      · rintro σ H3 ⟨v7, v8, rfl, s4, e4, as, M3⟩
        rw [List.length_map, mvsTo_row] at M3
        exact ⟨_, _, _, _, _, rfl, s4, as, M3⟩
    · rintro σ H1 ⟨v4, v5, v6, v7, v8, rfl, s1, as, M⟩
      rw [List.length_map, S.len] at M
      exact ⟨_, rfl, k r H1 as s1 n1 M⟩
end
end Ew

namespace Ew
open PySem PySem.Spec PyProof.Rows L2 EwM
open Kct8 (Work isOn doubles can nexts Course Case Person onward)

/-! ### the table of what was met -/
def FirstV (a : Adr) (H : Hp) (f : Option Kct8.Move) (v : V) : Prop := match f with
  | none => v = .non
  | some mv => ∃ p m, v = .ref p ∧ MoveAt a H p m ∧ nw m = mv
theorem FirstV.keep {a : Adr} {H H' : Hp} {f : Option Kct8.Move} {v : V} (h : FirstV a H f v) (k : ∀ p m, MoveAt a H p m → MoveAt a H' p m) : FirstV a H' f v := by
  cases f with
  | none => exact h
  | some mv => obtain ⟨p, m, e, hm, q⟩ := h; exact ⟨p, m, e, k p m hm, q⟩
abbrev key (x : Case) : Key := Sum.inl ((enc x : Nat) : Int)
theorem key_inj {n : Nat} {x y : Case} (hx : CaseOk n x) (hy : CaseOk n y) (e : key x = key y) : x = y := enc_inj hx hy (by have := Sum.inl.inj e; omega)
structure Tab (a : Adr) (H : Hp) (n : Nat) (kvs : List (Key × V)) (r : Kct8.Rows) (seen : List Case) (acc : Kct8.Rows) : Prop where
  keys : kvs.map (·.1) = (seen ++ acc.map Prod.fst).map key
  ok : ∀ x ∈ seen ++ acc.map Prod.fst, CaseOk n x
  vals : ∀ y ∈ r ++ acc, ∃ v, valV kvs (key y.1) = some v ∧ FirstV a H y.2 v
  sub : ∀ y ∈ r, y.1 ∈ seen
section
variable {a : Adr} {H H' : Hp} {n : Nat} {kvs : List (Key × V)} {r acc : Kct8.Rows} {seen : List Case}
theorem Tab.len (t : Tab a H n kvs r seen acc) : kvs.length = seen.length + acc.length := by
  have := congrArg List.length t.keys
  rw [List.length_map, List.length_map, List.length_append, List.length_map] at this
  exact this
theorem Tab.keep (t : Tab a H n kvs r seen acc) (k : ∀ p m, MoveAt a H p m → MoveAt a H' p m) : Tab a H' n kvs r seen acc :=
  ⟨t.keys, t.ok, fun y hy => let ⟨v, e, f⟩ := t.vals y hy; ⟨v, e, f.keep k⟩, t.sub⟩
theorem Tab.mem (t : Tab a H n kvs r seen acc) {y : Case} (hy : CaseOk n y) : (valV kvs (key y)).isSome = true ↔ y ∈ seen ++ acc.map Prod.fst := by
  rw [← valV_any, List.any_eq_true]
  constructor
  · rintro ⟨p, hp, e⟩
    have m : p.1 ∈ kvs.map (·.1) := List.mem_map.mpr ⟨p, hp, rfl⟩
    rw [t.keys, of_decide_eq_true e] at m
    obtain ⟨x, hx, ex⟩ := List.mem_map.mp m
    rw [← key_inj (t.ok x hx) hy ex]
    exact hx
  · intro m
    have m' : key y ∈ kvs.map (·.1) := by rw [t.keys]; exact List.mem_map.mpr ⟨y, m, rfl⟩
    obtain ⟨p, hp, e⟩ := List.mem_map.mp m'
    exact ⟨p, hp, decide_eq_true e⟩
theorem Tab.rows (t : Tab a H n kvs r seen acc) {y : Case × Option Kct8.Move} (hy : y ∈ r ++ acc) : y.1 ∈ seen ++ acc.map Prod.fst := by
  rcases List.mem_append.mp hy with q | q
  · exact List.mem_append_left _ (t.sub y q)
  · exact List.mem_append_right _ (List.mem_map.mpr ⟨y, q, rfl⟩)
/-- a new one is noted -/
theorem Tab.put (t : Tab a H n kvs r seen acc) {y : Case} {f : Option Kct8.Move} {v : V} (hy : CaseOk n y) (new : y ∉ seen ++ acc.map Prod.fst) (fv : FirstV a H f v) : Tab a H n (putK kvs (key y) v) r seen (acc ++ [(y, f)]) := by
  have no : valV kvs (key y) = none := by
    cases q : valV kvs (key y) with
    | none => rfl
    | some v => exact absurd ((t.mem hy).mp (by rw [q]; rfl)) new
  refine ⟨?_, ?_, ?_, t.sub⟩
  · rw [putK_new v no, List.map_append, t.keys, List.map_append (f := Prod.fst), ← List.append_assoc, List.map_append (l₂ := [(y, f)].map Prod.fst)]
    rfl
  · intro x hx
    rw [List.map_append, ← List.append_assoc] at hx
    rcases List.mem_append.mp hx with q | q
    · exact t.ok x q
    · have e : x = y := by simpa using q
      rw [e]; exact hy
  · intro z hz
    rw [← List.append_assoc] at hz
    rcases List.mem_append.mp hz with q | q
    · obtain ⟨u, e, g⟩ := t.vals z q
      refine ⟨u, ?_, g⟩
      rw [valV_put, if_neg fun z1 => new ?_]
      · exact e
      · have zm := t.rows q
        rw [← key_inj (t.ok _ zm) hy z1]
        exact zm
    · have e : z = (y, f) := by simpa using q
      rw [e]
      exact ⟨v, by rw [valV_put, if_pos rfl], fv⟩
end
theorem nw_mv {c : Course} {x : Case} {m : Mv} (ok : CourseOk c) (hx : CaseOk c.people.length x) (hm : m ∈ mvs c) (hf : fits m (enc x) = true) : behind m (enc x) = enc (Kct8.done c x (nw m).1 (nw m).2) ∧ CaseOk c.people.length (Kct8.done c x (nw m).1 (nw m).2) := by
  obtain ⟨i, p, w, hw, hp, _, rfl⟩ := mvs_mem hm
  rw [fits_iff ok hx hw hp, Bool.and_eq_true] at hf
  have on : isOn w x.marks = true := by
    have := hf.1
    unfold can at this
    rw [Bool.and_eq_true] at this
    exact this.1
  exact ⟨behind_enc ok hx hw hp on, done_ok ok hx hw⟩
def encs (r : Kct8.Rows) : List Nat := r.map fun y => enc y.1
def spThose (a : Adr) : Sp := fun vs H Q _ => ∃ (c : Course) (ml nl bd : Addr) (as : List Addr) (r : Kct8.Rows) (seen : List Case) (kvs : List (Key × V)), vs = [.ref ml, .ref nl, .ref bd] ∧ CourseOk c ∧ MovesAt a H ml as (mvs c) ∧
  H nl = some (.lst (nums (encs r))) ∧ H bd = some (.dK kvs) ∧ Tab a H c.people.length kvs r seen [] ∧ seen.length ≤ 1024 ∧
  ∀ (q : Addr) (H' : Hp) (kvs' : List (Key × V)) (acc : Kct8.Rows), (∀ b o, H b = some o → b ≠ bd → H' b = some o) → H q = none → H' q = some (.lst (nums (encs acc))) → H' bd = some (.dK kvs') → Tab a H' c.people.length kvs' r seen acc →
    (acc = onward c r seen ∨ (1024 < seen.length + acc.length ∧ 1024 < seen.length + (onward c r seen).length)) → Q (.ref q) H'
section
variable {P : Program} {w : World} {K : PySem.W.Frag} {mg : Str → Option Value} {base : Heap} {a : Adr}
theorem sc_those : FnScope ["moves", "newest", "begun_by", "coming", "earlier", "move", "later"] ["moves", "newest", "begun_by"] (defScope s_those_that_come) := ⟨rfl, rfl, rfl, by decide +kernel, rfl, by decide +kernel, by decide +kernel⟩
theorem ok_those (T : Txt K mg a) : FnOk P w K mg base CX0 2 (a.f 19) (a.d 19) ["moves", "newest", "begun_by"] (spThose a) := by
  refine T.g_those_that_come.fn.ok sc_those (fun vs H Q E h => ?_) (fun cdv A outer s H vs Q E hr h => ?_)
  · obtain ⟨c, ml, nl, bd, as, r, seen, kvs, rfl, _⟩ := h
    rfl
  · obtain ⟨c, ml, nl, bd, as, r, seen, kvs, rfl, ok, M, hnl, hbd, tb, few, k⟩ := h
    have nd := sc_those.nd
    have hu := hu_of hr
    refine ⟨_, pss_cons (ps_set (i := 3) nd rfl (Or.inl rfl) (pe_lst pa_nil))
      (pss_cons (ps_for PassesOwn.never rfl (pi_list (pv 1)) (pg_name (i := 4) nd rfl (Or.inl rfl))
        (pss_cons (ps_for PassesOwn.never rfl (pi_list (pv 0)) (pg_name (i := 5) nd rfl (Or.inl rfl))
          (pss_one (ps_if (pt_val (pe_meth (pv 5) T.cl_Move T.m_Move_fits.m (ok_fits T) hr T.m_Move_fits.b .nil pass0 (pa_cons (pv 4) pa_nil)))
            (pss_cons (ps_set (i := 6) nd rfl (Or.inl rfl) (pe_meth (pv 5) T.cl_Move T.m_Move_case_behind.m (ok_case_behind T) hr T.m_Move_case_behind.b .nil pass0 (pa_cons (pv 4) pa_nil)))
            (pss_one (ps_if (pt_cmp (pc_dnotin hu (pv 6) (pv 2)))
              (pss_cons (ps_dput hu (pv 2) (pv 6) (pe_ifExp (pt_cmp (pc_isN (pe_dget hu (pv 2) (pv 4) (fun _ _ => rfl)))) (pv 5) (pe_dget hu (pv 2) (pv 4) (fun _ _ => rfl))) rfl)
              (pss_one (ps_expr (pe_bm PySem.F.plainAttrs_list PySem.F.slot_list_append PySem.F.type_list_append mt_append (pv 3) (pa_cons (pv 6) pa_nil))))) pss_nil))) pss_nil)))
        (pss_one (ps_if (pt_cmpR op_gt (pe_callB call_lenD (by rfl) T.b_len PySem.boot_len (pa_cons (pv 2) pa_nil)) (pcon T.c_MOST_TOGETHER) (nomark _)) (pss_one ps_break) pss_nil))))
      (pss_one (ps_ret (pv 3)))), ?_⟩
    refine ⟨Nat.zero_le _, fun q n1 => ?_⟩
    have s1 : Same H (upd H q (.lst [])) := Same.new n1
    have nqb : bd ≠ q := ne_of_none hbd n1
    have movN : ∀ {H1 : Hp} {p : Addr} {m : Mv} {b : Addr} {o : HO}, MoveAt a H1 p m → (∀ C dx fs, H1 b ≠ some (.ins C dx fs)) → MoveAt a (upd H1 b o) p m := fun {H1 p m b o} ⟨dx, e⟩ nb => ⟨dx, by
      rw [upd_ne (fun z => by subst z; exact nb _ _ _ e)]; exact e⟩
    refine ⟨_, rfl, nl, rfl, ⟨_, SqL.of (s1 _ _ hnl)⟩, ?_⟩
    -- what stands ahead of the i-th of the newest
    refine for_list (K := K) (a := nl) (xs := nums (encs r)) (fun i σ H1 => ∃ (v4 v5 v6 : Option V) (kvs1 : List (Key × V)), σ = [some (.ref ml), some (.ref nl), some (.ref bd), some (.ref q), v4, v5, v6] ∧ (∀ b o, H b = some o → b ≠ bd → H1 b = some o) ∧
        H1 q = some (.lst (nums (encs (onward c (r.take i) seen)))) ∧ H1 bd = some (.dK kvs1) ∧ Tab a H1 c.people.length kvs1 r seen (onward c (r.take i) seen) ∧ seen.length + (onward c (r.take i) seen).length ≤ 1024)
      ⟨none, none, none, kvs, rfl, fun b o e _ => s1 b o e, upd_same, s1 _ _ hbd, tb.keep (fun p m h => h.same s1), (by rw [List.take_zero, onward_nil]; exact few)⟩
      (fun i σ H1 _ ⟨_, _, _, _, _, k1, _⟩ => SqL.of (k1 _ _ hnl (ne_of hnl hbd (by intro z; cases z)))) ?_ ?_
    · rintro i y σ H1 hi ⟨v4, v5, v6, kvs1, rfl, k1, e1, b1, t1, few1⟩
      obtain ⟨e, he, rfl⟩ := nums_get hi
      obtain ⟨x, hx, rfl⟩ : ∃ x, r[i]? = some x ∧ enc x.1 = e := by
        unfold encs at he
        rw [List.getElem?_map] at he
        cases q : r[i]? with
        | none => rw [q] at he; cases he
        | some x => rw [q] at he; exact ⟨x, rfl, Option.some.inj he⟩
      have xm : x ∈ r := List.mem_of_getElem? hx
      have xok : CaseOk c.people.length x.1 := t1.ok _ (t1.rows (List.mem_append_left _ xm))
      have M1 : MovesAt a H1 ml as (mvs c) := ⟨k1 _ _ M.lst (ne_of M.lst hbd (by intro z; cases z)), M.len, fun j p m hp hm => let ⟨dx, e⟩ := M.at_ j p m hp hm; ⟨dx, k1 _ _ e (ne_of e hbd (by intro z; cases z))⟩⟩
      refine ⟨_, rfl, ml, rfl, ⟨_, SqL.of M1.lst⟩, ?_⟩
      -- what stands ahead of the j-th move
      refine for_list (K := K) (a := ml) (xs := as.map V.ref) (fun j σ H2 => ∃ (v5 v6 : Option V) (kvs2 : List (Key × V)) (acc : Kct8.Rows), σ = [some (.ref ml), some (.ref nl), some (.ref bd), some (.ref q), some (.int ((enc x.1 : Nat) : Int)), v5, v6] ∧
          acc = lay1 c seen x (onward c (r.take i) seen) ((((mvs c).take j).filter fun m => fits m (enc x.1)).map nw) ∧ (∀ b o, H b = some o → b ≠ bd → H2 b = some o) ∧
          H2 q = some (.lst (nums (encs acc))) ∧ H2 bd = some (.dK kvs2) ∧ Tab a H2 c.people.length kvs2 r seen acc)
        ⟨v5, v6, kvs1, _, rfl, rfl, k1, e1, b1, t1⟩ (fun j σ H2 _ ⟨_, _, _, _, _, _, k2, _⟩ => SqL.of (k2 _ _ M.lst (ne_of M.lst hbd (by intro z; cases z)))) ?_ ?_
      · rintro j y σ H2 hj ⟨v5, v6, kvs2, acc, rfl, eacc, k2, e2, b2, t2⟩
        obtain ⟨mp, m, rfl, hm, _⟩ := M.get hj
        have hm2 : MoveAt a H2 mp m := let ⟨dx, e⟩ := M.at_ j mp m (by obtain ⟨z, hz, ez⟩ := get_map hj; cases ez; exact hz) hm; ⟨dx, k2 _ _ e (ne_of e hbd (by intro z; cases z))⟩
        have fl := take_fil (fun m : Mv => fits m (enc x.1)) hm
        have lenL : acc.length ≤ 1024 + 128 := by
          have h1 := lay1_le c seen x (onward c (r.take i) seen) ((((mvs c).take j).filter fun m => fits m (enc x.1)).map nw)
          rw [← eacc, List.length_map] at h1
          have h2 := List.length_filter_le (fun m => fits m (enc x.1)) ((mvs c).take j)
          have h3 : ((mvs c).take j).length ≤ (mvs c).length := by rw [List.length_take]; exact Nat.min_le_right _ _
          have h4 := mvs_len c ok
          omega
        obtain ⟨dm, hdm⟩ := hm2
        refine ⟨_, rfl, mp, dm, _, rfl, hdm, rfl, _, rfl, mp, m, enc x.1, rfl, ⟨dm, hdm⟩, _, rfl, ?_⟩
        refine ite2 (fun hf => ?_) (fun hf => ?_)
        · obtain ⟨be, yok⟩ := nw_mv ok xok (List.mem_of_getElem? hm) hf
          refine ⟨_, rfl, mp, dm, _, rfl, hdm, rfl, _, rfl, mp, m, enc x.1, rfl, ⟨dm, hdm⟩, ?_⟩
          rw [be]
          refine ⟨_, rfl, _, rfl, bd, _, rfl, DGet.k (k := key (Kct8.done c x.1 (nw m).1 (nw m).2)) b2, _, rfl, ?_⟩
          rw [if_pos hf] at fl
          have step : lay1 c seen x (onward c (r.take i) seen) ((((mvs c).take (j + 1)).filter fun m => fits m (enc x.1)).map nw) =
              if Kct8.done c x.1 (nw m).1 (nw m).2 ∈ seen ++ acc.map Prod.fst then acc else acc ++ [(Kct8.done c x.1 (nw m).1 (nw m).2, firstOf x.2 (nw m))] := by
            rw [fl, List.map_append]
            show lay1 c seen x (onward c (r.take i) seen) (_ ++ [nw m]) = _
            rw [lay1_snoc, ← eacc]
          by_cases mem : Kct8.done c x.1 (nw m).1 (nw m).2 ∈ seen ++ acc.map Prod.fst
          · have yes := (t2.mem yok).mpr mem
            rw [yes]
            refine iteF ⟨_, _, kvs2, acc, rfl, ?_, k2, e2, b2, t2⟩
            rw [step, if_pos mem]
          · have no : (valV kvs2 (key (Kct8.done c x.1 (nw m).1 (nw m).2))).isSome = false := by
              rw [Bool.eq_false_iff]; exact fun z => mem ((t2.mem yok).mp z)
            rw [no]
            obtain ⟨v0, g0, f0⟩ := t2.vals x (List.mem_append_left _ xm)
            rw [if_neg mem] at step
            have lk : kvs2.length < sizeLine := small (m := 4000) (by have := t2.len; omega) (by decide)
            -- what is noted for the new one
            have fin : ∀ v, FirstV a H2 (firstOf x.2 (nw m)) v → (∃ H4, DPut H2 bd (V.int ((enc (Kct8.done c x.1 (nw m).1 (nw m).2) : Nat) : Int)) v H4 ∧ (fun H4 => ∃ l xs y, (V.ref q) = V.ref l ∧ [V.int ((enc (Kct8.done c x.1 (nw m).1 (nw m).2) : Nat) : Int)] = [y] ∧ H4 l = some (.lst xs) ∧ xs.length < sizeLine ∧
                ∃ (v5 v6 : Option V) (kvs2 : List (Key × V)) (acc : Kct8.Rows), [some (.ref ml), some (.ref nl), some (.ref bd), some (.ref q), some (.int ((enc x.1 : Nat) : Int)), some (V.ref mp), some (V.int ((enc (Kct8.done c x.1 (nw m).1 (nw m).2) : Nat) : Int))] = [some (.ref ml), some (.ref nl), some (.ref bd), some (.ref q), some (.int ((enc x.1 : Nat) : Int)), v5, v6] ∧
                acc = lay1 c seen x (onward c (r.take i) seen) ((((mvs c).take (j + 1)).filter fun m => fits m (enc x.1)).map nw) ∧ (∀ b o, H b = some o → b ≠ bd → (upd H4 l (.lst (xs ++ [y]))) b = some o) ∧
                (upd H4 l (.lst (xs ++ [y]))) q = some (.lst (nums (encs acc))) ∧ (upd H4 l (.lst (xs ++ [y]))) bd = some (.dK kvs2) ∧ Tab a (upd H4 l (.lst (xs ++ [y]))) c.people.length kvs2 r seen acc) H4) := by
              intro v fv
              refine ⟨_, DPut.k (k := key (Kct8.done c x.1 (nw m).1 (nw m).2)) b2 lk, q, _, _, rfl, rfl, (upd_ne nqb.symm).trans e2, small (m := 4000) (by rw [nums_len]; unfold encs; rw [List.length_map]; omega) (by decide), _, _, putK kvs2 (key (Kct8.done c x.1 (nw m).1 (nw m).2)) v, acc ++ [(Kct8.done c x.1 (nw m).1 (nw m).2, firstOf x.2 (nw m))], rfl, step.symm, fun b o e hb => ?_, ?_, ?_, ?_⟩
              · rw [upd_ne (ne_of_none e n1), upd_ne hb]; exact k2 b o e hb
              · rw [upd_same]
                unfold encs
                rw [List.map_append, ← nums_snoc]
                rfl
              · rw [upd_ne nqb, upd_same]
              · refine (t2.put yok mem fv).keep fun p m' hm' => ?_
                refine movN (movN hm' fun C dx fs z => ?_) fun C dx fs z => ?_
                · rw [b2] at z; cases z
                · rw [upd_ne nqb.symm, e2] at z; cases z
            refine iteT ⟨_, rfl, _, rfl, bd, v0, rfl, (by rw [← g0]; exact DGet.k (k := key x.1) b2), _, rfl, ?_⟩
            refine ite2 (fun hn => ?_) (fun hn => ?_)
            · have hn : v0 = .non := of_decide_eq_true hn
              have xn : x.2 = none := by
                cases q : x.2 with
                | none => rfl
                | some f => rw [q] at f0; obtain ⟨p, m, e, _⟩ := f0; rw [e] at hn; cases hn
              obtain ⟨H4, d4, l, xs, y, a1, a2, a3, a4, a5⟩ := fin (.ref mp) (by rw [xn]; exact ⟨mp, m, rfl, ⟨dm, hdm⟩, rfl⟩)
              exact ⟨_, rfl, _, rfl, _, rfl, bd, H4, rfl, d4, _, rfl, .inl ⟨rfl, _, SqL.of (by cases a1; exact a3)⟩, _, rfl, l, xs, y, a1, a2, a3, a4, a5⟩
            · have hn : ¬ v0 = .non := fun z => hn (decide_eq_true z)
              obtain ⟨f, xs⟩ : ∃ f, x.2 = some f := by
                cases q : x.2 with
                | none => rw [q] at f0; exact absurd f0 hn
                | some f => exact ⟨f, rfl⟩
              obtain ⟨H4, d4, l, xs, y, a1, a2, a3, a4, a5⟩ := fin v0 (by rw [xs]; rw [xs] at f0; exact f0)
              exact ⟨_, rfl, _, rfl, bd, v0, rfl, (by rw [← g0]; exact DGet.k (k := key x.1) b2), _, rfl, _, rfl, bd, H4, rfl, d4, _, rfl, .inl ⟨rfl, _, SqL.of (by cases a1; exact a3)⟩, _, rfl, l, xs, y, a1, a2, a3, a4, a5⟩
        · refine ⟨_, _, kvs2, acc, rfl, ?_, k2, e2, b2, t2⟩
          rw [if_neg hf, List.append_nil] at fl
          rw [fl, eacc]
      · rintro σ H2 ⟨v5, v6, kvs2, acc, rfl, eacc, k2, e2, b2, t2⟩
        have full : acc = onward c (r.take (i + 1)) seen := by
          rw [eacc, List.length_map, M.len, List.take_length, take_one hx, onward_snoc, moves_eq ok xok]
        subst full
        refine ⟨_, rfl, bd, _, rfl, b2, _, _, rfl, rfl, _, rfl, ?_⟩
        have hl := t2.len
        refine ite2 (fun h => ?_) (fun h => ?_)
        · have h : (1024 : Int) < (kvs2.length : Int) := of_decide_eq_true h
          have mono := onward_take c seen r (i + 1)
          refine ⟨_, rfl, k q H2 kvs2 _ k2 n1 e2 b2 t2 (.inr ⟨by omega, by omega⟩)⟩
        · have h : ¬ (1024 : Int) < (kvs2.length : Int) := fun z => h (decide_eq_true z)
          exact ⟨_, _, _, kvs2, rfl, k2, e2, b2, t2, by omega⟩
    · rintro σ H1 ⟨v4, v5, v6, kvs1, rfl, k1, e1, b1, t1, few1⟩
      have el : (nums (encs r)).length = r.length := by rw [nums_len]; unfold encs; rw [List.length_map]
      rw [el, List.take_length] at e1 t1
      exact ⟨_, rfl, k q H1 kvs1 _ k1 n1 e1 b1 t1 (.inl rfl)⟩
end
end Ew

namespace Ew
open PySem PySem.Spec PyProof.Rows L2 EwM
open Kct8 (Work isOn doubles can nexts Course Case Person onward)

def zs (l : List Int) : List V := l.map V.int
def spHowFar (a : Adr) : Sp := fun vs H Q _ => ∃ (c : Course) (ml : Addr) (as : List Addr) (x : Case), vs = [.ref ml, .int ((enc x : Nat) : Int)] ∧ CourseOk c ∧ CaseOk c.people.length x ∧ MovesAt a H ml as (mvs c) ∧
  ∀ (r : Addr) (H' : Hp), Same H H' → H r = none → H' r = some (.lst (zs (farL (Kct8.far c x)))) → Q (.ref r) H'
theorem end_dec {n : Nat} {x : Case} (h : CaseOk n x) : decide (enc x &&& 65535 = 2) = (x.marks == Kct8.END) := by
  rw [enc_marks h]; rfl
section
variable {P : Program} {w : World} {K : PySem.W.Frag} {mg : Str → Option Value} {base : Heap} {a : Adr}
theorem sc_how_far : FnScope ["moves", "case", "begun_by", "newest", "far", "later"] ["moves", "case"] (defScope s_how_far) := ⟨rfl, rfl, rfl, by decide +kernel, rfl, by decide +kernel, by decide +kernel⟩
theorem ok_how_far (T : Txt K mg a) : FnOk P w K mg base CX0 3 (a.f 20) (a.d 20) ["moves", "case"] (spHowFar a) := by
  refine T.g_how_far.fn.ok sc_how_far (fun vs H Q E h => ?_) (fun cdv A outer s H vs Q E hr h => ?_)
  · obtain ⟨c, ml, as, x, rfl, _⟩ := h
    rfl
  · obtain ⟨c, ml, as, x, rfl, ok, xok, M, k⟩ := h
    have nd := sc_how_far.nd
    have hu := hu_of hr
    refine ⟨_, pss_cons (ps_if (pt_val (pe_call (ok_has_ended T) hr rfl T.g_has_ended.at_ T.g_has_ended.fn.kp T.g_has_ended.b .nil pass0 (pa_cons (pv 1) pa_nil))) (pss_one (ps_ret (pe_lst (pa_cons pe_int pa_nil)))) pss_nil)
      (pss_cons (ps_set (i := 2) nd rfl (Or.inl rfl) (pe_disp (pps_cons (pv 1) pe_non pps_nil) rfl rfl (by simp) (by decide)))
      (pss_cons (ps_set (i := 3) nd rfl (Or.inl rfl) (pe_lst (pa_cons (pv 1) pa_nil)))
      (pss_cons (ps_set (i := 4) nd rfl (Or.inl rfl) pe_int)
      (pss_cons (ps_while PassesOwn.never (pt_cmpR op_gt (pe_callB call_len_seq (by rfl) T.b_len PySem.boot_len (pa_cons (pv 3) pa_nil)) pe_int (nomark _))
        (pss_cons (ps_set (i := 3) nd rfl (Or.inl rfl) (pe_call (ok_those T) hr rfl T.g_those_that_come.at_ T.g_those_that_come.fn.kp T.g_those_that_come.b .nil pass0 (pa_cons (pv 0) (pa_cons (pv 3) (pa_cons (pv 2) pa_nil)))))
        (pss_cons (ps_aug (i := 4) nd rfl (Or.inl rfl) pe_int ip_add)
        (pss_cons (ps_if (pt_cmpR op_gt (pe_callB call_lenD (by rfl) T.b_len PySem.boot_len (pa_cons (pv 2) pa_nil)) (pcon T.c_MOST_TOGETHER) (nomark _)) (pss_one (ps_ret (pe_lst (pa_cons (pcon T.c_TOO_MANY_TO_TELL) pa_nil)))) pss_nil)
        (pss_one (ps_for PassesOwn.never rfl (pi_list (pv 3)) (pg_name (i := 5) nd rfl (Or.inl rfl))
          (pss_one (ps_if (pt_val (pe_call (ok_has_ended T) hr rfl T.g_has_ended.at_ T.g_has_ended.fn.kp T.g_has_ended.b .nil pass0 (pa_cons (pv 5) pa_nil)))
            (pss_one (ps_ret (pe_lst (pa_cons (pv 4) (pa_cons (pe_fld (pe_dget hu (pv 2) (pv 5) (fun _ _ => rfl)) rfl) (pa_cons (pe_fld (pe_dget hu (pv 2) (pv 5) (fun _ _ => rfl)) rfl) pa_nil)))))) pss_nil))))))))
      (pss_one (ps_ret (pe_lst (pa_cons (pcon T.c_COULD_NOT_END) pa_nil)))))))), ?_⟩
    refine ⟨_, rfl, enc x, rfl, _, rfl, ?_⟩
    rw [end_dec xok]
    refine ite2 (fun h => ?_) (fun h0 => ?_)
    · -- it has ended
      have e := sought_ends (sought_start c x) (x := (x, none)) (find_first (l := [(x, none)]) (i := 0) rfl h (fun y hy => by simp at hy))
      refine ⟨(by show 1 ≤ sizeLine; decide), fun r n1 => k r _ (Same.new n1) n1 ?_⟩
      rw [upd_same, e]
      rfl
    have h0 : (x.marks == Kct8.END) = false := Bool.eq_false_iff.mpr h0
    refine fun bd n1 => ⟨_, rfl, upd_same, [(key x, .non)], rfl, (by show 1 ≤ 15; decide), ?_⟩
    rw [upd_upd]
    have sB : Same H (upd H bd (.dK [(key x, .non)])) := Same.new n1
    refine ⟨_, rfl, (by show 1 ≤ sizeLine; decide), fun nl n2 => ?_⟩
    have sN : Same (upd H bd (.dK [(key x, .non)])) (upd (upd H bd (.dK [(key x, .non)])) nl (.lst [V.int ((enc x : Nat) : Int)])) := Same.new n2
    have nlH : H nl = none := sB.free n2
    -- the loop
    refine ⟨fun m σ H1 => ∃ (n : Nat) (r : Kct8.Rows) (seen : List Case) (kvs : List (Key × V)) (nl : Addr) (v5 : Option V), σ = [some (.ref ml), some (.int ((enc x : Nat) : Int)), some (.ref bd), some (.ref nl), some (.int (n : Nat)), v5] ∧ Same H H1 ∧ H1 bd = some (.dK kvs) ∧ H1 nl = some (.lst (nums (encs r))) ∧
        Tab a H1 c.people.length kvs r seen [] ∧ ((r ≠ [] ∧ Sought c x n r seen ∧ (r.find? fun x => x.1.marks == Kct8.END) = none ∧ m = 1026 - seen.length) ∨ (r = [] ∧ Kct8.far c x = .no ∧ m = 0)), ⟨1025, 0, [(x, none)], [x], [(key x, .non)], nl, none, rfl, sB.trans sN, sN _ _ upd_same, upd_same, ?_, .inl ⟨by simp, sought_start c x, ?_, rfl⟩⟩, ?_⟩
    · refine ⟨rfl, fun y hy => ?_, fun y hy => ?_, fun y hy => ?_⟩
      · have e : y = x := by simpa using hy
        rw [e]; exact xok
      · have e : y = (x, none) := by simpa using hy
        rw [e]
        refine ⟨.non, ?_, rfl⟩
        rw [valV_pos rfl]
      · have e : y = (x, none) := by simpa using hy
        rw [e]; simp
    · exact find_none fun y hy => by
        have e : y = (x, none) := by simpa using hy
        rw [e]; exact h0
    · rintro m σ H1 ⟨n, r, seen, kvs, nl, v5, rfl, s1, b1, e1, t1, cs⟩
      refine ⟨_, rfl, nl, _, rfl, .inl (SqL.of e1), _, _, rfl, rfl, _, rfl, ?_⟩
      have len : ((nums (encs r)).length : Int) = (r.length : Int) := by rw [nums_len]; unfold encs; rw [List.length_map]
      rw [len]
      refine ite2 (fun h => ?_) (fun h => ?_)
      · have h : (0 : Int) < (r.length : Int) := of_decide_eq_true h
        have rne : r ≠ [] := by intro z; rw [z] at h; simp at h
        obtain ⟨S, fnone, rfl⟩ : Sought c x n r seen ∧ (r.find? fun x => x.1.marks == Kct8.END) = none ∧ m = 1026 - seen.length := by
          rcases cs with ⟨_, z⟩ | ⟨z, _⟩
          · exact z
          · exact absurd z rne
        have few : seen.length ≤ 1024 := S.few
        refine ⟨fun σ' H' => ∃ m', m' < 1026 - seen.length ∧ ∃ (n : Nat) (r : Kct8.Rows) (seen : List Case) (kvs : List (Key × V)) (nl : Addr) (v5 : Option V), σ' = [some (.ref ml), some (.int ((enc x : Nat) : Int)), some (.ref bd), some (.ref nl), some (.int (n : Nat)), v5] ∧ Same H H' ∧ H' bd = some (.dK kvs) ∧ H' nl = some (.lst (nums (encs r))) ∧
          Tab a H' c.people.length kvs r seen [] ∧ ((r ≠ [] ∧ Sought c x n r seen ∧ (r.find? fun x => x.1.marks == Kct8.END) = none ∧ m' = 1026 - seen.length) ∨ (r = [] ∧ Kct8.far c x = .no ∧ m' = 0)), fun σ' H' z => z, ?_⟩
        refine ⟨_, rfl, _, rfl, _, rfl, c, ml, nl, bd, as, r, seen, kvs, rfl, ok, M.same s1, e1, b1, t1, few, fun q H2 kvs2 acc k2 nq e2 b2 t2 alt => ?_⟩
        have s2 : Same H H2 := fun b o e => k2 b o (s1 b o e) (ne_of_none e n1)
        have hq : H q = none := s1.free nq
        refine ⟨_, rfl, _, _, rfl, rfl, ?_⟩
        refine ⟨_, rfl, bd, _, rfl, b2, _, _, rfl, rfl, _, rfl, ?_⟩
        have hl := t2.len
        refine ite2 (fun hm => ?_) (fun hm => ?_)
        · -- too many
          have hm : (1024 : Int) < (kvs2.length : Int) := of_decide_eq_true hm
          have far : Kct8.far c x = .many := sought_many S fnone (by
            show 1024 < seen.length + (onward c r seen).length
            rcases alt with z | ⟨_, z⟩
            · rw [← z]; omega
            · exact z)
          refine ⟨(by show 1 ≤ sizeLine; decide), fun rr n3 => k rr _ (Same.over (s2.free n3) s2) (s2.free n3) ?_⟩
          rw [upd_same, far]
          rfl
        · have hm : ¬ (1024 : Int) < (kvs2.length : Int) := fun z => hm (decide_eq_true z)
          have eacc : acc = onward c r seen := by
            rcases alt with z | ⟨z, _⟩
            · exact z
            · omega
          subst eacc
          have notMany : ¬ Kct8.MANY < seen.length + (onward c r seen).length := by show ¬ 1024 < _; omega
          refine ⟨_, rfl, q, rfl, ⟨_, SqL.of e2⟩, ?_⟩
          have lene : (nums (encs (onward c r seen))).length = (onward c r seen).length := by rw [nums_len]; unfold encs; rw [List.length_map]
          refine for_list (K := K) (a := q) (xs := nums (encs (onward c r seen))) (fun i σ H3 => ∃ v5 : Option V, σ = [some (.ref ml), some (.int ((enc x : Nat) : Int)), some (.ref bd), some (.ref q), some (.int ((n + 1 : Nat) : Int)), v5] ∧ H3 = H2 ∧ ∀ y ∈ (onward c r seen).take i, (y.1.marks == Kct8.END) = false)
            ⟨v5, rfl, rfl, fun y hy => by simp at hy⟩ (fun i σ H3 _ ⟨_, _, z, _⟩ => by rw [z]; exact SqL.of e2) ?_ ?_
          · rintro i y σ H3 hi ⟨v5, rfl, rfl, no⟩
            obtain ⟨e, he, rfl⟩ := nums_get hi
            obtain ⟨z, hz, rfl⟩ : ∃ z, (onward c r seen)[i]? = some z ∧ enc z.1 = e := by
              unfold encs at he
              rw [List.getElem?_map] at he
              cases q : (onward c r seen)[i]? with
              | none => rw [q] at he; cases he
              | some x => rw [q] at he; exact ⟨x, rfl, Option.some.inj he⟩
            have zm : z ∈ onward c r seen := List.mem_of_getElem? hz
            have zok : CaseOk c.people.length z.1 := t2.ok _ (List.mem_append_right _ (List.mem_map.mpr ⟨z, zm, rfl⟩))
            refine ⟨_, rfl, enc z.1, rfl, _, rfl, ?_⟩
            rw [end_dec zok]
            refine ite2 (fun he => ?_) (fun he => ?_)
            · -- the end is come to
              have S2 := sought_step S fnone (fun z => by rw [z] at zm; simp at zm) notMany
              have far := sought_ends S2 (find_first hz he no)
              obtain ⟨v, ev⟩ := onward_first r z zm
              obtain ⟨u, g, f⟩ := t2.vals z (List.mem_append_right _ zm)
              rw [ev] at f far
              obtain ⟨p, mv, rfl, ⟨dm, hdm⟩, enw⟩ := f
              have dg : DGet H3 bd (V.int ((enc z.1 : Nat) : Int)) (some (.ref p)) := by rw [← g]; exact DGet.k (k := key z.1) b2
              refine ⟨_, rfl, _, rfl, _, rfl, bd, _, rfl, dg, p, a.c 14, dm, _, _, rfl, hdm, T.cl_Move, T.n_Move_number, rfl, _, rfl, _, rfl, bd, _, rfl, dg, p, a.c 14, dm, _, _, rfl, hdm, T.cl_Move, T.n_Move_who, rfl, (by show 3 ≤ sizeLine; decide), fun rr n3 => k rr _ (Same.over (s2.free n3) s2) (s2.free n3) ?_⟩
              rw [upd_same, far, ← enw]
              rfl
            · refine ⟨_, rfl, rfl, fun y hy => ?_⟩
              rw [take_one hz] at hy
              rcases List.mem_append.mp hy with q | q
              · exact no y q
              · have e : y = z := by simpa using q
                rw [e]; exact Bool.eq_false_iff.mpr he
          · rintro σ H3 ⟨v5, rfl, rfl, no⟩
            rw [lene, List.take_length] at no
            have fn2 := find_none (p := fun x : Case × Option Kct8.Move => x.1.marks == Kct8.END) no
            have T3 : Tab a H3 c.people.length kvs2 (onward c r seen) (seen ++ (onward c r seen).map Prod.fst) [] :=
              ⟨by rw [t2.keys]; simp, fun y hy => t2.ok y (by simpa using hy), fun y hy => t2.vals y (List.mem_append_right _ (by simpa using hy)), fun y hy => List.mem_append_right _ (List.mem_map.mpr ⟨y, hy, rfl⟩)⟩
            by_cases em : onward c r seen = []
            · refine ⟨0, by omega, n + 1, _, _, kvs2, q, v5, rfl, s2, b2, e2, T3, .inr ⟨em, sought_no S fnone em, rfl⟩⟩
            · have S2 := sought_step S fnone em notMany
              have pos : 0 < (onward c r seen).length := List.length_pos_iff.mpr em
              refine ⟨1026 - (seen ++ (onward c r seen).map Prod.fst).length, ?_, n + 1, _, _, kvs2, q, v5, rfl, s2, b2, e2, T3, .inl ⟨em, S2, fn2, rfl⟩⟩
              rw [List.length_append, List.length_map]
              omega
      · have h : ¬ (0 : Int) < (r.length : Int) := fun z => h (decide_eq_true z)
        have re : r = [] := by
          cases r with
          | nil => rfl
          | cons y ys => simp at h
        have far : Kct8.far c x = .no := by
          rcases cs with ⟨z, _⟩ | ⟨_, z, _⟩
          · exact absurd re z
          · exact z
        refine ⟨(by show 1 ≤ sizeLine; decide), fun rr n3 => k rr _ (Same.over (s1.free n3) s1) (s1.free n3) ?_⟩
        rw [upd_same, far]
        rfl
end
end Ew

namespace Ew
open PySem PySem.Spec PyProof.Rows L2 EwM
open Kct8 (Work isOn doubles can nexts)

def spOneMore (a : Adr) : Sp := fun vs H Q _ => ∃ (ls : Addr) (sa : List Addr) (ws : List Work) (m : Nat), vs = [.ref ls, .int (m : Int)] ∧ StepsAt a H ls sa ws ∧ ws.length ≤ 16 ∧
  ∀ (r : Addr) (H' : Hp), Same H H' → H r = none → H' r = some (.lst (nums (nexts ws m))) → Q (.ref r) H'
theorem nexts_snoc {ws : List Work} {i : Nat} {w : Work} (m : Nat) (h : ws[i]? = some w) : nexts (ws.take (i + 1)) m = nexts (ws.take i) m ++ (if can w m = true then [Kct8.next w m] else []) := by
  rw [take_one h]
  unfold nexts
  rw [List.filterMap_append]
  congr 1
  cases q : can w m <;> simp [q]
theorem nexts_len (ws : List Work) (m : Nat) : (nexts ws m).length ≤ ws.length := by unfold nexts; exact List.length_filterMap_le _ _
abbrev nk (m : Nat) : Key := Sum.inl ((m : Nat) : Int)
theorem nk_inj {m n : Nat} (h : nk m = nk n) : m = n := by have := Sum.inl.inj h; omega
/-- a dict's keys are these -/
def KeysNk (kvs : List (Key × V)) (l : List Nat) : Prop := kvs.map (·.1) = l.map nk
theorem KeysNk.len {kvs : List (Key × V)} {l : List Nat} (h : KeysNk kvs l) : kvs.length = l.length := by
  have := congrArg List.length h
  rw [List.length_map, List.length_map] at this
  exact this
theorem KeysNk.mem {kvs : List (Key × V)} {l : List Nat} (h : KeysNk kvs l) (x : Nat) : (valV kvs (nk x)).isSome = true ↔ x ∈ l := by
  rw [← valV_any, List.any_eq_true]
  constructor
  · rintro ⟨p, hp, e⟩
    have m : p.1 ∈ kvs.map (·.1) := List.mem_map.mpr ⟨p, hp, rfl⟩
    rw [h, of_decide_eq_true e] at m
    obtain ⟨y, hy, ey⟩ := List.mem_map.mp m
    rw [← nk_inj ey]; exact hy
  · intro m
    have m' : nk x ∈ kvs.map (·.1) := by rw [h]; exact List.mem_map.mpr ⟨x, m, rfl⟩
    obtain ⟨p, hp, e⟩ := List.mem_map.mp m'
    exact ⟨p, hp, decide_eq_true e⟩
theorem KeysNk.no {kvs : List (Key × V)} {l : List Nat} (h : KeysNk kvs l) {x : Nat} (hx : x ∉ l) : valV kvs (nk x) = none := by
  cases q : valV kvs (nk x) with
  | none => rfl
  | some v => exact absurd ((h.mem x).mp (by rw [q]; rfl)) hx
theorem KeysNk.put {kvs : List (Key × V)} {l : List Nat} (h : KeysNk kvs l) {x : Nat} (hx : x ∉ l) (v : V) : KeysNk (putK kvs (nk x) v) (l ++ [x]) := by
  unfold KeysNk
  rw [putK_new v (h.no hx), List.map_append, h, List.map_append]
  rfl
/-- what comes behind each of these marks; none of the lists is at q -/
structure Beh (H : Hp) (q : Addr) (ws : List Work) (b : List Nat) (kvs : List (Key × V)) : Prop where
  keys : KeysNk kvs b
  at_ : ∀ (i : Nat) (k : Key) (v : V), kvs[i]? = some (k, v) → ∃ m r, b[i]? = some m ∧ k = nk m ∧ v = .ref r ∧ H r = some (.lst (nums (nexts ws m))) ∧ r ≠ q
theorem Beh.keep {H H' : Hp} {q : Addr} {ws : List Work} {b : List Nat} {kvs : List (Key × V)} (h : Beh H q ws b kvs) (k : ∀ r l, H r = some (.lst l) → r ≠ q → H' r = some (.lst l)) : Beh H' q ws b kvs :=
  ⟨h.keys, fun i x v e => let ⟨m, r, h1, h2, h3, h4, h5⟩ := h.at_ i x v e; ⟨m, r, h1, h2, h3, k _ _ h4 h5, h5⟩⟩
theorem Beh.new {H : Hp} {q q' : Addr} {ws : List Work} {b : List Nat} {kvs : List (Key × V)} (h : Beh H q ws b kvs) (n : H q' = none) : Beh H q' ws b kvs :=
  ⟨h.keys, fun i x v e => let ⟨m, r, h1, h2, h3, h4, h5⟩ := h.at_ i x v e; ⟨m, r, h1, h2, h3, h4, ne_of_none h4 n⟩⟩
theorem Beh.put {H : Hp} {q : Addr} {ws : List Work} {b : List Nat} {kvs : List (Key × V)} (h : Beh H q ws b kvs) {m : Nat} (hm : m ∉ b) {r : Addr} (hr : H r = some (.lst (nums (nexts ws m)))) (ne : r ≠ q) : Beh H q ws (b ++ [m]) (putK kvs (nk m) (.ref r)) := by
  refine ⟨h.keys.put hm _, fun i k v e => ?_⟩
  rw [putK_new _ (h.keys.no hm)] at e
  have hl := h.keys.len
  by_cases hi : i < kvs.length
  · rw [List.getElem?_append_left hi] at e
    obtain ⟨m', r', h1, h2⟩ := h.at_ i k v e
    exact ⟨m', r', by rw [List.getElem?_append_left (by omega)]; exact h1, h2⟩
  · rw [List.getElem?_append_right (by omega)] at e
    cases z : i - kvs.length with
    | zero =>
      rw [z] at e
      cases Option.some.inj e
      exact ⟨m, r, by rw [List.getElem?_append_right (by omega), ← hl, z]; rfl, rfl, rfl, hr, ne⟩
    | succ j => rw [z] at e; simp at e
def spAllMarks (a : Adr) : Sp := fun vs H Q _ => ∃ (ls : Addr) (sa : List Addr) (ws : List Work), vs = [.ref ls] ∧ StepsAt a H ls sa ws ∧ ws.length ≤ 16 ∧
  (∀ H' : Hp, Same H H' → Kct8.all ws = none → Q .non H') ∧
  ∀ (d q : Addr) (H' : Hp) (b : List Nat) (kvs : List (Key × V)), Same H H' → H d = none → Kct8.all ws = some b → Looked ws b [] → H' d = some (.dK kvs) → Beh H' q ws b kvs → Q (.ref d) H'
section
variable {P : Program} {w : World} {K : PySem.W.Frag} {mg : Str → Option Value} {base : Heap} {a : Adr}
theorem sc_one_step_more : FnScope ["steps", "marks", "step"] ["steps", "marks"] (defScope s_one_step_more) := ⟨rfl, rfl, rfl, by decide +kernel, rfl, by decide +kernel, by decide +kernel⟩
theorem ok_one_step_more (T : Txt K mg a) : FnOk P w K mg base CX0 2 (a.f 22) (a.d 22) ["steps", "marks"] (spOneMore a) := by
  refine T.g_one_step_more.fn.ok sc_one_step_more (fun vs H Q E h => ?_) (fun cdv A outer s H vs Q E hr h => ?_)
  · obtain ⟨ls, sa, ws, m, rfl, _⟩ := h
    rfl
  · obtain ⟨ls, sa, ws, m, rfl, S, few, k⟩ := h
    have nd := sc_one_step_more.nd
    refine ⟨_, pss_one (ps_ret (pe_lc (own := [("step", 2)]) rfl nd (pi_list (pv 0)) (blkOk_by (by kernel_rfl)) (fun _ _ _ _ _ => by exact pg_name (i := 2) nd rfl (Or.inl rfl) (Or.inr rfl))
      (fun _ _ _ _ _ => by exact pts_one (pt_val (pe_meth (pv 2) T.cl_Step T.m_Step_can_be_done.m (ok_can T) hr T.m_Step_can_be_done.b .nil pass0 (pa_cons (pv 1) pa_nil))))
      (fun _ _ _ _ _ => by exact pe_meth (pv 2) T.cl_Step T.m_Step_marks_behind.m (ok_behind T) hr T.m_Step_marks_behind.b .nil pass0 (pa_cons (pv 1) pa_nil)))), ?_⟩
    refine ⟨_, rfl, ls, rfl, ⟨_, SqL.of S.lst⟩, fun D n1 => ?_⟩
    refine lc_list (K := K) (a := ls) (xs := sa.map V.ref) (fun i H1 => H1 D = some (.lst (nums (nexts (ws.take i) m))) ∧ Same H H1) ⟨upd_same, Same.new n1⟩ (fun i H1 _ ⟨_, s1⟩ => SqL.of (s1 _ _ S.lst)) ?_ ?_
    · rintro i y H1 hi ⟨e1, s1⟩
      obtain ⟨p, wk, rfl, hw, hst⟩ := S.get hi
      obtain ⟨dx, hdx⟩ := hst.same s1
      refine ⟨rfl, _, rfl, p, dx, _, rfl, hdx, rfl, _, rfl, p, wk, m, rfl, ⟨dx, hdx⟩, _, rfl, ?_⟩
      have st := nexts_snoc m hw
      refine ite2 (fun h => ?_) (fun h => ?_)
      · have on : isOn wk m = true := by
          unfold can at h
          rw [Bool.and_eq_true] at h
          exact h.1
        rw [if_pos h] at st
        refine ⟨_, rfl, p, dx, _, rfl, hdx, rfl, _, rfl, p, wk, m, rfl, ⟨dx, hdx⟩, on, _, e1, small (m := 16) ?_ (by decide), ?_, fun b o e => ?_⟩
        · rw [nums_len]
          exact Nat.le_trans (nexts_len _ _) (Nat.le_trans (by rw [List.length_take]; exact Nat.min_le_right _ _) few)
        · rw [upd_same, st, nums_snoc]
        · rw [upd_ne (ne_of_none e n1)]; exact s1 b o e
      · rw [if_neg h, List.append_nil] at st
        rw [st]
        exact ⟨e1, s1⟩
    · rintro H1 ⟨e1, s1⟩
      rw [List.length_map, S.len, List.take_length] at e1
      exact k D H1 s1 n1 e1
theorem sc_all_marks : FnScope ["steps", "behind", "met", "newest", "coming", "marks", "later"] ["steps"] (defScope s_all_marks) := ⟨rfl, rfl, rfl, by decide +kernel, rfl, by decide +kernel, by decide +kernel⟩
theorem new_len (ws : List Work) (hw : ws.length ≤ 16) (seen : List Nat) : ∀ ms : List Nat, (Kct8.new ws ms seen).length ≤ 16 * ms.length := by
  have one : ∀ (xs a : List Nat), (add1 seen a xs).length ≤ a.length + xs.length := by
    intro xs
    induction xs with
    | nil => intro a; exact Nat.le_refl _
    | cons x xs ih =>
      intro a
      show (add1 seen (if seen.contains x || a.contains x then a else a ++ [x]) xs).length ≤ _
      have h := ih (if seen.contains x || a.contains x then a else a ++ [x])
      split at h
      · rename_i hc; rw [if_pos hc]; simp only [List.length_cons]; omega
      · rename_i hc; rw [if_neg hc]; simp only [List.length_append, List.length_cons, List.length_nil] at h ⊢; omega
  have gen : ∀ (ms a : List Nat), (ms.foldl (fun (a : List Nat) m => add1 seen a (nexts ws m)) a).length ≤ a.length + 16 * ms.length := by
    intro ms
    induction ms with
    | nil => intro a; exact Nat.le_refl _
    | cons m ms ih =>
      intro a
      rw [List.foldl_cons]
      have h1 := ih (add1 seen a (nexts ws m))
      have h2 := one (nexts ws m) a
      have h3 := nexts_len ws m
      rw [List.length_cons]
      omega
  intro ms
  have := gen ms []
  rw [List.length_nil, Nat.zero_add] at this
  exact this
theorem ok_all_marks (T : Txt K mg a) : FnOk P w K mg base CX0 3 (a.f 23) (a.d 23) ["steps"] (spAllMarks a) := by
  refine T.g_all_marks.fn.ok sc_all_marks (fun vs H Q E h => ?_) (fun cdv A outer s H vs Q E hr h => ?_)
  · obtain ⟨ls, sa, ws, rfl, _⟩ := h
    rfl
  · obtain ⟨ls, sa, ws, rfl, S, few, k0, k1⟩ := h
    have nd := sc_all_marks.nd
    have hu := hu_of hr
    refine ⟨_, pss_cons (ps_set (i := 1) nd rfl (Or.inl rfl) pe_dnewK)
      (pss_cons (ps_set (i := 2) nd rfl (Or.inl rfl) (pe_disp (pps_cons (pcon T.c_BEGINNING) pe_bl pps_nil) rfl rfl (by simp) (by decide)))
      (pss_cons (ps_set (i := 3) nd rfl (Or.inl rfl) (pe_lst (pa_cons (pcon T.c_BEGINNING) pa_nil)))
      (pss_cons (ps_while PassesOwn.never (pt_cmpR op_gt (pe_callB call_len_seq (by rfl) T.b_len PySem.boot_len (pa_cons (pv 3) pa_nil)) pe_int (nomark _))
        (pss_cons (ps_set (i := 4) nd rfl (Or.inl rfl) (pe_lst pa_nil))
        (pss_cons (ps_for PassesOwn.never rfl (pi_list (pv 3)) (pg_name (i := 5) nd rfl (Or.inl rfl))
          (pss_cons (ps_dput hu (pv 1) (pv 5) (pe_call (ok_one_step_more T) hr rfl T.g_one_step_more.at_ T.g_one_step_more.fn.kp T.g_one_step_more.b .nil pass0 (pa_cons (pv 0) (pa_cons (pv 5) pa_nil))) rfl)
          (pss_one (ps_for PassesOwn.never rfl (pi_list (pe_dget hu (pv 1) (pv 5) (fun _ _ => rfl))) (pg_name (i := 6) nd rfl (Or.inl rfl))
            (pss_one (ps_if (pt_cmp (pc_dnotin hu (pv 6) (pv 2)))
              (pss_cons (ps_dput hu (pv 2) (pv 6) pe_bl rfl) (pss_one (ps_expr (pe_bm PySem.F.plainAttrs_list PySem.F.slot_list_append PySem.F.type_list_append mt_append (pv 4) (pa_cons (pv 6) pa_nil))))) pss_nil))))))
        (pss_cons (ps_if (pt_cmpR op_gt (pe_callB call_lenD (by rfl) T.b_len PySem.boot_len (pa_cons (pv 2) pa_nil)) (pcon T.c_MOST_TOGETHER) (nomark _)) (pss_one (ps_ret pe_non)) pss_nil)
        (pss_one (ps_set (i := 3) nd rfl (Or.inl rfl) (pv 4)))))))
      (pss_one (ps_ret (pv 1)))))), ?_⟩
    refine fun d n1 => ?_
    have s1 : Same H (upd H d (.dK [])) := Same.new n1
    refine fun md n2 => ⟨upd_same, [(nk 1, .bl true)], rfl, (by show 1 ≤ 15; decide), ?_⟩
    rw [upd_upd]
    have s2 : Same (upd H d (.dK [])) (upd (upd H d (.dK [])) md (.dK [(nk 1, .bl true)])) := Same.new n2
    have mdH : H md = none := s1.free n2
    have dmd : d ≠ md := ne_of_none (H := upd H d (.dK [])) upd_same n2
    refine ⟨(by show 1 ≤ sizeLine; decide), fun nl n3 => ?_⟩
    have s3 : Same (upd (upd H d (.dK [])) md (.dK [(nk 1, .bl true)])) (upd (upd (upd H d (.dK [])) md (.dK [(nk 1, .bl true)])) nl (.lst [V.int 1])) := Same.new n3
    refine ⟨fun mm σ H1 => ∃ (b n : List Nat) (kb km : List (Key × V)) (nl : Addr) (v4 v5 v6 : Option V), σ = [some (.ref ls), some (.ref d), some (.ref md), some (.ref nl), v4, v5, v6] ∧ Same H H1 ∧ Looked ws b n ∧ H1 d = some (.dK kb) ∧ H1 md = some (.dK km) ∧ H1 nl = some (.lst (nums n)) ∧ Beh H1 nl ws b kb ∧ KeysNk km (b ++ n) ∧ mm = 1025 - b.length,
      ⟨1025, [], [1], [], [(nk 1, .bl true)], nl, none, none, none, rfl, s1.trans (s2.trans s3), looked_start ws, s3 _ _ (s2 _ _ upd_same), s3 _ _ upd_same, upd_same, ⟨rfl, fun i k v e => by simp at e⟩, rfl, rfl⟩, ?_⟩
    rintro mm σ H1 ⟨b, n, kb, km, nl, v4, v5, v6, rfl, sH, L, hd, hm, hn, B, Km, rfl⟩
    refine ⟨_, rfl, nl, _, rfl, .inl (SqL.of hn), _, _, rfl, rfl, _, rfl, ?_⟩
    rw [nums_len]
    refine ite2 (fun h => ?_) (fun h => ?_)
    · have h : (0 : Int) < (n.length : Int) := of_decide_eq_true h
      refine ⟨fun σ' H' => ∃ mm', mm' < 1025 - b.length ∧ ∃ (b n : List Nat) (kb km : List (Key × V)) (nl : Addr) (v4 v5 v6 : Option V), σ' = [some (.ref ls), some (.ref d), some (.ref md), some (.ref nl), v4, v5, v6] ∧ Same H H' ∧ Looked ws b n ∧ H' d = some (.dK kb) ∧ H' md = some (.dK km) ∧ H' nl = some (.lst (nums n)) ∧ Beh H' nl ws b kb ∧ KeysNk km (b ++ n) ∧ mm' = 1025 - b.length, fun _ _ z => z, ?_⟩
      have lf : b.length + n.length ≤ 1024 := by have := L.few; rw [List.length_append] at this; exact this
      refine ⟨Nat.zero_le _, fun q nq => ?_⟩
      have sq : Same H1 (upd H1 q (.lst [])) := Same.new nq
      have qH : H q = none := sH.free nq
      have qd : d ≠ q := ne_of_none hd nq
      have qm : md ≠ q := ne_of_none hm nq
      have qn : nl ≠ q := ne_of_none hn nq
      refine ⟨_, rfl, nl, rfl, ⟨_, SqL.of (sq _ _ hn)⟩, ?_⟩
      refine for_list (K := K) (a := nl) (xs := nums n) (fun i σ H2 => ∃ (kb2 km2 : List (Key × V)) (v5 v6 : Option V), σ = [some (.ref ls), some (.ref d), some (.ref md), some (.ref nl), some (.ref q), v5, v6] ∧ Same H H2 ∧ H2 nl = some (.lst (nums n)) ∧ H2 d = some (.dK kb2) ∧ H2 md = some (.dK km2) ∧
          H2 q = some (.lst (nums (Kct8.new ws (n.take i) (b ++ n)))) ∧ Beh H2 q ws (b ++ n.take i) kb2 ∧ KeysNk km2 ((b ++ n) ++ Kct8.new ws (n.take i) (b ++ n)))
        ⟨kb, km, v5, v6, rfl, sH.trans sq, sq _ _ hn, sq _ _ hd, sq _ _ hm, upd_same, ?_, ?_⟩ (fun i σ H2 _ ⟨_, _, _, _, _, _, z, _⟩ => SqL.of z) ?_ ?_
      · rw [List.take_zero, List.append_nil]
        exact (B.new nq).keep fun r l e _ => sq _ _ e
      · rw [List.take_zero]
        show KeysNk km ((b ++ n) ++ [])
        rw [List.append_nil]; exact Km
      · rintro i y σ H2 hi ⟨kb2, km2, v5, v6, rfl, sH2, hn2, hd2, hm2, hq2, B2, Km2⟩
        obtain ⟨m, hmi, rfl⟩ := nums_get hi
        have mnew : m ∉ b ++ n.take i := by
          have ndp := L.nd
          intro mem
          have e : n = n.take i ++ m :: n.drop (i + 1) := by
            have lt := (List.getElem?_eq_some_iff.mp hmi).1
            have ex := (List.getElem?_eq_some_iff.mp hmi).2
            rw [← ex, List.getElem_cons_drop, List.take_append_drop]
          rw [e, ← List.append_assoc] at ndp
          exact (List.nodup_append.mp ndp).2.2 m mem m (by simp) rfl
        have mn : n.length ≤ 1024 := by omega
        refine ⟨_, rfl, _, rfl, ls, sa, ws, m, rfl, S.same sH2, few, fun r H3 s3 nr er => ?_⟩
        have rq : r ≠ q := (ne_of_none hq2 nr).symm
        have rH : H r = none := sH2.free nr
        have sH3 : Same H H3 := sH2.trans s3
        have tl : (n.take i).length ≤ n.length := by rw [List.length_take]; exact Nat.min_le_right _ _
        have bl := B2.keys.len
        rw [List.length_append] at bl
        have lb : kb2.length < sizeLine := small (m := 2048) (by omega) (by decide)
        refine ⟨_, rfl, _, rfl, d, _, rfl, DPut.k (k := nk m) (s3 _ _ hd2) lb, ?_⟩
        have rd : r ≠ d := (ne_of_none hd2 nr).symm
        have B3 : Beh (upd H3 d (.dK (putK kb2 (nk m) (.ref r)))) q ws (b ++ n.take (i + 1)) (putK kb2 (nk m) (.ref r)) := by
          have z := (B2.keep (H' := H3) fun r l e _ => s3 _ _ e).put mnew er rq
          rw [List.append_assoc, ← take_one hmi] at z
          exact z.keep fun r l e _ => by rw [upd_ne (ne_of e (s3 _ _ hd2) (by intro z; cases z))]; exact e
        refine ⟨_, rfl, _, rfl, d, .ref r, rfl, (by
          have e : valV (putK kb2 (nk m) (V.ref r)) (nk m) = some (V.ref r) := by rw [valV_put, if_pos rfl]
          rw [← e]
          exact DGet.k (k := nk m) upd_same), r, rfl, ⟨_, SqL.of ((upd_ne rd).trans er)⟩, ?_⟩
        have nxl : (nexts ws m).length ≤ 16 := Nat.le_trans (nexts_len ws m) few
        have nwl : (Kct8.new ws (n.take i) (b ++ n)).length ≤ 16 * 1024 := by
          have h1 := new_len ws few (b ++ n) (n.take i)
          have h2 : (n.take i).length ≤ n.length := by rw [List.length_take]; exact Nat.min_le_right _ _
          omega
        refine for_list (K := K) (a := r) (xs := nums (nexts ws m)) (fun j σ H4 => ∃ (km4 : List (Key × V)) (acc : List Nat) (v6 : Option V), σ = [some (.ref ls), some (.ref d), some (.ref md), some (.ref nl), some (.ref q), some (.int (m : Int)), v6] ∧ acc = add1 (b ++ n) (Kct8.new ws (n.take i) (b ++ n)) ((nexts ws m).take j) ∧ Same H H4 ∧ H4 nl = some (.lst (nums n)) ∧
            H4 d = some (.dK (putK kb2 (nk m) (.ref r))) ∧ H4 md = some (.dK km4) ∧ H4 q = some (.lst (nums acc)) ∧ Beh H4 q ws (b ++ n.take (i + 1)) (putK kb2 (nk m) (.ref r)) ∧ KeysNk km4 ((b ++ n) ++ acc) ∧ acc.length ≤ 16 * 1024 + j ∧ H4 r = some (.lst (nums (nexts ws m))))
          ⟨km2, _, v6, rfl, rfl, ?_, ?_, upd_same, ?_, ?_, B3, Km2, (by show (Kct8.new ws (n.take i) (b ++ n)).length ≤ 16 * 1024 + 0; omega), (upd_ne rd).trans er⟩ (fun j σ H4 _ ⟨_, _, _, _, _, _, _, _, _, _, _, _, _, z⟩ => SqL.of z) ?_ ?_
        · exact Same.over n1 sH3
        · rw [upd_ne (ne_of (s3 _ _ hn2) (s3 _ _ hd2) (by intro z; cases z))]; exact s3 _ _ hn2
        · rw [upd_ne (Ne.symm dmd)]; exact s3 _ _ hm2
        · rw [upd_ne (Ne.symm qd)]; exact s3 _ _ hq2
        · rintro j y σ H4 hj ⟨km4, acc, v6, rfl, eacc, sH4, hn4, hd4, hm4, hq4, B4, Km4, al, hr4⟩
          obtain ⟨x, hx, rfl⟩ := nums_get hj
          have jl : j < 16 := Nat.lt_of_lt_of_le (List.getElem?_eq_some_iff.mp hx).1 nxl
          have step : add1 (b ++ n) (Kct8.new ws (n.take i) (b ++ n)) ((nexts ws m).take (j + 1)) = if (b ++ n).contains x || acc.contains x then acc else acc ++ [x] := by
            rw [take_one hx, add1_snoc, ← eacc]
          refine ⟨_, rfl, _, rfl, md, _, rfl, DGet.k (k := nk x) hm4, _, rfl, ?_⟩
          have mi := Km4.mem x
          by_cases mem : x ∈ (b ++ n) ++ acc
          · rw [mi.mpr mem]
            refine iteF ⟨km4, acc, _, rfl, ?_, sH4, hn4, hd4, hm4, hq4, B4, Km4, by omega, hr4⟩
            rw [step, if_pos]
            rw [Bool.or_eq_true, contains_iff, contains_iff]
            exact List.mem_append.mp mem
          · have no : (valV km4 (nk x)).isSome = false := by rw [Bool.eq_false_iff]; exact fun z => mem (mi.mp z)
            rw [no]
            have lk : km4.length < sizeLine := small (m := 40000) (by have := Km4.len; rw [List.length_append, List.length_append] at this; omega) (by decide)
            have q4 : q ≠ md := qm.symm
            refine iteT ⟨_, rfl, _, rfl, md, _, rfl, DPut.k (k := nk x) hm4 lk, _, rfl, .inl ⟨rfl, _, SqL.of ((upd_ne q4).trans hq4)⟩, _, rfl, q, _, _, rfl, rfl, (upd_ne q4).trans hq4, small (m := 40000) (by rw [nums_len]; omega) (by decide), ?_⟩
            refine ⟨putK km4 (nk x) (.bl true), acc ++ [x], _, rfl, ?_, ?_, ?_, ?_, ?_, ?_, ?_, ?_, ?_, ?_⟩
            · rw [step, if_neg]
              rw [Bool.or_eq_true, contains_iff, contains_iff]
              exact fun z => mem (List.mem_append.mpr z)
            · exact Same.over qH (Same.over mdH sH4)
            · rw [upd_ne qn, upd_ne (ne_of hn4 hm4 (by intro z; cases z))]; exact hn4
            · rw [upd_ne qd, upd_ne dmd]; exact hd4
            · rw [upd_ne qm, upd_same]
            · rw [upd_same, nums_snoc]
            · exact B4.keep fun r l e ne => by rw [upd_ne ne, upd_ne (ne_of e hm4 (by intro z; cases z))]; exact e
            · rw [← List.append_assoc]; exact Km4.put mem _
            · rw [List.length_append]; simp only [List.length_cons, List.length_nil]; omega
            · rw [upd_ne rq, upd_ne (ne_of hr4 hm4 (by intro z; cases z))]; exact hr4
        · rintro σ H4 ⟨km4, acc, v6, rfl, eacc, sH4, hn4, hd4, hm4, hq4, B4, Km4, al, hr4⟩
          have full : acc = Kct8.new ws (n.take (i + 1)) (b ++ n) := by
            rw [eacc, nums_len, List.take_length, take_one hmi, new_snoc]
          rw [full] at hq4 Km4
          exact ⟨_, km4, _, _, rfl, sH4, hn4, hd4, hm4, hq4, B4, Km4⟩
      · rintro σ H2 ⟨kb2, km2, v5, v6, rfl, sH2, hn2, hd2, hm2, hq2, B2, Km2⟩
        rw [nums_len, List.take_length] at hq2 B2 Km2
        refine ⟨_, rfl, md, _, rfl, hm2, _, _, rfl, rfl, _, rfl, ?_⟩
        have kl := Km2.len
        rw [List.length_append] at kl
        refine ite2 (fun hm => ?_) (fun hm => ?_)
        · have hm : (1024 : Int) < (km2.length : Int) := of_decide_eq_true hm
          refine k0 H2 sH2 (looked_many L ?_)
          show 1024 < _
          omega
        · have hm : ¬ (1024 : Int) < (km2.length : Int) := fun z => hm (decide_eq_true z)
          have L2' := looked_step L (by show ¬ 1024 < _; omega)
          refine ⟨_, rfl, 1025 - (b ++ n).length, ?_, b ++ n, Kct8.new ws n (b ++ n), kb2, km2, q, _, _, _, rfl, sH2, L2', hd2, hm2, hq2, B2, Km2, rfl⟩
          rw [List.length_append]
          omega
    · have h : ¬ (0 : Int) < (n.length : Int) := fun z => h (decide_eq_true z)
      have ne : n = [] := by
        cases n with
        | nil => rfl
        | cons y ys => simp at h
      subst ne
      exact ⟨_, rfl, k1 d nl H1 b kb sH n1 (looked_end L) L hd B⟩
end
end Ew

namespace Ew
open PySem PySem.Spec PyProof.Rows L2 EwM
open Kct8 (Work isOn doubles can nexts)

/-! ### walks over a locked dict -/
theorem for_items {d : Addr} {o : Obj} {kvs : List (Key × V)} {g : TG} {tb : TS} {D : Ends} {σ : L2.St} {H : Hp} (Pv : Nat → L2.St → Hp → Prop) (h0 : Pv 0 σ H) (hl : ∀ i σ H, Pv i σ H → H d = some (.frz o (.dK kvs)))
    (hs : ∀ i k v σ H T, kvs[i]? = some (k, v) → Pv i σ H → H T = none → g (.ref T) σ (upd H T (.tup [kV k, v])) fun σ2 H2 => tb { D with nx := Pv (i + 1), ct := Pv (i + 1), bk := D.nx } σ2 H2) (hd : ∀ σ H, Pv kvs.length σ H → D.nx σ H) :
    ∃ W : Nat → Nat → L2.St → Hp → Prop, (∃ m, W 0 m σ H) ∧ ∀ i m σ H, W i m σ H →
      ((Iti d o kvs).stop i H ∧ D.nx σ H) ∨ ((Iti d o kvs).go i H ∧ ∃ N : L2.St → Hp → Prop, (∀ σ' H', N σ' H' → ∃ m', m' < m ∧ W (i + 1) m' σ' H') ∧ ∀ x H', (Iti d o kvs).yld i H x H' → g x σ H' fun σ2 H2 => tb { D with nx := N, ct := N, bk := D.nx } σ2 H2) := by
  refine ⟨fun i m σ H => m = kvs.length - i ∧ i ≤ kvs.length ∧ Pv i σ H, ⟨kvs.length, by simp, Nat.zero_le _, h0⟩, ?_⟩
  rintro i m σ H ⟨rfl, hi, p⟩
  have q := hl i σ H p
  by_cases hlt : i < kvs.length
  · refine .inr ⟨⟨q, hlt⟩, Pv (i + 1), fun σ' H' p' => ⟨kvs.length - (i + 1), by omega, rfl, hlt, p'⟩, fun x H' y => ?_⟩
    obtain ⟨T, k, v, e1, e2, e3, e4⟩ := y
    subst e2 e4
    exact hs i k v σ _ T e1 p e3
  · have e : i = kvs.length := by omega
    subst e
    exact .inl ⟨⟨q, Nat.le_refl _⟩, hd σ H p⟩
theorem for_keys {d : Addr} {o : Obj} {kvs : List (Key × V)} {g : TG} {tb : TS} {D : Ends} {σ : L2.St} {H : Hp} (Pv : Nat → L2.St → Hp → Prop) (h0 : Pv 0 σ H) (hl : ∀ i σ H, Pv i σ H → H d = some (.frz o (.dK kvs)))
    (hs : ∀ i k v σ H, kvs[i]? = some (k, v) → Pv i σ H → g (kV k) σ H fun σ2 H2 => tb { D with nx := Pv (i + 1), ct := Pv (i + 1), bk := D.nx } σ2 H2) (hd : ∀ σ H, Pv kvs.length σ H → D.nx σ H) :
    ∃ W : Nat → Nat → L2.St → Hp → Prop, (∃ m, W 0 m σ H) ∧ ∀ i m σ H, W i m σ H →
      ((Itk d o kvs).stop i H ∧ D.nx σ H) ∨ ((Itk d o kvs).go i H ∧ ∃ N : L2.St → Hp → Prop, (∀ σ' H', N σ' H' → ∃ m', m' < m ∧ W (i + 1) m' σ' H') ∧ ∀ x H', (Itk d o kvs).yld i H x H' → g x σ H' fun σ2 H2 => tb { D with nx := N, ct := N, bk := D.nx } σ2 H2) := by
  refine ⟨fun i m σ H => m = kvs.length - i ∧ i ≤ kvs.length ∧ Pv i σ H, ⟨kvs.length, by simp, Nat.zero_le _, h0⟩, ?_⟩
  rintro i m σ H ⟨rfl, hi, p⟩
  have q := hl i σ H p
  by_cases hlt : i < kvs.length
  · refine .inr ⟨⟨q, hlt⟩, Pv (i + 1), fun σ' H' p' => ⟨kvs.length - (i + 1), by omega, rfl, hlt, p'⟩, fun x H' y => ?_⟩
    obtain ⟨e1, k, v, e2, e3⟩ := y
    subst e1 e3
    exact hs i k v σ _ e2 p
  · have e : i = kvs.length := by omega
    subst e
    exact .inl ⟨⟨q, Nat.le_refl _⟩, hd σ H p⟩
theorem lc_keys {d : Addr} {o : Obj} {kvs : List (Key × V)} {g : TG} {tt : TT} {te : TE} {vs : List Nat} {σ : L2.St} {H1 : Hp} {D : Addr} {Qd : Hp → Prop} (Pv : Nat → Hp → Prop) (h0 : Pv 0 (upd H1 D (.lst []))) (hl : ∀ i H, Pv i H → H d = some (.frz o (.dK kvs)))
    (hs : ∀ i k v H, kvs[i]? = some (k, v) → Pv i H → g (kV k) (wipe σ vs) H fun σ2 H2 => wipe σ2 vs = wipe σ vs ∧ tt σ2 H2 fun b H3 =>
      if b = true then te σ2 H3 fun y H4 => ∃ acc, H4 D = some (.lst acc) ∧ acc.length < sizeLine ∧ Pv (i + 1) (upd H4 D (.lst (acc ++ [y]))) else Pv (i + 1) H3) (hd : ∀ H, Pv kvs.length H → Qd H) :
    ∃ W : Nat → Nat → Hp → Prop, (∃ m, W 0 m (upd H1 D (.lst []))) ∧ ∀ i m H, W i m H →
      ((Itk d o kvs).stop i H ∧ Qd H) ∨ ((Itk d o kvs).go i H ∧ ∃ Nx : Hp → Prop, (∀ H', Nx H' → ∃ m', m' < m ∧ W (i + 1) m' H') ∧ ∀ x H', (Itk d o kvs).yld i H x H' → g x (wipe σ vs) H' fun σ2 H2 => wipe σ2 vs = wipe σ vs ∧ tt σ2 H2 fun b H3 =>
        if b = true then te σ2 H3 fun y H4 => ∃ acc, H4 D = some (.lst acc) ∧ acc.length < sizeLine ∧ Nx (upd H4 D (.lst (acc ++ [y]))) else Nx H3) := by
  refine ⟨fun i m H => m = kvs.length - i ∧ i ≤ kvs.length ∧ Pv i H, ⟨kvs.length, by simp, Nat.zero_le _, h0⟩, ?_⟩
  rintro i m H ⟨rfl, hi, p⟩
  have q := hl i H p
  by_cases hlt : i < kvs.length
  · refine .inr ⟨⟨q, hlt⟩, Pv (i + 1), fun H' p' => ⟨kvs.length - (i + 1), by omega, rfl, hlt, p'⟩, fun x H' y => ?_⟩
    obtain ⟨e1, k, v, e2, e3⟩ := y
    subst e1 e3
    exact hs i k v _ e2 p
  · have e : i = kvs.length := by omega
    subst e
    exact .inl ⟨⟨q, Nat.le_refl _⟩, hd H p⟩

/-! ### from which marks one comes to these -/
structure Ahead (B : Hp) (H : Hp) (ka : List (Key × V)) (R : Nat → Nat → Prop) (n : Nat) : Prop where
  no : ∀ x, valV ka (nk x) = none → ∀ m, ¬ R x m
  at_ : ∀ x v, valV ka (nk x) = some v → ∃ l ms, v = .ref l ∧ H l = some (.lst (nums ms)) ∧ (∀ m, m ∈ ms ↔ R x m) ∧ ms.length ≤ n ∧ B l = none
  inj : ∀ x y l, valV ka (nk x) = some (.ref l) → valV ka (nk y) = some (.ref l) → x = y
  few : ka.length ≤ n
theorem Ahead.keep {B H H' : Hp} {ka : List (Key × V)} {R : Nat → Nat → Prop} {n : Nat} (h : Ahead B H ka R n) (k : ∀ r l, H r = some (.lst l) → H' r = some (.lst l)) : Ahead B H' ka R n :=
  ⟨h.no, fun x v e => let ⟨l, ms, h1, h2, h3⟩ := h.at_ x v e; ⟨l, ms, h1, k _ _ h2, h3⟩, h.inj, h.few⟩
theorem Ahead.rel {B H : Hp} {ka : List (Key × V)} {R R' : Nat → Nat → Prop} {n n' : Nat} (h : Ahead B H ka R n) (e : ∀ x m, R x m ↔ R' x m) (le : n ≤ n') : Ahead B H ka R' n' :=
  ⟨fun x v m hr => h.no x v m ((e x m).mpr hr), fun x v q => let ⟨l, ms, h1, h2, h3, h4, h5⟩ := h.at_ x v q; ⟨l, ms, h1, h2, fun m => (h3 m).trans (e x m), Nat.le_trans h4 le, h5⟩, h.inj, Nat.le_trans h.few le⟩
/-- noted in a list that was there -/
theorem Ahead.old {B H : Hp} {ka : List (Key × V)} {R : Nat → Nat → Prop} {n x m : Nat} {l : Addr} {ms : List Nat} (h : Ahead B H ka R n) (hv : valV ka (nk x) = some (.ref l)) (hl : H l = some (.lst (nums ms))) :
    Ahead B (upd H l (.lst (nums ms ++ [V.int (m : Int)]))) ka (fun y k => R y k ∨ (y = x ∧ k = m)) (n + 1) := by
  obtain ⟨l', ms', e1, e2, e3, e4, e5⟩ := h.at_ x _ hv
  cases e1
  have em : ms' = ms := by
    rw [hl] at e2
    have q : nums ms = nums ms' := by injection (Option.some.inj e2)
    have inj : ∀ {a b : List Nat}, nums a = nums b → a = b := by
      intro a
      induction a with
      | nil => intro b hb; cases b with
        | nil => rfl
        | cons y ys => cases hb
      | cons z zs ih => intro b hb; cases b with
        | nil => cases hb
        | cons y ys =>
          have hb : V.int (z : Int) :: nums zs = V.int (y : Int) :: nums ys := hb
          injection hb with q1 q2
          have := V.int.inj q1
          have : z = y := by omega
          rw [this, ih q2]
    exact (inj q).symm
  subst em
  refine ⟨fun y hy k hr => ?_, fun y v hy => ?_, h.inj, Nat.le_succ_of_le h.few⟩
  · rcases hr with q | ⟨q, _⟩
    · exact h.no y hy k q
    · subst q; rw [hv] at hy; cases hy
  · by_cases e : y = x
    · subst e
      rw [hv] at hy
      cases hy
      refine ⟨l, ms' ++ [m], rfl, by rw [upd_same, nums_snoc], fun k => ?_, by rw [List.length_append]; simp; omega, e5⟩
      rw [List.mem_append, e3 k]
      simp
    · obtain ⟨l2, ms2, f1, f2, f3, f4, f5⟩ := h.at_ y v hy
      subst f1
      refine ⟨l2, ms2, rfl, ?_, fun k => ?_, by omega, f5⟩
      · rw [upd_ne (fun z => e (h.inj y x l2 hy (by rw [z]; exact hv)))]; exact f2
      · rw [f3 k]
        exact ⟨fun z => .inl z, fun z => z.elim id fun q => absurd q.1 e⟩
/-- noted in a new list -/
theorem Ahead.fresh {B H : Hp} {ka : List (Key × V)} {R : Nat → Nat → Prop} {n x m : Nat} {z : Addr} (h : Ahead B H ka R n) (hv : valV ka (nk x) = none) (hz : H z = none) (hB : B z = none) :
    Ahead B (upd H z (.lst [V.int (m : Int)])) (putK ka (nk x) (.ref z)) (fun y k => R y k ∨ (y = x ∧ k = m)) (n + 1) := by
  have old : ∀ y v, y ≠ x → valV (putK ka (nk x) (.ref z)) (nk y) = some v → valV ka (nk y) = some v := fun y v ne e => by
    rw [valV_put, if_neg fun q => ne (nk_inj q)] at e; exact e
  refine ⟨fun y hy k hr => ?_, fun y v hy => ?_, fun y y' l h1 h2 => ?_, by have := length_putK ka (nk x) (.ref z); have := h.few; omega⟩
  · by_cases e : y = x
    · subst e; rw [valV_put, if_pos rfl] at hy; cases hy
    · rw [valV_put, if_neg fun q => e (nk_inj q)] at hy
      exact hr.elim (h.no y hy k) fun q => e q.1
  · by_cases e : y = x
    · subst e
      rw [valV_put, if_pos rfl] at hy
      cases hy
      refine ⟨z, [m], rfl, upd_same, fun k => ?_, by simp, hB⟩
      have no := h.no y hv k
      simp [no]
    · obtain ⟨l2, ms2, f1, f2, f3, f4, f5⟩ := h.at_ y v (old y v e hy)
      subst f1
      refine ⟨l2, ms2, rfl, by rw [upd_ne (ne_of_none f2 hz)]; exact f2, fun k => ?_, by omega, f5⟩
      rw [f3 k]
      exact ⟨fun z => .inl z, fun z => z.elim id fun q => absurd q.1 e⟩
  · have nz : ∀ y, y ≠ x → valV (putK ka (nk x) (.ref z)) (nk y) ≠ some (.ref z) := fun y ne q => by
      obtain ⟨l2, ms2, f1, f2, _⟩ := h.at_ y _ (old y _ ne q)
      cases f1
      rw [hz] at f2; cases f2
    by_cases e : y = x
    · by_cases e' : y' = x
      · rw [e, e']
      · subst e
        rw [valV_put, if_pos rfl] at h1
        cases h1
        exact absurd h2 (nz y' e')
    · by_cases e' : y' = x
      · subst e'
        rw [valV_put, if_pos rfl] at h2
        cases h2
        exact absurd h1 (nz y e)
      · exact h.inj y y' l (old y _ e h1) (old y' _ e' h2)
def spAhead : Sp := fun vs H Q _ => ∃ (d q : Addr) (ws : List Work) (b : List Nat) (kvs : List (Key × V)), vs = [.ref d] ∧ H d = some (.dK kvs) ∧ Beh H q ws b kvs ∧ b.length ≤ 1024 ∧ ws.length ≤ 16 ∧
  ∀ (r : Addr) (H' : Hp) (ka : List (Key × V)), Same H H' → H r = none → H' r = some (.dK ka) → Ahead H H' ka (fun x m => m ∈ b ∧ x ∈ nexts ws m) 20000 → Q (.ref r) H'
section
variable {P : Program} {w : World} {K : PySem.W.Frag} {mg : Str → Option Value} {base : Heap} {a : Adr}
theorem sc_those_ahead : FnScope ["behind", "ahead", "marks", "laters", "later"] ["behind"] (defScope s_those_ahead) := ⟨rfl, rfl, rfl, by decide +kernel, rfl, by decide +kernel, by decide +kernel⟩
theorem ok_those_ahead (T : Txt K mg a) : FnOk P w K mg base CX0 1 (a.f 24) (a.d 24) ["behind"] spAhead := by
  refine T.g_those_ahead.fn.ok sc_those_ahead (fun vs H Q E h => ?_) (fun cdv A outer s H vs Q E hr h => ?_)
  · obtain ⟨d, q, ws, b, kvs, rfl, _⟩ := h
    rfl
  · obtain ⟨d, q, ws, b, kvs, rfl, hd, B, few, fw, k⟩ := h
    have nd := sc_those_ahead.nd
    refine ⟨_, pss_cons (ps_set (i := 1) nd rfl (Or.inl rfl) pe_dnewK)
      (pss_cons (ps_lock (ps_for PassesOwn.never rfl (pi_items (pv 0)) (pg_tup rfl (pgs_cons (pg_name (i := 2) nd rfl (Or.inl rfl)) (pgs_cons (pg_name (i := 3) nd rfl (Or.inl rfl)) pgs_nil)))
        (pss_one (ps_for PassesOwn.never rfl (pi_list (pv 3)) (pg_name (i := 4) nd rfl (Or.inl rfl))
          (pss_one (ps_expr (pe_bm PySem.F.plainAttrs_list PySem.F.slot_list_append PySem.F.type_list_append mt_append (pe_dsd (pv 1) (pv 4) (pe_lst pa_nil) ⟨rfl, rfl, rfl, rfl⟩) (pa_cons (pv 2) pa_nil))))))))
      (pss_one (ps_ret (pv 1)))), ?_⟩
    refine fun r n1 => ?_
    have s1 : Same H (upd H r (.dK [])) := Same.new n1
    have rd : d ≠ r := ne_of_none hd n1
    refine ⟨d, .dK kvs, s1 _ _ hd, True.intro, fun od => ?_⟩
    refine ⟨_, rfl, d, od, kvs, rfl, upd_same, ?_⟩
    -- what stands while d is locked
    refine for_items (d := d) (o := od) (kvs := kvs) (fun i σ H1 => ∃ (v2 v3 v4 : Option V) (ka : List (Key × V)), σ = [some (.ref d), some (.ref r), v2, v3, v4] ∧ H1 d = some (.frz od (.dK kvs)) ∧ (∀ b o, H b = some o → b ≠ d → H1 b = some o) ∧ H1 r = some (.dK ka) ∧ Ahead H H1 ka (fun x m => m ∈ b.take i ∧ x ∈ nexts ws m) (16 * i))
      ⟨none, none, none, [], rfl, upd_same, fun b o e hb => by rw [upd_ne hb]; exact s1 b o e, by rw [upd_ne rd.symm, upd_same], ⟨fun x _ m hm => (by simp at hm), fun x v e => (by cases e), fun x y l e => (by cases e), Nat.zero_le _⟩⟩
      (fun i σ H1 ⟨_, _, _, _, _, z, _⟩ => z) ?_ ?_
    · rintro i kk v σ H1 T1 hi ⟨v2, v3, v4, ka, rfl, hd1, k1, hr1, A1⟩ nT
      obtain ⟨m, rl, hb, rfl, rfl, hrl, _⟩ := B.at_ i kk v hi
      have i1 : i < 1024 := Nat.lt_of_lt_of_le (List.getElem?_eq_some_iff.mp hb).1 few
      have rld : rl ≠ d := ne_of hrl hd (by intro z; cases z)
      have s2 : Same H1 (upd H1 T1 (.tup [V.int (m : Int), .ref rl])) := Same.new nT
      refine ⟨T1, _, rfl, SqT.of upd_same, rfl, _, _, rfl, _, _, rfl, rfl, ?_⟩
      have nl := Nat.le_trans (nexts_len ws m) fw
      refine ⟨_, rfl, rl, rfl, ⟨_, SqL.of (s2 _ _ (k1 _ _ hrl rld))⟩, ?_⟩
      refine for_list (K := K) (a := rl) (xs := nums (nexts ws m)) (fun j σ H2 => ∃ (v4 : Option V) (ka : List (Key × V)), σ = [some (.ref d), some (.ref r), some (.int (m : Int)), some (.ref rl), v4] ∧ H2 d = some (.frz od (.dK kvs)) ∧ (∀ b o, H b = some o → b ≠ d → H2 b = some o) ∧ H2 r = some (.dK ka) ∧
          Ahead H H2 ka (fun x k => (k ∈ b.take i ∧ x ∈ nexts ws k) ∨ (k = m ∧ x ∈ (nexts ws m).take j)) (16 * i + j))
        ⟨v4, ka, rfl, s2 _ _ hd1, fun b o e hb => s2 b o (k1 b o e hb), s2 _ _ hr1, (A1.keep fun _ _ e => s2 _ _ e).rel (fun x k => by simp) (by omega)⟩
        (fun j σ H2 _ ⟨_, _, _, _, z, _⟩ => SqL.of (z _ _ hrl rld)) ?_ ?_
      · rintro j y σ H2 hj ⟨v4, ka, rfl, hd2, k2, hr2, A2⟩
        obtain ⟨x, hx, rfl⟩ := nums_get hj
        have jl : j < 16 := Nat.lt_of_lt_of_le (List.getElem?_eq_some_iff.mp hx).1 nl
        have rel : ∀ (y k : Nat), ((k ∈ b.take i ∧ y ∈ nexts ws k) ∨ (k = m ∧ y ∈ (nexts ws m).take j)) ∨ (y = x ∧ k = m) ↔ (k ∈ b.take i ∧ y ∈ nexts ws k) ∨ (k = m ∧ y ∈ (nexts ws m).take (j + 1)) := fun y k => by
          rw [take_one hx, List.mem_append, List.mem_singleton]
          constructor
          · rintro ((h | ⟨h1, h2⟩) | ⟨h1, h2⟩)
            · exact .inl h
            · exact .inr ⟨h1, .inl h2⟩
            · exact .inr ⟨h2, .inr h1⟩
          · rintro (h | ⟨h1, h2 | h2⟩)
            · exact .inl (.inl h)
            · exact .inl (.inr ⟨h1, h2⟩)
            · exact .inr ⟨h2, h1⟩
        refine ⟨_, rfl, r, rfl, .inl ⟨_, .inl hr2⟩, _, rfl, Nat.zero_le _, fun z nz => ?_⟩
        have zr : r ≠ z := ne_of_none hr2 nz
        have zd : d ≠ z := ne_of_none hd2 nz
        have s3 : Same H2 (upd H2 z (.lst [])) := Same.new nz
        refine ⟨ka, nk x, s3 _ _ hr2, rfl, small (m := 20000) (by have := A2.few; omega) (by decide), fun v hv => ?_, fun hv => ?_⟩
        · obtain ⟨l, ms, rfl, hl, hms, hlen, hB⟩ := A2.at_ x v hv
          have lr : r ≠ l := ne_of hr2 hl (by intro z; cases z)
          have ld : d ≠ l := ne_of hd2 hl (by intro z; cases z)
          have nH : ∀ b o, H b = some o → b ≠ l := fun b o e => ne_of_none e hB
          refine ⟨.inl ⟨rfl, _, SqL.of (s3 _ _ hl)⟩, _, rfl, l, _, _, rfl, rfl, s3 _ _ hl, small (m := 20000) (by rw [nums_len]; omega) (by decide), ?_⟩
          refine ⟨_, ka, rfl, by rw [upd_ne ld]; exact s3 _ _ hd2, fun b o e hb => by rw [upd_ne (nH b o e)]; exact s3 _ _ (k2 b o e hb), by rw [upd_ne lr]; exact s3 _ _ hr2, ?_⟩
          exact ((A2.keep fun _ _ e => s3 _ _ e).old hv (s3 _ _ hl)).rel rel (by omega)
        · refine ⟨.inl ⟨rfl, _, SqL.of ((upd_ne zr.symm).trans upd_same)⟩, _, rfl, z, _, _, rfl, rfl, (upd_ne zr.symm).trans upd_same, (by show 0 < sizeLine; decide), ?_⟩
          rw [show ([] ++ [V.int (m : Int)] : List V) = [V.int (m : Int)] from rfl]
          have zH : H z = none := by
            cases q : H z with
            | none => rfl
            | some o =>
              by_cases e : z = d
              · exact absurd e.symm zd
              · rw [k2 z o q e] at nz; cases nz
          have e5 : upd (upd (upd H2 z (.lst [])) r (.dK (putK ka (nk x) (.ref z)))) z (.lst [V.int (m : Int)]) = upd (upd H2 z (.lst [V.int (m : Int)])) r (.dK (putK ka (nk x) (.ref z))) := by
            funext b
            unfold upd
            by_cases e1 : b = z
            · rw [if_pos e1, if_neg (fun q => zr (q.symm.trans e1)), if_pos e1]
            · rw [if_neg e1]
              by_cases e2 : b = r
              · rw [if_pos e2, if_pos e2]
              · rw [if_neg e2, if_neg e2, if_neg e1, if_neg e1]
          rw [e5]
          refine ⟨_, _, rfl, by rw [upd_ne rd, upd_ne zd]; exact hd2, fun b o e hb => by rw [upd_ne (ne_of_none e n1), upd_ne (ne_of_none e zH)]; exact k2 b o e hb, upd_same, ?_⟩
          exact ((A2.fresh hv nz zH).keep fun q l e => by rw [upd_ne (fun z' => by subst z'; rw [upd_ne zr, hr2] at e; cases e)]; exact e).rel rel (by omega)
      · rintro σ H2 ⟨v4, ka, rfl, hd2, k2, hr2, A2⟩
        rw [nums_len, List.take_length] at A2
        refine ⟨_, _, _, ka, rfl, hd2, k2, hr2, A2.rel (fun x k => ?_) (by omega)⟩
        rw [take_one hb, List.mem_append, List.mem_singleton]
        constructor
        · rintro (h | ⟨rfl, h⟩)
          · exact ⟨.inl h.1, h.2⟩
          · exact ⟨.inr rfl, h⟩
        · rintro ⟨h | rfl, h2⟩
          · exact .inl ⟨h, h2⟩
          · exact .inr ⟨rfl, h2⟩
    · rintro σ H1 ⟨v2, v3, v4, ka, rfl, hd1, k1, hr1, A1⟩
      refine ⟨hd1, _, rfl, ?_⟩
      have kl := B.keys.len
      rw [kl, List.take_length] at A1
      refine k r _ ka (fun b o e => ?_) n1 (by rw [upd_ne rd.symm]; exact hr1) ((A1.keep fun q l e => by rw [upd_ne (fun z => by subst z; rw [hd1] at e; cases e)]; exact e).rel (fun _ _ => Iff.rfl) (by omega))
      by_cases hb : b = d
      · subst hb; rw [upd_same]; rw [hd] at e; exact e
      · rw [upd_ne hb]; exact k1 b o e hb
end
end Ew

namespace Ew
open PySem PySem.Spec PyProof.Rows L2 EwM
open Kct8 (Work isOn doubles can nexts)

def spCanEnd : Sp := fun vs H Q _ => ∃ (d q : Addr) (ws : List Work) (b : List Nat) (kvs : List (Key × V)), vs = [.ref d] ∧ H d = some (.dK kvs) ∧ Beh H q ws b kvs ∧ b.length ≤ 1024 ∧ ws.length ≤ 16 ∧
  ∀ (r : Addr) (H' : Hp) (ke : List (Key × V)) (E : List Nat), Same H H' → H r = none → H' r = some (.dK ke) → KeysNk ke E → Back ws b E [] → Q (.ref r) H'
section
variable {P : Program} {w : World} {K : PySem.W.Frag} {mg : Str → Option Value} {base : Heap} {a : Adr}
theorem sc_can_end : FnScope ["behind", "ahead", "ending", "newest", "coming", "marks", "earlier"] ["behind"] (defScope s_marks_that_can_end) := ⟨rfl, rfl, rfl, by decide +kernel, rfl, by decide +kernel, by decide +kernel⟩
theorem ok_can_end (T : Txt K mg a) : FnOk P w K mg base CX0 2 (a.f 25) (a.d 25) ["behind"] spCanEnd := by
  refine T.g_marks_that_can_end.fn.ok sc_can_end (fun vs H Q E h => ?_) (fun cdv A outer s H vs Q E hr h => ?_)
  · obtain ⟨d, q, ws, b, kvs, rfl, _⟩ := h
    rfl
  · obtain ⟨d, q0, ws, b, kvs, rfl, hd, B, few, fw, k⟩ := h
    have nd := sc_can_end.nd
    have hu := hu_of hr
    refine ⟨_, pss_cons (ps_set (i := 1) nd rfl (Or.inl rfl) (pe_call (ok_those_ahead T) hr rfl T.g_those_ahead.at_ T.g_those_ahead.fn.kp T.g_those_ahead.b .nil pass0 (pa_cons (pv 0) pa_nil)))
      (pss_cons (ps_set (i := 2) nd rfl (Or.inl rfl) (pe_disp (pps_cons (pcon T.c_END) pe_bl pps_nil) rfl rfl (by simp) (by decide)))
      (pss_cons (ps_set (i := 3) nd rfl (Or.inl rfl) (pe_lst (pa_cons (pcon T.c_END) pa_nil)))
      (pss_cons (ps_while PassesOwn.never (pt_cmpR op_gt (pe_callB call_len_seq (by rfl) T.b_len PySem.boot_len (pa_cons (pv 3) pa_nil)) pe_int (nomark _))
        (pss_cons (ps_set (i := 4) nd rfl (Or.inl rfl) (pe_lst pa_nil))
        (pss_cons (ps_for PassesOwn.never rfl (pi_list (pv 3)) (pg_name (i := 5) nd rfl (Or.inl rfl))
          (pss_one (ps_for PassesOwn.never rfl (pi_list (pe_dget2 hu (pv 1) (pv 5) (pe_lst pa_nil) ⟨rfl, rfl, rfl, rfl⟩)) (pg_name (i := 6) nd rfl (Or.inl rfl))
            (pss_one (ps_if (pt_cmp (pc_dnotin hu (pv 6) (pv 2)))
              (pss_cons (ps_dput hu (pv 2) (pv 6) pe_bl rfl) (pss_one (ps_expr (pe_bm PySem.F.plainAttrs_list PySem.F.slot_list_append PySem.F.type_list_append mt_append (pv 4) (pa_cons (pv 6) pa_nil))))) pss_nil)))))
        (pss_one (ps_set (i := 3) nd rfl (Or.inl rfl) (pv 4))))))
      (pss_one (ps_ret (pv 2)))))), ?_⟩
    refine ⟨_, rfl, d, q0, ws, b, kvs, rfl, hd, B, few, fw, fun ah H1 ka s1 n1 hah A1 => ?_⟩
    refine fun ed n2 => ⟨upd_same, [(nk 2, .bl true)], rfl, (by show 1 ≤ 15; decide), ?_⟩
    rw [upd_upd]
    have s2 : Same H1 (upd H1 ed (.dK [(nk 2, .bl true)])) := Same.new n2
    have edH : H ed = none := s1.free n2
    have ahed : ah ≠ ed := ne_of_none hah n2
    refine ⟨(by show 1 ≤ sizeLine; decide), fun nl n3 => ?_⟩
    have s3 : Same (upd H1 ed (.dK [(nk 2, .bl true)])) (upd (upd H1 ed (.dK [(nk 2, .bl true)])) nl (.lst [V.int 2])) := Same.new n3
    -- the lists of ahead stay as they are: all else is new or is not in it
    refine ⟨fun mm σ H2 => ∃ (E n : List Nat) (ke : List (Key × V)) (nl : Addr) (v4 v5 v6 : Option V), σ = [some (.ref d), some (.ref ah), some (.ref ed), some (.ref nl), v4, v5, v6] ∧ Same H1 (upd H2 ed (.dK [(nk 2, .bl true)])) ∧ H2 ed = some (.dK ke) ∧ H2 nl = some (.lst (nums n)) ∧ KeysNk ke E ∧ Back ws b E n ∧ mm = 2 * (b.length + 1 - E.length) + (if n.length = 0 then 0 else 1), ⟨_, [2], [2], [(nk 2, .bl true)], nl, none, none, none, rfl, ?_, s3 _ _ upd_same, upd_same, rfl, back_start ws b, rfl⟩, ?_⟩
    · intro c o e
      rw [upd_ne (ne_of_none e n2)]
      exact s3 _ _ (s2 _ _ e)
    rintro mm σ H2 ⟨E, n, ke, nl, v4, v5, v6, rfl, S2, he, hn, Ke, Bk, rfl⟩
    have keep1 : ∀ c o, H1 c = some o → H2 c = some o := fun c o e => by
      have := S2 c o e
      rw [upd_ne (ne_of_none e n2)] at this
      exact this
    have sH2 : Same H H2 := s1.trans keep1
    have El := back_len Bk
    refine ⟨_, rfl, nl, _, rfl, .inl (SqL.of hn), _, _, rfl, rfl, _, rfl, ?_⟩
    rw [nums_len]
    refine ite2 (fun h => ?_) (fun h => ?_)
    · have h : (0 : Int) < (n.length : Int) := of_decide_eq_true h
      refine ⟨fun σ' H' => ∃ mm', mm' < 2 * (b.length + 1 - E.length) + (if n.length = 0 then 0 else 1) ∧ ∃ (E n : List Nat) (ke : List (Key × V)) (nl : Addr) (v4 v5 v6 : Option V), σ' = [some (.ref d), some (.ref ah), some (.ref ed), some (.ref nl), v4, v5, v6] ∧ Same H1 (upd H' ed (.dK [(nk 2, .bl true)])) ∧ H' ed = some (.dK ke) ∧ H' nl = some (.lst (nums n)) ∧ KeysNk ke E ∧ Back ws b E n ∧ mm' = 2 * (b.length + 1 - E.length) + (if n.length = 0 then 0 else 1), fun _ _ z => z, ?_⟩
      refine ⟨Nat.zero_le _, fun q nq => ?_⟩
      have sq : Same H2 (upd H2 q (.lst [])) := Same.new nq
      have qH1 : H1 q = none := by
        cases z : H1 q with
        | none => rfl
        | some o => rw [keep1 q o z] at nq; cases nq
      have qe : ed ≠ q := ne_of_none he nq
      have qn : nl ≠ q := ne_of_none hn nq
      refine ⟨_, rfl, nl, rfl, ⟨_, SqL.of (sq _ _ hn)⟩, ?_⟩
      refine for_list (K := K) (a := nl) (xs := nums n) (fun i σ H3 => ∃ (E3 co : List Nat) (ke3 : List (Key × V)) (v5 v6 : Option V), σ = [some (.ref d), some (.ref ah), some (.ref ed), some (.ref nl), some (.ref q), v5, v6] ∧ (∀ c o, H1 c = some o → H3 c = some o) ∧ H3 nl = some (.lst (nums n)) ∧ H3 ed = some (.dK ke3) ∧ H3 q = some (.lst (nums co)) ∧ KeysNk ke3 E3 ∧ Back ws b E3 (n.drop i ++ co) ∧ E3.length = E.length + co.length)
        ⟨E, [], ke, v5, v6, rfl, fun c o e => sq _ _ (keep1 c o e), sq _ _ hn, sq _ _ he, upd_same, Ke, by rw [List.drop_zero, List.append_nil]; exact Bk, rfl⟩ (fun i σ H3 _ ⟨_, _, _, _, _, _, _, z, _⟩ => SqL.of z) ?_ ?_
      · rintro i y σ H3 hi ⟨E3, co, ke3, v5, v6, rfl, k3, hn3, he3, hq3, Ke3, Bk3, El3⟩
        obtain ⟨m, hm, rfl⟩ := nums_get hi
        have dr : n.drop i = m :: n.drop (i + 1) := by
          have lt := (List.getElem?_eq_some_iff.mp hm).1
          have ex := (List.getElem?_eq_some_iff.mp hm).2
          rw [List.drop_eq_getElem_cons lt, ex]
        rw [dr] at Bk3
        have hah3 := k3 _ _ hah
        have mE : m ∈ E3 := Bk3.new m (by simp)
        have A3 := A1.keep (H' := H3) fun r l e => k3 _ _ e
        have len3 := back_len Bk3
        refine ⟨_, rfl, ah, rfl, .inl ⟨_, .inl hah3⟩, _, rfl, Nat.zero_le _, fun z nz => ?_⟩
        have s4 : Same H3 (upd H3 z (.lst [])) := Same.new nz
        have zq : z ≠ q := (ne_of_none hq3 nz).symm
        have zH1 : H1 z = none := by
          cases y : H1 z with
          | none => rfl
          | some o => rw [k3 z o y] at nz; cases nz
        -- the list that is walked
        obtain ⟨l, ms, el, hl, lq, mem⟩ : ∃ l ms, (valV ka (nk m)).getD (V.ref z) = V.ref l ∧ (upd H3 z (.lst [])) l = some (.lst (nums ms)) ∧ l ≠ q ∧ (∀ k, k ∈ ms ↔ k ∈ b ∧ m ∈ nexts ws k) := by
          cases y : valV ka (nk m) with
          | none => exact ⟨z, [], rfl, upd_same, zq, fun k => ⟨fun h => (by simp at h), fun h => absurd h (A1.no m y k)⟩⟩
          | some v =>
            obtain ⟨l, ms, rfl, hl, hms, _⟩ := A1.at_ m v y
            exact ⟨l, ms, rfl, s4 _ _ (k3 _ _ hl), ne_of_none hl qH1, hms⟩
        refine ⟨_, DGet.k (k := nk m) (s4 _ _ hah3), l, el, ⟨_, SqL.of hl⟩, ?_⟩
        refine for_list (K := K) (a := l) (xs := nums ms) (fun j σ H5 => ∃ (E5 co5 : List Nat) (ke5 : List (Key × V)) (v6 : Option V), σ = [some (.ref d), some (.ref ah), some (.ref ed), some (.ref nl), some (.ref q), some (.int (m : Int)), v6] ∧ (∀ c o, H1 c = some o → H5 c = some o) ∧ H5 nl = some (.lst (nums n)) ∧ H5 ed = some (.dK ke5) ∧ H5 q = some (.lst (nums co5)) ∧ H5 l = some (.lst (nums ms)) ∧ KeysNk ke5 E5 ∧
            Back ws b E5 (m :: (n.drop (i + 1) ++ co5)) ∧ E5.length = E.length + co5.length ∧ m ∈ E5 ∧ ∀ x ∈ ms.take j, x ∈ E5)
          ⟨E3, co, ke3, v6, rfl, fun c o e => s4 _ _ (k3 c o e), s4 _ _ hn3, s4 _ _ he3, s4 _ _ hq3, hl, Ke3, Bk3, El3, mE, fun x hx => by simp at hx⟩ (fun j σ H5 _ ⟨_, _, _, _, _, _, _, _, _, y, _⟩ => SqL.of y) ?_ ?_
        · rintro j y σ H5 hj ⟨E5, co5, ke5, v6, rfl, k5, hn5, he5, hq5, hl5, Ke5, Bk5, El5, mE5, sub5⟩
          obtain ⟨x, hx, rfl⟩ := nums_get hj
          obtain ⟨xb, xn⟩ := (mem x).mp (List.mem_of_getElem? hx)
          have len5 := back_len Bk5
          refine ⟨_, rfl, _, rfl, ed, _, rfl, DGet.k (k := nk x) he5, _, rfl, ?_⟩
          have mi := Ke5.mem x
          by_cases xm : x ∈ E5
          · rw [mi.mpr xm]
            refine iteF ⟨E5, co5, ke5, _, rfl, k5, hn5, he5, hq5, hl5, Ke5, Bk5, El5, mE5, fun y hy => ?_⟩
            rw [take_one hx] at hy
            rcases List.mem_append.mp hy with w | w
            · exact sub5 y w
            · have e : y = x := by simpa using w
              rw [e]; exact xm
          · have no : (valV ke5 (nk x)).isSome = false := by rw [Bool.eq_false_iff]; exact fun z => xm (mi.mp z)
            rw [no]
            have lk : ke5.length < sizeLine := small (m := 4000) (by have := Ke5.len; omega) (by decide)
            refine iteT ⟨_, rfl, _, rfl, ed, _, rfl, DPut.k (k := nk x) he5 lk, _, rfl, .inl ⟨rfl, _, SqL.of ((upd_ne qe.symm).trans hq5)⟩, _, rfl, q, _, _, rfl, rfl, (upd_ne qe.symm).trans hq5, small (m := 4000) (by rw [nums_len]; omega) (by decide), ?_⟩
            refine ⟨E5 ++ [x], co5 ++ [x], putK ke5 (nk x) (.bl true), _, rfl, fun c o e => ?_, ?_, ?_, ?_, ?_, Ke5.put xm _, ?_, ?_, List.mem_append_left _ mE5, fun y hy => ?_⟩
            · rw [upd_ne (ne_of_none e qH1), upd_ne (ne_of_none e n2)]; exact k5 c o e
            · rw [upd_ne qn, upd_ne (ne_of hn5 he5 (by intro z; cases z))]; exact hn5
            · rw [upd_ne qe, upd_same]
            · rw [upd_same, nums_snoc]
            · rw [upd_ne lq, upd_ne (ne_of hl5 he5 (by intro z; cases z))]; exact hl5
            · have z := back_add Bk5 xb mE5 xn xm
              rw [List.cons_append, List.append_assoc] at z
              exact z
            · rw [List.length_append, List.length_append]; simp only [List.length_cons, List.length_nil]; omega
            · rw [take_one hx] at hy
              rcases List.mem_append.mp hy with w | w
              · exact List.mem_append_left _ (sub5 y w)
              · exact List.mem_append_right _ w
        · rintro σ H5 ⟨E5, co5, ke5, v6, rfl, k5, hn5, he5, hq5, hl5, Ke5, Bk5, El5, mE5, sub5⟩
          rw [nums_len, List.take_length] at sub5
          exact ⟨E5, co5, ke5, _, _, rfl, k5, hn5, he5, hq5, Ke5, back_done Bk5 fun x hx hn => sub5 x ((mem x).mpr ⟨hx, hn⟩), El5⟩
      · rintro σ H3 ⟨E3, co, ke3, v5, v6, rfl, k3, hn3, he3, hq3, Ke3, Bk3, El3⟩
        rw [nums_len, List.drop_length, List.nil_append] at Bk3
        have len3 := back_len Bk3
        refine ⟨_, rfl, _, ?_, E3, co, ke3, q, _, _, _, rfl, fun c o e => by rw [upd_ne (ne_of_none e n2)]; exact k3 c o e, he3, hq3, Ke3, Bk3, rfl⟩
        rw [if_neg (by omega : ¬ n.length = 0)]
        split <;> omega
    · have h : ¬ (0 : Int) < (n.length : Int) := fun z => h (decide_eq_true z)
      have ne : n = [] := by
        cases n with
        | nil => rfl
        | cons y ys => simp at h
      subst ne
      exact ⟨_, rfl, k ed H2 ke E sH2 edH he Ke Bk⟩
end
end Ew

namespace Ew
open PySem PySem.Spec PyProof.Rows L2 EwM
open Kct8 (Work isOn doubles can nexts)

theorem bt_min : bootBuiltins "min" = some (.builtin "min") := by decide +kernel
theorem bt_max : bootBuiltins "max" = some (.builtin "max") := by decide +kernel
theorem bt_tuple : bootBuiltins "tuple" = some (.type "tuple") := by decide +kernel
theorem bt_list : bootBuiltins "list" = some (.type "list") := by decide +kernel
theorem lc_enum {K : PySem.W.Frag} {a : Addr} {xs : List V} {g : TG} {tt : TT} {te : TE} {vs : List Nat} {σ : L2.St} {H1 : Hp} {D : Addr} {Qd : Hp → Prop} (Pv : Nat → Hp → Prop) (h0 : Pv 0 (upd H1 D (.lst []))) (hl : ∀ i H, i ≤ xs.length → Pv i H → SqL K H a xs)
    (hs : ∀ i x H T, xs[i]? = some x → Pv i H → H T = none → g (.ref T) (wipe σ vs) (upd H T (.tup [.int (i : Nat), x])) fun σ2 H2 => wipe σ2 vs = wipe σ vs ∧ tt σ2 H2 fun b H3 =>
      if b = true then te σ2 H3 fun y H4 => ∃ acc, H4 D = some (.lst acc) ∧ acc.length < sizeLine ∧ Pv (i + 1) (upd H4 D (.lst (acc ++ [y]))) else Pv (i + 1) H3) (hd : ∀ H, Pv xs.length H → Qd H) :
    ∃ W : Nat → Nat → Hp → Prop, (∃ m, W 0 m (upd H1 D (.lst []))) ∧ ∀ i m H, W i m H →
      ((Ite K a).stop i H ∧ Qd H) ∨ ((Ite K a).go i H ∧ ∃ Nx : Hp → Prop, (∀ H', Nx H' → ∃ m', m' < m ∧ W (i + 1) m' H') ∧ ∀ x H', (Ite K a).yld i H x H' → g x (wipe σ vs) H' fun σ2 H2 => wipe σ2 vs = wipe σ vs ∧ tt σ2 H2 fun b H3 =>
        if b = true then te σ2 H3 fun y H4 => ∃ acc, H4 D = some (.lst acc) ∧ acc.length < sizeLine ∧ Nx (upd H4 D (.lst (acc ++ [y]))) else Nx H3) := by
  refine ⟨fun i m H => m = xs.length - i ∧ i ≤ xs.length ∧ Pv i H, ⟨xs.length, by simp, Nat.zero_le _, h0⟩, ?_⟩
  rintro i m H ⟨rfl, hi, p⟩
  have q := hl i H hi p
  by_cases hlt : i < xs.length
  · refine .inr ⟨⟨xs, xs[i], q, by simp [hlt]⟩, Pv (i + 1), fun H' p' => ⟨xs.length - (i + 1), by omega, rfl, hlt, p'⟩, fun x H' y => ?_⟩
    obtain ⟨T, z, e1, e2, e3, y⟩ := y
    subst e1 e3
    exact hs i z _ T (y xs q) p e2
  · have e : i = xs.length := by omega
    subst e
    exact .inl ⟨⟨xs, q, Nat.le_refl _⟩, hd H p⟩

def spDblSome (a : Adr) : Sp := fun vs H Q _ => ∃ (p d : Addr) (w : Work) (b : List Nat) (kvs : List (Key × V)), vs = [.ref p, .ref d] ∧ StepAt a H p w ∧ H d = some (.dK kvs) ∧ KeysNk kvs b ∧ Q (.bl (b.any fun m => isOn w m && doubles w m)) H
def spDoneSome (a : Adr) : Sp := fun vs H Q _ => ∃ (p d : Addr) (w : Work) (b : List Nat) (kvs : List (Key × V)), vs = [.ref p, .ref d] ∧ StepAt a H p w ∧ H d = some (.dK kvs) ∧ KeysNk kvs b ∧ Q (.bl (b.any fun m => can w m)) H
theorem KeysNk.get {kvs : List (Key × V)} {l : List Nat} (h : KeysNk kvs l) {i : Nat} {k : Key} {v : V} (e : kvs[i]? = some (k, v)) : ∃ m, l[i]? = some m ∧ k = nk m := by
  have q : (kvs.map (·.1))[i]? = some k := by rw [List.getElem?_map, e]; rfl
  rw [h, List.getElem?_map] at q
  cases z : l[i]? with
  | none => rw [z] at q; cases q
  | some m => rw [z] at q; exact ⟨m, rfl, (Option.some.inj q).symm⟩
theorem any_hit {α : Type} {p : α → Bool} {l : List α} {i : Nat} {x : α} (h : l[i]? = some x) (hx : p x = true) : l.any p = true := List.any_eq_true.mpr ⟨x, List.mem_of_getElem? h, hx⟩
theorem any_no {α : Type} {p : α → Bool} {l : List α} (h : ∀ x ∈ l, p x = false) : l.any p = false := by rw [List.any_eq_false]; intro x hx; rw [h x hx]; exact Bool.false_ne_true
theorem no_more {p : Nat → Bool} {l : List Nat} {i : Nat} {x : Nat} (h : l[i]? = some x) (no : ∀ y ∈ l.take i, p y = false) (hx : ¬ p x = true) : ∀ y ∈ l.take (i + 1), p y = false := fun y hy => by
  rw [take_one h] at hy
  rcases List.mem_append.mp hy with q | q
  · exact no y q
  · have e : y = x := by simpa using q
    rw [e]; exact Bool.eq_false_iff.mpr hx
section
variable {P : Program} {w : World} {K : PySem.W.Frag} {mg : Str → Option Value} {base : Heap} {a : Adr}
theorem sc_dblsome : FnScope ["step", "behind", "marks"] ["step", "behind"] (defScope s_doubles_somewhere) := ⟨rfl, rfl, rfl, by decide +kernel, rfl, by decide +kernel, by decide +kernel⟩
theorem ok_dblsome (T : Txt K mg a) : FnOk P w K mg base CX0 2 (a.f 26) (a.d 26) ["step", "behind"] (spDblSome a) := by
  refine T.g_doubles_somewhere.fn.ok sc_dblsome (fun vs H Q E h => ?_) (fun cdv A outer s H vs Q E hr h => ?_)
  · obtain ⟨p, d, wk, b, kvs, rfl, _⟩ := h
    rfl
  · obtain ⟨p, d, wk, b, kvs, rfl, ⟨dx, hp⟩, hd, Kb, q⟩ := h
    have nd := sc_dblsome.nd
    refine ⟨_, pss_cons (ps_lock (ps_for PassesOwn.never rfl (pi_keys (pv 1)) (pg_name (i := 2) nd rfl (Or.inl rfl))
      (pss_one (ps_if (pt_val (pe_meth (pv 0) T.cl_Step T.m_Step_doubles.m (ok_doubles T) hr T.m_Step_doubles.b .nil pass0 (pa_cons (pv 2) pa_nil))) (pss_one (ps_ret pe_bl)) pss_nil)))) (pss_one (ps_ret pe_bl)), ?_⟩
    refine ⟨d, .dK kvs, hd, True.intro, fun od => ?_⟩
    have pd : p ≠ d := ne_of hp hd (by intro z; cases z)
    refine ⟨_, rfl, d, od, rfl, .inl ⟨kvs, upd_same, ?_⟩⟩
    refine for_keys (d := d) (o := od) (kvs := kvs) (fun i σ H1 => ∃ v2 : Option V, σ = [some (.ref p), some (.ref d), v2] ∧ H1 = upd H d (.frz od (.dK kvs)) ∧ ∀ m ∈ b.take i, (isOn wk m && doubles wk m) = false)
      ⟨none, rfl, rfl, fun m hm => by simp at hm⟩ (fun i σ H1 ⟨_, _, z, _⟩ => by rw [z]; exact upd_same) ?_ ?_
    · rintro i kk v σ H1 hi ⟨v2, rfl, rfl, no⟩
      obtain ⟨m, hm, rfl⟩ := Kb.get hi
      have hp1 : (upd H d (.frz od (.dK kvs))) p = some (.ins (a.c 4) dx (stF wk)) := (upd_ne pd).trans hp
      refine ⟨_, rfl, p, dx, _, rfl, hp1, rfl, _, rfl, p, wk, m, rfl, ⟨dx, hp1⟩, _, rfl, ?_⟩
      refine ite2 (fun h => ?_) (fun h => ?_)
      · refine ⟨upd_same, ?_⟩
        rw [upd_back hd]
        rw [any_hit (p := fun m => isOn wk m && doubles wk m) hm h] at q
        exact q
      · exact ⟨_, rfl, rfl, no_more (p := fun m => isOn wk m && doubles wk m) hm no h⟩
    · rintro σ H1 ⟨v2, rfl, rfl, no⟩
      refine ⟨upd_same, ?_⟩
      rw [upd_back hd]
      rw [Kb.len, List.take_length] at no
      rw [any_no (p := fun m => isOn wk m && doubles wk m) no] at q
      exact q
theorem sc_donesome : FnScope ["step", "behind", "marks"] ["step", "behind"] (defScope s_is_done_somewhere) := ⟨rfl, rfl, rfl, by decide +kernel, rfl, by decide +kernel, by decide +kernel⟩
theorem ok_donesome (T : Txt K mg a) : FnOk P w K mg base CX0 2 (a.f 27) (a.d 27) ["step", "behind"] (spDoneSome a) := by
  refine T.g_is_done_somewhere.fn.ok sc_donesome (fun vs H Q E h => ?_) (fun cdv A outer s H vs Q E hr h => ?_)
  · obtain ⟨p, d, wk, b, kvs, rfl, _⟩ := h
    rfl
  · obtain ⟨p, d, wk, b, kvs, rfl, ⟨dx, hp⟩, hd, Kb, q⟩ := h
    have nd := sc_donesome.nd
    refine ⟨_, pss_cons (ps_lock (ps_for PassesOwn.never rfl (pi_keys (pv 1)) (pg_name (i := 2) nd rfl (Or.inl rfl))
      (pss_one (ps_if (pt_val (pe_meth (pv 0) T.cl_Step T.m_Step_can_be_done.m (ok_can T) hr T.m_Step_can_be_done.b .nil pass0 (pa_cons (pv 2) pa_nil))) (pss_one (ps_ret pe_bl)) pss_nil)))) (pss_one (ps_ret pe_bl)), ?_⟩
    refine ⟨d, .dK kvs, hd, True.intro, fun od => ?_⟩
    have pd : p ≠ d := ne_of hp hd (by intro z; cases z)
    refine ⟨_, rfl, d, od, rfl, .inl ⟨kvs, upd_same, ?_⟩⟩
    refine for_keys (d := d) (o := od) (kvs := kvs) (fun i σ H1 => ∃ v2 : Option V, σ = [some (.ref p), some (.ref d), v2] ∧ H1 = upd H d (.frz od (.dK kvs)) ∧ ∀ m ∈ b.take i, can wk m = false)
      ⟨none, rfl, rfl, fun m hm => by simp at hm⟩ (fun i σ H1 ⟨_, _, z, _⟩ => by rw [z]; exact upd_same) ?_ ?_
    · rintro i kk v σ H1 hi ⟨v2, rfl, rfl, no⟩
      obtain ⟨m, hm, rfl⟩ := Kb.get hi
      have hp1 : (upd H d (.frz od (.dK kvs))) p = some (.ins (a.c 4) dx (stF wk)) := (upd_ne pd).trans hp
      refine ⟨_, rfl, p, dx, _, rfl, hp1, rfl, _, rfl, p, wk, m, rfl, ⟨dx, hp1⟩, _, rfl, ?_⟩
      refine ite2 (fun h => ?_) (fun h => ?_)
      · refine ⟨upd_same, ?_⟩
        rw [upd_back hd]
        rw [any_hit (p := fun m => can wk m) hm h] at q
        exact q
      · exact ⟨_, rfl, rfl, no_more (p := fun m => can wk m) hm no h⟩
    · rintro σ H1 ⟨v2, rfl, rfl, no⟩
      refine ⟨upd_same, ?_⟩
      rw [upd_back hd]
      rw [Kb.len, List.take_length] at no
      rw [any_no (p := fun m => can wk m) no] at q
      exact q

/-! ### the four lists -/
def spLst2 (a : Adr) (f : List Work → List Nat → List Nat) : Sp := fun vs H Q _ => ∃ (ls d : Addr) (sa : List Addr) (ws : List Work) (b : List Nat) (kvs : List (Key × V)), vs = [.ref ls, .ref d] ∧ StepsAt a H ls sa ws ∧ ws.length ≤ 16 ∧ H d = some (.dK kvs) ∧ KeysNk kvs b ∧
  ∀ (r : Addr) (H' : Hp), Same H H' → H r = none → H' r = some (.lst (nums (f ws b))) → Q (.ref r) H'
theorem range_fil (p : Nat → Bool) (i : Nat) : (List.range (i + 1)).filter p = (List.range i).filter p ++ (if p i = true then [i] else []) := by
  rw [List.range_succ, List.filter_append]
  congr 1
  cases q : p i <;> simp [q]
theorem range_fil_len (p : Nat → Bool) (i : Nat) : ((List.range i).filter p).length ≤ i := by
  have := List.length_filter_le p (List.range i)
  rw [List.length_range] at this
  exact this
theorem sc_doubling : FnScope ["steps", "behind", "k", "step"] ["steps", "behind"] (defScope s_doubling_steps) := ⟨rfl, rfl, rfl, by decide +kernel, rfl, by decide +kernel, by decide +kernel⟩
theorem ok_doubling (T : Txt K mg a) : FnOk P w K mg base CX0 3 (a.f 28) (a.d 28) ["steps", "behind"] (spLst2 a dbl) := by
  refine T.g_doubling_steps.fn.ok sc_doubling (fun vs H Q E h => ?_) (fun cdv A outer s H vs Q E hr h => ?_)
  · obtain ⟨ls, d, sa, ws, b, kvs, rfl, _⟩ := h
    rfl
  · obtain ⟨ls, d, sa, ws, b, kvs, rfl, S, few, hd, Kb, k⟩ := h
    have nd := sc_doubling.nd
    refine ⟨_, pss_one (ps_ret (pe_lc (g := gTup K 2 (gCons (gName 2) (gCons (gName 3) gNil))) (own := [("k", 2), ("step", 3)]) rfl nd (pi_enum rfl T.b_enumerate (pa_cons (pv 0) pa_nil)) (blkOk_by (by kernel_rfl))
      (fun _ _ _ _ _ => by exact pg_tup rfl (pgs_cons (pg_name (i := 2) nd rfl (Or.inl rfl) (Or.inr rfl)) (pgs_cons (pg_name (i := 3) nd rfl (Or.inl rfl) (Or.inr rfl)) pgs_nil)))
      (fun _ _ _ _ _ => by exact pts_one (pt_val (pe_call (ok_dblsome T) hr rfl T.g_doubles_somewhere.at_ T.g_doubles_somewhere.fn.kp T.g_doubles_somewhere.b .nil pass0 (pa_cons (pv 3) (pa_cons (pv 1) pa_nil)))))
      (fun _ _ _ _ _ => by exact pv 2))), ?_⟩
    refine ⟨_, rfl, ls, _, rfl, SqL.of S.lst, fun D n1 => ?_⟩
    refine lc_enum (K := K) (a := ls) (xs := sa.map V.ref) (fun i H1 => H1 D = some (.lst (nums ((List.range i).filter fun i => (ws[i]?).any fun w => b.any fun m => isOn w m && doubles w m))) ∧ Same H H1) ⟨upd_same, Same.new n1⟩ (fun i H1 _ ⟨_, s1⟩ => SqL.of (s1 _ _ S.lst)) ?_ ?_
    · rintro i y H1 T1 hi ⟨e1, s1⟩ nT
      obtain ⟨p, wk, rfl, hw, hst⟩ := S.get hi
      have i16 : i < 16 := Nat.lt_of_lt_of_le (List.getElem?_eq_some_iff.mp hw).1 few
      have s2 : Same H1 (upd H1 T1 (.tup [.int (i : Nat), .ref p])) := Same.new nT
      refine ⟨T1, _, rfl, SqT.of upd_same, rfl, _, _, rfl, _, _, rfl, rfl, rfl, ?_⟩
      refine ⟨_, rfl, _, rfl, p, d, wk, b, kvs, rfl, hst.same (s1.trans s2), s2 _ _ (s1 _ _ hd), Kb, _, rfl, ?_⟩
      have fl := range_fil (fun i => (ws[i]?).any fun w => b.any fun m => isOn w m && doubles w m) i
      have pe : ((ws[i]?).any fun w => b.any fun m => isOn w m && doubles w m) = b.any fun m => isOn wk m && doubles wk m := by rw [hw]; rfl
      have len := range_fil_len (fun i => (ws[i]?).any fun w => b.any fun m => isOn w m && doubles w m) i
      rw [← pe]
      refine ite2 (fun h => ?_) (fun h => ?_)
      · refine ⟨_, rfl, _, s2 _ _ e1, small (m := 16) (by rw [nums_len]; omega) (by decide), ?_, fun b o e => ?_⟩
        · rw [upd_same, fl, if_pos h, nums_snoc]
        · rw [upd_ne (ne_of_none e n1)]; exact s2 _ _ (s1 b o e)
      · refine ⟨?_, s1.trans s2⟩
        rw [fl, if_neg h, List.append_nil]
        exact s2 _ _ e1
    · rintro H1 ⟨e1, s1⟩
      rw [List.length_map, S.len] at e1
      exact k D H1 s1 n1 e1
theorem sc_idle : FnScope ["steps", "behind", "k", "step"] ["steps", "behind"] (defScope s_idle_steps) := ⟨rfl, rfl, rfl, by decide +kernel, rfl, by decide +kernel, by decide +kernel⟩
theorem ok_idle (T : Txt K mg a) : FnOk P w K mg base CX0 3 (a.f 31) (a.d 31) ["steps", "behind"] (spLst2 a idle) := by
  refine T.g_idle_steps.fn.ok sc_idle (fun vs H Q E h => ?_) (fun cdv A outer s H vs Q E hr h => ?_)
  · obtain ⟨ls, d, sa, ws, b, kvs, rfl, _⟩ := h
    rfl
  · obtain ⟨ls, d, sa, ws, b, kvs, rfl, S, few, hd, Kb, k⟩ := h
    have nd := sc_idle.nd
    refine ⟨_, pss_one (ps_ret (pe_lc (g := gTup K 2 (gCons (gName 2) (gCons (gName 3) gNil))) (own := [("k", 2), ("step", 3)]) rfl nd (pi_enum rfl T.b_enumerate (pa_cons (pv 0) pa_nil)) (blkOk_by (by kernel_rfl))
      (fun _ _ _ _ _ => by exact pg_tup rfl (pgs_cons (pg_name (i := 2) nd rfl (Or.inl rfl) (Or.inr rfl)) (pgs_cons (pg_name (i := 3) nd rfl (Or.inl rfl) (Or.inr rfl)) pgs_nil)))
      (fun _ _ _ _ _ => by exact pts_one (pt_not (pt_val (pe_call (ok_donesome T) hr rfl T.g_is_done_somewhere.at_ T.g_is_done_somewhere.fn.kp T.g_is_done_somewhere.b .nil pass0 (pa_cons (pv 3) (pa_cons (pv 1) pa_nil))))))
      (fun _ _ _ _ _ => by exact pv 2))), ?_⟩
    refine ⟨_, rfl, ls, _, rfl, SqL.of S.lst, fun D n1 => ?_⟩
    refine lc_enum (K := K) (a := ls) (xs := sa.map V.ref) (fun i H1 => H1 D = some (.lst (nums ((List.range i).filter fun i => (ws[i]?).any fun w => !(b.any fun m => can w m)))) ∧ Same H H1) ⟨upd_same, Same.new n1⟩ (fun i H1 _ ⟨_, s1⟩ => SqL.of (s1 _ _ S.lst)) ?_ ?_
    · rintro i y H1 T1 hi ⟨e1, s1⟩ nT
      obtain ⟨p, wk, rfl, hw, hst⟩ := S.get hi
      have i16 : i < 16 := Nat.lt_of_lt_of_le (List.getElem?_eq_some_iff.mp hw).1 few
      have s2 : Same H1 (upd H1 T1 (.tup [.int (i : Nat), .ref p])) := Same.new nT
      refine ⟨T1, _, rfl, SqT.of upd_same, rfl, _, _, rfl, _, _, rfl, rfl, rfl, ?_⟩
      refine ⟨_, rfl, _, rfl, p, d, wk, b, kvs, rfl, hst.same (s1.trans s2), s2 _ _ (s1 _ _ hd), Kb, _, rfl, ?_⟩
      have fl := range_fil (fun i => (ws[i]?).any fun w => !(b.any fun m => can w m)) i
      have pe : ((ws[i]?).any fun w => !(b.any fun m => can w m)) = !(b.any fun m => can wk m) := by rw [hw]; rfl
      have len := range_fil_len (fun i => (ws[i]?).any fun w => !(b.any fun m => can w m)) i
      show if (!(b.any fun m => can wk m)) = true then _ else _
      rw [← pe]
      refine ite2 (fun h => ?_) (fun h => ?_)
      · refine ⟨_, rfl, _, s2 _ _ e1, small (m := 16) (by rw [nums_len]; omega) (by decide), ?_, fun b o e => ?_⟩
        · rw [upd_same, fl, if_pos h, nums_snoc]
        · rw [upd_ne (ne_of_none e n1)]; exact s2 _ _ (s1 b o e)
      · refine ⟨?_, s1.trans s2⟩
        rw [fl, if_neg h, List.append_nil]
        exact s2 _ _ e1
    · rintro H1 ⟨e1, s1⟩
      rw [List.length_map, S.len] at e1
      exact k D H1 s1 n1 e1
end
end Ew

namespace Ew
open PySem PySem.Spec PyProof.Rows L2 EwM
open Kct8 (Work isOn doubles can nexts)

def spStuck : Sp := fun vs H Q _ => ∃ (d q : Addr) (ws : List Work) (b : List Nat) (kvs : List (Key × V)), vs = [.ref d] ∧ H d = some (.dK kvs) ∧ Beh H q ws b kvs ∧ Looked ws b [] ∧ ws.length ≤ 16 ∧
  ∀ (r : Addr) (H' : Hp), Same H H' → H r = none → H' r = some (.lst (nums (Kct8.lost ws b))) → Q (.ref r) H'
def spCrowd : Sp := fun vs H Q _ => ∃ (d : Addr) (b : List Nat) (kvs : List (Key × V)), vs = [.ref d] ∧ H d = some (.dK kvs) ∧ KeysNk kvs b ∧ b.length ≤ 1024 ∧
  ∀ (r : Addr) (H' : Hp), Same H H' → H r = none → H' r = some (.lst (nums (crowd b))) → Q (.ref r) H'
theorem Looked.len {ws : List Work} {b : List Nat} (L : Looked ws b []) : b.length ≤ 1024 := by have := L.few; rw [List.append_nil] at this; exact this
theorem Looked.closed {ws : List Work} {b : List Nat} (L : Looked ws b []) : ∀ m ∈ b, ∀ x ∈ nexts ws m, x ∈ b := fun m hm x hx => by have := L.cl m hm x hx; rw [List.append_nil] at this; exact this
theorem take_le {α : Type} (l : List α) (i : Nat) : (l.take i).length ≤ l.length := by rw [List.length_take]; exact Nat.min_le_right _ _
section
variable {P : Program} {w : World} {K : PySem.W.Frag} {mg : Str → Option Value} {base : Heap} {a : Adr}
theorem sc_stuck : FnScope ["behind", "ending", "marks"] ["behind"] (defScope s_stuck_marks) := ⟨rfl, rfl, rfl, by decide +kernel, rfl, by decide +kernel, by decide +kernel⟩
theorem ok_stuck (T : Txt K mg a) : FnOk P w K mg base CX0 3 (a.f 29) (a.d 29) ["behind"] spStuck := by
  refine T.g_stuck_marks.fn.ok sc_stuck (fun vs H Q E h => ?_) (fun cdv A outer s H vs Q E hr h => ?_)
  · obtain ⟨d, q, ws, b, kvs, rfl, _⟩ := h
    rfl
  · obtain ⟨d, q, ws, b, kvs, rfl, hd, B, L, fw, k⟩ := h
    have nd := sc_stuck.nd
    have hu := hu_of hr
    refine ⟨_, pss_cons (ps_set (i := 1) nd rfl (Or.inr rfl) (pe_call (ok_can_end T) hr rfl T.g_marks_that_can_end.at_ T.g_marks_that_can_end.fn.kp T.g_marks_that_can_end.b .nil pass0 (pa_cons (pv 0) pa_nil)))
      (pss_one (ps_ret (pe_lock (pe_lc (own := [("marks", 2)]) rfl nd (pi_keys (pv 0)) (blkOk_by (by kernel_rfl)) (fun _ _ _ _ _ => by exact pg_name (i := 2) nd rfl (Or.inl rfl) (Or.inr rfl))
        (fun _ _ _ _ _ => by exact pts_one (pt_cmp (pc_dnotin hu (pv 2) (pv 1)))) (fun _ _ _ _ _ => by exact pv 2))))), ?_⟩
    refine ⟨_, rfl, d, q, ws, b, kvs, rfl, hd, B, Looked.len L, fw, fun ed H1 ke E1 s1 n1 he Ke Bk => ?_⟩
    have hd1 := s1 _ _ hd
    have de : d ≠ ed := ne_of_none hd n1
    have lost := back_lost (Looked.closed L) Bk
    refine ⟨d, .dK kvs, hd1, True.intro, fun od => ?_⟩
    refine ⟨_, rfl, d, od, rfl, .inl ⟨kvs, upd_same, fun D nD => ?_⟩⟩
    have dD : d ≠ D := ne_of_none (H := upd H1 d (.frz od (.dK kvs))) upd_same nD
    have eD : ed ≠ D := ne_of_none (H := upd H1 d (.frz od (.dK kvs))) ((upd_ne de.symm).trans he) nD
    have nD1 : H1 D = none := by rw [upd_ne dD.symm] at nD; exact nD
    have nDH : H D = none := s1.free nD1
    refine lc_keys (d := d) (o := od) (kvs := kvs) (fun i H2 => ∃ acc, acc = (b.take i).filter (fun m => !E1.contains m) ∧ H2 = upd (upd H1 d (.frz od (.dK kvs))) D (.lst (nums acc))) ⟨[], rfl, rfl⟩ (fun i H2 ⟨acc, _, z⟩ => by rw [z, upd_ne dD]; exact upd_same) ?_ ?_
    · rintro i kk v H2 hi ⟨acc, ea, rfl⟩
      obtain ⟨m, hm, rfl⟩ := B.keys.get hi
      have he2 : (upd (upd H1 d (.frz od (.dK kvs))) D (.lst (nums acc))) ed = some (.dK ke) := by rw [upd_ne eD, upd_ne de.symm]; exact he
      refine ⟨rfl, _, rfl, _, rfl, ed, _, rfl, DGet.k (k := nk m) he2, _, rfl, ?_⟩
      have fl := take_fil (fun m => !E1.contains m) hm
      have pe : (!(valV ke (nk m)).isSome) = !E1.contains m := by
        congr 1
        rw [Bool.eq_iff_iff, Ke.mem m, contains_iff]
      rw [pe]
      have al : acc.length ≤ 1024 := by
        rw [ea]
        exact Nat.le_trans (List.length_filter_le _ _) (Nat.le_trans (take_le _ _) (Looked.len L))
      refine ite2 (fun h => ?_) (fun h => ?_)
      · refine ⟨_, rfl, _, upd_same, small (m := 1024) (by rw [nums_len]; exact al) (by decide), acc ++ [m], ?_, ?_⟩
        · rw [fl, if_pos h, ea]
        · rw [upd_upd, nums_snoc]; rfl
      · refine ⟨acc, ?_, rfl⟩
        rw [fl, if_neg h, List.append_nil, ea]
    · rintro H2 ⟨acc, ea, rfl⟩
      rw [B.keys.len, List.take_length, lost] at ea
      subst ea
      refine ⟨by rw [upd_ne dD]; exact upd_same, k D _ (fun c o e => ?_) nDH ?_⟩
      · by_cases hc : c = d
        · subst hc; rw [upd_same]; rw [hd] at e; exact e
        · rw [upd_ne hc, upd_ne (ne_of_none e nDH), upd_ne hc]; exact s1 c o e
      · rw [upd_ne dD.symm]; exact upd_same
theorem sc_crowded : FnScope ["behind", "marks"] ["behind"] (defScope s_crowded_ends) := ⟨rfl, rfl, rfl, by decide +kernel, rfl, by decide +kernel, by decide +kernel⟩
theorem ok_crowded (T : Txt K mg a) : FnOk P w K mg base CX0 1 (a.f 30) (a.d 30) ["behind"] spCrowd := by
  refine T.g_crowded_ends.fn.ok sc_crowded (fun vs H Q E h => ?_) (fun cdv A outer s H vs Q E hr h => ?_)
  · obtain ⟨d, b, kvs, rfl, _⟩ := h
    rfl
  · obtain ⟨d, b, kvs, rfl, hd, Kb, few, k⟩ := h
    have nd := sc_crowded.nd
    refine ⟨_, pss_one (ps_ret (pe_lock (pe_lc (own := [("marks", 1)]) rfl nd (pi_keys (pv 0)) (blkOk_by (by kernel_rfl)) (fun _ _ _ _ _ => by exact pg_name (i := 1) nd rfl (Or.inl rfl) (Or.inr rfl))
        (fun _ _ _ _ _ => by exact pts_one (PW.pt (pw_and (pt_cmpR op_ne (pe_op op_and (pv 1) (pcon T.c_END)) pe_int (nomark _)) (pw_and1 (pt_cmpR op_ne (pv 1) (pcon T.c_END) (nomark _)))))) (fun _ _ _ _ _ => by exact pv 1)))), ?_⟩
    refine ⟨d, .dK kvs, hd, True.intro, fun od => ?_⟩
    refine ⟨_, rfl, d, od, rfl, .inl ⟨kvs, upd_same, fun D nD => ?_⟩⟩
    have dD : d ≠ D := ne_of_none (H := upd H d (.frz od (.dK kvs))) upd_same nD
    have nDH : H D = none := by rw [upd_ne dD.symm] at nD; exact nD
    refine lc_keys (d := d) (o := od) (kvs := kvs) (fun i H2 => ∃ acc, acc = (b.take i).filter (fun m => (m &&& Kct8.END) != 0 && m != Kct8.END) ∧ H2 = upd (upd H d (.frz od (.dK kvs))) D (.lst (nums acc))) ⟨[], rfl, rfl⟩ (fun i H2 ⟨acc, _, z⟩ => by rw [z, upd_ne dD]; exact upd_same) ?_ ?_
    · rintro i kk v H2 hi ⟨acc, ea, rfl⟩
      obtain ⟨m, hm, rfl⟩ := Kb.get hi
      have fl := take_fil (fun m => (m &&& Kct8.END) != 0 && m != Kct8.END) hm
      have al : acc.length ≤ 1024 := by
        rw [ea]
        exact Nat.le_trans (List.length_filter_le _ _) (Nat.le_trans (take_le _ _) few)
      have d1 : (!decide (V.int (Builtin.bitAnd (m : Int) 2) = V.int 0)) = ((m &&& Kct8.END) != 0) := by
        have e := bAnd m 2
        rw [show ((2 : Nat) : Int) = 2 from rfl] at e
        rw [e]
        have := nat_dec (a := m &&& 2) (b := 0)
        rw [show ((0 : Nat) : Int) = 0 from rfl] at this
        rw [this]
        rfl
      have d2 : (!decide (V.int (m : Int) = V.int 2)) = (m != Kct8.END) := by
        have := nat_dec (a := m) (b := 2)
        rw [show ((2 : Nat) : Int) = 2 from rfl] at this
        rw [this]
        rfl
      have skip : ¬ ((m &&& Kct8.END) != 0 && m != Kct8.END) = true → ∃ acc', acc' = (b.take (i + 1)).filter (fun m => (m &&& Kct8.END) != 0 && m != Kct8.END) ∧ upd (upd H d (.frz od (.dK kvs))) D (.lst (nums acc)) = upd (upd H d (.frz od (.dK kvs))) D (.lst (nums acc')) := fun h => ⟨acc, by rw [fl, if_neg h, List.append_nil, ea], rfl⟩
      refine ⟨rfl, _, rfl, _, _, rfl, rfl, rfl, _, rfl, ?_⟩
      rw [d1]
      refine ite2 (fun h1 => ?_) (fun h1 => ?_)
      · refine ⟨_, rfl, rfl, _, rfl, ?_⟩
        show if (!decide (V.int (m : Int) = V.int 2)) = true then _ else _
        rw [d2]
        refine ite2 (fun h2 => ?_) (fun h2 => ?_)
        · refine ⟨_, rfl, _, upd_same, small (m := 1024) (by rw [nums_len]; exact al) (by decide), acc ++ [m], ?_, ?_⟩
          · rw [fl, if_pos (by rw [h1, h2]; rfl), ea]
          · rw [upd_upd, nums_snoc]; rfl
        · exact skip (by rw [Bool.eq_false_iff.mpr h2, Bool.and_false]; exact Bool.false_ne_true)
      · exact iteF (skip (by rw [Bool.eq_false_iff.mpr h1, Bool.false_and]; exact Bool.false_ne_true))
    · rintro H2 ⟨acc, ea, rfl⟩
      rw [Kb.len, List.take_length] at ea
      subst ea
      refine ⟨by rw [upd_ne dD]; exact upd_same, k D _ (fun c o e => ?_) nDH ?_⟩
      · by_cases hc : c = d
        · subst hc; rw [upd_same]; rw [hd] at e; exact e
        · rw [upd_ne hc, upd_ne (ne_of_none e nDH), upd_ne hc]; exact e
      · rw [upd_ne dD.symm]; exact upd_same

/-! ### the first fault -/
def faultL : Option (Nat × Nat) → List Int
  | none => []
  | some (k, x) => [(k : Int), (x : Int)]
def zv (l : List Int) : List V := l.map V.int
def spFault (a : Adr) : Sp := fun vs H Q _ => ∃ (ls d q : Addr) (sa : List Addr) (ws : List Work) (b : List Nat) (kvs : List (Key × V)), vs = [.ref ls, .ref d] ∧ StepsAt a H ls sa ws ∧ ws.length ≤ 16 ∧ H d = some (.dK kvs) ∧ Beh H q ws b kvs ∧ Looked ws b [] ∧
  ∀ (r : Addr) (H' : Hp), Same H H' → H r = none → H' r = some (.lst (zv (faultL (Kct8.wrong ws b)))) → Q (.ref r) H'
theorem nums_ints (l : List Nat) : nums l = (l.map fun (k : Nat) => (k : Int)).map V.int := by unfold nums; rw [List.map_map]; rfl
theorem fault_step {k : Nat} {L : List (List Nat)} {l : List Nat} {i : Nat} (h : L[i]? = some l) (e : l = []) : firstFault (k + i) (L.drop i) = firstFault (k + (i + 1)) (L.drop (i + 1)) := by
  have lt := (List.getElem?_eq_some_iff.mp h).1
  have ex := (List.getElem?_eq_some_iff.mp h).2
  rw [List.drop_eq_getElem_cons lt, ex, e]
  rfl
theorem fault_here {k : Nat} {L : List (List Nat)} {l : List Nat} {i m : Nat} (h : L[i]? = some l) (h1 : m ∈ l) (h2 : ∀ y ∈ l, m ≤ y) : firstFault (k + i) (L.drop i) = some (k + i, m) := by
  have lt := (List.getElem?_eq_some_iff.mp h).1
  have ex := (List.getElem?_eq_some_iff.mp h).2
  rw [List.drop_eq_getElem_cons lt, ex]
  unfold firstFault
  rw [lessOf_of h1 h2]
theorem sc_fault : FnScope ["steps", "behind", "found", "number", "faulty"] ["steps", "behind"] (defScope s_first_fault) := ⟨rfl, rfl, rfl, by decide +kernel, rfl, by decide +kernel, by decide +kernel⟩
theorem ok_fault (T : Txt K mg a) : FnOk P w K mg base CX0 4 (a.f 32) (a.d 32) ["steps", "behind"] (spFault a) := by
  refine T.g_first_fault.fn.ok sc_fault (fun vs H Q E h => ?_) (fun cdv A outer s H vs Q E hr h => ?_)
  · obtain ⟨ls, d, q, sa, ws, b, kvs, rfl, _⟩ := h
    rfl
  · obtain ⟨ls, d, q, sa, ws, b, kvs, rfl, S, fw, hd, B, L, k⟩ := h
    have nd := sc_fault.nd
    have hr1 := hr.mono (j := 1) (by decide)
    refine ⟨_, pss_cons (ps_set (i := 2) nd rfl (Or.inl rfl) (pe_tup (pa_cons (pe_call (ok_doubling T) hr rfl T.g_doubling_steps.at_ T.g_doubling_steps.fn.kp T.g_doubling_steps.b .nil pass0 (pa_cons (pv 0) (pa_cons (pv 1) pa_nil)))
        (pa_cons (pe_call (ok_stuck T) hr rfl T.g_stuck_marks.at_ T.g_stuck_marks.fn.kp T.g_stuck_marks.b .nil pass0 (pa_cons (pv 1) pa_nil))
        (pa_cons (pe_call (ok_crowded T) hr1 rfl T.g_crowded_ends.at_ T.g_crowded_ends.fn.kp T.g_crowded_ends.b .nil pass0 (pa_cons (pv 1) pa_nil))
        (pa_cons (pe_call (ok_idle T) hr rfl T.g_idle_steps.at_ T.g_idle_steps.fn.kp T.g_idle_steps.b .nil pass0 (pa_cons (pv 0) (pa_cons (pv 1) pa_nil))) pa_nil))))))
      (pss_cons (ps_for PassesOwn.never rfl (pi_enum1 rfl T.b_enumerate (pa_cons (pv 2) pa_nil)) (pg_tup rfl (pgs_cons (pg_name (i := 3) nd rfl (Or.inl rfl)) (pgs_cons (pg_name (i := 4) nd rfl (Or.inl rfl)) pgs_nil)))
        (pss_one (ps_if (pt_cmpR op_gt (pe_callB call_len_seq (by rfl) T.b_len PySem.boot_len (pa_cons (pv 4) pa_nil)) pe_int (nomark _))
          (pss_one (ps_ret (pe_lst (pa_cons (pv 3) (pa_cons (pe_callB (cr_min rfl) (by rfl) T.b_min bt_min (pa_cons (pv 4) pa_nil)) pa_nil))))) pss_nil)))
      (pss_one (ps_ret (pe_lst pa_nil)))), ?_⟩
    refine ⟨_, rfl, _, rfl, ls, d, sa, ws, b, kvs, rfl, S, fw, hd, B.keys, fun l1 H1 s1 n1 e1 => ?_⟩
    refine ⟨_, rfl, d, q, ws, b, kvs, rfl, s1 _ _ hd, B.keep (fun r l e _ => s1 _ _ e), L, fw, fun l2 H2 s2 n2 e2 => ?_⟩
    refine ⟨_, rfl, d, b, kvs, rfl, s2 _ _ (s1 _ _ hd), B.keys, Looked.len L, fun l3 H3 s3 n3 e3 => ?_⟩
    have sH3 : Same H H3 := s1.trans (s2.trans s3)
    refine ⟨_, rfl, _, rfl, ls, d, sa, ws, b, kvs, rfl, S.same sH3, fw, sH3 _ _ hd, B.keys, fun l4 H4 s4 n4 e4 => ?_⟩
    have sH4 : Same H H4 := sH3.trans s4
    refine ⟨(by show 4 ≤ sizeLine; decide), fun t nt => ?_⟩
    have s5 : Same H4 (upd H4 t (.tup [.ref l1, .ref l2, .ref l3, .ref l4])) := Same.new nt
    have at1 := s5 _ _ (s4 _ _ (s3 _ _ (s2 _ _ e1)))
    have at2 := s5 _ _ (s4 _ _ (s3 _ _ e2))
    have at3 := s5 _ _ (s4 _ _ e3)
    have at4 := s5 _ _ e4
    have all : ∀ (i : Nat) (y : V), [V.ref l1, V.ref l2, V.ref l3, V.ref l4][i]? = some y → ∃ l ms, y = V.ref l ∧ [dbl ws b, Kct8.lost ws b, crowd b, idle ws b][i]? = some ms ∧ (upd H4 t (.tup [.ref l1, .ref l2, .ref l3, .ref l4])) l = some (.lst (nums ms)) := fun i y hy => by
      match i, hy with
      | 0, hy => cases Option.some.inj hy; exact ⟨l1, _, rfl, rfl, at1⟩
      | 1, hy => cases Option.some.inj hy; exact ⟨l2, _, rfl, rfl, at2⟩
      | 2, hy => cases Option.some.inj hy; exact ⟨l3, _, rfl, rfl, at3⟩
      | 3, hy => cases Option.some.inj hy; exact ⟨l4, _, rfl, rfl, at4⟩
      | i + 4, hy => simp at hy
    refine ⟨_, rfl, t, _, rfl, SqT.of upd_same, ?_⟩
    refine for_enum1 (K := K) (a := t) (xs := [V.ref l1, V.ref l2, V.ref l3, V.ref l4]) (fun i σ H5 => ∃ v3 v4 : Option V, σ = [some (.ref ls), some (.ref d), some (.ref t), v3, v4] ∧ Same (upd H4 t (.tup [.ref l1, .ref l2, .ref l3, .ref l4])) H5 ∧ Kct8.wrong ws b = firstFault (1 + i) ([dbl ws b, Kct8.lost ws b, crowd b, idle ws b].drop i))
      ⟨none, none, rfl, Same.refl _, wrong_eq ws b⟩ (fun i σ H5 _ ⟨_, _, _, s6, _⟩ => SqT.of (s6 _ _ upd_same)) ?_ ?_
    · rintro i y σ H5 T1 hi ⟨v3, v4, rfl, s6, eq⟩ nT
      obtain ⟨l, ms, rfl, hms, hl⟩ := all i y hi
      have s7 : Same H5 (upd H5 T1 (.tup [.int ((i + 1 : Nat) : Int), .ref l])) := Same.new nT
      have hl7 := s7 _ _ (s6 _ _ hl)
      refine ⟨T1, _, rfl, SqT.of upd_same, rfl, _, _, rfl, _, _, rfl, rfl, ?_⟩
      refine ⟨_, rfl, l, _, rfl, .inl (SqL.of hl7), _, _, rfl, rfl, _, rfl, ?_⟩
      rw [nums_len]
      have sA : Same H (upd H5 T1 (.tup [.int ((i + 1 : Nat) : Int), .ref l])) := sH4.trans (s5.trans (s6.trans s7))
      refine ite2 (fun h => ?_) (fun h => ?_)
      · have h : (0 : Int) < (ms.length : Int) := of_decide_eq_true h
        refine ⟨_, rfl, _, rfl, l, ms.map (fun (k : Nat) => (k : Int)), rfl, (by rw [← nums_ints]; exact SqL.of hl7), (by rw [List.length_map]; omega), fun m hm mm => ?_⟩
        obtain ⟨n, hn, rfl⟩ := List.mem_map.mp hm
        have least : ∀ y ∈ ms, n ≤ y := fun y hy => by
          have := mm (y : Int) (List.mem_map.mpr ⟨y, hy, rfl⟩)
          omega
        refine ⟨(by show 2 ≤ sizeLine; decide), fun r nr => k r _ (Same.over (sA.free nr) sA) (sA.free nr) ?_⟩
        rw [upd_same, eq, fault_here hms hn least]
        have e : ((1 + i : Nat) : Int) = ((i + 1 : Nat) : Int) := by omega
        show _ = some (HO.lst [V.int ((1 + i : Nat) : Int), V.int (n : Int)])
        rw [e]
      · have h : ¬ (0 : Int) < (ms.length : Int) := fun z => h (decide_eq_true z)
        have em : ms = [] := by
          cases ms with
          | nil => rfl
          | cons y ys => simp at h
        exact ⟨_, _, rfl, s6.trans s7, eq.trans (fault_step hms em)⟩
    · rintro σ H5 ⟨v3, v4, rfl, s6, eq⟩
      have sA : Same H H5 := sH4.trans (s5.trans s6)
      refine ⟨Nat.zero_le _, fun r nr => k r _ (Same.over (sA.free nr) sA) (sA.free nr) ?_⟩
      rw [upd_same, eq]
      rfl
end
end Ew

namespace Ew
open PySem PySem.Spec PyProof.Rows L2 EwM
open Kct8 (Work isOn doubles can nexts Course Case Person Abs)

/-! ### the object that the calls are made on -/
def oi (o : Option Nat) : Option Int := o.map fun (n : Nat) => (n : Int)
theorem oi_inj {a b : Option Nat} (h : oi a = oi b) : a = b := by
  cases a with
  | none => cases b with
    | none => rfl
    | some n => cases h
  | some m => cases b with
    | none => cases h
    | some n =>
      have : (m : Int) = (n : Int) := Option.some.inj h
      have : m = n := by omega
      rw [this]
theorem ois_inj : ∀ {a b : List (Option Nat)}, a.map oi = b.map oi → a = b
  | [], [], _ => rfl
  | [], _ :: _, h => by cases h
  | _ :: _, [], h => by cases h
  | x :: a, y :: b, h => by
    rw [List.map_cons, List.map_cons] at h
    injection h with h1 h2
    rw [oi_inj h1, ois_inj h2]
theorem pV_op (o : Option Nat) : pV (opP o) = oV (oi o) := by cases o <;> rfl
theorem pV_popt (q : Person) : pV q = oV (oi (popt q)) := by
  obtain ⟨k, th⟩ := q
  cases th <;> rfl
def pls (ps : List (Option Nat)) : List V := ps.map fun o => oV (oi o)
theorem pls_people (c : Course) : c.people.map pV = pls (c.people.map popt) := by
  unfold pls
  rw [List.map_map]
  exact List.map_congr_left fun q _ => pV_popt q
theorem pls_crs (c : Course) (ps : List (Option Nat)) : (crs c ps).people.map pV = pls ps := by
  unfold pls crs
  simp only [List.map_map]
  exact List.map_congr_left fun o _ => pV_op o
abbrev nkey (x : Case) (ps : List (Option Nat)) : NK := (((enc x : Nat) : Int), ps.map oi)
theorem nkey_inj {x y : Case} {ps qs : List (Option Nat)} (hx : CaseOk ps.length x) (hy : CaseOk qs.length y) (e : nkey x ps = nkey y qs) : x = y ∧ ps = qs := by
  have e2 : ps = qs := ois_inj (Prod.ext_iff.mp e).2
  subst e2
  have e1 : ((enc x : Nat) : Int) = ((enc y : Nat) : Int) := (Prod.ext_iff.mp e).1
  exact ⟨enc_inj hx hy (by omega), rfl⟩
structure Mc where
  dm : Addr
  ls : Addr
  la : Addr
  lp : Addr
  lc : Addr
  d : Addr
  sa : List Addr
  ta : List Addr
  kvs : List MRow
def mcF (M : Mc) (tk : Bool) : List (Str × V) := [("steps", .ref M.ls), ("told_apart", .ref M.la), ("people", .ref M.lp), ("cases", .ref M.lc), ("taken", .bl tk), ("told_far", .ref M.d)]
structure MachAt (P : Program) (w : World) (a : Adr) (H : Hp) (m : Addr) (M : Mc) (s : Abs) : Prop where
  ins : H m = some (.ins (a.c 49) M.dm (mcF M s.ready))
  steps : StepsAt a H M.ls M.sa s.course.works
  aps : ApsAt H M.la M.ta s.course.aparts
  ppl : H M.lp = some (.lst (s.course.people.map pV))
  cas : H M.lc = some (.lst (nums (s.cases.map enc)))
  memo : H M.d = some (memoO P w M.d M.kvs)
  keys : KeysAt H M.kvs
  rows : ∀ e ∈ M.kvs, ∃ (ps : List (Option Nat)) (x : Case) (l : Addr), e.1 = nkey x ps ∧ CaseOk ps.length x ∧ e.2.2 = .ref l ∧ H l = some (.lst (zs (farL (Kct8.far (crs s.course ps) x)))) ∧ l ≠ M.ls ∧ l ≠ M.la ∧ l ≠ M.lc
  ok : CourseOk s.course
  a32 : s.course.aparts.length ≤ 32
  cok : ∀ x ∈ s.cases, CaseOk s.course.people.length x
  c16 : s.cases.length ≤ 16
  idle : s.ready = false → s.cases = [] ∧ M.kvs = []
  n1 : M.ls ≠ M.la
  n2 : M.ls ≠ M.lc
  n3 : M.la ≠ M.lc
  n4 : M.lp ≠ M.ls
  n5 : M.lp ≠ M.la
  n6 : M.lp ≠ M.lc
/-- the lists that it reads -/
def Owns (M : Mc) (b : Addr) : Prop := b = M.ls ∨ b = M.la ∨ b = M.lp ∨ b = M.lc ∨ ∃ e ∈ M.kvs, e.2.2 = V.ref b
theorem lookM_some {kvs : List MRow} {k : NK} {v : V} (h : lookM kvs k = some v) : ∃ e ∈ kvs, e.1 = k ∧ e.2.2 = v := by
  unfold lookM at h
  obtain ⟨e, he, ev⟩ := Option.map_eq_some_iff.mp h
  exact ⟨e, List.mem_of_find?_eq_some he, of_decide_eq_true (List.find?_some (p := fun e : MRow => decide (e.1 = k)) he), ev⟩
theorem lookM_last {kvs : List MRow} {k : NK} {q : Addr} {v : V} (h : lookM kvs k = none) : lookM (kvs ++ [(k, q, v)]) k = some v := by
  unfold lookM at h ⊢
  rw [Option.map_eq_none_iff] at h
  rw [List.find?_append, h, Option.none_or, List.find?_cons_of_pos (by exact decide_eq_true rfl)]
  rfl
section
variable {P : Program} {w : World} {a : Adr} {H H' : Hp} {m : Addr} {M : Mc} {s : Abs}
/-- all that it reads is kept -/
theorem MachAt.same (h : MachAt P w a H m M s) (k : Same H H') : MachAt P w a H' m M s where
  ins := k _ _ h.ins
  steps := h.steps.same k
  aps := h.aps.same k
  ppl := k _ _ h.ppl
  cas := k _ _ h.cas
  memo := k _ _ h.memo
  keys := h.keys.tups (Same.tup k)
  rows := fun e he => let ⟨ps, x, l, e1, e2, e3, e4, e5⟩ := h.rows e he; ⟨ps, x, l, e1, e2, e3, k _ _ e4, e5⟩
  ok := h.ok
  a32 := h.a32
  cok := h.cok
  c16 := h.c16
  idle := h.idle
  n1 := h.n1
  n2 := h.n2
  n3 := h.n3
  n4 := h.n4
  n5 := h.n5
  n6 := h.n6
/-- a list that it does not read is changed -/
theorem MachAt.other (h : MachAt P w a H m M s) {q : Addr} {xs : List V} (hq : H q = some (.lst xs)) (no : ¬ Owns M q) (k : ∀ b o, H b = some o → b ≠ q → H' b = some o) : MachAt P w a H' m M s where
  ins := k _ _ h.ins (ne_of h.ins hq (by intro z; cases z))
  steps := ⟨k _ _ h.steps.lst (fun z => no (.inl z.symm)), h.steps.len, fun i p w hp hw => let ⟨dx, e⟩ := h.steps.at_ i p w hp hw; ⟨dx, k _ _ e (ne_of e hq (by intro z; cases z))⟩⟩
  aps := ⟨k _ _ h.aps.lst (fun z => no (.inr (.inl z.symm))), h.aps.len, fun i p w hp hw => let e := h.aps.at_ i p w hp hw; k _ _ e (ne_of e hq (by intro z; cases z))⟩
  ppl := k _ _ h.ppl (fun z => no (.inr (.inr (.inl z.symm))))
  cas := k _ _ h.cas (fun z => no (.inr (.inr (.inr (.inl z.symm)))))
  memo := k _ _ h.memo (ne_of h.memo hq (by intro z; cases z))
  keys := h.keys.tups fun b xs e => k _ _ e (ne_of e hq (by intro z; cases z))
  rows := fun e he => let ⟨ps, x, l, e1, e2, e3, e4, e5⟩ := h.rows e he; ⟨ps, x, l, e1, e2, e3, k _ _ e4 (fun z => no (.inr (.inr (.inr (.inr ⟨e, he, by rw [e3, z]⟩))))), e5⟩
  ok := h.ok
  a32 := h.a32
  cok := h.cok
  c16 := h.c16
  idle := h.idle
  n1 := h.n1
  n2 := h.n2
  n3 := h.n3
  n4 := h.n4
  n5 := h.n5
  n6 := h.n6
end
def BIG : Nat := 2000000
def spFarOf (P : Program) (w : World) (a : Adr) : Sp := fun vs H Q _ => ∃ (m pl : Addr) (M : Mc) (s : Abs) (ps : List (Option Nat)) (x : Case), vs = [.ref m, .int ((enc x : Nat) : Int), .ref pl] ∧ MachAt P w a H m M s ∧ s.ready = true ∧ H pl = some (.lst (pls ps)) ∧ CaseOk ps.length x ∧ M.kvs.length ≤ BIG ∧
  ∀ (H' : Hp) (kvs : List MRow) (l : Addr), MachAt P w a H' m { M with kvs := kvs } s → (∀ b o, H b = some o → b ≠ M.d → H' b = some o) → H' l = some (.lst (zs (farL (Kct8.far (crs s.course ps) x)))) → kvs.length ≤ M.kvs.length + 1 → (∀ e ∈ kvs, e ∈ M.kvs ∨ ∃ b, e.2.2 = V.ref b ∧ H b = none) → Q (.ref l) H'
section
variable {P : Program} {w : World} {K : PySem.W.Frag} {mg : Str → Option Value} {base : Heap} {a : Adr}
theorem sc_far_of : FnScope ["self", "case", "people", "asked"] ["self", "case", "people"] (defScope s_Machine_far_of) := ⟨rfl, rfl, rfl, by decide +kernel, rfl, by decide +kernel, by decide +kernel⟩
theorem ok_far_of (T : Txt K mg a) : FnOk P w K mg base CX0 5 (a.f 4906) (a.d 4906) ["self", "case", "people"] (spFarOf P w a) := by
  refine T.m_Machine_far_of.fn.ok sc_far_of (fun vs H Q E h => ?_) (fun cdv A outer sh H vs Q E hr h => ?_)
  · obtain ⟨m, pl, M, s, ps, x, rfl, _⟩ := h
    rfl
  · obtain ⟨m, pl, M, s, ps, x, rfl, MA, rdy, hpl, xok, big, k⟩ := h
    have nd := sc_far_of.nd
    have hu2 := room2 hr
    have hr3 := hr.mono (j := 3) (by decide)
    refine ⟨_, pss_cons (ps_set (i := 3) nd rfl (Or.inl rfl) (pe_tup (pa_cons (pv 1) (pa_cons (pe_callTy call_tuple_of (by rfl) T.b_tuple bt_tuple (pa_cons (pv 2) pa_nil)) pa_nil))))
      (pss_cons (ps_if (pt_cmp (pc_mnotin hu2 (pv 3) (pe_fld (pv 0) rfl)))
        (pss_one (ps_mput hu2 (pe_fld (pv 0) rfl) (pv 3) (pe_call (ok_how_far T) hr3 rfl T.g_how_far.at_ T.g_how_far.fn.kp T.g_how_far.b .nil pass0
          (pa_cons (pe_call (ok_moves_of T) hr rfl T.g_moves_of.at_ T.g_moves_of.fn.kp T.g_moves_of.b .nil pass0 (pa_cons (pv 2) (pa_cons (pe_fld (pv 0) rfl) (pa_cons (pe_fld (pv 0) rfl) pa_nil)))) (pa_cons (pv 1) pa_nil))) rfl)) pss_nil)
      (pss_one (ps_ret (pe_mget hu2 (pe_fld (pv 0) rfl) (pv 3) (fun _ _ => rfl))))), ?_⟩
    refine ⟨_, rfl, _, rfl, pl, _, rfl, .inl ⟨SqL.of hpl, fun tp n1 => ?_⟩⟩
    have s1 : Same H (upd H tp (.tup (pls ps))) := Same.new n1
    refine ⟨(by show 2 ≤ sizeLine; decide), fun kp n2 => ?_⟩
    have s2 : Same (upd H tp (.tup (pls ps))) (upd (upd H tp (.tup (pls ps))) kp (.tup [.int ((enc x : Nat) : Int), .ref tp])) := Same.new n2
    generalize eH : upd (upd H tp (.tup (pls ps))) kp (.tup [.int ((enc x : Nat) : Int), .ref tp]) = H2 at s2
    have s12 : Same H H2 := s1.trans s2
    have M2 := MA.same s12
    have mk : MKey H2 (.ref kp) (nkey x ps) := ⟨kp, tp, rfl, by rw [← eH]; exact upd_same, by
      have e := s2 _ _ (upd_same (H := H) (a := tp) (o := .tup (pls ps)))
      rw [e]
      unfold pls
      rw [List.map_map]
      rfl⟩
    have kpH : H kp = none := s1.free n2
    refine ⟨_, rfl, _, rfl, m, a.c 49, M.dm, _, _, rfl, M2.ins, T.cl_Machine, T.n_Machine_told_far, rfl, M.d, M.kvs, nkey x ps, rfl, M2.memo, M2.keys, mk, _, rfl, ?_⟩
    cases lk : lookM M.kvs (nkey x ps) with
    | some v =>
      -- it was told before
      obtain ⟨e, he, ek, ev⟩ := lookM_some lk
      obtain ⟨qs, y, l, h1, h2, h3, h4, h5⟩ := M2.rows e he
      obtain ⟨rfl, rfl⟩ := nkey_inj xok h2 (ek.symm.trans h1)
      have evl : v = .ref l := ev.symm.trans h3
      subst evl
      refine iteF ⟨_, rfl, m, a.c 49, M.dm, _, _, rfl, M2.ins, T.cl_Machine, T.n_Machine_told_far, rfl, _, rfl, M.d, M.kvs, nkey x ps, _, rfl, M2.memo, M2.keys, mk, lk, ?_⟩
      exact k H2 M.kvs l M2 (fun b o e _ => s12 b o e) h4 (Nat.le_succ _) (fun e he => .inl he)
    | none =>
      have pl8 : ps.length ≤ 8 := xok.few
      have cok := crs_ok MA.ok pl8
      have S2 : StepsAt a H2 M.ls M.sa (crs s.course ps).works := M2.steps
      have A2 : ApsAt H2 M.la M.ta (crs s.course ps).aparts := M2.aps
      refine iteT ⟨_, rfl, _, rfl, m, a.c 49, M.dm, _, _, rfl, M2.ins, T.cl_Machine, T.n_Machine_steps, rfl, _, rfl, m, a.c 49, M.dm, _, _, rfl, M2.ins, T.cl_Machine, T.n_Machine_told_apart, rfl,
        crs s.course ps, pl, M.ls, M.la, M.sa, M.ta, rfl, by rw [pls_crs]; exact s12 _ _ hpl, S2, A2, cok, MA.a32, fun ml H3 as s3 n3 Mv => ?_⟩
      refine ⟨_, rfl, crs s.course ps, ml, as, x, rfl, cok, by rw [crs_len]; exact xok, Mv, fun fl H4 s4 n4 hfl => ?_⟩
      have s24 : Same H2 H4 := s3.trans s4
      have s04 : Same H H4 := s12.trans s24
      have M4 := MA.same s04
      have flH : H fl = none := (s12.trans s3).free n4
      have mk4 : MKey H4 (.ref kp) (nkey x ps) := mk.tups (Same.tup s24)
      have lkl : M.kvs.length < sizeLine := small (m := 2000000) big (by decide)
      refine ⟨_, rfl, m, a.c 49, M.dm, _, _, rfl, M4.ins, T.cl_Machine, T.n_Machine_told_far, rfl, _, rfl, M.d, M.kvs, nkey x ps, kp, rfl, rfl, M4.memo, M4.keys, mk4, lk, lkl, ?_⟩
      have ned : ∀ {b : Addr} {o : HO}, H4 b = some o → (∀ φ, o ≠ .ext φ) → b ≠ M.d := fun e n => ne_of e M4.memo (n _)
      have kd : ∀ b o, H4 b = some o → b ≠ M.d → (upd H4 M.d (memoO P w M.d (M.kvs ++ [(nkey x ps, kp, .ref fl)]))) b = some o := fun b o e n => by rw [upd_ne n]; exact e
      have tups : ∀ b xs, H4 b = some (.tup xs) → (upd H4 M.d (memoO P w M.d (M.kvs ++ [(nkey x ps, kp, .ref fl)]))) b = some (.tup xs) := fun b xs e => kd b _ e (ned e (by intro φ z; cases z))
      have M5 : MachAt P w a (upd H4 M.d (memoO P w M.d (M.kvs ++ [(nkey x ps, kp, .ref fl)]))) m { M with kvs := M.kvs ++ [(nkey x ps, kp, .ref fl)] } s := by
        refine ⟨kd _ _ M4.ins (ned M4.ins (by intro φ z; cases z)), ?_, ?_, kd _ _ M4.ppl (ned M4.ppl (by intro φ z; cases z)), kd _ _ M4.cas (ned M4.cas (by intro φ z; cases z)), upd_same, ?_, ?_, MA.ok, MA.a32, MA.cok, MA.c16, fun z => (by rw [rdy] at z; cases z), MA.n1, MA.n2, MA.n3, MA.n4, MA.n5, MA.n6⟩
        · exact ⟨kd _ _ M4.steps.lst (ned M4.steps.lst (by intro φ z; cases z)), M4.steps.len, fun i p w hp hw => let ⟨dx, e⟩ := M4.steps.at_ i p w hp hw; ⟨dx, kd _ _ e (ned e (by intro φ z; cases z))⟩⟩
        · exact ⟨kd _ _ M4.aps.lst (ned M4.aps.lst (by intro φ z; cases z)), M4.aps.len, fun i p w hp hw => let e := M4.aps.at_ i p w hp hw; kd _ _ e (ned e (by intro φ z; cases z))⟩
        · intro e he
          rcases List.mem_append.mp he with z | z
          · exact (M4.keys e z).tups tups
          · have z : e = (nkey x ps, kp, .ref fl) := by simpa using z
            subst z
            exact mk4.tups tups
        · intro e he
          rcases List.mem_append.mp he with z | z
          · obtain ⟨qs, y, l, h1, h2, h3, h4, h5⟩ := M4.rows e z
            exact ⟨qs, y, l, h1, h2, h3, kd _ _ h4 (ned h4 (by intro φ z; cases z)), h5⟩
          · have z : e = (nkey x ps, kp, .ref fl) := by simpa using z
            subst z
            exact ⟨ps, x, fl, rfl, xok, rfl, kd _ _ hfl (ned hfl (by intro φ z; cases z)), fun (z : fl = M.ls) => (by rw [z, MA.steps.lst] at flH; cases flH), fun (z : fl = M.la) => (by rw [z, MA.aps.lst] at flH; cases flH), fun (z : fl = M.lc) => (by rw [z, MA.cas] at flH; cases flH)⟩
      refine ⟨_, rfl, m, a.c 49, M.dm, _, _, rfl, M5.ins, T.cl_Machine, T.n_Machine_told_far, rfl, _, rfl, M.d, _, nkey x ps, _, rfl, M5.memo, M5.keys, mk4.tups tups, lookM_last lk, ?_⟩
      refine k _ _ fl M5 (fun b o e n => kd b o (s04 b o e) n) (kd _ _ hfl (ned hfl (by intro φ z; cases z))) (by rw [List.length_append]; exact Nat.le_refl _) fun e he => ?_
      rcases List.mem_append.mp he with z | z
      · exact .inl z
      · have z : e = (nkey x ps, kp, .ref fl) := by simpa using z
        subst z
        exact .inr ⟨fl, rfl, flH⟩
end
end Ew

namespace Ew
open PySem PySem.Spec PyProof.Rows L2 EwM
open Kct8 (Work isOn doubles can nexts Course Case Person Abs)

def fars (c : Course) (ps : List (Option Nat)) (xs : List Case) : List Int := xs.map fun x => farN (Kct8.far (crs c ps) x)
def spFarAll (P : Program) (w : World) (a : Adr) : Sp := fun vs H Q _ => ∃ (m pl : Addr) (M : Mc) (s : Abs) (ps : List (Option Nat)) (xs : List Case), vs = [.ref m, .ref pl] ∧ MachAt P w a H m M s ∧ (s.ready = true ∨ s.cases = []) ∧ H pl = some (.lst (pls ps)) ∧ xs.map enc = s.cases.map enc ∧ (∀ x ∈ xs, CaseOk ps.length x) ∧ M.kvs.length + 16 ≤ BIG ∧
  ∀ (H' : Hp) (kvs : List MRow) (r : Addr), MachAt P w a H' m { M with kvs := kvs } s → (∀ b o, H b = some o → b ≠ M.d → H' b = some o) → H r = none → H' r = some (.lst (zs (fars s.course ps xs))) → kvs.length ≤ M.kvs.length + 16 → (∀ e ∈ kvs, e ∈ M.kvs ∨ ∃ b, e.2.2 = V.ref b ∧ H b = none) → Q (.ref r) H'
theorem tyes {σ : L2.St} {H : Hp} {X Y : Hp → Prop} (h : X H) : tYes σ H (fun b H3 => if b = true then X H3 else Y H3) := by
  show (if true = true then X H else Y H)
  rw [if_pos rfl]
  exact h
theorem owns_fresh {P : Program} {w : World} {a : Adr} {H : Hp} {m : Addr} {M : Mc} {s : Abs} (h : MachAt P w a H m M s) {q : Addr} (hq : H q = none) : ¬ Owns M q := by
  rintro (z | z | z | z | ⟨e, he, ev⟩)
  · rw [z, h.steps.lst] at hq; cases hq
  · rw [z, h.aps.lst] at hq; cases hq
  · rw [z, h.ppl] at hq; cases hq
  · rw [z, h.cas] at hq; cases hq
  · obtain ⟨ps, x, l, _, _, h3, h4, _⟩ := h.rows e he
    rw [ev] at h3
    cases h3
    rw [h4] at hq; cases hq
section
variable {P : Program} {w : World} {K : PySem.W.Frag} {mg : Str → Option Value} {base : Heap} {a : Adr}
theorem sc_far_all : FnScope ["self", "people", "case"] ["self", "people"] (defScope s_Machine_far_of_all) := ⟨rfl, rfl, rfl, by decide +kernel, rfl, by decide +kernel, by decide +kernel⟩
theorem ok_far_all (T : Txt K mg a) : FnOk P w K mg base CX0 6 (a.f 4907) (a.d 4907) ["self", "people"] (spFarAll P w a) := by
  refine T.m_Machine_far_of_all.fn.ok sc_far_all (fun vs H Q E h => ?_) (fun cdv A outer sh H vs Q E hr h => ?_)
  · obtain ⟨m, pl, M, s, ps, xs, rfl, _⟩ := h
    rfl
  · obtain ⟨m, pl, M, s, ps, xs, rfl, MA, rdy, hpl, hxs, xok, big, k⟩ := h
    have nd := sc_far_all.nd
    refine ⟨_, pss_one (ps_ret (pe_lc (te := tOp (rIxL K) (tMeth (a.c 49) "far_of" (spFarOf P w a) [] E0 (tVar 0) (tCons (tVar 2) (tCons (tVar 1) tNil))) (tC (.int 0))) (own := [("case", 2)]) rfl nd (pi_list (pe_fld (pv 0) rfl)) (blkOk_by (by kernel_rfl)) (fun _ _ _ _ _ => by exact pg_name (i := 2) nd rfl (Or.inl rfl) (Or.inr rfl))
      (fun _ _ _ _ _ => by exact pts_nil)
      (fun _ _ _ _ _ => by exact pe_ix ix_list (pe_meth (pv 0) T.cl_Machine T.m_Machine_far_of.m (ok_far_of T) hr T.m_Machine_far_of.b .nil pass0 (pa_cons (pv 2) (pa_cons (pv 1) pa_nil))) pe_int (fun _ _ => rfl)))), ?_⟩
    refine ⟨_, rfl, m, a.c 49, M.dm, _, _, rfl, MA.ins, T.cl_Machine, T.n_Machine_cases, rfl, M.lc, rfl, ⟨_, SqL.of MA.cas⟩, fun D nD => ?_⟩
    have s1 : Same H (upd H D (.lst [])) := Same.new nD
    have len : xs.length = s.cases.length := by have := congrArg List.length hxs; simpa using this
    refine lc_list (K := K) (a := M.lc) (xs := nums (s.cases.map enc)) (fun i H1 => ∃ kvs, MachAt P w a H1 m { M with kvs := kvs } s ∧ (∀ b o, H b = some o → b ≠ M.d → H1 b = some o) ∧ H1 D = some (.lst (zs (fars s.course ps (xs.take i)))) ∧ kvs.length ≤ M.kvs.length + i ∧ (∀ e ∈ kvs, e ∈ M.kvs ∨ ∃ b, e.2.2 = V.ref b ∧ H b = none) ∧ ¬ Owns { M with kvs := kvs } D)
      ⟨M.kvs, MA.same s1, fun b o e _ => s1 b o e, upd_same, Nat.le_refl _, fun e he => .inl he, owns_fresh MA nD⟩ (fun i H1 _ ⟨_, z, _⟩ => SqL.of z.cas) ?_ ?_
    · rintro i y H1 hi ⟨kvs, MA1, k1, hD, kl, ori, no⟩
      obtain ⟨e, he, rfl⟩ := nums_get hi
      have il : i < s.cases.length := by have := (List.getElem?_eq_some_iff.mp he).1; simpa using this
      obtain ⟨x, hx⟩ : ∃ x, xs[i]? = some x := ⟨xs[i]'(by omega), List.getElem?_eq_getElem (by omega)⟩
      have ex : enc x = e := by
        rw [← hxs, List.getElem?_map, hx] at he
        exact Option.some.inj he
      subst ex
      have rd : s.ready = true := rdy.resolve_right fun z => by rw [z] at il; simp at il
      have i16 : i < 16 := Nat.lt_of_lt_of_le il MA.c16
      refine ⟨rfl, tyes ?_⟩
      refine ⟨_, rfl, m, M.dm, _, rfl, MA1.ins, rfl, _, rfl, _, rfl, m, pl, { M with kvs := kvs }, s, ps, x, rfl, MA1, rd, k1 _ _ hpl (ne_of hpl MA.memo (by intro z; cases z)), xok x (List.mem_of_getElem? hx), (by show kvs.length ≤ BIG; omega), fun H2 kvs2 l MA2 k2 hl kl2 ori2 => ?_⟩
      have kl3 : kvs2.length ≤ kvs.length + 1 := kl2
      have c16 := MA.c16
      refine ⟨l, _, 0, V.int (farN (Kct8.far (crs s.course ps) x)), rfl, rfl, SqL.of hl, ?_, ?_⟩
      · have h := farL_head (Kct8.far (crs s.course ps) x)
        have h2 : (zs (farL (Kct8.far (crs s.course ps) x)))[0]? = some (V.int (farN (Kct8.far (crs s.course ps) x))) := by
          unfold zs; rw [List.getElem?_map, h]; rfl
        exact atI_nat (j := 0) h2
      have Dd : D ≠ M.d := fun z => by rw [z, MA.memo] at nD; cases nD
      have hD2 := k2 _ _ hD Dd
      have no2 : ¬ Owns { M with kvs := kvs2 } D := by
        rintro (z | z | z | z | ⟨e, he, ev⟩)
        · exact no (.inl z)
        · exact no (.inr (.inl z))
        · exact no (.inr (.inr (.inl z)))
        · exact no (.inr (.inr (.inr (.inl z))))
        · rcases ori2 e he with z | ⟨b, eb, nb⟩
          · exact no (.inr (.inr (.inr (.inr ⟨e, z, ev⟩))))
          · rw [ev] at eb
            cases eb
            rw [hD] at nb; cases nb
      refine ⟨_, hD2, small (m := 16) ?_ (by decide), kvs2, MA2.other hD2 no2 (fun b o e n => by rw [upd_ne n]; exact e), fun b o e n => ?_, ?_, by omega, fun e he => ?_, no2⟩
      · unfold zs fars
        rw [List.length_map, List.length_map]
        exact Nat.le_trans (take_le _ _) (by omega)
      · rw [upd_ne (ne_of_none e nD)]; exact k2 b o (k1 b o e n) n
      · rw [upd_same, take_one hx]
        unfold zs fars
        rw [List.map_append, List.map_append]
        rfl
      · rcases ori2 e he with z | ⟨b, eb, nb⟩
        · exact ori e z
        · refine .inr ⟨b, eb, ?_⟩
          cases q : H b with
          | none => rfl
          | some o =>
            by_cases e' : b = M.d
            · rw [e', MA1.memo] at nb; cases nb
            · rw [k1 b o q e'] at nb; cases nb
    · rintro H1 ⟨kvs, MA1, k1, hD, kl, ori, no⟩
      have e : (nums (s.cases.map enc)).length = xs.length := by rw [nums_len, List.length_map, len]
      rw [e, List.take_length] at hD
      have c16 := MA.c16
      exact k H1 kvs D MA1 k1 nD hD (by rw [e] at kl; omega) ori

/-! ### begin -/
theorem fldnew {G : Hp} {m l : Addr} {o i i' : HO} (hm : G m = some i) (n : G l = none) : ∃ G', G' = upd (upd G l o) m i' ∧ G' m = some i' ∧ G' l = some o ∧ (∀ b q, G b = some q → b ≠ m → G' b = some q) :=
  ⟨_, rfl, upd_same, by rw [upd_ne (ne_of_none hm n).symm]; exact upd_same, fun b q e nb => by rw [upd_ne nb, upd_ne (ne_of_none e n)]; exact e⟩
def spBegin (P : Program) (w : World) (a : Adr) : Sp := fun vs H Q _ => ∃ (m dm : Addr) (fs : List (Str × V)), vs = [.ref m] ∧ H m = some (.ins (a.c 49) dm fs) ∧ (fs = [] ∨ ∃ M tk, fs = mcF M tk) ∧
  ∀ (H' : Hp) (M : Mc) (r : Addr), MachAt P w a H' m M Kct8.first → H r = none → H' r = some (.lst [.int 0]) → (∀ b o, H b = some o → b ≠ m → H' b = some o) → M.kvs = [] → (∀ b, Owns M b → H b = none) → Q (.ref r) H'
theorem sc_begin : FnScope ["self"] ["self"] (defScope s_Machine_begin) := ⟨rfl, rfl, rfl, by decide +kernel, rfl, by decide +kernel, by decide +kernel⟩
theorem ok_begin (T : Txt K mg a) : FnOk P w K mg base CX0 1 (a.f 4901) (a.d 4901) ["self"] (spBegin P w a) := by
  refine T.m_Machine_begin.fn.ok sc_begin (fun vs H Q E h => ?_) (fun cdv A outer sh H vs Q E hr h => ?_)
  · obtain ⟨m, dm, fs, rfl, _⟩ := h
    rfl
  · obtain ⟨m, dm, fs, rfl, hm, hfs, k⟩ := h
    refine ⟨_, pss_cons (ps_fld (pv 0) (pe_lst pa_nil) rfl) (pss_cons (ps_fld (pv 0) (pe_lst pa_nil) rfl) (pss_cons (ps_fld (pv 0) (pe_lst pa_nil) rfl) (pss_cons (ps_fld (pv 0) (pe_lst pa_nil) rfl)
      (pss_cons (ps_fld (pv 0) pe_bl rfl) (pss_cons (ps_fld (pv 0) pe_mnew rfl) (pss_one (ps_ret (pe_lst (pa_cons pe_int pa_nil))))))))), ?_⟩
    have fl : fs.length ≤ 6 := by
      rcases hfs with z | ⟨M, tk, z⟩
      · rw [z]; decide
      · rw [z]; exact Nat.le_refl _
    have pf : ∀ f v (gs : List (Str × V)), (putF f v gs).length ≤ gs.length + 1 := length_putF
    refine ⟨Nat.zero_le _, fun ls n1 => ⟨_, rfl, m, a.c 49, dm, _, rfl, (upd_ne (ne_of_none hm n1)).trans hm, T.cl_Machine, T.n_Machine_steps, by omega, ?_⟩⟩
    obtain ⟨G1, e1, m1, l1, k1⟩ := fldnew (o := .lst []) (i' := .ins (a.c 49) dm (putF "steps" (.ref ls) fs)) hm n1
    rw [← e1]
    have f1 := pf "steps" (.ref ls) fs
    refine ⟨Nat.zero_le _, fun la n2 => ⟨_, rfl, m, a.c 49, dm, _, rfl, (upd_ne (ne_of_none m1 n2)).trans m1, T.cl_Machine, T.n_Machine_told_apart, by omega, ?_⟩⟩
    obtain ⟨G2, e2, m2, l2, k2⟩ := fldnew (o := .lst []) (i' := .ins (a.c 49) dm (putF "told_apart" (.ref la) (putF "steps" (.ref ls) fs))) m1 n2
    rw [← e2]
    have f2 := pf "told_apart" (.ref la) (putF "steps" (.ref ls) fs)
    refine ⟨Nat.zero_le _, fun lp n3 => ⟨_, rfl, m, a.c 49, dm, _, rfl, (upd_ne (ne_of_none m2 n3)).trans m2, T.cl_Machine, T.n_Machine_people, by omega, ?_⟩⟩
    obtain ⟨G3, e3, m3, l3, k3⟩ := fldnew (o := .lst []) (i' := .ins (a.c 49) dm (putF "people" (.ref lp) (putF "told_apart" (.ref la) (putF "steps" (.ref ls) fs)))) m2 n3
    rw [← e3]
    have f3 := pf "people" (.ref lp) (putF "told_apart" (.ref la) (putF "steps" (.ref ls) fs))
    refine ⟨Nat.zero_le _, fun lc n4 => ⟨_, rfl, m, a.c 49, dm, _, rfl, (upd_ne (ne_of_none m3 n4)).trans m3, T.cl_Machine, T.n_Machine_cases, by omega, ?_⟩⟩
    obtain ⟨G4, e4, m4, l4, k4⟩ := fldnew (o := .lst []) (i' := .ins (a.c 49) dm (putF "cases" (.ref lc) (putF "people" (.ref lp) (putF "told_apart" (.ref la) (putF "steps" (.ref ls) fs))))) m3 n4
    rw [← e4]
    have f4 := pf "cases" (.ref lc) (putF "people" (.ref lp) (putF "told_apart" (.ref la) (putF "steps" (.ref ls) fs)))
    refine ⟨_, rfl, m, a.c 49, dm, _, rfl, m4, T.cl_Machine, T.n_Machine_taken, by omega, ?_⟩
    have f5 := pf "taken" (.bl false) (putF "cases" (.ref lc) (putF "people" (.ref lp) (putF "told_apart" (.ref la) (putF "steps" (.ref ls) fs))))
    obtain ⟨G5, e5, m5, k5⟩ : ∃ G5, G5 = upd G4 m (.ins (a.c 49) dm (putF "taken" (.bl false) (putF "cases" (.ref lc) (putF "people" (.ref lp) (putF "told_apart" (.ref la) (putF "steps" (.ref ls) fs)))))) ∧ G5 m = some (.ins (a.c 49) dm (putF "taken" (.bl false) (putF "cases" (.ref lc) (putF "people" (.ref lp) (putF "told_apart" (.ref la) (putF "steps" (.ref ls) fs)))))) ∧ ∀ b q, G4 b = some q → b ≠ m → G5 b = some q :=
      ⟨_, rfl, upd_same, fun b q e n => by rw [upd_ne n]; exact e⟩
    rw [← e5]
    refine fun d n6 => ⟨_, rfl, m, a.c 49, dm, _, rfl, (upd_ne (ne_of_none m5 n6)).trans m5, T.cl_Machine, T.n_Machine_told_far, by omega, ?_⟩
    obtain ⟨G6, e6, m6, l6, k6⟩ := fldnew (o := memoO P w d []) (i' := .ins (a.c 49) dm (putF "told_far" (.ref d) (putF "taken" (.bl false) (putF "cases" (.ref lc) (putF "people" (.ref lp) (putF "told_apart" (.ref la) (putF "steps" (.ref ls) fs))))))) m5 n6
    have q1 : ls ≠ m := (ne_of_none hm n1).symm
    have q2 : la ≠ m := (ne_of_none m1 n2).symm
    have q3 : lp ≠ m := (ne_of_none m2 n3).symm
    have q4 : lc ≠ m := (ne_of_none m3 n4).symm
    have a1 := k2 _ _ l1 q1
    have a2 := k3 _ _ a1 q1
    have a3 := k4 _ _ a2 q1
    have a6 := k6 _ _ (k5 _ _ a3 q1) q1
    have b2 := k3 _ _ l2 q2
    have b3 := k4 _ _ b2 q2
    have b6 := k6 _ _ (k5 _ _ b3 q2) q2
    have c3 := k4 _ _ l3 q3
    have c6 := k6 _ _ (k5 _ _ c3 q3) q3
    have d6 := k6 _ _ (k5 _ _ l4 q4) q4
    have old : ∀ b o, H b = some o → b ≠ m → G6 b = some o := fun b o e n => k6 _ _ (k5 _ _ (k4 _ _ (k3 _ _ (k2 _ _ (k1 _ _ e n) n) n) n) n) n
    have free : ∀ b, b ≠ m → ∀ {G : Hp}, (∀ c o, H c = some o → c ≠ m → G c = some o) → G b = none → H b = none := fun b n G kk z => by
      cases y : H b with
      | none => rfl
      | some o => rw [kk b o y n] at z; cases z
    have g2 : H la = none := free la q2 k1 n2
    have g3 : H lp = none := free lp q3 (fun c o e n => k2 _ _ (k1 _ _ e n) n) n3
    have g4 : H lc = none := free lc q4 (fun c o e n => k3 _ _ (k2 _ _ (k1 _ _ e n) n) n) n4
    refine ⟨(by show 1 ≤ sizeLine; decide), fun r n7x => ?_⟩
    have n7 : G6 r = none := by rw [e6]; exact n7x
    have s7 : Same G6 (upd G6 r (.lst [V.int 0])) := Same.new n7
    have rm : r ≠ m := (ne_of_none m6 n7).symm
    have MA : MachAt P w a G6 m ⟨dm, ls, la, lp, lc, d, [], [], []⟩ Kct8.first := by
      refine ⟨?_, ⟨a6, rfl, fun i p w hp => (by simp at hp)⟩, ⟨b6, rfl, fun i p w hp => (by simp at hp)⟩, c6, d6, l6, fun e he => (by simp at he), fun e he => (by simp at he), ⟨by decide, fun w hw => (by cases hw), by decide, fun w hw => (by cases hw)⟩, by decide, fun x hx => (by cases hx), by decide, fun _ => ⟨rfl, rfl⟩, ne_of_none l1 n2, ne_of_none a2 n4, ne_of_none b2 n4, (ne_of_none a1 n3).symm, (ne_of_none l2 n3).symm, ne_of_none l3 n4⟩
      rw [m6]
      rcases hfs with z | ⟨M, tk, z⟩
      · rw [z]; rfl
      · rw [z]; rfl
    have fin := k _ _ r (MA.same s7) (free r rm old n7) upd_same (fun b o e n => s7 _ _ (old b o e n)) rfl ?_
    · rw [e6] at fin
      exact fin
    rintro b (z | z | z | z | ⟨e, he, _⟩)
    · rw [z]; exact n1
    · rw [z]; exact g2
    · rw [z]; exact g3
    · rw [z]; exact g4
    · simp at he
end
end Ew

namespace Ew
open PySem PySem.Spec PyProof.Rows L2 EwM
open Kct8 (Work isOn doubles can nexts Course Case Person Abs)

def spMachInit (P : Program) (w : World) (a : Adr) : Sp := fun vs H Q _ => ∃ (m dm : Addr), vs = [.ref m] ∧ H m = some (.ins (a.c 49) dm []) ∧
  ∀ (H' : Hp) (M : Mc), MachAt P w a H' m M Kct8.first → (∀ b o, H b = some o → b ≠ m → H' b = some o) → M.kvs = [] → (∀ b, Owns M b → H b = none) → Q .non H'
def spSome : Sp := fun vs H Q _ => ∃ n : Nat, vs = [.int (n : Int)] ∧ Q (.bl (decide (0 < n) && decide (n ≤ 65535))) H
def stepOk (t g p : Nat) : Bool := ((decide (0 < t) && decide (t ≤ 65535)) && (decide (0 < g) && decide (g ≤ 65535))) && (((t &&& 2) == 0) && decide (p ≤ 15))
def spIsStep : Sp := fun vs H Q _ => ∃ t g p : Nat, vs = [.int (t : Int), .int (g : Int), .int (p : Int)] ∧ Q (.bl (stepOk t g p)) H
/-- what a call leaves: the state, the answer, all else as it was -/
def Post (P : Program) (w : World) (a : Adr) (H : Hp) (m : Addr) (M : Mc) (s' : Abs) (ans : List Int) (Q : VK) : Prop := ∀ (H' : Hp) (M' : Mc) (r : Addr), MachAt P w a H' m M' s' → H r = none → H' r = some (.lst (zs ans)) →
  (∀ b o, H b = some o → b ≠ m → ¬ Owns M b → b ≠ M.d → H' b = some o) → (∀ b, Owns M' b → Owns M b ∨ H b = none) → M'.kvs.length ≤ M.kvs.length + 17 → Q (.ref r) H'
/-- the call x of the specification, on the object at m -/
def spCallOf (P : Program) (w : World) (a : Adr) (H : Hp) (m : Addr) (x : Kct8.Call) (Q : VK) : Prop := ∃ (M : Mc) (s : Abs), MachAt P w a H m M s ∧ M.kvs.length + 17 ≤ BIG ∧ Post P w a H m M (Kct8.step s x).1 (Kct8Neutral.tell (Kct8.step s x).2) Q
theorem Post.quick {P : Program} {w : World} {a : Adr} {H : Hp} {m : Addr} {M : Mc} {s : Abs} {ans : List Int} {Q : VK} (k : Post P w a H m M s ans Q) (MA : MachAt P w a H m M s) {r : Addr} (n : H r = none) : Q (.ref r) (upd H r (.lst (zs ans))) :=
  k _ M r (MA.same (Same.new n)) n upd_same (fun b o e _ _ _ => Same.new n b o e) (fun b h => .inl h) (Nat.le_add_right _ _)
section
variable {P : Program} {w : World} {K : PySem.W.Frag} {mg : Str → Option Value} {base : Heap} {a : Adr}
theorem sc_MachInit : FnScope ["self"] ["self"] (defScope s_Machine_init) := ⟨rfl, rfl, rfl, by decide +kernel, rfl, by decide +kernel, by decide +kernel⟩
theorem ok_MachInit (T : Txt K mg a) : FnOk P w K mg base CX0 2 (a.f 4900) (a.d 4900) ["self"] (spMachInit P w a) := by
  refine T.in_Machine.ok sc_MachInit (fun vs H Q E h => ?_) (fun cdv A outer sh H vs Q E hr h => ?_)
  · obtain ⟨m, dm, rfl, _⟩ := h
    rfl
  · obtain ⟨m, dm, rfl, hm, k⟩ := h
    refine ⟨_, pss_one (ps_expr (pe_meth0 (pv 0) T.cl_Machine T.m_Machine_begin.m (ok_begin T) hr T.m_Machine_begin.b .nil pass0)), ?_⟩
    exact ⟨_, rfl, m, dm, _, rfl, hm, rfl, m, dm, [], rfl, hm, .inl rfl, fun H' M r MA _ _ k1 e ow => k H' M MA k1 e ow⟩
theorem sc_some : FnScope ["bits"] ["bits"] (defScope s_is_some_places) := ⟨rfl, rfl, rfl, by decide +kernel, rfl, by decide +kernel, by decide +kernel⟩
theorem dlt {a b : Nat} : decide ((a : Int) < (b : Int)) = decide (a < b) := decide_eq_decide.mpr (by omega)
theorem dle {a b : Nat} : decide ((a : Int) ≤ (b : Int)) = decide (a ≤ b) := decide_eq_decide.mpr (by omega)
theorem ok_some (T : Txt K mg a) : FnOk P w K mg base CX0 1 (a.f 47) (a.d 47) ["bits"] spSome := by
  refine T.g_is_some_places.fn.ok sc_some (fun vs H Q E h => ?_) (fun cdv A outer sh H vs Q E hr h => ?_)
  · obtain ⟨n, rfl, _⟩ := h
    rfl
  · obtain ⟨n, rfl, q⟩ := h
    refine ⟨_, pss_one (ps_ret (pe_chain op_lt op_le pe_int (pv 0) (pcon T.c_MOST_BITS))), ?_⟩
    refine ⟨_, rfl, _, _, rfl, rfl, _, rfl, ?_⟩
    have e1 : decide ((0 : Int) < (n : Int)) = decide (0 < n) := dlt (a := 0)
    have e2 : decide ((n : Int) ≤ 65535) = decide (n ≤ 65535) := dle (b := 65535)
    rw [e1]
    refine ite2 (fun h => ?_) (fun h => ?_)
    · refine ⟨_, _, rfl, rfl, ?_⟩
      rw [h, Bool.true_and, ← e2] at q
      exact q
    · rw [Bool.eq_false_iff.mpr h, Bool.false_and] at q
      exact q
theorem sc_isstep : FnScope ["takes", "gives", "part"] ["takes", "gives", "part"] (defScope s_is_a_step) := ⟨rfl, rfl, rfl, by decide +kernel, rfl, by decide +kernel, by decide +kernel⟩
theorem ok_isstep (T : Txt K mg a) : FnOk P w K mg base CX0 2 (a.f 48) (a.d 48) ["takes", "gives", "part"] spIsStep := by
  refine T.g_is_a_step.fn.ok sc_isstep (fun vs H Q E h => ?_) (fun cdv A outer sh H vs Q E hr h => ?_)
  · obtain ⟨t, g, p, rfl, _⟩ := h
    rfl
  · obtain ⟨t, g, p, rfl, q⟩ := h
    refine ⟨_, pss_cons (ps_if (PW.pt (pw_or (pt_not (pt_val (pe_call (ok_some T) hr rfl T.g_is_some_places.at_ T.g_is_some_places.fn.kp T.g_is_some_places.b .nil pass0 (pa_cons (pv 0) pa_nil))))
        (pw_or1 (pt_not (pt_val (pe_call (ok_some T) hr rfl T.g_is_some_places.at_ T.g_is_some_places.fn.kp T.g_is_some_places.b .nil pass0 (pa_cons (pv 1) pa_nil)))))))
        (pss_one (ps_ret pe_bl)) pss_nil)
      (pss_one (ps_ret (pe_and (pe_cmpR op_eq (pe_op op_and (pv 0) (pcon T.c_END)) pe_int (nomark _)) (pe_one (pe_cmpR op_le (pv 2) (pcon T.c_MOST_PART) (nomark _)))))), ?_⟩
    refine ⟨_, rfl, t, rfl, _, rfl, ?_⟩
    unfold stepOk at q
    generalize (decide (0 < t) && decide (t ≤ 65535)) = b1 at q
    cases b1 with
    | false => exact q
    | true =>
      refine ⟨_, rfl, g, rfl, _, rfl, ?_⟩
      generalize (decide (0 < g) && decide (g ≤ 65535)) = b2 at q
      cases b2 with
      | false => exact q
      | true =>
        refine ⟨_, rfl, _, _, rfl, rfl, rfl, _, rfl, ?_⟩
        have e : decide (V.int (Builtin.bitAnd (t : Int) 2) = V.int 0) = ((t &&& 2) == 0) := by
          have e := bAnd t 2
          rw [show ((2 : Nat) : Int) = 2 from rfl] at e
          rw [e]
          have := nat_dec (a := t &&& 2) (b := 0)
          rw [show ((0 : Nat) : Int) = 0 from rfl] at this
          rw [this]
          rfl
        have q : Q (.bl (((t &&& 2) == 0) && decide (p ≤ 15))) H := q
        rw [e]
        refine ite2 (fun h => ?_) (fun h => ?_)
        · refine ⟨_, rfl, _, _, rfl, rfl, ?_⟩
          have e2 : decide ((p : Int) ≤ 15) = decide (p ≤ 15) := dle (b := 15)
          rw [h, Bool.true_and, ← e2] at q
          exact q
        · rw [Bool.eq_false_iff.mpr h, Bool.false_and] at q
          exact q
theorem bit1 (t : Nat) : t.testBit 1 = !((t &&& 2) == 0) := by
  have h := and_zero_iff (a := t) (b := 2)
  cases q : t.testBit 1 with
  | false =>
    have : t &&& 2 = 0 := h.mpr fun j => by
      rw [show (2 : Nat) = 2 ^ 1 from rfl, Nat.testBit_two_pow]
      by_cases e : 1 = j
      · subst e; rw [q]; rfl
      · rw [decide_eq_false e, Bool.and_false]
    rw [this]; rfl
  | true =>
    have : ¬ t &&& 2 = 0 := fun z => by
      have := h.mp z 1
      rw [q, show (2 : Nat) = 2 ^ 1 from rfl, Nat.testBit_two_pow] at this
      simp at this
    rw [beq_eq_false_iff_ne.mpr this]; rfl
theorem stepOk_iff (t g p : Nat) : stepOk t g p = true ↔ ¬ (t = 0 ∨ g = 0 ∨ Kct8.PLACES ≤ t ∨ Kct8.PLACES ≤ g ∨ t.testBit 1 = true ∨ 15 < p) := by
  unfold stepOk
  rw [bit1]
  simp only [Bool.and_eq_true, decide_eq_true_eq, beq_iff_eq, Bool.not_eq_true']
  have e : Kct8.PLACES = 65536 := rfl
  constructor
  · rintro ⟨⟨⟨h1, h2⟩, h3, h4⟩, h5, h6⟩ (z | z | z | z | z | z)
    · omega
    · omega
    · omega
    · omega
    · rw [h5] at z; simp at z
    · omega
  · intro h
    refine ⟨⟨⟨by omega, by omega⟩, by omega, by omega⟩, ?_, by omega⟩
    by_cases z : t &&& 2 = 0
    · exact z
    · exact absurd (.inr (.inr (.inr (.inr (.inl (beq_eq_false_iff_ne.mpr z)))))) h

/-! ### work -/
def spWork (P : Program) (w : World) (a : Adr) : Sp := fun vs H Q _ => ∃ (m : Addr) (t g p : Nat), vs = [.ref m, .int (t : Int), .int (g : Int), .int (p : Int)] ∧ spCallOf P w a H m (.work t g p) Q
theorem sc_work : FnScope ["self", "takes", "gives", "part"] ["self", "takes", "gives", "part"] (defScope s_Machine_work) := ⟨rfl, rfl, rfl, by decide +kernel, rfl, by decide +kernel, by decide +kernel⟩
theorem ok_work (T : Txt K mg a) : FnOk P w K mg base CX0 3 (a.f 4902) (a.d 4902) ["self", "takes", "gives", "part"] (spWork P w a) := by
  refine T.m_Machine_work.fn.ok sc_work (fun vs H Q E h => ?_) (fun cdv A outer sh H vs Q E hr h => ?_)
  · obtain ⟨m, t, g, p, rfl, _⟩ := h
    rfl
  · obtain ⟨m, t, g, p, rfl, M, s, MA, big, k⟩ := h
    have nd := sc_work.nd
    refine ⟨_, pss_cons (ps_if (pt_val (pe_fld (pv 0) rfl)) (pss_one (ps_ret (pe_lst (pa_cons (pcon T.c_IS_TAKEN) pa_nil)))) pss_nil)
      (pss_cons (ps_if (pt_not (pt_val (pe_call (ok_isstep T) hr rfl T.g_is_a_step.at_ T.g_is_a_step.fn.kp T.g_is_a_step.b .nil pass0 (pa_cons (pv 1) (pa_cons (pv 2) (pa_cons (pv 3) pa_nil)))))) (pss_one (ps_ret (pe_lst (pa_cons (pcon T.c_NOT_SO) pa_nil)))) pss_nil)
      (pss_cons (ps_if (pt_cmpR op_eq (pe_callB call_len_seq (by rfl) T.b_len PySem.boot_len (pa_cons (pe_fld (pv 0) rfl) pa_nil)) (pcon T.c_MOST_STEPS) (nomark _)) (pss_one (ps_ret (pe_lst (pa_cons (pcon T.c_TOO_MANY) pa_nil)))) pss_nil)
      (pss_cons (ps_expr (pe_bm PySem.F.plainAttrs_list PySem.F.slot_list_append PySem.F.type_list_append mt_append (pe_fld (pv 0) rfl) (pa_cons (pe_make T.mk_Step (ok_StepInit T) hr rfl T.mg_Step T.bi_Step .nil pass0 (pa_cons (pv 1) (pa_cons (pv 2) (pa_cons (pv 3) pa_nil)))) pa_nil)))
      (pss_one (ps_ret (pe_lst (pa_cons (pe_op op_sub (pe_callB call_len_seq (by rfl) T.b_len PySem.boot_len (pa_cons (pe_fld (pv 0) rfl) pa_nil)) pe_int) pa_nil))))))), ?_⟩
    refine ⟨_, rfl, m, a.c 49, M.dm, _, _, rfl, MA.ins, T.cl_Machine, T.n_Machine_taken, rfl, _, rfl, ?_⟩
    have st : Kct8.step s (.work t g p) = if s.ready = true then (s, .num (-16)) else if t = 0 ∨ g = 0 ∨ Kct8.PLACES ≤ t ∨ Kct8.PLACES ≤ g ∨ t.testBit 1 = true ∨ 15 < p then (s, .num (-22)) else if Kct8.STEPS ≤ s.course.works.length then (s, .num (-28)) else
      ({ s with course := { s.course with works := s.course.works ++ [⟨t, g, p⟩] } }, .num s.course.works.length) := rfl
    rw [st] at k
    refine ite2 (fun h1 => ?_) (fun h1 => ?_)
    · rw [if_pos h1] at k
      exact ⟨(by show 1 ≤ sizeLine; decide), fun r n => k.quick MA n⟩
    · rw [if_neg h1] at k
      refine ⟨_, rfl, _, rfl, _, rfl, t, g, p, rfl, _, rfl, ?_⟩
      show if (!stepOk t g p) = true then _ else _
      cases so : stepOk t g p with
      | false =>
        have bad : t = 0 ∨ g = 0 ∨ Kct8.PLACES ≤ t ∨ Kct8.PLACES ≤ g ∨ t.testBit 1 = true ∨ 15 < p := Decidable.byContradiction fun z => by rw [(stepOk_iff t g p).mpr z] at so; cases so
        rw [if_pos bad] at k
        exact iteT ⟨(by show 1 ≤ sizeLine; decide), fun r n => k.quick MA n⟩
      | true =>
        have good := (stepOk_iff t g p).mp so
        rw [if_neg good] at k
        refine iteF ⟨_, rfl, m, a.c 49, M.dm, _, _, rfl, MA.ins, T.cl_Machine, T.n_Machine_steps, rfl, M.ls, _, rfl, .inl (SqL.of MA.steps.lst), rfl, _, rfl, ?_⟩
        have len : (M.sa.map V.ref).length = s.course.works.length := by rw [List.length_map, MA.steps.len]
        have wl := MA.ok.wl
        have e16 := nat_dec (a := (M.sa.map V.ref).length) (b := 16)
        rw [show ((16 : Nat) : Int) = 16 from rfl] at e16
        rw [e16, len]
        refine ite2 (fun h3 => ?_) (fun h3 => ?_)
        · have h3 : s.course.works.length = 16 := of_decide_eq_true h3
          rw [if_pos (by show 16 ≤ _; omega)] at k
          exact ⟨(by show 1 ≤ sizeLine; decide), fun r n => k.quick MA n⟩
        · have h3 : ¬ s.course.works.length = 16 := fun z => h3 (decide_eq_true z)
          rw [if_neg (by show ¬ 16 ≤ _; omega)] at k
          refine ⟨_, rfl, m, a.c 49, M.dm, _, _, rfl, MA.ins, T.cl_Machine, T.n_Machine_steps, rfl, .inl ⟨rfl, _, SqL.of MA.steps.lst⟩, _, rfl, _, rfl, _, rfl, fun x dx nx ndx ne => ?_⟩
          refine ⟨x, dx, ⟨t, g, p⟩, rfl, upd_same, fun H1 hx kp => ⟨rfl, ?_⟩⟩
          have s1 : Same H H1 := Same.made nx ndx kp
          have M1 := MA.same s1
          have ready0 : s.ready = false := Bool.eq_false_iff.mpr h1
          obtain ⟨c0, k0⟩ := MA.idle ready0
          refine ⟨M.ls, _, _, rfl, rfl, M1.steps.lst, small (m := 16) (by rw [len]; exact wl) (by decide), ?_⟩
          have kls : ∀ b o, H1 b = some o → b ≠ M.ls → (upd H1 M.ls (.lst (M.sa.map V.ref ++ [V.ref x]))) b = some o := fun b o e n => by rw [upd_ne n]; exact e
          have nls : ∀ {b : Addr} {o : HO}, H1 b = some o → (∀ xs, o ≠ .lst xs) → b ≠ M.ls := fun e n => ne_of e M1.steps.lst (n _)
          have M2 : MachAt P w a (upd H1 M.ls (.lst (M.sa.map V.ref ++ [V.ref x]))) m { M with sa := M.sa ++ [x] } { s with course := { s.course with works := s.course.works ++ [⟨t, g, p⟩] } } := by
            refine ⟨kls _ _ M1.ins (nls M1.ins (by intro xs z; cases z)), ⟨by rw [upd_same, List.map_append]; rfl, by show (M.sa ++ [x]).length = (s.course.works ++ [_]).length; rw [List.length_append, List.length_append, MA.steps.len]; rfl, fun i q wk hq hw => ?_⟩,
              ⟨kls _ _ M1.aps.lst (Ne.symm MA.n1), M1.aps.len, fun i q z hq hz => let e := M1.aps.at_ i q z hq hz; kls _ _ e (nls e (by intro xs z; cases z))⟩, kls _ _ M1.ppl MA.n4, kls _ _ M1.cas (Ne.symm MA.n2), kls _ _ M1.memo (nls M1.memo (by intro xs z; cases z)),
              M1.keys.tups fun b xs e => kls _ _ e (nls e (by intro xs z; cases z)), fun e he => by rw [k0] at he; simp at he, ⟨?_, ?_, MA.ok.pl, ?_⟩, MA.a32, MA.cok, MA.c16, MA.idle, MA.n1, MA.n2, MA.n3, MA.n4, MA.n5, MA.n6⟩
            · have hq : (M.sa ++ [x])[i]? = some q := hq
              have hw : (s.course.works ++ [⟨t, g, p⟩])[i]? = some wk := hw
              have up : ∀ {q : Addr} {wk : Work}, StepAt a H1 q wk → StepAt a (upd H1 M.ls (.lst (M.sa.map V.ref ++ [V.ref x]))) q wk := fun ⟨dx, e⟩ => ⟨dx, kls _ _ e (nls e (by intro xs z; cases z))⟩
              by_cases hi : i < M.sa.length
              · rw [List.getElem?_append_left hi] at hq
                rw [List.getElem?_append_left (by rw [← MA.steps.len]; exact hi)] at hw
                exact up (M1.steps.at_ i q wk hq hw)
              · rw [List.getElem?_append_right (by omega)] at hq
                rw [List.getElem?_append_right (by rw [← MA.steps.len]; omega), ← MA.steps.len] at hw
                cases z : i - M.sa.length with
                | zero =>
                  rw [z] at hq hw
                  cases Option.some.inj hq
                  cases Option.some.inj hw
                  exact up hx
                | succ j => rw [z] at hq; simp at hq
            · show (s.course.works ++ [_]).length ≤ 16
              rw [List.length_append]; simp only [List.length_cons, List.length_nil]; omega
            · intro wk hwk
              rcases List.mem_append.mp hwk with z | z
              · exact MA.ok.wk wk z
              · have z : wk = ⟨t, g, p⟩ := by simpa using z
                subst z
                have e : Kct8.PLACES = 65536 := rfl
                exact ⟨by show t < 65536; omega, by show g < 65536; omega⟩
            · intro z hz
              have := MA.ok.ap z hz
              show z.1 < (s.course.works ++ [_]).length ∧ z.2 < (s.course.works ++ [_]).length
              rw [List.length_append]
              omega
          refine ⟨_, rfl, m, a.c 49, M.dm, _, _, rfl, M2.ins, T.cl_Machine, T.n_Machine_steps, rfl, M.ls, _, rfl, .inl (SqL.of upd_same), _, _, rfl, rfl, (by show 1 ≤ sizeLine; decide), fun r n => ?_⟩
          have rls : M.ls ≠ r := ne_of_none (H := upd H1 M.ls _) upd_same n
          have rH1 : H1 r = none := by rw [upd_ne (Ne.symm rls)] at n; exact n
          have s3 : Same (upd H1 M.ls (.lst (M.sa.map V.ref ++ [V.ref x]))) _ := Same.new (o := .lst [V.int (((M.sa.map V.ref ++ [V.ref x]).length : Int) - 1)]) n
          refine k _ _ r (M2.same s3) (s1.free rH1) ?_ (fun b o e n1 n2 _ => s3 _ _ (kls _ _ (s1 _ _ e) (fun z => n2 (.inl z)))) (fun b h => .inl h) (Nat.le_add_right _ _)
          rw [upd_same, List.length_append, len]
          have e : ((s.course.works.length + 1 : Nat) : Int) - 1 = (s.course.works.length : Int) := by omega
          show some (HO.lst [V.int (((s.course.works.length + 1 : Nat) : Int) - 1)]) = _
          rw [e]
          rfl
end
end Ew

namespace Ew
open PySem PySem.Spec PyProof.Rows L2 EwM
open Kct8 (Work isOn doubles can nexts Course Case Person Abs)

def spApartM (P : Program) (w : World) (a : Adr) : Sp := fun vs H Q _ => ∃ (m : Addr) (i j : Nat), vs = [.ref m, .int (i : Int), .int (j : Int)] ∧ spCallOf P w a H m (.apart i j) Q
def spReady (P : Program) (w : World) (a : Adr) : Sp := fun vs H Q _ => ∃ (m : Addr), vs = [.ref m] ∧ spCallOf P w a H m .ready Q
section
variable {P : Program} {w : World} {K : PySem.W.Frag} {mg : Str → Option Value} {base : Heap} {a : Adr}
theorem sc_apart : FnScope ["self", "a", "b"] ["self", "a", "b"] (defScope s_Machine_apart) := ⟨rfl, rfl, rfl, by decide +kernel, rfl, by decide +kernel, by decide +kernel⟩
theorem ok_apart (T : Txt K mg a) : FnOk P w K mg base CX0 1 (a.f 4903) (a.d 4903) ["self", "a", "b"] (spApartM P w a) := by
  refine T.m_Machine_apart.fn.ok sc_apart (fun vs H Q E h => ?_) (fun cdv A outer sh H vs Q E hr h => ?_)
  · obtain ⟨m, i, j, rfl, _⟩ := h
    rfl
  · obtain ⟨m, i, j, rfl, M, s, MA, big, k⟩ := h
    refine ⟨_, pss_cons (ps_if (pt_val (pe_fld (pv 0) rfl)) (pss_one (ps_ret (pe_lst (pa_cons (pcon T.c_IS_TAKEN) pa_nil)))) pss_nil)
      (pss_cons (ps_if (PW.pt (pw_or (pt_cmpR op_ge (pe_callB (call_max2 rfl) (by rfl) T.b_max bt_max (pa_cons (pv 1) (pa_cons (pv 2) pa_nil))) (pe_callB call_len_seq (by rfl) T.b_len PySem.boot_len (pa_cons (pe_fld (pv 0) rfl) pa_nil)) (nomark _)) (pw_or1 (pt_cmpR op_eq (pv 1) (pv 2) (nomark _)))))
        (pss_one (ps_ret (pe_lst (pa_cons (pcon T.c_NOT_SO) pa_nil)))) pss_nil)
      (pss_cons (ps_if (pt_cmpR op_eq (pe_callB call_len_seq (by rfl) T.b_len PySem.boot_len (pa_cons (pe_fld (pv 0) rfl) pa_nil)) (pcon T.c_MOST_TOLD_APART) (nomark _)) (pss_one (ps_ret (pe_lst (pa_cons (pcon T.c_TOO_MANY) pa_nil)))) pss_nil)
      (pss_cons (ps_expr (pe_bm PySem.F.plainAttrs_list PySem.F.slot_list_append PySem.F.type_list_append mt_append (pe_fld (pv 0) rfl) (pa_cons (pe_tup (pa_cons (pv 1) (pa_cons (pv 2) pa_nil))) pa_nil)))
      (pss_one (ps_ret (pe_lst (pa_cons pe_int pa_nil))))))), ?_⟩
    refine ⟨_, rfl, m, a.c 49, M.dm, _, _, rfl, MA.ins, T.cl_Machine, T.n_Machine_taken, rfl, _, rfl, ?_⟩
    have st : Kct8.step s (.apart i j) = if s.ready = true then (s, .num (-16)) else if s.course.works.length ≤ i ∨ s.course.works.length ≤ j ∨ i = j then (s, .num (-22)) else if Kct8.APARTS ≤ s.course.aparts.length then (s, .num (-28)) else
      ({ s with course := { s.course with aparts := s.course.aparts ++ [(i, j)] } }, .num 0) := rfl
    rw [st] at k
    have lenS : (M.sa.map V.ref).length = s.course.works.length := by rw [List.length_map, MA.steps.len]
    have lenA : (M.ta.map V.ref).length = s.course.aparts.length := by rw [List.length_map, MA.aps.len]
    refine ite2 (fun h1 => ?_) (fun h1 => ?_)
    · rw [if_pos h1] at k
      exact ⟨(by show 1 ≤ sizeLine; decide), fun r n => k.quick MA n⟩
    · rw [if_neg h1] at k
      have ready0 : s.ready = false := Bool.eq_false_iff.mpr h1
      refine ⟨_, rfl, _, rfl, _, _, rfl, _, rfl, m, a.c 49, M.dm, _, _, rfl, MA.ins, T.cl_Machine, T.n_Machine_steps, rfl, M.ls, _, rfl, .inl (SqL.of MA.steps.lst), _, _, rfl, rfl, _, rfl, ?_⟩
      rw [lenS]
      refine ite2 (fun h2 => ?_) (fun h2 => ?_)
      · have h2 : (s.course.works.length : Int) ≤ if (j : Int) > (i : Int) then (j : Int) else (i : Int) := of_decide_eq_true h2
        have bad : s.course.works.length ≤ i ∨ s.course.works.length ≤ j ∨ i = j := by
          split at h2
          · exact .inr (.inl (by omega))
          · exact .inl (by omega)
        rw [if_pos bad] at k
        exact iteT ⟨(by show 1 ≤ sizeLine; decide), fun r n => k.quick MA n⟩
      · have h2 : ¬ (s.course.works.length : Int) ≤ if (j : Int) > (i : Int) then (j : Int) else (i : Int) := fun z => h2 (decide_eq_true z)
        refine ⟨_, rfl, _, rfl, rfl, _, rfl, ?_⟩
        have en := nat_dec (a := i) (b := j)
        rw [en]
        refine ite2 (fun h3 => ?_) (fun h3 => ?_)
        · have h3 : i = j := of_decide_eq_true h3
          rw [if_pos (.inr (.inr h3))] at k
          exact ⟨(by show 1 ≤ sizeLine; decide), fun r n => k.quick MA n⟩
        · have h3 : ¬ i = j := fun z => h3 (decide_eq_true z)
          have good : i < s.course.works.length ∧ j < s.course.works.length := by
            split at h2
            · constructor <;> omega
            · constructor <;> omega
          rw [if_neg (by omega)] at k
          refine ⟨_, rfl, m, a.c 49, M.dm, _, _, rfl, MA.ins, T.cl_Machine, T.n_Machine_told_apart, rfl, M.la, _, rfl, .inl (SqL.of MA.aps.lst), rfl, _, rfl, ?_⟩
          have e32 := nat_dec (a := (M.ta.map V.ref).length) (b := 32)
          rw [show ((32 : Nat) : Int) = 32 from rfl] at e32
          rw [e32, lenA]
          have al := MA.a32
          refine ite2 (fun h4 => ?_) (fun h4 => ?_)
          · have h4 : s.course.aparts.length = 32 := of_decide_eq_true h4
            rw [if_pos (by show 32 ≤ _; omega)] at k
            exact ⟨(by show 1 ≤ sizeLine; decide), fun r n => k.quick MA n⟩
          · have h4 : ¬ s.course.aparts.length = 32 := fun z => h4 (decide_eq_true z)
            rw [if_neg (by show ¬ 32 ≤ _; omega)] at k
            refine ⟨_, rfl, m, a.c 49, M.dm, _, _, rfl, MA.ins, T.cl_Machine, T.n_Machine_told_apart, rfl, .inl ⟨rfl, _, SqL.of MA.aps.lst⟩, _, rfl, _, rfl, (by show 2 ≤ sizeLine; decide), fun x nx => ?_⟩
            have s1 : Same H (upd H x (.tup [.int (i : Int), .int (j : Int)])) := Same.new nx
            have M1 := MA.same s1
            have hx : (upd H x (.tup [.int (i : Int), .int (j : Int)])) x = some (.tup [.int (i : Int), .int (j : Int)]) := upd_same
            generalize upd H x (.tup [.int (i : Int), .int (j : Int)]) = H1 at s1 M1 hx
            obtain ⟨c0, k0⟩ := MA.idle ready0
            refine ⟨M.la, _, _, rfl, rfl, M1.aps.lst, small (m := 32) (by rw [lenA]; exact al) (by decide), ?_⟩
            have kls : ∀ b o, H1 b = some o → b ≠ M.la → (upd H1 M.la (.lst (M.ta.map V.ref ++ [V.ref x]))) b = some o := fun b o e n => by rw [upd_ne n]; exact e
            have nls : ∀ {b : Addr} {o : HO}, H1 b = some o → (∀ xs, o ≠ .lst xs) → b ≠ M.la := fun e n => ne_of e M1.aps.lst (n _)
            have M2 : MachAt P w a (upd H1 M.la (.lst (M.ta.map V.ref ++ [V.ref x]))) m { M with ta := M.ta ++ [x] } { s with course := { s.course with aparts := s.course.aparts ++ [(i, j)] } } := by
              refine ⟨kls _ _ M1.ins (nls M1.ins (by intro xs z; cases z)), ⟨kls _ _ M1.steps.lst MA.n1, M1.steps.len, fun n q z hq hz => let ⟨dx, e⟩ := M1.steps.at_ n q z hq hz; ⟨dx, kls _ _ e (nls e (by intro xs z; cases z))⟩⟩,
                ⟨by rw [upd_same, List.map_append]; rfl, by show (M.ta ++ [x]).length = (s.course.aparts ++ [_]).length; rw [List.length_append, List.length_append, MA.aps.len]; rfl, fun n q z hq hz => ?_⟩, kls _ _ M1.ppl MA.n5, kls _ _ M1.cas (Ne.symm MA.n3), kls _ _ M1.memo (nls M1.memo (by intro xs z; cases z)),
                M1.keys.tups fun b xs e => kls _ _ e (nls e (by intro xs z; cases z)), fun e he => by rw [k0] at he; simp at he, ⟨MA.ok.wl, MA.ok.wk, MA.ok.pl, ?_⟩, ?_, MA.cok, MA.c16, MA.idle, MA.n1, MA.n2, MA.n3, MA.n4, MA.n5, MA.n6⟩
              · have hq : (M.ta ++ [x])[n]? = some q := hq
                have hz : (s.course.aparts ++ [(i, j)])[n]? = some z := hz
                by_cases hi : n < M.ta.length
                · rw [List.getElem?_append_left hi] at hq
                  rw [List.getElem?_append_left (by rw [← MA.aps.len]; exact hi)] at hz
                  have e := M1.aps.at_ n q z hq hz
                  exact kls _ _ e (nls e (by intro xs z; cases z))
                · rw [List.getElem?_append_right (by omega)] at hq
                  rw [List.getElem?_append_right (by rw [← MA.aps.len]; omega), ← MA.aps.len] at hz
                  cases y : n - M.ta.length with
                  | zero =>
                    rw [y] at hq hz
                    cases Option.some.inj hq
                    cases Option.some.inj hz
                    exact kls _ _ hx (nls hx (by intro xs z; cases z))
                  | succ l => rw [y] at hq; simp at hq
              · intro z hz
                rcases List.mem_append.mp hz with y | y
                · exact MA.ok.ap z y
                · have y : z = (i, j) := by simpa using y
                  rw [y]; exact good
              · show (s.course.aparts ++ [_]).length ≤ 32
                rw [List.length_append]; simp only [List.length_cons, List.length_nil]; omega
            refine ⟨(by show 1 ≤ sizeLine; decide), fun r n => ?_⟩
            have rla : M.la ≠ r := ne_of_none (H := upd H1 M.la _) upd_same n
            have rH1 : H1 r = none := by rw [upd_ne (Ne.symm rla)] at n; exact n
            have s3 : Same (upd H1 M.la (.lst (M.ta.map V.ref ++ [V.ref x]))) _ := Same.new (o := .lst [V.int 0]) n
            exact k _ _ r (M2.same s3) (s1.free rH1) upd_same (fun b o e n1 n2 _ => s3 _ _ (kls _ _ (s1 _ _ e) (fun z => n2 (.inr (.inl z))))) (fun b h => .inl h) (Nat.le_add_right _ _)
theorem sc_ready : FnScope ["self", "behind", "fault"] ["self"] (defScope s_Machine_ready) := ⟨rfl, rfl, rfl, by decide +kernel, rfl, by decide +kernel, by decide +kernel⟩
theorem ok_ready (T : Txt K mg a) : FnOk P w K mg base CX0 5 (a.f 4905) (a.d 4905) ["self"] (spReady P w a) := by
  refine T.m_Machine_ready.fn.ok sc_ready (fun vs H Q E h => ?_) (fun cdv A outer sh H vs Q E hr h => ?_)
  · obtain ⟨m, rfl, _⟩ := h
    rfl
  · obtain ⟨m, rfl, M, s, MA, big, k⟩ := h
    have nd := sc_ready.nd
    have hr3 := hr.mono (j := 3) (by decide)
    refine ⟨_, pss_cons (ps_if (pt_val (pe_fld (pv 0) rfl)) (pss_one (ps_ret (pe_lst (pa_cons (pcon T.c_IS_TAKEN) pa_nil)))) pss_nil)
      (pss_cons (ps_set (i := 1) nd rfl (Or.inl rfl) (pe_call (ok_all_marks T) hr3 rfl T.g_all_marks.at_ T.g_all_marks.fn.kp T.g_all_marks.b .nil pass0 (pa_cons (pe_fld (pv 0) rfl) pa_nil)))
      (pss_cons (ps_if (pt_cmp (pc_isN (pv 1))) (pss_one (ps_ret (pe_lst (pa_cons (pcon T.c_TOO_MANY) pa_nil)))) pss_nil)
      (pss_cons (ps_set (i := 2) nd rfl (Or.inl rfl) (pe_call (ok_fault T) hr rfl T.g_first_fault.at_ T.g_first_fault.fn.kp T.g_first_fault.b .nil pass0 (pa_cons (pe_fld (pv 0) rfl) (pa_cons (pv 1) pa_nil))))
      (pss_cons (ps_if (pt_cmpR op_gt (pe_callB call_len_seq (by rfl) T.b_len PySem.boot_len (pa_cons (pv 2) pa_nil)) pe_int (nomark _)) (pss_one (ps_ret (pv 2))) pss_nil)
      (pss_cons (ps_fld (pv 0) pe_bl rfl) (pss_one (ps_ret (pe_lst (pa_cons pe_int pa_nil))))))))), ?_⟩
    refine ⟨_, rfl, m, a.c 49, M.dm, _, _, rfl, MA.ins, T.cl_Machine, T.n_Machine_taken, rfl, _, rfl, ?_⟩
    have st : Kct8.step s .ready = if s.ready = true then (s, .num (-16)) else match Kct8.all s.course.works with
      | none => (s, .num (-28))
      | some l => match Kct8.wrong s.course.works l with
        | some (k, x) => (s, .some_ k [x])
        | none => ({ s with ready := true }, .num 0) := rfl
    rw [st] at k
    refine ite2 (fun h1 => ?_) (fun h1 => ?_)
    · rw [if_pos h1] at k
      exact ⟨(by show 1 ≤ sizeLine; decide), fun r n => k.quick MA n⟩
    · rw [if_neg h1] at k
      have ready0 : s.ready = false := Bool.eq_false_iff.mpr h1
      refine ⟨_, rfl, m, a.c 49, M.dm, _, _, rfl, MA.ins, T.cl_Machine, T.n_Machine_steps, rfl, M.ls, M.sa, s.course.works, rfl, MA.steps, MA.ok.wl, fun H1 s1 al => ?_, fun d q H1 b kvs s1 n1 al L hd B => ?_⟩
      · rw [al] at k
        refine ⟨_, rfl, _, rfl, iteT ⟨(by show 1 ≤ sizeLine; decide), fun r n => ?_⟩⟩
        have s2 := Same.new (o := .lst [V.int (-28)]) n
        exact k _ M r (MA.same (s1.trans s2)) (s1.free n) upd_same (fun b o e _ _ _ => s2 _ _ (s1 _ _ e)) (fun b h => .inl h) (Nat.le_add_right _ _)
      · rw [al] at k
        simp only [] at k
        have M1 := MA.same s1
        refine ⟨_, rfl, _, rfl, iteF ⟨_, rfl, m, a.c 49, M.dm, _, _, rfl, M1.ins, T.cl_Machine, T.n_Machine_steps, rfl, _, rfl, M.ls, d, q, M.sa, s.course.works, b, kvs, rfl, M1.steps, MA.ok.wl, hd, B, L, fun r H2 s2 n2 hr2 => ?_⟩⟩
        have s02 : Same H H2 := s1.trans s2
        have M2 := MA.same s02
        refine ⟨_, rfl, r, _, rfl, .inl (SqL.of hr2), _, _, rfl, rfl, _, rfl, ?_⟩
        cases wr : Kct8.wrong s.course.works b with
        | some z =>
          obtain ⟨kk, x⟩ := z
          rw [wr] at k hr2
          exact iteT ⟨_, rfl, k H2 M r M2 (s1.free n2) hr2 (fun b o e _ _ _ => s02 _ _ e) (fun b h => .inl h) (Nat.le_add_right _ _)⟩
        | none =>
          rw [wr] at k hr2
          simp only [] at k
          refine iteF ⟨_, rfl, m, a.c 49, M.dm, _, rfl, M2.ins, T.cl_Machine, T.n_Machine_taken, (by show 6 < 1000; decide), ?_⟩
          have pf : putF "taken" (V.bl true) (mcF M s.ready) = mcF M true := by rw [ready0]; rfl
          rw [pf]
          have km : ∀ b o, H2 b = some o → b ≠ m → (upd H2 m (.ins (a.c 49) M.dm (mcF M true))) b = some o := fun b o e n => by rw [upd_ne n]; exact e
          have nm : ∀ {b : Addr} {o : HO}, H2 b = some o → (∀ C dx fs, o ≠ .ins C dx fs) → b ≠ m := fun e n => ne_of e M2.ins (n _ _ _)
          obtain ⟨c0, k0⟩ := MA.idle ready0
          have M3 : MachAt P w a (upd H2 m (.ins (a.c 49) M.dm (mcF M true))) m M { s with ready := true } := by
            refine ⟨upd_same, ⟨km _ _ M2.steps.lst (nm M2.steps.lst (by intro _ _ _ z; cases z)), M2.steps.len, fun n q z hq hz => let ⟨dx, e⟩ := M2.steps.at_ n q z hq hz; ⟨dx, km _ _ e (ne_of e M2.ins ?_)⟩⟩,
              ⟨km _ _ M2.aps.lst (nm M2.aps.lst (by intro _ _ _ z; cases z)), M2.aps.len, fun n q z hq hz => let e := M2.aps.at_ n q z hq hz; km _ _ e (nm e (by intro _ _ _ z; cases z))⟩, km _ _ M2.ppl (nm M2.ppl (by intro _ _ _ z; cases z)), km _ _ M2.cas (nm M2.cas (by intro _ _ _ z; cases z)), km _ _ M2.memo (nm M2.memo (by intro _ _ _ z; cases z)),
              M2.keys.tups fun b xs e => km _ _ e (nm e (by intro _ _ _ z; cases z)), fun e he => by rw [k0] at he; simp at he, MA.ok, MA.a32, MA.cok, MA.c16, fun z => (by cases z), MA.n1, MA.n2, MA.n3, MA.n4, MA.n5, MA.n6⟩
            intro y
            injection y with _ _ y3
            exact absurd (congrArg List.length y3) (by unfold stF mcF; simp)
          refine ⟨(by show 1 ≤ sizeLine; decide), fun rr n => ?_⟩
          have rm : m ≠ rr := ne_of_none (H := upd H2 m _) upd_same n
          have rH2 : H2 rr = none := by rw [upd_ne (Ne.symm rm)] at n; exact n
          have s3 : Same (upd H2 m (.ins (a.c 49) M.dm (mcF M true))) _ := Same.new (o := .lst [V.int 0]) n
          exact k _ M rr (M3.same s3) (s02.free rH2) upd_same (fun b o e n1 _ _ => s3 _ _ (km _ _ (s02 _ _ e) n1)) (fun b h => .inl h) (Nat.le_add_right _ _)
end
end Ew

namespace Ew
open PySem PySem.Spec PyProof.Rows L2 EwM
open Kct8 (Work isOn doubles can nexts Course Case Person Abs)

section
variable {P : Program} {w : World} {a : Adr} {H H' : Hp} {m : Addr} {M : Mc} {s : Abs}
/-- the list of the cases is changed -/
theorem MachAt.setCases (h : MachAt P w a H m M s) {cs : List Case} (rdy : s.ready = true) (ok : ∀ x ∈ cs, CaseOk s.course.people.length x) (few : cs.length ≤ 16) : MachAt P w a (upd H M.lc (.lst (nums (cs.map enc)))) m M { s with cases := cs } := by
  have k : ∀ b o, H b = some o → b ≠ M.lc → (upd H M.lc (.lst (nums (cs.map enc)))) b = some o := fun b o e n => by rw [upd_ne n]; exact e
  have n : ∀ {b : Addr} {o : HO}, H b = some o → (∀ xs, o ≠ .lst xs) → b ≠ M.lc := fun e n => ne_of e h.cas (n _)
  exact ⟨k _ _ h.ins (n h.ins (by intro xs z; cases z)), ⟨k _ _ h.steps.lst h.n2, h.steps.len, fun i q z hq hz => let ⟨dx, e⟩ := h.steps.at_ i q z hq hz; ⟨dx, k _ _ e (n e (by intro xs z; cases z))⟩⟩,
    ⟨k _ _ h.aps.lst h.n3, h.aps.len, fun i q z hq hz => let e := h.aps.at_ i q z hq hz; k _ _ e (n e (by intro xs z; cases z))⟩, k _ _ h.ppl h.n6, upd_same, k _ _ h.memo (n h.memo (by intro xs z; cases z)),
    h.keys.tups fun b xs e => k _ _ e (n e (by intro xs z; cases z)), fun e he => let ⟨ps, x, l, e1, e2, e3, e4, e5⟩ := h.rows e he; ⟨ps, x, l, e1, e2, e3, k _ _ e4 e5.2.2, e5⟩, h.ok, h.a32, ok, few, fun z => (by rw [show ({ s with cases := cs } : Abs).ready = s.ready from rfl, rdy] at z; cases z), h.n1, h.n2, h.n3, h.n4, h.n5, h.n6⟩
/-- another list of the people is taken -/
theorem MachAt.setPeople (h : MachAt P w a H m M s) {lp : Addr} {ps : List Person} {cs : List Case} (hp : H lp = some (.lst (ps.map pV))) (l8 : ps.length ≤ 8) (hc : cs.map enc = s.cases.map enc) (ok : ∀ x ∈ cs, CaseOk ps.length x) (q1 : lp ≠ M.ls) (q2 : lp ≠ M.la) (q3 : lp ≠ M.lc) :
    MachAt P w a (upd H m (.ins (a.c 49) M.dm (mcF { M with lp := lp } s.ready))) m { M with lp := lp } { s with course := { s.course with people := ps }, cases := cs } := by
  have k : ∀ b o, H b = some o → b ≠ m → (upd H m (.ins (a.c 49) M.dm (mcF { M with lp := lp } s.ready))) b = some o := fun b o e n => by rw [upd_ne n]; exact e
  have n : ∀ {b : Addr} {o : HO}, H b = some o → (∀ C dx fs, o ≠ .ins C dx fs) → b ≠ m := fun e n => ne_of e h.ins (n _ _ _)
  have len : cs.length = s.cases.length := by have := congrArg List.length hc; simpa using this
  refine ⟨upd_same, ⟨k _ _ h.steps.lst (n h.steps.lst (by intro _ _ _ z; cases z)), h.steps.len, fun i q z hq hz => let ⟨dx, e⟩ := h.steps.at_ i q z hq hz; ⟨dx, k _ _ e (ne_of e h.ins ?_)⟩⟩,
    ⟨k _ _ h.aps.lst (n h.aps.lst (by intro _ _ _ z; cases z)), h.aps.len, fun i q z hq hz => let e := h.aps.at_ i q z hq hz; k _ _ e (n e (by intro _ _ _ z; cases z))⟩, k _ _ hp (n hp (by intro _ _ _ z; cases z)), (by show (upd H m _) M.lc = some (.lst (nums (cs.map enc))); rw [hc]; exact k _ _ h.cas (n h.cas (by intro _ _ _ z; cases z))), k _ _ h.memo (n h.memo (by intro _ _ _ z; cases z)),
    h.keys.tups fun b xs e => k _ _ e (n e (by intro _ _ _ z; cases z)), fun e he => let ⟨ps, x, l, e1, e2, e3, e4, e5⟩ := h.rows e he; ⟨ps, x, l, e1, e2, e3, k _ _ e4 (n e4 (by intro _ _ _ z; cases z)), e5⟩, ⟨h.ok.wl, h.ok.wk, l8, h.ok.ap⟩, h.a32, ok, (by show cs.length ≤ 16; rw [len]; exact h.c16), fun z => ?_, h.n1, h.n2, h.n3, q1, q2, q3⟩
  · intro y
    injection y with _ _ y3
    exact absurd (congrArg List.length y3) (by unfold stF mcF; simp)
  · obtain ⟨c0, k0⟩ := h.idle z
    refine ⟨?_, k0⟩
    rw [c0] at len
    exact List.eq_nil_of_length_eq_zero len
end
abbrev newP (n : Nat) : Person := ⟨n, true⟩
abbrev withP (c : Course) (n : Nat) : Course := { c with people := c.people ++ [newP n] }
abbrev moreC (l : List Case) : List Case := l.map fun (x : Case) => ({ x with did := x.did ++ [0] } : Case)
theorem in_fars {c c' : Course} {ps : List (Option Nat)} (z : Int) (p : Kct8.Far → Bool) (hp : ∀ f, (farN f == z) = p f) (hc : ∀ x, Kct8.far (crs c ps) x = Kct8.far c' x) (xs : List Case) : inV (V.int z) (zs (fars c ps xs)) = xs.any fun x => p (Kct8.far c' x) := by
  unfold inV zs fars
  rw [List.map_map, List.any_map]
  congr 1
  funext x
  show (farN (Kct8.far (crs c ps) x) == z) = _
  rw [hp, hc]
theorem many_dec (f : Kct8.Far) : (farN f == -75) = Kct8.isMany f := by
  cases f with
  | ends k v => show ((k : Int) == -75) = false; exact beq_eq_false_iff_ne.mpr (by omega)
  | no => rfl
  | many => rfl
theorem no_dec (f : Kct8.Far) : (farN f == -33) = Kct8.isNo f := by
  cases f with
  | ends k v => show ((k : Int) == -33) = false; exact beq_eq_false_iff_ne.mpr (by omega)
  | no => rfl
  | many => rfl
theorem zs_flat (l : List Int) : (zs l).all flatV = true := by
  unfold zs
  rw [List.all_map, List.all_eq_true]
  intro x _
  rfl
def spPerson (P : Program) (w : World) (a : Adr) : Sp := fun vs H Q _ => ∃ (m : Addr) (r : Nat), vs = [.ref m, .int (r : Int)] ∧ spCallOf P w a H m (.person r) Q
section
variable {P : Program} {w : World} {K : PySem.W.Frag} {mg : Str → Option Value} {base : Heap} {a : Adr}
theorem sc_person : FnScope ["self", "parts", "more"] ["self", "parts"] (defScope s_Machine_person) := ⟨rfl, rfl, rfl, by decide +kernel, rfl, by decide +kernel, by decide +kernel⟩
theorem ok_person (T : Txt K mg a) : FnOk P w K mg base CX0 7 (a.f 4904) (a.d 4904) ["self", "parts"] (spPerson P w a) := by
  refine T.m_Machine_person.fn.ok sc_person (fun vs H Q E h => ?_) (fun cdv A outer sh H vs Q E hr h => ?_)
  · obtain ⟨m, r, rfl, _⟩ := h
    rfl
  · obtain ⟨m, n, rfl, M, s, MA, big, k⟩ := h
    have nd := sc_person.nd
    refine ⟨_, pss_cons (ps_if (pt_cmpR op_gt (pv 1) (pcon T.c_MOST_BITS) (nomark _)) (pss_one (ps_ret (pe_lst (pa_cons (pcon T.c_NOT_SO) pa_nil)))) pss_nil)
      (pss_cons (ps_if (pt_cmpR op_eq (pe_callB call_len_seq (by rfl) T.b_len PySem.boot_len (pa_cons (pe_fld (pv 0) rfl) pa_nil)) (pcon T.c_MOST_PEOPLE) (nomark _)) (pss_one (ps_ret (pe_lst (pa_cons (pcon T.c_TOO_MANY) pa_nil)))) pss_nil)
      (pss_cons (ps_set (i := 2) nd rfl (Or.inl rfl) (pe_op op_cat (pe_fld (pv 0) rfl) (pe_lst (pa_cons (pv 1) pa_nil))))
      (pss_cons (ps_if (pt_cmpR op_in_seq (pcon T.c_TOO_MANY_TO_TELL) (pe_meth (pv 0) T.cl_Machine T.m_Machine_far_of_all.m (ok_far_all T) hr T.m_Machine_far_of_all.b .nil pass0 (pa_cons (pv 2) pa_nil)) (by with_unfolding_all rfl)) (pss_one (ps_ret (pe_lst (pa_cons (pcon T.c_TOO_MANY_TO_TELL) pa_nil)))) pss_nil)
      (pss_cons (ps_fld (pv 0) (pv 2) rfl)
      (pss_one (ps_ret (pe_lst (pa_cons (pe_op op_sub (pe_callB call_len_seq (by rfl) T.b_len PySem.boot_len (pa_cons (pv 2) pa_nil)) pe_int) pa_nil)))))))), ?_⟩
    have st : Kct8.step s (.person n) = if Kct8.PLACES ≤ n then (s, .num (-22)) else if Kct8.PEOPLE ≤ s.course.people.length then (s, .num (-28)) else
      if (moreC s.cases).any (fun x => Kct8.isMany (Kct8.far (withP s.course n) x)) = true then (s, .num (-75)) else
        ({ s with course := withP s.course n, cases := moreC s.cases }, .num s.course.people.length) := rfl
    rw [st] at k
    refine ⟨_, rfl, _, _, rfl, rfl, _, rfl, ?_⟩
    have eb : decide ((65535 : Int) < (n : Int)) = decide (65535 < n) := dlt (a := 65535)
    rw [eb]
    refine ite2 (fun h1 => ?_) (fun h1 => ?_)
    · have h1 : 65535 < n := of_decide_eq_true h1
      rw [if_pos (by show 65536 ≤ n; omega)] at k
      exact ⟨(by show 1 ≤ sizeLine; decide), fun r n => k.quick MA n⟩
    · have h1 : ¬ 65535 < n := fun z => h1 (decide_eq_true z)
      rw [if_neg (by show ¬ 65536 ≤ n; omega)] at k
      have lenP : (s.course.people.map pV).length = s.course.people.length := List.length_map _
      refine ⟨_, rfl, m, a.c 49, M.dm, _, _, rfl, MA.ins, T.cl_Machine, T.n_Machine_people, rfl, M.lp, _, rfl, .inl (SqL.of MA.ppl), rfl, _, rfl, ?_⟩
      have e8 := nat_dec (a := (s.course.people.map pV).length) (b := 8)
      rw [show ((8 : Nat) : Int) = 8 from rfl] at e8
      rw [e8, lenP]
      have p8 := MA.ok.pl
      refine ite2 (fun h2 => ?_) (fun h2 => ?_)
      · have h2 : s.course.people.length = 8 := of_decide_eq_true h2
        rw [if_pos (by show 8 ≤ _; omega)] at k
        exact ⟨(by show 1 ≤ sizeLine; decide), fun r n => k.quick MA n⟩
      · have h2 : ¬ s.course.people.length = 8 := fun z => h2 (decide_eq_true z)
        rw [if_neg (by show ¬ 8 ≤ _; omega)] at k
        refine ⟨_, rfl, m, a.c 49, M.dm, _, _, rfl, MA.ins, T.cl_Machine, T.n_Machine_people, rfl, _, rfl, (by show 1 ≤ sizeLine; decide), fun l1 n1 => ?_⟩
        have s1 : Same H (upd H l1 (.lst [V.int (n : Int)])) := Same.new n1
        refine ⟨M.lp, l1, _, _, rfl, rfl, s1 _ _ MA.ppl, upd_same, smallE (m := 9) (by rw [lenP]; show _ + 1 ≤ 9; omega) (by decide), fun pl n2 => ?_⟩
        have s2 : Same (upd H l1 (.lst [V.int (n : Int)])) (upd (upd H l1 (.lst [V.int (n : Int)])) pl (.lst (s.course.people.map pV ++ [V.int (n : Int)]))) := Same.new n2
        have s12 := s1.trans s2
        have hpl : (upd (upd H l1 (.lst [V.int (n : Int)])) pl (.lst (s.course.people.map pV ++ [V.int (n : Int)]))) pl = some (.lst (s.course.people.map pV ++ [V.int (n : Int)])) := upd_same
        generalize upd (upd H l1 (.lst [V.int (n : Int)])) pl (.lst (s.course.people.map pV ++ [V.int (n : Int)])) = H2 at s2 s12 hpl
        have plH : H pl = none := s1.free n2
        have M2 := MA.same s12
        have hps : (s.course.people.map pV ++ [V.int (n : Int)]) = pls ((s.course.people ++ [newP n]).map popt) := by
          rw [← pls_people (withP s.course n)]
          show _ = (s.course.people ++ [_]).map pV
          rw [List.map_append]; rfl
        have plen : ((s.course.people ++ [newP n]).map popt).length = s.course.people.length + 1 := by rw [List.length_map, List.length_append]; rfl
        have cok : ∀ x ∈ moreC s.cases, CaseOk (s.course.people.length + 1) x := fun x hx => by
          obtain ⟨y, hy, rfl⟩ := List.mem_map.mp hx
          exact (MA.cok y hy).more (by omega)
        have cenc : (moreC s.cases).map enc = s.cases.map enc := by
          rw [List.map_map]
          exact List.map_congr_left fun x _ => enc_more x
        have rc : s.ready = true ∨ s.cases = [] := by
          cases q : s.ready with
          | true => exact .inl rfl
          | false => exact .inr (MA.idle q).1
        refine ⟨_, rfl, m, M.dm, _, rfl, M2.ins, rfl, _, rfl, m, pl, M, s, (s.course.people ++ [newP n]).map popt, moreC s.cases, rfl, M2, rc, by rw [← hps]; exact hpl, cenc, by rw [plen]; exact cok, by omega, fun H3 kvs rl M3 k3 nrl hrl kl ori => ?_⟩
        refine ⟨rl, _, rfl, .inl (SqL.of hrl), rfl, zs_flat _, _, rfl, ?_⟩
        have inE := in_fars (c := s.course) (c' := withP s.course n) (ps := (s.course.people ++ [newP n]).map popt) (-75) Kct8.isMany many_dec (fun x => far_opt (withP s.course n) x) (moreC s.cases)
        show if inV (V.int (-75)) _ = true then _ else _
        rw [inE]
        have s3d : ∀ b o, H b = some o → b ≠ M.d → H3 b = some o := fun b o e n => k3 b o (s12 b o e) n
        have ori' : ∀ e ∈ kvs, e ∈ M.kvs ∨ ∃ b, e.2.2 = V.ref b ∧ H b = none := fun e he => (ori e he).imp id fun ⟨b, e1, e2⟩ => ⟨b, e1, s12.free e2⟩
        refine ite2 (fun h3 => ?_) (fun h3 => ?_)
        · rw [if_pos h3] at k
          refine ⟨(by show 1 ≤ sizeLine; decide), fun r nr => ?_⟩
          have s4 := Same.new (o := .lst [V.int (-75)]) nr
          have rH : H r = none := by
            cases q : H r with
            | none => rfl
            | some o =>
              by_cases e : r = M.d
              · rw [e, M3.memo] at nr; cases nr
              · rw [s3d r o q e] at nr; cases nr
          refine k _ _ r (M3.same s4) rH upd_same (fun b o e _ _ n => s4 _ _ (s3d b o e n)) (fun b h => ?_) (by show kvs.length ≤ _; omega)
          rcases h with z | z | z | z | ⟨e, he, ev⟩
          · exact .inl (.inl z)
          · exact .inl (.inr (.inl z))
          · exact .inl (.inr (.inr (.inl z)))
          · exact .inl (.inr (.inr (.inr (.inl z))))
          · rcases ori' e he with z | ⟨b', e1, e2⟩
            · exact .inl (.inr (.inr (.inr (.inr ⟨e, z, ev⟩))))
            · rw [ev] at e1; cases e1; exact .inr e2
        · rw [if_neg h3] at k
          have hpl3 : H3 pl = some (.lst (s.course.people.map pV ++ [V.int (n : Int)])) := k3 _ _ hpl (fun z => by rw [z, MA.memo] at plH; cases plH)
          refine ⟨_, rfl, _, rfl, m, a.c 49, M.dm, _, rfl, M3.ins, T.cl_Machine, T.n_Machine_people, (by show 6 < 1000; decide), ?_⟩
          have M4 := M3.setPeople (lp := pl) (ps := s.course.people ++ [newP n]) (cs := moreC s.cases) (by rw [List.map_append]; exact hpl3) (by rw [List.length_append]; show _ + 1 ≤ 8; omega) cenc (by rw [List.length_append]; exact cok)
            (fun z => by rw [z, show ({ M with kvs := kvs } : Mc).ls = M.ls from rfl, MA.steps.lst] at plH; cases plH) (fun z => by rw [z, show ({ M with kvs := kvs } : Mc).la = M.la from rfl, MA.aps.lst] at plH; cases plH) (fun z => by rw [z, show ({ M with kvs := kvs } : Mc).lc = M.lc from rfl, MA.cas] at plH; cases plH)
          have plm : pl ≠ m := ne_of hpl3 M3.ins (by intro z; cases z)
          refine ⟨_, rfl, pl, _, rfl, .inl (SqL.of ((upd_ne plm).trans hpl3)), _, _, rfl, rfl, (by show 1 ≤ sizeLine; decide), fun r nr => ?_⟩
          have rm : m ≠ r := ne_of_none (H := upd H3 m _) upd_same nr
          have rH3 : H3 r = none := by rw [upd_ne (Ne.symm rm)] at nr; exact nr
          have rH : H r = none := by
            cases q : H r with
            | none => rfl
            | some o =>
              by_cases e : r = M.d
              · rw [e, M3.memo] at rH3; cases rH3
              · rw [s3d r o q e] at rH3; cases rH3
          have s5 := Same.new (o := .lst [V.int (((s.course.people.map pV ++ [V.int (n : Int)]).length : Int) - 1)]) nr
          refine k _ _ r (M4.same s5) rH ?_ (fun b o e nm no nd => s5 _ _ (by rw [upd_ne nm]; exact s3d b o e nd)) (fun b h => ?_) (by show kvs.length ≤ _; omega)
          · rw [upd_same, List.length_append, lenP]
            have e : ((s.course.people.length + 1 : Nat) : Int) - 1 = (s.course.people.length : Int) := by omega
            show some (HO.lst [V.int (((s.course.people.length + 1 : Nat) : Int) - 1)]) = _
            rw [e]
            rfl
          · rcases h with z | z | z | z | ⟨e, he, ev⟩
            · exact .inl (.inl z)
            · exact .inl (.inr (.inl z))
            · exact .inr (by rw [z]; exact plH)
            · exact .inl (.inr (.inr (.inr (.inl z))))
            · rcases ori' e he with z | ⟨b', e1, e2⟩
              · exact .inl (.inr (.inr (.inr (.inr ⟨e, z, ev⟩))))
              · rw [ev] at e1; cases e1; exact .inr e2
end
end Ew

namespace Ew
open PySem PySem.Spec PyProof.Rows L2 EwM
open Kct8 (Work isOn doubles can nexts Course Case Person Abs)

abbrev newC (c : Course) : Case := ⟨1, c.people.map fun _ => 0⟩
def spOpen (P : Program) (w : World) (a : Adr) : Sp := fun vs H Q _ => ∃ (m : Addr), vs = [.ref m] ∧ spCallOf P w a H m .open_ Q
def spNext (P : Program) (w : World) (a : Adr) : Sp := fun vs H Q _ => ∃ (m : Addr) (k : Nat), vs = [.ref m, .int (k : Int)] ∧ spCallOf P w a H m (.next_ k) Q
def spState (P : Program) (w : World) (a : Adr) : Sp := fun vs H Q _ => ∃ (m : Addr) (k : Nat), vs = [.ref m, .int (k : Int)] ∧ spCallOf P w a H m (.state k) Q
section
variable {P : Program} {w : World} {a : Adr} {H H' : Hp} {m : Addr} {M : Mc} {s : Abs}
/-- what a look at how far leaves -/
structure Looked2 (P : Program) (w : World) (a : Adr) (H H' : Hp) (m : Addr) (M : Mc) (s : Abs) (kvs : List MRow) : Prop where
  ma : MachAt P w a H' m { M with kvs := kvs } s
  kp : ∀ b o, H b = some o → b ≠ M.d → H' b = some o
  fr : ∀ b, H' b = none → H b = none
  ow : ∀ b, Owns { M with kvs := kvs } b → Owns M b ∨ H b = none
theorem looked2 {kvs : List MRow} (h0 : MachAt P w a H m M s) (h : MachAt P w a H' m { M with kvs := kvs } s) (k : ∀ b o, H b = some o → b ≠ M.d → H' b = some o) (ori : ∀ e ∈ kvs, e ∈ M.kvs ∨ ∃ b, e.2.2 = V.ref b ∧ H b = none) : Looked2 P w a H H' m M s kvs := by
  refine ⟨h, k, fun b nb => ?_, fun b hb => ?_⟩
  · cases q : H b with
    | none => rfl
    | some o =>
      by_cases e : b = M.d
      · rw [e, h.memo] at nb; cases nb
      · rw [k b o q e] at nb; cases nb
  · rcases hb with z | z | z | z | ⟨e, he, ev⟩
    · exact .inl (.inl z)
    · exact .inl (.inr (.inl z))
    · exact .inl (.inr (.inr (.inl z)))
    · exact .inl (.inr (.inr (.inr (.inl z))))
    · rcases ori e he with z | ⟨b', e1, e2⟩
      · exact .inl (.inr (.inr (.inr (.inr ⟨e, z, ev⟩))))
      · rw [ev] at e1; cases e1; exact .inr e2
theorem Looked2.answer {kvs : List MRow} {ans : List Int} {Q : VK} (L : Looked2 P w a H H' m M s kvs) (kl : kvs.length ≤ M.kvs.length + 17) (k : Post P w a H m M s ans Q) {r : Addr} (n : H' r = none) : Q (.ref r) (upd H' r (.lst (zs ans))) :=
  k _ _ r (L.ma.same (Same.new n)) (L.fr r n) upd_same (fun b o e _ _ nd => Same.new n _ _ (L.kp b o e nd)) L.ow kl
end
theorem far0 (f : Kct8.Far) {K : PySem.W.Frag} {H : Hp} {l : Addr} (h : H l = some (.lst (zs (farL f)))) : atI (zs (farL f)) 0 = some (V.int (farN f)) := by
  have q := farL_head f
  have h2 : (zs (farL f))[0]? = some (V.int (farN f)) := by unfold zs; rw [List.getElem?_map, q]; rfl
  exact atI_nat (j := 0) h2
section
variable {P : Program} {w : World} {K : PySem.W.Frag} {mg : Str → Option Value} {base : Heap} {a : Adr}
theorem sc_open : FnScope ["self", "far"] ["self"] (defScope s_Machine_open_case) := ⟨rfl, rfl, rfl, by decide +kernel, rfl, by decide +kernel, by decide +kernel⟩
theorem ok_open (T : Txt K mg a) : FnOk P w K mg base CX0 6 (a.f 4908) (a.d 4908) ["self"] (spOpen P w a) := by
  refine T.m_Machine_open_case.fn.ok sc_open (fun vs H Q E h => ?_) (fun cdv A outer sh H vs Q E hr h => ?_)
  · obtain ⟨m, rfl, _⟩ := h
    rfl
  · obtain ⟨m, rfl, M, s, MA, big, k⟩ := h
    have nd := sc_open.nd
    refine ⟨_, pss_cons (ps_if (pt_not (pt_val (pe_fld (pv 0) rfl))) (pss_one (ps_ret (pe_lst (pa_cons (pcon T.c_NOT_TAKEN) pa_nil)))) pss_nil)
      (pss_cons (ps_if (pt_cmpR op_eq (pe_callB call_len_seq (by rfl) T.b_len PySem.boot_len (pa_cons (pe_fld (pv 0) rfl) pa_nil)) (pcon T.c_MOST_CASES) (nomark _)) (pss_one (ps_ret (pe_lst (pa_cons (pcon T.c_TOO_MANY) pa_nil)))) pss_nil)
      (pss_cons (ps_set (i := 1) nd rfl (Or.inl rfl) (pe_ix ix_list (pe_meth (pv 0) T.cl_Machine T.m_Machine_far_of.m (ok_far_of T) hr T.m_Machine_far_of.b .nil pass0 (pa_cons (pcon T.c_BEGINNING) (pa_cons (pe_fld (pv 0) rfl) pa_nil))) pe_int (fun _ _ => rfl)))
      (pss_cons (ps_if (pt_cmpR op_lt (pv 1) pe_int (nomark _)) (pss_one (ps_ret (pe_lst (pa_cons (pv 1) pa_nil)))) pss_nil)
      (pss_cons (ps_expr (pe_bm PySem.F.plainAttrs_list PySem.F.slot_list_append PySem.F.type_list_append mt_append (pe_fld (pv 0) rfl) (pa_cons (pcon T.c_BEGINNING) pa_nil)))
      (pss_one (ps_ret (pe_lst (pa_cons (pe_op op_sub (pe_callB call_len_seq (by rfl) T.b_len PySem.boot_len (pa_cons (pe_fld (pv 0) rfl) pa_nil)) pe_int) pa_nil)))))))), ?_⟩
    have st : Kct8.step s .open_ = if s.ready = false then (s, .num (-16)) else if Kct8.CASES ≤ s.cases.length then (s, .num (-28)) else
      match Kct8.far s.course ⟨Kct8.FIRST, s.course.people.map fun _ => 0⟩ with
      | .many => (s, .num (-75))
      | .no => (s, .num (-33))
      | .ends _ _ => ({ s with cases := s.cases ++ [⟨Kct8.FIRST, s.course.people.map fun _ => 0⟩] }, .num s.cases.length) := rfl
    rw [st] at k
    refine ⟨_, rfl, m, a.c 49, M.dm, _, _, rfl, MA.ins, T.cl_Machine, T.n_Machine_taken, rfl, _, rfl, ?_⟩
    show if (!s.ready) = true then _ else _
    cases rdy : s.ready with
    | false =>
      rw [if_pos rdy] at k
      exact iteT ⟨(by show 1 ≤ sizeLine; decide), fun r n => k.quick MA n⟩
    | true =>
      rw [if_neg (by rw [rdy]; decide)] at k
      have lenC : (nums (s.cases.map enc)).length = s.cases.length := by rw [nums_len, List.length_map]
      refine iteF ⟨_, rfl, m, a.c 49, M.dm, _, _, rfl, MA.ins, T.cl_Machine, T.n_Machine_cases, rfl, M.lc, _, rfl, .inl (SqL.of MA.cas), rfl, _, rfl, ?_⟩
      have e16 := nat_dec (a := (nums (s.cases.map enc)).length) (b := 16)
      rw [show ((16 : Nat) : Int) = 16 from rfl] at e16
      rw [e16, lenC]
      have c16 := MA.c16
      refine ite2 (fun h2 => ?_) (fun h2 => ?_)
      · have h2 : s.cases.length = 16 := of_decide_eq_true h2
        rw [if_pos (by show 16 ≤ _; omega)] at k
        exact ⟨(by show 1 ≤ sizeLine; decide), fun r n => k.quick MA n⟩
      · have h2 : ¬ s.cases.length = 16 := fun z => h2 (decide_eq_true z)
        rw [if_neg (by show ¬ 16 ≤ _; omega)] at k
        have xok := CaseOk.new s.course.people MA.ok.pl
        have xen := enc_new s.course.people MA.ok.pl
        refine ⟨_, rfl, m, M.dm, _, rfl, MA.ins, rfl, _, rfl, m, a.c 49, M.dm, _, _, rfl, MA.ins, T.cl_Machine, T.n_Machine_people, rfl, m, M.lp, M, s, s.course.people.map popt, newC s.course, (by rw [xen]; rfl), MA, rdy, by rw [← pls_people]; exact MA.ppl, by rw [List.length_map]; exact xok, by omega, fun H1 kvs l M1 k1 hl kl ori => ?_⟩
        rw [far_opt] at hl
        have L := looked2 MA M1 k1 ori
        obtain ⟨f, ef⟩ : ∃ f, Kct8.far s.course (newC s.course) = f := ⟨_, rfl⟩
        have ek : Kct8.far s.course ⟨Kct8.FIRST, s.course.people.map fun _ => 0⟩ = f := ef
        rw [ef] at hl
        rw [ek] at k
        refine ⟨l, _, _, _, rfl, rfl, SqL.of hl, far0 (K := K) f hl, ?_⟩
        refine ⟨_, rfl, _, _, rfl, rfl, _, rfl, ?_⟩
        cases f with
        | many => exact iteT ⟨_, rfl, (by show 1 ≤ sizeLine; decide), fun r n => L.answer (by omega) k n⟩
        | no => exact iteT ⟨_, rfl, (by show 1 ≤ sizeLine; decide), fun r n => L.answer (by omega) k n⟩
        | ends kk v =>
          have nn : decide (((kk : Nat) : Int) < 0) = false := decide_eq_false (by omega)
          show if decide (((kk : Nat) : Int) < 0) = true then _ else _
          rw [nn]
          have M1' : MachAt P w a H1 m { M with kvs := kvs } s := M1
          refine iteF ⟨_, rfl, m, a.c 49, M.dm, _, _, rfl, M1.ins, T.cl_Machine, T.n_Machine_cases, rfl, .inl ⟨rfl, _, SqL.of M1.cas⟩, M.lc, _, _, rfl, rfl, M1.cas, small (m := 16) (by rw [lenC]; exact c16) (by decide), ?_⟩
          have M2 := M1.setCases (cs := s.cases ++ [newC s.course]) rdy (fun x hx => by
            rcases List.mem_append.mp hx with z | z
            · exact MA.cok x z
            · have z : x = newC s.course := by simpa using z
              rw [z]; exact xok) (by rw [List.length_append]; show _ + 1 ≤ 16; omega)
          have el : nums (s.cases.map enc) ++ [V.int 1] = nums ((s.cases ++ [newC s.course]).map enc) := by
            rw [List.map_append]
            show _ = nums (s.cases.map enc ++ [enc (newC s.course)])
            rw [xen, nums_snoc]
            rfl
          rw [el]
          have M2 : MachAt P w a (upd H1 M.lc (.lst (nums ((s.cases ++ [newC s.course]).map enc)))) m { M with kvs := kvs } { s with cases := s.cases ++ [newC s.course] } := M2
          refine ⟨_, rfl, m, a.c 49, M.dm, _, _, rfl, M2.ins, T.cl_Machine, T.n_Machine_cases, rfl, M.lc, _, rfl, .inl (SqL.of upd_same), _, _, rfl, rfl, (by show 1 ≤ sizeLine; decide), fun r n => ?_⟩
          have rl : M.lc ≠ r := ne_of_none (H := upd H1 M.lc _) upd_same n
          have rH1 : H1 r = none := by rw [upd_ne (Ne.symm rl)] at n; exact n
          have s3 := Same.new (o := .lst [V.int (((nums ((s.cases ++ [newC s.course]).map enc)).length : Int) - 1)]) n
          refine k _ _ r (M2.same s3) (L.fr r rH1) ?_ (fun b o e nm no nd => s3 _ _ (by rw [upd_ne (fun z => no (.inr (.inr (.inr (.inl z)))))]; exact L.kp b o e nd)) L.ow (by show kvs.length ≤ _; omega)
          rw [upd_same, nums_len, List.length_map, List.length_append]
          have e : ((s.cases.length + 1 : Nat) : Int) - 1 = (s.cases.length : Int) := by omega
          show some (HO.lst [V.int (((s.cases.length + 1 : Nat) : Int) - 1)]) = _
          rw [e]
          rfl
theorem sc_next : FnScope ["self", "k"] ["self", "k"] (defScope s_Machine_next_step) := ⟨rfl, rfl, rfl, by decide +kernel, rfl, by decide +kernel, by decide +kernel⟩
theorem ok_next (T : Txt K mg a) : FnOk P w K mg base CX0 6 (a.f 4910) (a.d 4910) ["self", "k"] (spNext P w a) := by
  refine T.m_Machine_next_step.fn.ok sc_next (fun vs H Q E h => ?_) (fun cdv A outer sh H vs Q E hr h => ?_)
  · obtain ⟨m, n, rfl, _⟩ := h
    rfl
  · obtain ⟨m, n, rfl, M, s, MA, big, k⟩ := h
    refine ⟨_, pss_cons (ps_if (pt_cmpR op_ge (pv 1) (pe_callB call_len_seq (by rfl) T.b_len PySem.boot_len (pa_cons (pe_fld (pv 0) rfl) pa_nil)) (nomark _)) (pss_one (ps_ret (pe_lst (pa_cons (pcon T.c_NO_SUCH) pa_nil)))) pss_nil)
      (pss_one (ps_ret (pe_callTy call_list_of (by rfl) T.b_list bt_list (pa_cons (pe_meth (pv 0) T.cl_Machine T.m_Machine_far_of.m (ok_far_of T) hr T.m_Machine_far_of.b .nil pass0 (pa_cons (pe_ix ix_list (pe_fld (pv 0) rfl) (pv 1) (fun _ _ => rfl)) (pa_cons (pe_fld (pv 0) rfl) pa_nil))) pa_nil)))), ?_⟩
    have st : Kct8.step s (.next_ n) = match s.cases[n]? with
      | none => (s, .num (-2))
      | some x => match Kct8.far s.course x with
        | .ends n (some v) => (s, .some_ n [v.1, v.2])
        | .ends n none => (s, .num n)
        | .no => (s, .num (-33))
        | .many => (s, .num (-75)) := rfl
    rw [st] at k
    have lenC : (nums (s.cases.map enc)).length = s.cases.length := by rw [nums_len, List.length_map]
    refine ⟨_, rfl, _, rfl, m, a.c 49, M.dm, _, _, rfl, MA.ins, T.cl_Machine, T.n_Machine_cases, rfl, M.lc, _, rfl, .inl (SqL.of MA.cas), _, _, rfl, rfl, _, rfl, ?_⟩
    rw [lenC, dle]
    refine ite2 (fun h => ?_) (fun h => ?_)
    · have h : s.cases.length ≤ n := of_decide_eq_true h
      rw [List.getElem?_eq_none h] at k
      exact ⟨(by show 1 ≤ sizeLine; decide), fun r n => k.quick MA n⟩
    · have h : ¬ s.cases.length ≤ n := fun z => h (decide_eq_true z)
      obtain ⟨x, hx⟩ : ∃ x, s.cases[n]? = some x := ⟨s.cases[n]'(by omega), List.getElem?_eq_getElem (by omega)⟩
      rw [hx] at k
      have rdy : s.ready = true := by
        cases q : s.ready with
        | true => rfl
        | false => rw [(MA.idle q).1] at hx; simp at hx
      have xok := MA.cok x (List.mem_of_getElem? hx)
      have hv : (nums (s.cases.map enc))[n]? = some (V.int ((enc x : Nat) : Int)) := by unfold nums; rw [List.getElem?_map, List.getElem?_map, hx]; rfl
      refine ⟨_, rfl, m, M.dm, _, rfl, MA.ins, rfl, _, rfl, m, a.c 49, M.dm, _, _, rfl, MA.ins, T.cl_Machine, T.n_Machine_cases, rfl, _, rfl, M.lc, _, _, _, rfl, rfl, SqL.of MA.cas, atI_nat hv, _, rfl, m, a.c 49, M.dm, _, _, rfl, MA.ins, T.cl_Machine, T.n_Machine_people, rfl,
        m, M.lp, M, s, s.course.people.map popt, x, rfl, MA, rdy, by rw [← pls_people]; exact MA.ppl, by rw [List.length_map]; exact xok, by omega, fun H1 kvs l M1 k1 hl kl ori => ?_⟩
      rw [far_opt] at hl
      have L := looked2 MA M1 k1 ori
      simp only [] at k
      cases ef : Kct8.far s.course x with
      | ends kk v =>
        rw [ef] at k hl
        cases v with
        | none => exact ⟨l, _, rfl, .inl (SqL.of hl), fun r n => L.answer (by omega) k n⟩
        | some v => exact ⟨l, _, rfl, .inl (SqL.of hl), fun r n => L.answer (by omega) k n⟩
      | no =>
        rw [ef] at k hl
        exact ⟨l, _, rfl, .inl (SqL.of hl), fun r n => L.answer (by omega) k n⟩
      | many =>
        rw [ef] at k hl
        exact ⟨l, _, rfl, .inl (SqL.of hl), fun r n => L.answer (by omega) k n⟩
theorem sc_state : FnScope ["self", "k"] ["self", "k"] (defScope s_Machine_state) := ⟨rfl, rfl, rfl, by decide +kernel, rfl, by decide +kernel, by decide +kernel⟩
theorem ok_state (T : Txt K mg a) : FnOk P w K mg base CX0 3 (a.f 4911) (a.d 4911) ["self", "k"] (spState P w a) := by
  refine T.m_Machine_state.fn.ok sc_state (fun vs H Q E h => ?_) (fun cdv A outer sh H vs Q E hr h => ?_)
  · obtain ⟨m, n, rfl, _⟩ := h
    rfl
  · obtain ⟨m, n, rfl, M, s, MA, big, k⟩ := h
    have hr1 := hr.mono (j := 1) (by decide)
    refine ⟨_, pss_cons (ps_if (pt_cmpR op_ge (pv 1) (pe_callB call_len_seq (by rfl) T.b_len PySem.boot_len (pa_cons (pe_fld (pv 0) rfl) pa_nil)) (nomark _)) (pss_one (ps_ret (pe_lst (pa_cons (pcon T.c_NO_SUCH) pa_nil)))) pss_nil)
      (pss_one (ps_ret (pe_lst (pa_cons (pe_ifExp (pt_val (pe_call (ok_has_ended T) hr rfl T.g_has_ended.at_ T.g_has_ended.fn.kp T.g_has_ended.b .nil pass0 (pa_cons (pe_ix ix_list (pe_fld (pv 0) rfl) (pv 1) (fun _ _ => rfl)) pa_nil))) pe_int pe_int)
        (pa_cons (pe_call (ok_marks_of T) hr1 rfl T.g_marks_of.at_ T.g_marks_of.fn.kp T.g_marks_of.b .nil pass0 (pa_cons (pe_ix ix_list (pe_fld (pv 0) rfl) (pv 1) (fun _ _ => rfl)) pa_nil)) pa_nil))))), ?_⟩
    have st : Kct8.step s (.state n) = match s.cases[n]? with
      | none => (s, .num (-2))
      | some x => (s, .some_ (if x.marks = Kct8.END then 1 else 0) [x.marks]) := rfl
    rw [st] at k
    have lenC : (nums (s.cases.map enc)).length = s.cases.length := by rw [nums_len, List.length_map]
    refine ⟨_, rfl, _, rfl, m, a.c 49, M.dm, _, _, rfl, MA.ins, T.cl_Machine, T.n_Machine_cases, rfl, M.lc, _, rfl, .inl (SqL.of MA.cas), _, _, rfl, rfl, _, rfl, ?_⟩
    rw [lenC, dle]
    refine ite2 (fun h => ?_) (fun h => ?_)
    · have h : s.cases.length ≤ n := of_decide_eq_true h
      rw [List.getElem?_eq_none h] at k
      exact ⟨(by show 1 ≤ sizeLine; decide), fun r n => k.quick MA n⟩
    · have h : ¬ s.cases.length ≤ n := fun z => h (decide_eq_true z)
      obtain ⟨x, hx⟩ : ∃ x, s.cases[n]? = some x := ⟨s.cases[n]'(by omega), List.getElem?_eq_getElem (by omega)⟩
      rw [hx] at k
      have xok := MA.cok x (List.mem_of_getElem? hx)
      have hv : (nums (s.cases.map enc))[n]? = some (V.int ((enc x : Nat) : Int)) := by unfold nums; rw [List.getElem?_map, List.getElem?_map, hx]; rfl
      refine ⟨_, rfl, m, a.c 49, M.dm, _, _, rfl, MA.ins, T.cl_Machine, T.n_Machine_cases, rfl, _, rfl, M.lc, _, _, _, rfl, rfl, SqL.of MA.cas, atI_nat hv, enc x, rfl, _, rfl, ?_⟩
      rw [end_dec xok]
      refine ite2 (fun he => ?_) (fun he => ?_)
      · have he : x.marks = Kct8.END := by simpa using he
        simp only [] at k
        rw [if_pos he] at k
        refine ⟨_, rfl, m, a.c 49, M.dm, _, _, rfl, MA.ins, T.cl_Machine, T.n_Machine_cases, rfl, _, rfl, M.lc, _, _, _, rfl, rfl, SqL.of MA.cas, atI_nat hv, enc x, rfl, (by show 2 ≤ sizeLine; decide), fun r n => ?_⟩
        rw [enc_marks xok]
        exact k.quick MA n
      · have he : ¬ x.marks = Kct8.END := fun z => he (by simpa using z)
        simp only [] at k
        rw [if_neg he] at k
        refine ⟨_, rfl, m, a.c 49, M.dm, _, _, rfl, MA.ins, T.cl_Machine, T.n_Machine_cases, rfl, _, rfl, M.lc, _, _, _, rfl, rfl, SqL.of MA.cas, atI_nat hv, enc x, rfl, (by show 2 ≤ sizeLine; decide), fun r n => ?_⟩
        rw [enc_marks xok]
        exact k.quick MA n
end
end Ew

namespace Ew
open PySem PySem.Spec PyProof.Rows L2 EwM
open Kct8 (Work isOn doubles can nexts Course Case Person Abs)

def spDo (P : Program) (w : World) (a : Adr) : Sp := fun vs H Q _ => ∃ (m : Addr) (k i p : Nat), vs = [.ref m, .int (k : Int), .int (i : Int), .int (p : Int)] ∧ spCallOf P w a H m (.do_ k i p) Q
theorem ixN_nat {n j : Nat} (h : j < n) : ixN n (j : Int) = some j := by
  unfold ixN
  rw [if_pos (by omega), if_pos (by omega), Int.toNat_natCast]
section
variable {P : Program} {w : World} {K : PySem.W.Frag} {mg : Str → Option Value} {base : Heap} {a : Adr}
theorem sc_do : FnScope ["self", "k", "step", "person", "case", "move", "far"] ["self", "k", "step", "person"] (defScope s_Machine_do) := ⟨rfl, rfl, rfl, by decide +kernel, rfl, by decide +kernel, by decide +kernel⟩
theorem ok_do (T : Txt K mg a) : FnOk P w K mg base CX0 6 (a.f 4909) (a.d 4909) ["self", "k", "step", "person"] (spDo P w a) := by
  refine T.m_Machine_do.fn.ok sc_do (fun vs H Q E h => ?_) (fun cdv A outer sh H vs Q E hr h => ?_)
  · obtain ⟨m, n, i, p, rfl, _⟩ := h
    rfl
  · obtain ⟨m, n, i, p, rfl, M, s, MA, big, k⟩ := h
    have nd := sc_do.nd
    have hr1 := hr.mono (j := 1) (by decide)
    have hr3 := hr.mono (j := 3) (by decide)
    refine ⟨_, pss_cons (ps_if (PW.pt (pw_or (pt_cmpR op_ge (pv 1) (pe_callB call_len_seq (by rfl) T.b_len PySem.boot_len (pa_cons (pe_fld (pv 0) rfl) pa_nil)) (nomark _))
        (pw_or (pt_cmpR op_ge (pv 2) (pe_callB call_len_seq (by rfl) T.b_len PySem.boot_len (pa_cons (pe_fld (pv 0) rfl) pa_nil)) (nomark _))
        (pw_or1 (pt_cmpR op_ge (pv 3) (pe_callB call_len_seq (by rfl) T.b_len PySem.boot_len (pa_cons (pe_fld (pv 0) rfl) pa_nil)) (nomark _))))))
        (pss_one (ps_ret (pe_lst (pa_cons (pcon T.c_NO_SUCH) pa_nil)))) pss_nil)
      (pss_cons (ps_set (i := 4) nd rfl (Or.inl rfl) (pe_ix ix_list (pe_fld (pv 0) rfl) (pv 1) (fun _ _ => rfl)))
      (pss_cons (ps_if (pt_not (pt_val (pe_meth (pe_ix ix_list (pe_fld (pv 0) rfl) (pv 2) (fun _ _ => rfl)) T.cl_Step T.m_Step_can_be_done.m (ok_can T) hr1 T.m_Step_can_be_done.b .nil pass0 (pa_cons (pe_call (ok_marks_of T) hr1 rfl T.g_marks_of.at_ T.g_marks_of.fn.kp T.g_marks_of.b .nil pass0 (pa_cons (pv 4) pa_nil)) pa_nil))))
        (pss_one (ps_ret (pe_lst (pa_cons (pcon T.c_CANNOT_BE_DONE) pa_nil)))) pss_nil)
      (pss_cons (ps_if (pt_not (pt_val (pe_call (ok_plays T) hr1 rfl T.g_plays.at_ T.g_plays.fn.kp T.g_plays.b .nil pass0 (pa_cons (pe_ix ix_list (pe_fld (pv 0) rfl) (pv 3) (fun _ _ => rfl)) (pa_cons (pe_fld (pe_ix ix_list (pe_fld (pv 0) rfl) (pv 2) (fun _ _ => rfl)) rfl) pa_nil)))))
        (pss_one (ps_ret (pe_lst (pa_cons (pcon T.c_MAY_NOT) pa_nil)))) pss_nil)
      (pss_cons (ps_set (i := 5) nd rfl (Or.inl rfl) (pe_make T.mk_Move (ok_MoveInit T) hr3 rfl T.mg_Move T.bi_Move .nil pass0 (pa_cons (pv 2) (pa_cons (pv 3) (pa_cons (pe_ix ix_list (pe_fld (pv 0) rfl) (pv 2) (fun _ _ => rfl))
        (pa_cons (pe_call (ok_apart_from T) hr1 rfl T.g_apart_from.at_ T.g_apart_from.fn.kp T.g_apart_from.b .nil pass0 (pa_cons (pv 2) (pa_cons (pe_fld (pv 0) rfl) pa_nil))) pa_nil))))))
      (pss_cons (ps_if (pt_not (pt_val (pe_meth (pv 5) T.cl_Move T.m_Move_fits.m (ok_fits T) hr1 T.m_Move_fits.b .nil pass0 (pa_cons (pv 4) pa_nil)))) (pss_one (ps_ret (pe_lst (pa_cons (pcon T.c_DID_ONE_APART) pa_nil)))) pss_nil)
      (pss_cons (ps_set (i := 6) nd rfl (Or.inl rfl) (pe_ix ix_list (pe_meth (pv 0) T.cl_Machine T.m_Machine_far_of.m (ok_far_of T) hr T.m_Machine_far_of.b .nil pass0 (pa_cons (pe_meth (pv 5) T.cl_Move T.m_Move_case_behind.m (ok_case_behind T) hr1 T.m_Move_case_behind.b .nil pass0 (pa_cons (pv 4) pa_nil)) (pa_cons (pe_fld (pv 0) rfl) pa_nil))) pe_int (fun _ _ => rfl)))
      (pss_cons (ps_if (pt_cmpR op_ge (pv 6) pe_int (nomark _)) (pss_one (ps_asg (pe_meth (pv 5) T.cl_Move T.m_Move_case_behind.m (ok_case_behind T) hr1 T.m_Move_case_behind.b .nil pass0 (pa_cons (pv 4) pa_nil)) (pg_sub (pe_fld (pv 0) rfl) (pv 1) set_list))) pss_nil)
      (pss_one (ps_ret (pe_lst (pa_cons (pv 6) pa_nil))))))))))), ?_⟩
    have st : Kct8.step s (.do_ n i p) = match s.cases[n]? with
      | none => (s, .num (-2))
      | some x =>
        if s.course.works.length ≤ i ∨ s.course.people.length ≤ p then (s, .num (-2))
        else if ((s.course.works[i]?).any fun w => can w x.marks) = false then (s, .num (-11))
        else if Kct8.plays s.course i p = false then (s, .num (-1))
        else if Kct8.barred s.course x i p = true then (s, .num (-17))
        else match Kct8.far s.course (Kct8.done s.course x i p) with
          | .many => (s, .num (-75))
          | .no => (s, .num (-33))
          | .ends n' _ => ({ s with cases := s.cases.set n (Kct8.done s.course x i p) }, .num n') := rfl
    rw [st] at k
    have lenC : (nums (s.cases.map enc)).length = s.cases.length := by rw [nums_len, List.length_map]
    have lenS : (M.sa.map V.ref).length = s.course.works.length := by rw [List.length_map, MA.steps.len]
    have lenP : (s.course.people.map pV).length = s.course.people.length := List.length_map _
    refine ⟨_, rfl, _, rfl, m, a.c 49, M.dm, _, _, rfl, MA.ins, T.cl_Machine, T.n_Machine_cases, rfl, M.lc, _, rfl, .inl (SqL.of MA.cas), _, _, rfl, rfl, _, rfl, ?_⟩
    rw [lenC, dle]
    refine ite2 (fun h1 => ?_) (fun h1 => ?_)
    · have h1 : s.cases.length ≤ n := of_decide_eq_true h1
      rw [List.getElem?_eq_none h1] at k
      exact iteT ⟨(by show 1 ≤ sizeLine; decide), fun r n => k.quick MA n⟩
    have h1 : ¬ s.cases.length ≤ n := fun z => h1 (decide_eq_true z)
    obtain ⟨x, hx⟩ : ∃ x, s.cases[n]? = some x := ⟨s.cases[n]'(by omega), List.getElem?_eq_getElem (by omega)⟩
    rw [hx] at k
    simp only [] at k
    refine ⟨_, rfl, _, rfl, m, a.c 49, M.dm, _, _, rfl, MA.ins, T.cl_Machine, T.n_Machine_steps, rfl, M.ls, _, rfl, .inl (SqL.of MA.steps.lst), _, _, rfl, rfl, _, rfl, ?_⟩
    rw [lenS, dle]
    refine ite2 (fun h2 => ?_) (fun h2 => ?_)
    · have h2 : s.course.works.length ≤ i := of_decide_eq_true h2
      rw [if_pos (.inl h2)] at k
      exact iteT ⟨(by show 1 ≤ sizeLine; decide), fun r n => k.quick MA n⟩
    have h2 : ¬ s.course.works.length ≤ i := fun z => h2 (decide_eq_true z)
    refine ⟨_, rfl, _, rfl, m, a.c 49, M.dm, _, _, rfl, MA.ins, T.cl_Machine, T.n_Machine_people, rfl, M.lp, _, rfl, .inl (SqL.of MA.ppl), _, _, rfl, rfl, _, rfl, ?_⟩
    rw [lenP, dle]
    refine ite2 (fun h3 => ?_) (fun h3 => ?_)
    · have h3 : s.course.people.length ≤ p := of_decide_eq_true h3
      rw [if_pos (.inr h3)] at k
      exact ⟨(by show 1 ≤ sizeLine; decide), fun r n => k.quick MA n⟩
    have h3 : ¬ s.course.people.length ≤ p := fun z => h3 (decide_eq_true z)
    rw [if_neg (by omega)] at k
    -- there is such a case, such a step, such a person
    have xok := MA.cok x (List.mem_of_getElem? hx)
    have hv : (nums (s.cases.map enc))[n]? = some (V.int ((enc x : Nat) : Int)) := by unfold nums; rw [List.getElem?_map, List.getElem?_map, hx]; rfl
    obtain ⟨wk, hw⟩ : ∃ wk, s.course.works[i]? = some wk := ⟨s.course.works[i]'(by omega), List.getElem?_eq_getElem (by omega)⟩
    obtain ⟨q, hq⟩ : ∃ q, s.course.people[p]? = some q := ⟨s.course.people[p]'(by omega), List.getElem?_eq_getElem (by omega)⟩
    obtain ⟨sp, hsp⟩ : ∃ sp, M.sa[i]? = some sp := ⟨M.sa[i]'(by have := MA.steps.len; omega), List.getElem?_eq_getElem (by have := MA.steps.len; omega)⟩
    have hspV : (M.sa.map V.ref)[i]? = some (V.ref sp) := by rw [List.getElem?_map, hsp]; rfl
    have hqV : (s.course.people.map pV)[p]? = some (pV q) := by rw [List.getElem?_map, hq]; rfl
    obtain ⟨dst, hst⟩ := MA.steps.at_ i sp wk hsp hw
    have rdy : s.ready = true := by
      cases z : s.ready with
      | true => rfl
      | false => rw [(MA.idle z).1] at hx; simp at hx
    refine ⟨_, rfl, m, a.c 49, M.dm, _, _, rfl, MA.ins, T.cl_Machine, T.n_Machine_cases, rfl, _, rfl, M.lc, _, _, _, rfl, rfl, SqL.of MA.cas, atI_nat hv, ?_⟩
    refine ⟨_, rfl, m, a.c 49, M.dm, _, _, rfl, MA.ins, T.cl_Machine, T.n_Machine_steps, rfl, _, rfl, M.ls, _, _, _, rfl, rfl, SqL.of MA.steps.lst, atI_nat hspV, sp, dst, _, rfl, hst, rfl, _, rfl, enc x, rfl, sp, wk, enc x &&& 65535, rfl, ⟨dst, hst⟩, _, rfl, ?_⟩
    rw [enc_marks xok]
    show if (!can wk x.marks) = true then _ else _
    rw [hw] at k
    have k : Post P w a H m M (if can wk x.marks = false then (s, Kct8.Ans.num (-11)) else if Kct8.plays s.course i p = false then (s, .num (-1)) else if Kct8.barred s.course x i p = true then (s, .num (-17)) else match Kct8.far s.course (Kct8.done s.course x i p) with
          | .many => (s, .num (-75))
          | .no => (s, .num (-33))
          | .ends n' _ => ({ s with cases := s.cases.set n (Kct8.done s.course x i p) }, .num n')).1 (Kct8Neutral.tell (if can wk x.marks = false then (s, Kct8.Ans.num (-11)) else if Kct8.plays s.course i p = false then (s, .num (-1)) else if Kct8.barred s.course x i p = true then (s, .num (-17)) else match Kct8.far s.course (Kct8.done s.course x i p) with
          | .many => (s, .num (-75))
          | .no => (s, .num (-33))
          | .ends n' _ => ({ s with cases := s.cases.set n (Kct8.done s.course x i p) }, .num n')).2) Q := k
    cases cd : can wk x.marks with
    | false =>
      rw [if_pos cd] at k
      exact iteT ⟨(by show 1 ≤ sizeLine; decide), fun r n => k.quick MA n⟩
    | true =>
    rw [if_neg (by rw [cd]; decide)] at k
    refine iteF ⟨_, rfl, m, a.c 49, M.dm, _, _, rfl, MA.ins, T.cl_Machine, T.n_Machine_people, rfl, _, rfl, M.lp, _, _, _, rfl, rfl, SqL.of MA.ppl, atI_nat hqV, _, rfl, m, a.c 49, M.dm, _, _, rfl, MA.ins, T.cl_Machine, T.n_Machine_steps, rfl, _, rfl, M.ls, _, _, _, rfl, rfl, SqL.of MA.steps.lst, atI_nat hspV, sp, a.c 4, dst, _, _, rfl, hst, T.cl_Step, T.n_Step_part, rfl, q, wk.part, rfl, _, rfl, ?_⟩
    have pe : Kct8.plays s.course i p = (q.there && q.parts.testBit wk.part) := by unfold Kct8.plays; rw [hw, hq]
    show if (!(q.there && q.parts.testBit wk.part)) = true then _ else _
    rw [← pe]
    cases pl : Kct8.plays s.course i p with
    | false =>
      rw [if_pos pl] at k
      exact iteT ⟨(by show 1 ≤ sizeLine; decide), fun r n => k.quick MA n⟩
    | true =>
    rw [if_neg (by rw [pl]; decide)] at k
    refine iteF ⟨_, rfl, _, rfl, _, rfl, m, a.c 49, M.dm, _, _, rfl, MA.ins, T.cl_Machine, T.n_Machine_steps, rfl, _, rfl, M.ls, _, _, _, rfl, rfl, SqL.of MA.steps.lst, atI_nat hspV, _, rfl, _, rfl, m, a.c 49, M.dm, _, _, rfl, MA.ins, T.cl_Machine, T.n_Machine_told_apart, rfl, s.course, i, M.la, M.ta, rfl, MA.aps, MA.a32, fun lo H1 s1 n1 hlo => ?_⟩
    have i16 : i < 16 := Nat.lt_of_lt_of_le (by omega) MA.ok.wl
    have p8 : p < 8 := Nat.lt_of_lt_of_le (by omega) MA.ok.pl
    refine fun mv dx nx ndx ne => ?_
    have ex : ∀ {b o}, H1 b = some o → (upd (upd H1 dx (.own mv)) mv (.ins (a.c 14) dx [])) b = some o := fun {b o} e => by
      rw [upd_ne (ne_of_none e nx), upd_ne (ne_of_none e ndx)]; exact e
    refine ⟨mv, dx, sp, lo, i, p, wk, othersOf s.course i, rfl, upd_same, ⟨dst, ex (s1 _ _ hst)⟩, ex hlo, i16, p8, fun z hz => Nat.lt_of_lt_of_le (others_lt MA.ok hz) MA.ok.wl, othersOf_len s.course i MA.a32, fun H2 hM kp => ⟨rfl, ?_⟩⟩
    have s2 : Same H1 H2 := Same.made nx ndx kp
    have s02 := s1.trans s2
    have M2 := MA.same s02
    obtain ⟨dmv, hmv⟩ := hM
    refine ⟨_, rfl, mv, dmv, _, rfl, hmv, rfl, _, rfl, mv, mvOf wk (othersOf s.course i) i p, enc x, rfl, ⟨dmv, hmv⟩, _, rfl, ?_⟩
    have fi := fits_iff MA.ok xok hw (by omega : p < s.course.people.length)
    rw [cd, Bool.true_and] at fi
    show if (!fits (mvOf wk (othersOf s.course i) i p) (enc x)) = true then _ else _
    rw [fi, Bool.not_not]
    refine ite2 (fun hb => ?_) (fun hb => ?_)
    · rw [if_pos hb] at k
      refine ⟨(by show 1 ≤ sizeLine; decide), fun r nr => ?_⟩
      have s3 := Same.new (o := .lst [V.int (-17)]) nr
      exact k _ M r (MA.same (s02.trans s3)) (s02.free nr) upd_same (fun b o e _ _ _ => s3 _ _ (s02 _ _ e)) (fun b h => .inl h) (Nat.le_add_right _ _)
    rw [if_neg hb] at k
    have on : isOn wk x.marks = true := by
      unfold can at cd
      rw [Bool.and_eq_true] at cd
      exact cd.1
    have be := behind_enc MA.ok xok hw (by omega : p < s.course.people.length) on
    have dok := done_ok (p := p) MA.ok xok hw
    refine ⟨_, rfl, m, M.dm, _, rfl, M2.ins, rfl, _, rfl, mv, dmv, _, rfl, hmv, rfl, _, rfl, mv, mvOf wk (othersOf s.course i) i p, enc x, rfl, ⟨dmv, hmv⟩, _, rfl, m, a.c 49, M.dm, _, _, rfl, M2.ins, T.cl_Machine, T.n_Machine_people, rfl,
      m, M.lp, M, s, s.course.people.map popt, Kct8.done s.course x i p, (by rw [be]; rfl), M2, rdy, by rw [← pls_people]; exact M2.ppl, by rw [List.length_map]; exact dok, by omega, fun H3 kvs l M3 k3 hl kl ori => ?_⟩
    rw [far_opt] at hl
    have L := looked2 M2 M3 k3 ori
    have L0 : Looked2 P w a H H3 m M s kvs := ⟨M3, fun b o e n => k3 b o (s02 b o e) n, fun b n => s02.free (L.fr b n), fun b h => (L.ow b h).imp id fun z => s02.free z⟩
    obtain ⟨f, ef⟩ : ∃ f, Kct8.far s.course (Kct8.done s.course x i p) = f := ⟨_, rfl⟩
    rw [ef] at hl k
    refine ⟨l, _, _, _, rfl, rfl, SqL.of hl, far0 (K := K) f hl, ?_⟩
    refine ⟨_, rfl, _, _, rfl, rfl, _, rfl, ?_⟩
    cases f with
    | many => exact iteF ⟨_, rfl, (by show 1 ≤ sizeLine; decide), fun r n => L0.answer (by omega) k n⟩
    | no => exact iteF ⟨_, rfl, (by show 1 ≤ sizeLine; decide), fun r n => L0.answer (by omega) k n⟩
    | ends kk v =>
      have nn : decide ((0 : Int) ≤ ((kk : Nat) : Int)) = true := decide_eq_true (by omega)
      show if decide ((0 : Int) ≤ ((kk : Nat) : Int)) = true then _ else _
      rw [nn]
      have hmv3 : H3 mv = some (.ins (a.c 14) dmv (mvF (mvOf wk (othersOf s.course i) i p))) := k3 _ _ hmv (ne_of hmv M2.memo (by intro z; cases z))
      have nl : n < s.cases.length := by omega
      refine iteT ⟨_, rfl, mv, dmv, _, rfl, hmv3, rfl, _, rfl, mv, mvOf wk (othersOf s.course i) i p, enc x, rfl, ⟨dmv, hmv3⟩, _, rfl, m, a.c 49, M.dm, _, _, rfl, M3.ins, T.cl_Machine, T.n_Machine_cases, rfl, _, rfl, M.lc, _, _, n, rfl, rfl, M3.cas, ixN_nat (by rw [lenC]; exact nl), ?_⟩
      rw [be]
      have el : (nums (s.cases.map enc)).set n (V.int ((enc (Kct8.done s.course x i p) : Nat) : Int)) = nums ((s.cases.set n (Kct8.done s.course x i p)).map enc) := by
        unfold nums
        rw [List.map_set, List.map_set]
      rw [el]
      have M4 := M3.setCases (cs := s.cases.set n (Kct8.done s.course x i p)) rdy (fun y hy => by
        rcases List.mem_or_eq_of_mem_set hy with z | z
        · exact MA.cok y z
        · rw [z]; exact dok) (by rw [List.length_set]; exact MA.c16)
      refine ⟨_, rfl, (by show 1 ≤ sizeLine; decide), fun r nr => ?_⟩
      have rl : M.lc ≠ r := ne_of_none (H := upd H3 M.lc _) upd_same nr
      have rH3 : H3 r = none := by rw [upd_ne (Ne.symm rl)] at nr; exact nr
      have s5 := Same.new (o := .lst [V.int ((kk : Nat) : Int)]) nr
      exact k _ _ r (M4.same s5) (L0.fr r rH3) upd_same (fun b o e nm no nd => s5 _ _ (by rw [upd_ne (fun z => no (.inr (.inr (.inr (.inl z)))))]; exact L0.kp b o e nd)) L0.ow (by show kvs.length ≤ _; omega)
end
end Ew

namespace Ew
open PySem PySem.Spec PyProof.Rows L2 EwM
open Kct8 (Work isOn doubles can nexts Course Case Person Abs)

def spLeave (P : Program) (w : World) (a : Adr) : Sp := fun vs H Q _ => ∃ (m : Addr) (p : Nat), vs = [.ref m, .int (p : Int)] ∧ spCallOf P w a H m (.leave p) Q
abbrev gone (q : Person) : Person := { q with there := false }
theorem set_at {α : Type} {l : List α} {p i : Nat} {x y : α} (h : l[i]? = some x) : (l.set p y)[i]? = some (if i = p then y else x) := by
  rw [List.getElem?_set]
  have lt := (List.getElem?_eq_some_iff.mp h).1
  by_cases e : p = i
  · subst e
    rw [if_pos rfl, if_pos lt, if_pos rfl]
  · rw [if_neg e, if_neg (fun z => e z.symm), h]
section
variable {P : Program} {w : World} {K : PySem.W.Frag} {mg : Str → Option Value} {base : Heap} {a : Adr}
theorem sc_leave : FnScope ["self", "person", "others", "fars", "refusal", "who", "parts"] ["self", "person"] (defScope s_Machine_leave) := ⟨rfl, rfl, rfl, by decide +kernel, rfl, by decide +kernel, by decide +kernel⟩
theorem ok_leave (T : Txt K mg a) : FnOk P w K mg base CX0 7 (a.f 4912) (a.d 4912) ["self", "person"] (spLeave P w a) := by
  refine T.m_Machine_leave.fn.ok sc_leave (fun vs H Q E h => ?_) (fun cdv A outer sh H vs Q E hr h => ?_)
  · obtain ⟨m, p, rfl, _⟩ := h
    rfl
  · obtain ⟨m, p, rfl, M, s, MA, big, k⟩ := h
    have nd := sc_leave.nd
    refine ⟨_, pss_cons (ps_if (PW.pt (pw_or (pt_cmpR op_ge (pv 1) (pe_callB call_len_seq (by rfl) T.b_len PySem.boot_len (pa_cons (pe_fld (pv 0) rfl) pa_nil)) (nomark _)) (pw_or1 (pt_cmp (pc_isN (pe_ix ix_list (pe_fld (pv 0) rfl) (pv 1) (fun _ _ => rfl)))))))
        (pss_one (ps_ret (pe_lst (pa_cons (pcon T.c_NO_SUCH) pa_nil)))) pss_nil)
      (pss_cons (ps_setLc (i := 2) (g := gTup K 2 (gCons (gName 5) (gCons (gName 6) gNil))) (own := [("who", 5), ("parts", 6)]) rfl nd rfl rfl (sw_true rfl rfl rfl (by decide +kernel)) (pi_enum rfl T.b_enumerate (pa_cons (pe_fld (pv 0) rfl) pa_nil)) (blkOk_by (by kernel_rfl))
        (fun _ _ _ _ _ => by exact pg_tup rfl (pgs_cons (pg_name (i := 5) nd rfl (Or.inl rfl) (Or.inr rfl)) (pgs_cons (pg_name (i := 6) nd rfl (Or.inl rfl) (Or.inr rfl)) pgs_nil))) (fun _ _ _ _ _ => by exact pts_nil) (fun _ _ _ _ _ => by exact pe_ifExp (pt_cmpR op_eq (pv 5) (pv 1) (nomark _)) pe_non (pv 6)))
      (pss_cons (ps_set (i := 3) nd rfl (Or.inl rfl) (pe_meth (pv 0) T.cl_Machine T.m_Machine_far_of_all.m (ok_far_all T) hr T.m_Machine_far_of_all.b .nil pass0 (pa_cons (pv 2) pa_nil)))
      (pss_cons (ps_for PassesOwn.never rfl (pi_tup (pe_tup (pa_cons (pcon T.c_COULD_NOT_END) (pa_cons (pcon T.c_TOO_MANY_TO_TELL) pa_nil)))) (pg_name (i := 4) nd rfl (Or.inl rfl))
        (pss_one (ps_if (pt_cmpR op_in_seq (pv 4) (pv 3) (by with_unfolding_all rfl)) (pss_one (ps_ret (pe_lst (pa_cons (pv 4) pa_nil)))) pss_nil)))
      (pss_cons (ps_fld (pv 0) (pv 2) rfl) (pss_one (ps_ret (pe_lst (pa_cons pe_int pa_nil)))))))), ?_⟩
    have st : Kct8.step s (.leave p) = match s.course.people[p]? with
      | none => (s, .num (-2))
      | some q => if q.there = false then (s, .num (-2)) else
        if (s.cases.map (Kct8.far { s.course with people := s.course.people.set p (gone q) })).any Kct8.isNo = true then (s, .num (-33)) else if (s.cases.map (Kct8.far { s.course with people := s.course.people.set p (gone q) })).any Kct8.isMany = true then (s, .num (-75)) else ({ s with course := { s.course with people := s.course.people.set p (gone q) } }, .num 0) := rfl
    rw [st] at k
    have lenP : (s.course.people.map pV).length = s.course.people.length := List.length_map _
    refine ⟨_, rfl, _, rfl, m, a.c 49, M.dm, _, _, rfl, MA.ins, T.cl_Machine, T.n_Machine_people, rfl, M.lp, _, rfl, .inl (SqL.of MA.ppl), _, _, rfl, rfl, _, rfl, ?_⟩
    rw [lenP, dle]
    refine ite2 (fun h1 => ?_) (fun h1 => ?_)
    · have h1 : s.course.people.length ≤ p := of_decide_eq_true h1
      rw [List.getElem?_eq_none h1] at k
      exact iteT ⟨(by show 1 ≤ sizeLine; decide), fun r n => k.quick MA n⟩
    have h1 : ¬ s.course.people.length ≤ p := fun z => h1 (decide_eq_true z)
    obtain ⟨q, hq⟩ : ∃ q, s.course.people[p]? = some q := ⟨s.course.people[p]'(by omega), List.getElem?_eq_getElem (by omega)⟩
    rw [hq] at k
    simp only [] at k
    have hqV : (s.course.people.map pV)[p]? = some (pV q) := by rw [List.getElem?_map, hq]; rfl
    refine ⟨_, rfl, m, a.c 49, M.dm, _, _, rfl, MA.ins, T.cl_Machine, T.n_Machine_people, rfl, _, rfl, M.lp, _, _, _, rfl, rfl, SqL.of MA.ppl, atI_nat hqV, _, rfl, ?_⟩
    have pn : decide (pV q = V.non) = !q.there := by
      obtain ⟨kk, th⟩ := q
      cases th <;> rfl
    rw [pn]
    cases th : q.there with
    | false =>
      rw [if_pos th] at k
      exact iteT ⟨(by show 1 ≤ sizeLine; decide), fun r n => k.quick MA n⟩
    | true =>
    rw [if_neg (by rw [th]; decide)] at k
    refine iteF ⟨_, rfl, m, a.c 49, M.dm, _, _, rfl, MA.ins, T.cl_Machine, T.n_Machine_people, rfl, M.lp, _, rfl, SqL.of MA.ppl, fun D nD => ?_⟩
    have p8 := MA.ok.pl
    have oth : (s.course.people.map pV).set p .non = (s.course.people.set p (gone q)).map pV := by rw [List.map_set]; rfl
    refine lc_enum (K := K) (a := M.lp) (xs := s.course.people.map pV) (fun i H1 => H1 D = some (.lst (((s.course.people.map pV).set p .non).take i)) ∧ Same H H1) ⟨upd_same, Same.new nD⟩ (fun i H1 _ ⟨_, s1⟩ => SqL.of (s1 _ _ MA.ppl)) ?_ ?_
    · rintro i y H1 T1 hi ⟨e1, s1⟩ nT
      have s2 : Same H1 (upd H1 T1 (.tup [.int (i : Nat), y])) := Same.new nT
      have il : i < s.course.people.length := by have := (List.getElem?_eq_some_iff.mp hi).1; rw [lenP] at this; exact this
      have nx := take_one (set_at (p := p) (y := V.non) hi)
      have tl : (((s.course.people.map pV).set p .non).take i).length ≤ 8 := Nat.le_trans (take_le _ _) (by rw [List.length_set, lenP]; exact p8)
      refine ⟨T1, _, rfl, SqT.of upd_same, rfl, _, _, rfl, _, _, rfl, rfl, rfl, tyes ?_⟩
      refine ⟨_, rfl, _, rfl, rfl, _, rfl, ?_⟩
      rw [nat_dec]
      refine ite2 (fun h => ?_) (fun h => ?_)
      · have h : i = p := of_decide_eq_true h
        refine ⟨_, s2 _ _ e1, small (m := 8) tl (by decide), ?_, fun b o e => ?_⟩
        · rw [upd_same, nx, if_pos h]
        · rw [upd_ne (ne_of_none e nD)]; exact s2 _ _ (s1 b o e)
      · have h : ¬ i = p := fun z => h (decide_eq_true z)
        refine ⟨_, rfl, _, s2 _ _ e1, small (m := 8) tl (by decide), ?_, fun b o e => ?_⟩
        · rw [upd_same, nx, if_neg h]
        · rw [upd_ne (ne_of_none e nD)]; exact s2 _ _ (s1 b o e)
    · rintro H1 ⟨e1, s1⟩
      have tk : ((s.course.people.map pV).set p .non).take (s.course.people.map pV).length = (s.course.people.set p (gone q)).map pV := by
        rw [← oth]
        exact List.take_of_length_le (by rw [List.length_set]; exact Nat.le_refl _)
      rw [tk] at e1
      have M1 := MA.same s1
      have rc : s.ready = true ∨ s.cases = [] := by
        cases z : s.ready with
        | true => exact .inl rfl
        | false => exact .inr (MA.idle z).1
      have plen : ((s.course.people.set p (gone q)).map popt).length = s.course.people.length := by rw [List.length_map, List.length_set]
      refine ⟨_, rfl, m, M.dm, _, rfl, M1.ins, rfl, _, rfl, m, D, M, s, (s.course.people.set p (gone q)).map popt, s.cases, rfl, M1, rc, (by
        have z := pls_people { s.course with people := s.course.people.set p (gone q) }
        rw [e1]
        exact congrArg (fun z => some (HO.lst z)) z), rfl, by rw [plen]; exact MA.cok, by omega, fun H2 kvs rl M2 k2 nrl hrl kl ori => ?_⟩
      have L0 := looked2 MA M2 (fun b o e n => k2 b o (s1 b o e) n) (fun e he => (ori e he).imp id fun ⟨b, e1, e2⟩ => ⟨b, e1, s1.free e2⟩)
      have inN := in_fars (c := s.course) (c' := { s.course with people := s.course.people.set p (gone q) }) (ps := (s.course.people.set p (gone q)).map popt) (-33) Kct8.isNo no_dec (fun x => far_opt { s.course with people := s.course.people.set p (gone q) } x) s.cases
      have inM := in_fars (c := s.course) (c' := { s.course with people := s.course.people.set p (gone q) }) (ps := (s.course.people.set p (gone q)).map popt) (-75) Kct8.isMany many_dec (fun x => far_opt { s.course with people := s.course.people.set p (gone q) } x) s.cases
      rw [List.any_map, List.any_map] at k
      generalize eC : ({ s.course with people := s.course.people.set p (gone q) } : Course) = c' at k inN inM
      have kN : (s.cases.any fun x => Kct8.isNo (Kct8.far c' x)) = s.cases.any (Kct8.isNo ∘ Kct8.far c') := rfl
      have kM : (s.cases.any fun x => Kct8.isMany (Kct8.far c' x)) = s.cases.any (Kct8.isMany ∘ Kct8.far c') := rfl
      rw [kN] at inN
      rw [kM] at inM
      refine ⟨(by show 2 ≤ sizeLine; decide), fun t nt => ?_⟩
      have s3 : Same H2 (upd H2 t (.tup [V.int (-33), V.int (-75)])) := Same.new nt
      have M3 := M2.same s3
      have hrl3 := s3 _ _ hrl
      have tH : H t = none := L0.fr t nt
      refine ⟨t, rfl, ⟨_, SqT.of upd_same⟩, ?_⟩
      refine for_tup (K := K) (a := t) (xs := [V.int (-33), V.int (-75)]) (fun i σ H3 => ∃ v4 : Option V, σ = [some (.ref m), some (.int (p : Int)), some (.ref D), some (.ref rl), v4, none, none] ∧ H3 = upd H2 t (.tup [V.int (-33), V.int (-75)]) ∧ (0 < i → ¬ s.cases.any (Kct8.isNo ∘ Kct8.far c') = true) ∧ (1 < i → ¬ s.cases.any (Kct8.isMany ∘ Kct8.far c') = true))
        ⟨none, rfl, rfl, fun z => absurd z (by decide), fun z => absurd z (by decide)⟩ (fun i σ H3 _ ⟨_, _, z, _⟩ => by rw [z]; exact SqT.of upd_same) ?_ ?_
      · rintro i y σ H3 hi ⟨v4, rfl, rfl, g1, g2⟩
        have ans : ∀ (z : Int), Post P w a H m M s [z] Q → ∀ r, (upd H2 t (.tup [V.int (-33), V.int (-75)])) r = none → Q (.ref r) (upd (upd H2 t (.tup [V.int (-33), V.int (-75)])) r (.lst [V.int z])) := fun z kz r nr => by
          have s4 := Same.new (o := .lst [V.int z]) nr
          exact kz _ _ r (M3.same s4) (L0.fr r (s3.free nr)) upd_same (fun b o e _ _ nd => s4 _ _ (s3 _ _ (L0.kp b o e nd))) L0.ow (by show kvs.length ≤ _; omega)
        match i, hi with
        | 0, hi =>
          cases Option.some.inj hi
          refine ⟨_, rfl, _, rfl, rl, _, rfl, .inl (SqL.of hrl3), rfl, zs_flat _, _, rfl, ?_⟩
          show if inV (V.int (-33)) _ = true then _ else _
          rw [inN]
          refine ite2 (fun h => ?_) (fun h => ?_)
          · rw [if_pos h] at k
            exact ⟨_, rfl, (by show 1 ≤ sizeLine; decide), fun r nr => ans (-33) k r nr⟩
          · exact ⟨_, rfl, rfl, fun _ => h, fun z => absurd z (by decide)⟩
        | 1, hi =>
          cases Option.some.inj hi
          refine ⟨_, rfl, _, rfl, rl, _, rfl, .inl (SqL.of hrl3), rfl, zs_flat _, _, rfl, ?_⟩
          show if inV (V.int (-75)) _ = true then _ else _
          rw [inM]
          refine ite2 (fun h => ?_) (fun h => ?_)
          · rw [if_neg (g1 (by decide)), if_pos h] at k
            exact ⟨_, rfl, (by show 1 ≤ sizeLine; decide), fun r nr => ans (-75) k r nr⟩
          · exact ⟨_, rfl, rfl, fun _ => g1 (by decide), fun _ => h⟩
        | i + 2, hi => simp at hi
      · rintro σ H3 ⟨v4, rfl, rfl, g1, g2⟩
        rw [if_neg (g1 (by decide)), if_neg (g2 (by decide))] at k
        have hD3 : (upd H2 t (.tup [V.int (-33), V.int (-75)])) D = some (.lst ((s.course.people.set p (gone q)).map pV)) := s3 _ _ (k2 _ _ e1 (fun z => by rw [z, MA.memo] at nD; cases nD))
        refine ⟨_, rfl, _, rfl, m, a.c 49, M.dm, _, rfl, M3.ins, T.cl_Machine, T.n_Machine_people, (by show 6 < 1000; decide), ?_⟩
        have M4 := M3.setPeople (lp := D) (ps := s.course.people.set p (gone q)) (cs := s.cases) hD3 (by rw [List.length_set]; exact p8) rfl (by rw [List.length_set]; exact MA.cok)
          (fun z => by rw [z, show ({ M with kvs := kvs } : Mc).ls = M.ls from rfl, MA.steps.lst] at nD; cases nD) (fun z => by rw [z, show ({ M with kvs := kvs } : Mc).la = M.la from rfl, MA.aps.lst] at nD; cases nD) (fun z => by rw [z, show ({ M with kvs := kvs } : Mc).lc = M.lc from rfl, MA.cas] at nD; cases nD)
        refine ⟨(by show 1 ≤ sizeLine; decide), fun r nr => ?_⟩
        have rm : m ≠ r := ne_of_none (H := upd _ m _) upd_same nr
        have rH3 : (upd H2 t (.tup [V.int (-33), V.int (-75)])) r = none := by rw [upd_ne (Ne.symm rm)] at nr; exact nr
        have s5 := Same.new (o := .lst [V.int 0]) nr
        rw [← eC] at k
        refine k _ _ r (M4.same s5) (L0.fr r (s3.free rH3)) upd_same (fun b o e nm no nd => s5 _ _ (by rw [upd_ne nm]; exact s3 _ _ (L0.kp b o e nd))) (fun b h => ?_) (by show kvs.length ≤ _; omega)
        rcases h with z | z | z | z | ⟨e, he, ev⟩
        · exact .inl (.inl z)
        · exact .inl (.inr (.inl z))
        · exact .inr (by rw [z]; exact nD)
        · exact .inl (.inr (.inr (.inr (.inl z))))
        · exact L0.ow b (.inr (.inr (.inr (.inr ⟨e, he, ev⟩))))
end
end Ew

namespace Ew
open PySem PySem.Spec PyProof.Rows L2 EwM
open Kct8 (Work isOn doubles can nexts Course Case Person Abs)

/-- one call, told as the list has it: its number z, its numbers xs -/
def spAnswer (P : Program) (w : World) (a : Adr) : Sp := fun vs H Q _ => ∃ (m hl : Addr) (z : Int) (xs : List Int) (M : Mc) (s : Abs), vs = [.ref m, .int z, .ref hl] ∧ H hl = some (.lst (zs xs)) ∧ Kct8Neutral.asked1 [z :: xs] = true ∧ MachAt P w a H m M s ∧ M.kvs.length + 17 ≤ BIG ∧
  Post P w a H m M (Kct8Neutral.step s [z :: xs]).1 (Kct8Neutral.step s [z :: xs]).2 Q
def spAnswer2 (P : Program) (w : World) (a : Adr) : Sp := fun vs H Q _ => ∃ (m hl : Addr) (z : Int) (xs : List Int) (M : Mc) (s : Abs), vs = [.ref m, .int z, .ref hl] ∧ H hl = some (.lst (zs xs)) ∧ Kct8Neutral.asked1 [z :: xs] = true ∧ 5 ≤ z ∧ MachAt P w a H m M s ∧ M.kvs.length + 17 ≤ BIG ∧
  Post P w a H m M (Kct8Neutral.step s [z :: xs]).1 (Kct8Neutral.step s [z :: xs]).2 Q
inductive Told : Int → List Int → Prop
  | begin_ : Told 0 []
  | work (t g p : Nat) : Told 1 [(t : Int), (g : Int), (p : Int)]
  | apart (i j : Nat) : Told 2 [(i : Int), (j : Int)]
  | person (n : Nat) : Told 3 [(n : Int)]
  | ready : Told 4 []
  | open_ : Told 5 []
  | do_ (n i p : Nat) : Told 6 [(n : Int), (i : Int), (p : Int)]
  | next_ (n : Nat) : Told 7 [(n : Int)]
  | state (n : Nat) : Told 8 [(n : Int)]
  | leave (n : Nat) : Told 9 [(n : Int)]
theorem nat_of {z : Int} (h : Kct8Neutral.natural z 32 = true) : ∃ n : Nat, z = (n : Int) := by
  unfold Kct8Neutral.natural at h
  rw [Bool.and_eq_true] at h
  have := of_decide_eq_true h.1
  exact ⟨z.toNat, by omega⟩
theorem told_of {z : Int} {xs : List Int} (h : Kct8Neutral.asked1 [z :: xs] = true) : Told z xs := by
  unfold Kct8Neutral.asked1 at h
  split at h
  all_goals (try (rename_i e; injection e with e1 e2; injection e1 with e3 e4; subst e3; subst e4))
  · exact .begin_
  · simp only [Bool.and_eq_true] at h
    obtain ⟨n1, rfl⟩ := nat_of h.1.1
    obtain ⟨n2, rfl⟩ := nat_of h.1.2
    obtain ⟨n3, rfl⟩ := nat_of h.2
    exact .work n1 n2 n3
  · simp only [Bool.and_eq_true] at h
    obtain ⟨n1, rfl⟩ := nat_of h.1
    obtain ⟨n2, rfl⟩ := nat_of h.2
    exact .apart n1 n2
  · obtain ⟨n1, rfl⟩ := nat_of h
    exact .person n1
  · exact .ready
  · exact .open_
  · simp only [Bool.and_eq_true] at h
    obtain ⟨n1, rfl⟩ := nat_of h.1.1
    obtain ⟨n2, rfl⟩ := nat_of h.1.2
    obtain ⟨n3, rfl⟩ := nat_of h.2
    exact .do_ n1 n2 n3
  · obtain ⟨n1, rfl⟩ := nat_of h
    exact .next_ n1
  · obtain ⟨n1, rfl⟩ := nat_of h
    exact .state n1
  · obtain ⟨n1, rfl⟩ := nat_of h
    exact .leave n1
  · cases h
section
variable {P : Program} {w : World} {K : PySem.W.Frag} {mg : Str → Option Value} {base : Heap} {a : Adr}
theorem sc_ans2 : FnScope ["machine", "call", "handed"] ["machine", "call", "handed"] (defScope s_answer_on_cases) := ⟨rfl, rfl, rfl, by decide +kernel, rfl, by decide +kernel, by decide +kernel⟩
theorem ok_ans2 (T : Txt K mg a) : FnOk P w K mg base CX0 8 (a.f 61) (a.d 61) ["machine", "call", "handed"] (spAnswer2 P w a) := by
  refine T.g_answer_on_cases.fn.ok sc_ans2 (fun vs H Q E h => ?_) (fun cdv A outer sh H vs Q E hr h => ?_)
  · obtain ⟨m, hl, z, xs, M, s, rfl, _⟩ := h
    rfl
  · obtain ⟨m, hl, z, xs, M, s, rfl, hh, ask, z5, MA, big, k⟩ := h
    have hr6 := hr.mono (j := 6) (by decide)
    have hr3 := hr.mono (j := 3) (by decide)
    refine ⟨_, pss_cons (ps_if (pt_cmpR op_eq (pv 1) (pcon T.c_OPEN) (nomark _)) (pss_one (ps_ret (pe_meth0 (pv 0) T.cl_Machine T.m_Machine_open_case.m (ok_open T) hr6 T.m_Machine_open_case.b .nil pass0))) pss_nil)
      (pss_cons (ps_if (pt_cmpR op_eq (pv 1) (pcon T.c_DO) (nomark _)) (pss_one (ps_ret (pe_meth (pv 0) T.cl_Machine T.m_Machine_do.m (ok_do T) hr6 T.m_Machine_do.b .nil pass0 (pa_cons (pe_ix ix_list (pv 2) pe_int (fun _ _ => rfl)) (pa_cons (pe_ix ix_list (pv 2) pe_int (fun _ _ => rfl)) (pa_cons (pe_ix ix_list (pv 2) pe_int (fun _ _ => rfl)) pa_nil)))))) pss_nil)
      (pss_cons (ps_if (pt_cmpR op_eq (pv 1) (pcon T.c_NEXT) (nomark _)) (pss_one (ps_ret (pe_meth (pv 0) T.cl_Machine T.m_Machine_next_step.m (ok_next T) hr6 T.m_Machine_next_step.b .nil pass0 (pa_cons (pe_ix ix_list (pv 2) pe_int (fun _ _ => rfl)) pa_nil)))) pss_nil)
      (pss_cons (ps_if (pt_cmpR op_eq (pv 1) (pcon T.c_STATE) (nomark _)) (pss_one (ps_ret (pe_meth (pv 0) T.cl_Machine T.m_Machine_state.m (ok_state T) hr3 T.m_Machine_state.b .nil pass0 (pa_cons (pe_ix ix_list (pv 2) pe_int (fun _ _ => rfl)) pa_nil)))) pss_nil)
      (pss_one (ps_ret (pe_meth (pv 0) T.cl_Machine T.m_Machine_leave.m (ok_leave T) hr T.m_Machine_leave.b .nil pass0 (pa_cons (pe_ix ix_list (pv 2) pe_int (fun _ _ => rfl)) pa_nil))))))), ?_⟩
    have I := MA.ins
    cases told_of ask with
    | begin_ => omega
    | work => omega
    | apart => omega
    | person => omega
    | ready => omega
    | open_ => exact ⟨_, rfl, rfl, _, rfl, iteT ⟨_, rfl, m, M.dm, _, rfl, I, rfl, m, rfl, M, s, MA, big, k⟩⟩
    | do_ n i p => exact ⟨_, rfl, rfl, _, rfl, iteF ⟨_, rfl, rfl, _, rfl, iteT ⟨_, rfl, m, M.dm, _, rfl, I, rfl, _, rfl, hl, _, _, _, rfl, rfl, SqL.of hh, atI_nat (j := 0) rfl, _, rfl, hl, _, _, _, rfl, rfl, SqL.of hh, atI_nat (j := 1) rfl, _, rfl, hl, _, _, _, rfl, rfl, SqL.of hh, atI_nat (j := 2) rfl, m, n, i, p, rfl, M, s, MA, big, k⟩⟩⟩
    | next_ n => exact ⟨_, rfl, rfl, _, rfl, iteF ⟨_, rfl, rfl, _, rfl, iteF ⟨_, rfl, rfl, _, rfl, iteT ⟨_, rfl, m, M.dm, _, rfl, I, rfl, _, rfl, hl, _, _, _, rfl, rfl, SqL.of hh, atI_nat (j := 0) rfl, m, n, rfl, M, s, MA, big, k⟩⟩⟩⟩
    | state n => exact ⟨_, rfl, rfl, _, rfl, iteF ⟨_, rfl, rfl, _, rfl, iteF ⟨_, rfl, rfl, _, rfl, iteF ⟨_, rfl, rfl, _, rfl, iteT ⟨_, rfl, m, M.dm, _, rfl, I, rfl, _, rfl, hl, _, _, _, rfl, rfl, SqL.of hh, atI_nat (j := 0) rfl, m, n, rfl, M, s, MA, big, k⟩⟩⟩⟩⟩
    | leave n => exact ⟨_, rfl, rfl, _, rfl, iteF ⟨_, rfl, rfl, _, rfl, iteF ⟨_, rfl, rfl, _, rfl, iteF ⟨_, rfl, rfl, _, rfl, iteF ⟨_, rfl, m, M.dm, _, rfl, I, rfl, _, rfl, hl, _, _, _, rfl, rfl, SqL.of hh, atI_nat (j := 0) rfl, m, n, rfl, M, s, MA, big, k⟩⟩⟩⟩⟩
theorem sc_ans : FnScope ["machine", "call", "handed"] ["machine", "call", "handed"] (defScope s_answer) := ⟨rfl, rfl, rfl, by decide +kernel, rfl, by decide +kernel, by decide +kernel⟩
theorem ok_ans (T : Txt K mg a) : FnOk P w K mg base CX0 9 (a.f 62) (a.d 62) ["machine", "call", "handed"] (spAnswer P w a) := by
  refine T.g_answer.fn.ok sc_ans (fun vs H Q E h => ?_) (fun cdv A outer sh H vs Q E hr h => ?_)
  · obtain ⟨m, hl, z, xs, M, s, rfl, _⟩ := h
    rfl
  · obtain ⟨m, hl, z, xs, M, s, rfl, hh, ask, MA, big, k⟩ := h
    have hr1 := hr.mono (j := 1) (by decide)
    have hr3 := hr.mono (j := 3) (by decide)
    have hr5 := hr.mono (j := 5) (by decide)
    have hr7 := hr.mono (j := 7) (by decide)
    refine ⟨_, pss_cons (ps_if (pt_cmpR op_eq (pv 1) (pcon T.c_BEGIN) (nomark _)) (pss_one (ps_ret (pe_meth0 (pv 0) T.cl_Machine T.m_Machine_begin.m (ok_begin T) hr1 T.m_Machine_begin.b .nil pass0))) pss_nil)
      (pss_cons (ps_if (pt_cmpR op_eq (pv 1) (pcon T.c_WORK) (nomark _)) (pss_one (ps_ret (pe_meth (pv 0) T.cl_Machine T.m_Machine_work.m (ok_work T) hr3 T.m_Machine_work.b .nil pass0 (pa_cons (pe_ix ix_list (pv 2) pe_int (fun _ _ => rfl)) (pa_cons (pe_ix ix_list (pv 2) pe_int (fun _ _ => rfl)) (pa_cons (pe_ix ix_list (pv 2) pe_int (fun _ _ => rfl)) pa_nil)))))) pss_nil)
      (pss_cons (ps_if (pt_cmpR op_eq (pv 1) (pcon T.c_APART) (nomark _)) (pss_one (ps_ret (pe_meth (pv 0) T.cl_Machine T.m_Machine_apart.m (ok_apart T) hr1 T.m_Machine_apart.b .nil pass0 (pa_cons (pe_ix ix_list (pv 2) pe_int (fun _ _ => rfl)) (pa_cons (pe_ix ix_list (pv 2) pe_int (fun _ _ => rfl)) pa_nil))))) pss_nil)
      (pss_cons (ps_if (pt_cmpR op_eq (pv 1) (pcon T.c_PERSON) (nomark _)) (pss_one (ps_ret (pe_meth (pv 0) T.cl_Machine T.m_Machine_person.m (ok_person T) hr7 T.m_Machine_person.b .nil pass0 (pa_cons (pe_ix ix_list (pv 2) pe_int (fun _ _ => rfl)) pa_nil)))) pss_nil)
      (pss_cons (ps_if (pt_cmpR op_eq (pv 1) (pcon T.c_READY) (nomark _)) (pss_one (ps_ret (pe_meth0 (pv 0) T.cl_Machine T.m_Machine_ready.m (ok_ready T) hr5 T.m_Machine_ready.b .nil pass0))) pss_nil)
      (pss_one (ps_ret (pe_call (ok_ans2 T) hr rfl T.g_answer_on_cases.at_ T.g_answer_on_cases.fn.kp T.g_answer_on_cases.b .nil pass0 (pa_cons (pv 0) (pa_cons (pv 1) (pa_cons (pv 2) pa_nil)))))))))), ?_⟩
    have I := MA.ins
    cases told_of ask with
    | begin_ =>
      refine ⟨_, rfl, rfl, _, rfl, iteT ⟨_, rfl, m, M.dm, _, rfl, I, rfl, m, M.dm, _, rfl, I, .inr ⟨M, _, rfl⟩, fun H' M' r MA' nr hr' kp e ow => ?_⟩⟩
      exact k H' M' r MA' nr hr' (fun b o e n _ _ => kp b o e n) (fun b h => .inr (ow b h)) (by rw [e]; exact Nat.zero_le _)
    | work t g p => exact ⟨_, rfl, rfl, _, rfl, iteF ⟨_, rfl, rfl, _, rfl, iteT ⟨_, rfl, m, M.dm, _, rfl, I, rfl, _, rfl, hl, _, _, _, rfl, rfl, SqL.of hh, atI_nat (j := 0) rfl, _, rfl, hl, _, _, _, rfl, rfl, SqL.of hh, atI_nat (j := 1) rfl, _, rfl, hl, _, _, _, rfl, rfl, SqL.of hh, atI_nat (j := 2) rfl, m, t, g, p, rfl, M, s, MA, big, k⟩⟩⟩
    | apart i j => exact ⟨_, rfl, rfl, _, rfl, iteF ⟨_, rfl, rfl, _, rfl, iteF ⟨_, rfl, rfl, _, rfl, iteT ⟨_, rfl, m, M.dm, _, rfl, I, rfl, _, rfl, hl, _, _, _, rfl, rfl, SqL.of hh, atI_nat (j := 0) rfl, _, rfl, hl, _, _, _, rfl, rfl, SqL.of hh, atI_nat (j := 1) rfl, m, i, j, rfl, M, s, MA, big, k⟩⟩⟩⟩
    | person n => exact ⟨_, rfl, rfl, _, rfl, iteF ⟨_, rfl, rfl, _, rfl, iteF ⟨_, rfl, rfl, _, rfl, iteF ⟨_, rfl, rfl, _, rfl, iteT ⟨_, rfl, m, M.dm, _, rfl, I, rfl, _, rfl, hl, _, _, _, rfl, rfl, SqL.of hh, atI_nat (j := 0) rfl, m, n, rfl, M, s, MA, big, k⟩⟩⟩⟩⟩
    | ready => exact ⟨_, rfl, rfl, _, rfl, iteF ⟨_, rfl, rfl, _, rfl, iteF ⟨_, rfl, rfl, _, rfl, iteF ⟨_, rfl, rfl, _, rfl, iteF ⟨_, rfl, rfl, _, rfl, iteT ⟨_, rfl, m, M.dm, _, rfl, I, rfl, m, rfl, M, s, MA, big, k⟩⟩⟩⟩⟩⟩
    | open_ => exact ⟨_, rfl, rfl, _, rfl, iteF ⟨_, rfl, rfl, _, rfl, iteF ⟨_, rfl, rfl, _, rfl, iteF ⟨_, rfl, rfl, _, rfl, iteF ⟨_, rfl, rfl, _, rfl, iteF ⟨_, rfl, _, rfl, _, rfl, m, hl, _, _, M, s, rfl, hh, ask, by omega, MA, big, k⟩⟩⟩⟩⟩⟩
    | do_ n i p => exact ⟨_, rfl, rfl, _, rfl, iteF ⟨_, rfl, rfl, _, rfl, iteF ⟨_, rfl, rfl, _, rfl, iteF ⟨_, rfl, rfl, _, rfl, iteF ⟨_, rfl, rfl, _, rfl, iteF ⟨_, rfl, _, rfl, _, rfl, m, hl, _, _, M, s, rfl, hh, ask, by omega, MA, big, k⟩⟩⟩⟩⟩⟩
    | next_ n => exact ⟨_, rfl, rfl, _, rfl, iteF ⟨_, rfl, rfl, _, rfl, iteF ⟨_, rfl, rfl, _, rfl, iteF ⟨_, rfl, rfl, _, rfl, iteF ⟨_, rfl, rfl, _, rfl, iteF ⟨_, rfl, _, rfl, _, rfl, m, hl, _, _, M, s, rfl, hh, ask, by omega, MA, big, k⟩⟩⟩⟩⟩⟩
    | state n => exact ⟨_, rfl, rfl, _, rfl, iteF ⟨_, rfl, rfl, _, rfl, iteF ⟨_, rfl, rfl, _, rfl, iteF ⟨_, rfl, rfl, _, rfl, iteF ⟨_, rfl, rfl, _, rfl, iteF ⟨_, rfl, _, rfl, _, rfl, m, hl, _, _, M, s, rfl, hh, ask, by omega, MA, big, k⟩⟩⟩⟩⟩⟩
    | leave n => exact ⟨_, rfl, rfl, _, rfl, iteF ⟨_, rfl, rfl, _, rfl, iteF ⟨_, rfl, rfl, _, rfl, iteF ⟨_, rfl, rfl, _, rfl, iteF ⟨_, rfl, rfl, _, rfl, iteF ⟨_, rfl, _, rfl, _, rfl, m, hl, _, _, M, s, rfl, hh, ask, by omega, MA, big, k⟩⟩⟩⟩⟩⟩
end
end Ew

namespace Ew
open PySem PySem.Spec PyProof.Rows L2 EwM
open Kct8 (Work isOn doubles can nexts Course Case Person Abs)

theorem tell_len (s : Abs) (c : Kct8.Call) : (Kct8Neutral.tell (Kct8.step s c).2).length ≤ 3 := by
  cases c <;> unfold Kct8.step <;> simp only [] <;> (repeat' split) <;> (first | (show 1 ≤ 3; decide) | (show 2 ≤ 3; decide) | (show 3 ≤ 3; decide))
theorem step_len (s : Abs) (c : List (List Int)) : (Kct8Neutral.step s c).2.length ≤ 3 := tell_len s _
theorem handed_at {z : Int} {n : Nat} (h : PyKct8.shape z = some (n, 0)) : atI ([0, 3, 2, 1, 0, 0, 3, 1, 1, 1].map V.int) z = some (V.int (n : Int)) := by
  unfold PyKct8.shape at h
  repeat' split at h
  all_goals first | (rename_i e; subst e; cases h; rfl) | cases h
theorem cut_at {ns : List Int} {k n : Nat} (h : k + 1 + n ≤ ns.length) : cutV (ns.map V.int) (some ((k : Int) + 1)) (some ((k : Int) + 1 + (n : Int))) = zs ((ns.drop (k + 1)).take n) := by
  have e1 : (k : Int) + 1 = ((k + 1 : Nat) : Int) := by omega
  have e2 : (k : Int) + 1 + (n : Int) = ((k + 1 + n : Nat) : Int) := by omega
  unfold cutV
  have h1 : k + 1 ≤ ns.length := by omega
  rw [e2, e1, HT.sIx_nat, HT.sIx_nat, List.length_map, Nat.min_eq_left h, Nat.min_eq_left h1]
  unfold zs
  rw [← List.map_drop, ← List.map_take]
  congr 2
  omega
def spAnswers (K : PySem.W.Frag) : Sp := fun vs H Q _ => ∃ (c : Addr) (ns : List Int), vs = [.ref c] ∧ SqL K H c (ns.map V.int) ∧ OnlyF H ∧ ns.length ≤ 30000 ∧ PyKct8.answers_asked ns = true ∧ ∀ (H' : Hp) (p : Addr), H' p = some (.lst ((PyKct8.answers ns).map V.int)) → Q (.ref p) H'
section
variable {P : Program} {w : World} {K : PySem.W.Frag} {mg : Str → Option Value} {base : Heap} {a : Adr}
theorem sc_answers : FnScope ["calls", "machine", "told", "at", "behind", "numbers"] ["calls"] (defScope s_answers) := ⟨rfl, rfl, rfl, by decide +kernel, rfl, by decide +kernel, by decide +kernel⟩
theorem ok_answers (T : Txt K mg a) : FnOk P w K mg base CX0 10 (a.f 63) (a.d 63) ["calls"] (spAnswers K) := by
  refine T.g_answers.fn.ok sc_answers (fun vs H Q E h => ?_) (fun cdv A outer sh H vs Q E hr h => ?_)
  · obtain ⟨c, ns, rfl, _⟩ := h
    rfl
  · obtain ⟨c, ns, rfl, hS, hO, few, ask, k⟩ := h
    have nd := sc_answers.nd
    have hr3 := hr.mono (j := 3) (by decide)
    refine ⟨_, pss_cons (ps_set (i := 1) nd rfl (Or.inl rfl) (pe_make0 T.mk_Machine (ok_MachInit T) hr3 rfl T.mg_Machine T.bi_Machine .nil pass0))
      (pss_cons (ps_set (i := 2) nd rfl (Or.inl rfl) (pe_lst pa_nil))
      (pss_cons (ps_set (i := 3) nd rfl (Or.inl rfl) pe_int)
      (pss_cons (ps_while PassesOwn.never (pt_cmpR op_lt (pv 3) (pe_callB call_len_seq (by rfl) T.b_len PySem.boot_len (pa_cons (pv 0) pa_nil)) (nomark _))
        (pss_cons (ps_set (i := 4) nd rfl (Or.inl rfl) (pe_op op_add (pe_op op_add (pv 3) pe_int) (pe_ix ix_tup (pe_glob rfl T.handed (v := .ref a.h) rfl) (pe_ix ix_list (pv 0) (pv 3) (fun _ _ => rfl)) (fun _ _ => rfl))))
        (pss_cons (ps_set (i := 5) nd rfl (Or.inl rfl) (pe_call (ok_ans T) hr rfl T.g_answer.at_ T.g_answer.fn.kp T.g_answer.b .nil pass0 (pa_cons (pv 1) (pa_cons (pe_ix ix_list (pv 0) (pv 3) (fun _ _ => rfl)) (pa_cons (pe_slice sl_list (pv 0) (po_some (pe_op op_add (pv 3) pe_int)) (po_some (pv 4))) pa_nil)))))
        (pss_cons (ps_expr (pe_bm PySem.F.plainAttrs_list PySem.F.slot_list_append PySem.F.type_list_append mt_append (pv 2) (pa_cons (pe_callB call_len_seq (by rfl) T.b_len PySem.boot_len (pa_cons (pv 5) pa_nil)) pa_nil)))
        (pss_cons (ps_expr (pe_bm PySem.F.plainAttrs_list PySem.F.slot_list_extend PySem.F.type_list_extend mt_extend (pv 2) (pa_cons (pv 5) pa_nil)))
        (pss_one (ps_set (i := 3) nd rfl (Or.inl rfl) (pv 4))))))))
      (pss_one (ps_ret (pv 2)))))), ?_⟩
    -- machine = Machine()
    refine fun m dm nm ndm nem => ⟨m, dm, rfl, upd_same, fun H1 M0 MA0 kp e0 ow0 => ⟨rfl, ?_⟩⟩
    have s1 : Same H H1 := Same.made nm ndm kp
    have ow1 : ∀ b, Owns M0 b → H b = none := fun b hb => by
      have z := ow0 b hb
      cases q : H b with
      | none => rfl
      | some o =>
        rw [upd_ne (ne_of_none q nm), upd_ne (ne_of_none q ndm), q] at z
        cases z
    -- told = []
    refine ⟨Nat.zero_le _, fun q nq => ?_⟩
    have s2 : Same H1 (upd H1 q (.lst [])) := Same.new nq
    refine ⟨fun mm σ H2 => ∃ (k : Nat) (M : Mc) (s : Abs) (out : List Int) (v4 v5 : Option V), σ = [some (.ref c), some (.ref m), some (.ref q), some (.int (k : Int)), v4, v5] ∧ Due ns k s out ∧ MachAt P w a H2 m M s ∧ H2 q = some (.lst (zs out)) ∧ ¬ Owns M q ∧ Same H H2 ∧ M.kvs.length ≤ 17 * k ∧ out.length ≤ 4 * k ∧ mm = ns.length - k,
      ⟨_, 0, M0, Kct8.first, [], none, none, rfl, due_start ask, MA0.same s2, upd_same, owns_fresh MA0 nq, s1.trans s2, by rw [e0]; exact Nat.zero_le _, Nat.zero_le _, rfl⟩, ?_⟩
    rintro mm σ H2 ⟨i, M, s, out, v4, v5, rfl, D, MA, hq, no, sH, kl, ol, rfl⟩
    have hS2 : SqL K H2 c (ns.map V.int) := Same.seq sH hS
    refine ⟨_, rfl, _, rfl, c, _, rfl, .inl hS2, _, _, rfl, rfl, _, rfl, ?_⟩
    rw [List.length_map, dlt]
    have le := D.le
    refine ite2 (fun h => ?_) (fun h => ?_)
    · have h : i < ns.length := of_decide_eq_true h
      obtain ⟨z, hz⟩ : ∃ z, ns[i]? = some z := ⟨ns[i], List.getElem?_eq_getElem h⟩
      obtain ⟨n, sh1, le1, as1, D1⟩ := due_turn D hz
      have hzV : (ns.map V.int)[i]? = some (V.int z) := by rw [List.getElem?_map, hz]; rfl
      refine ⟨fun σ' H' => ∃ mm', mm' < ns.length - i ∧ ∃ (k : Nat) (M : Mc) (s : Abs) (out : List Int) (v4 v5 : Option V), σ' = [some (.ref c), some (.ref m), some (.ref q), some (.int (k : Int)), v4, v5] ∧ Due ns k s out ∧ MachAt P w a H' m M s ∧ H' q = some (.lst (zs out)) ∧ ¬ Owns M q ∧ Same H H' ∧ M.kvs.length ≤ 17 * k ∧ out.length ≤ 4 * k ∧ mm' = ns.length - k, fun _ _ z => z, ?_⟩
      refine ⟨_, rfl, _, _, rfl, rfl, _, rfl, _, rfl, c, _, _, _, rfl, rfl, hS2, atI_nat hzV, a.h, _, _, _, rfl, rfl, T.handedAt _, handed_at sh1, _, _, rfl, rfl, ?_⟩
      refine ⟨_, rfl, _, rfl, _, rfl, c, _, _, _, rfl, rfl, hS2, atI_nat hzV, _, rfl, _, rfl, _, _, rfl, rfl, _, rfl, _, rfl, _, rfl, c, _, rfl, hS2, fun hl nhl => ?_⟩
      rw [cut_at le1]
      have s3 : Same H2 (upd H2 hl (.lst (zs ((ns.drop (i + 1)).take n)))) := Same.new nhl
      have hlq : q ≠ hl := ne_of_none hq nhl
      refine ⟨m, hl, z, (ns.drop (i + 1)).take n, M, s, rfl, upd_same, as1, MA.same s3, (by show _ + 17 ≤ 2000000; omega), fun H4 M4 r MA4 nr hr4 fr ow kl4 => ?_⟩
      have nrH : H2 r = none := s3.free nr
      have rq : r ≠ q := (ne_of_none hq nrH).symm
      have qd : q ≠ M.d := ne_of hq MA.memo (by intro y; cases y)
      have qm : q ≠ m := ne_of hq MA.ins (by intro y; cases y)
      have hq4 : H4 q = some (.lst (zs out)) := fr q _ (s3 _ _ hq) qm no qd
      have no4 : ¬ Owns M4 q := fun y => (ow q y).elim no fun y2 => by rw [s3 _ _ hq] at y2; cases y2
      have sH4 : Same H H4 := fun b o e => by
        rcases hO b with y | ⟨ob, u, y⟩
        · rw [y] at e; cases e
        · have e2 := sH b o e
          have ef : o = .frz ob u := by rw [y] at e; exact (Option.some.inj e).symm
          refine fr b o (s3 _ _ e2) (ne_of e2 MA.ins (by rw [ef]; intro y; cases y)) ?_ (ne_of e2 MA.memo (by rw [ef]; intro y; cases y))
          rintro (y | y | y | y | ⟨e', he', ev⟩)
          · exact ne_of e2 MA.steps.lst (by rw [ef]; intro y; cases y) y
          · exact ne_of e2 MA.aps.lst (by rw [ef]; intro y; cases y) y
          · exact ne_of e2 MA.ppl (by rw [ef]; intro y; cases y) y
          · exact ne_of e2 MA.cas (by rw [ef]; intro y; cases y) y
          · obtain ⟨ps, x, l, _, _, h3, h4, _⟩ := MA.rows e' he'
            rw [ev] at h3
            cases h3
            exact ne_of e2 h4 (by rw [ef]; intro y; cases y) rfl
      have al := step_len s [z :: (ns.drop (i + 1)).take n]
      generalize (Kct8Neutral.step s [z :: (ns.drop (i + 1)).take n]).2 = ans at hr4 D1 al
      have zl : ∀ l : List Int, (zs l).length = l.length := fun l => List.length_map _
      -- told.append(len(numbers))
      refine ⟨_, rfl, .inl ⟨rfl, _, SqL.of hq4⟩, _, rfl, r, _, rfl, .inl (SqL.of hr4), q, _, _, rfl, rfl, hq4, small (m := 120000) (by rw [zl]; omega) (by decide), ?_⟩
      rw [zl]
      -- told.extend(numbers)
      refine ⟨_, rfl, .inl ⟨rfl, _, SqL.of upd_same⟩, _, rfl, q, r, _, _, rfl, rfl, upd_same, (upd_ne rq).trans hr4, smallE (m := 120100) (by rw [List.length_append, zl, zl]; simp only [List.length_cons, List.length_nil]; omega) (by decide), ?_⟩
      rw [upd_upd]
      have el : zs out ++ [V.int (ans.length : Int)] ++ zs ans = zs (out ++ ((ans.length : Int) :: ans)) := by
        unfold zs
        rw [List.map_append, List.map_cons, List.append_assoc]
        rfl
      rw [el]
      refine ⟨_, rfl, ns.length - (i + 1 + n), by omega, i + 1 + n, M4, _, out ++ ((ans.length : Int) :: ans), _, _, rfl, D1, MA4.other hq4 no4 (fun b o e ne => by rw [upd_ne ne]; exact e), upd_same, no4, fun b o e => ?_, by omega, ?_, rfl⟩
      · rw [upd_ne (fun y => by
          rcases hO b with y2 | ⟨ob, u, y2⟩
          · rw [y2] at e; cases e
          · have e4 := sH4 b _ y2
            rw [y, hq4] at e4; cases e4)]
        exact sH4 b o e
      · rw [List.length_append, List.length_cons]; omega
    · have h : ¬ i < ns.length := fun z => h (decide_eq_true z)
      refine ⟨_, rfl, k H2 q ?_⟩
      rw [due_end D (by omega)]
      exact hq
end
end Ew

set_option maxHeartbeats 8000000
namespace Ew
open PySem PySem.Spec PyProof.Rows L2 EwM

/-! The walk of the module's top lays twins of what it writes (a def tw.. and a theorem te..). The theorems of the great ones are long, and the walk gets on without them: their names are taken here, so none is laid. -/
def _root_.PySem.W.Fast.tw15033989386514626849 : Unit := ()
def _root_.PySem.W.Fast.tw5111375024199765475 : Unit := ()
def _root_.PySem.W.Fast.tw11165885518248938466 : Unit := ()
def _root_.PySem.W.Fast.tw15241254540436133014 : Unit := ()
def _root_.PySem.W.Fast.tw712365547470151781 : Unit := ()
def _root_.PySem.W.Fast.tw3435316674635418898 : Unit := ()
def _root_.PySem.W.Fast.tw14130642846445403067 : Unit := ()
def _root_.PySem.W.Fast.tw13068096119863951171 : Unit := ()
def _root_.PySem.W.Fast.tw16456455446042140700 : Unit := ()
def _root_.PySem.W.Fast.tw15283309986414621829 : Unit := ()
@[elab_as_elim] theorem len1 {P : List Value → Prop} (us : List Value) (h : us.length = 1) (f : ∀ a0, P [a0]) : P us := match us, h with | [_], _ => f _
@[elab_as_elim] theorem len2 {P : List Value → Prop} (us : List Value) (h : us.length = 2) (f : ∀ a0 a1, P [a0, a1]) : P us := match us, h with | [_, _], _ => f _ _
@[elab_as_elim] theorem len3 {P : List Value → Prop} (us : List Value) (h : us.length = 3) (f : ∀ a0 a1 a2, P [a0, a1, a2]) : P us := match us, h with | [_, _, _], _ => f _ _ _
@[elab_as_elim] theorem len4 {P : List Value → Prop} (us : List Value) (h : us.length = 4) (f : ∀ a0 a1 a2 a3, P [a0, a1, a2, a3]) : P us := match us, h with | [_, _, _, _], _ => f _ _ _ _
@[elab_as_elim] theorem len5 {P : List Value → Prop} (us : List Value) (h : us.length = 5) (f : ∀ a0 a1 a2 a3 a4, P [a0, a1, a2, a3, a4]) : P us := match us, h with | [_, _, _, _, _], _ => f _ _ _ _ _
theorem all_mk {P : Program} {w : World} {K : PySem.W.Frag} {h : Heap} {mg : Str → Option Value} {fa : Addr} (X : K.In h) (G : h.Ns mainGlobals mg) (hfa : mg "answers" = some (.ref fa))
    {t_BEGINNING : Tok}
    {t_END : Tok}
    {t_MOST_TOGETHER : Tok}
    {t_ALL_PLACES : Tok}
    {t_PLACES : Tok}
    {t_MOST_PEOPLE : Tok}
    {t_COULD_NOT_END : Tok}
    {t_TOO_MANY_TO_TELL : Tok}
    {t_MAY_NOT : Tok}
    {t_NO_SUCH : Tok}
    {t_CANNOT_BE_DONE : Tok}
    {t_IS_TAKEN : Tok}
    {t_NOT_TAKEN : Tok}
    {t_DID_ONE_APART : Tok}
    {t_NOT_SO : Tok}
    {t_TOO_MANY : Tok}
    {t_MOST_BITS : Tok}
    {t_MOST_PART : Tok}
    {t_MOST_STEPS : Tok}
    {t_MOST_TOLD_APART : Tok}
    {t_MOST_CASES : Tok}
    {t_BEGIN : Tok}
    {t_WORK : Tok}
    {t_APART : Tok}
    {t_PERSON : Tok}
    {t_READY : Tok}
    {t_OPEN : Tok}
    {t_DO : Tok}
    {t_NEXT : Tok}
    {t_STATE : Tok}
    {hA : Addr} {hits : Array Value} {hn : Nat} {hdd : Option Addr} {hsl : Array (Option Value)}
    {C4 : Addr}
    {f400 : Addr} {od400 an400 : Option Addr} {sl400 : Array (Option Value)} {oc400 kV400 dc400 pm400 cd400 ct400 : Value}
    {f401 : Addr} {od401 an401 : Option Addr} {sl401 : Array (Option Value)} {oc401 kV401 dc401 pm401 cd401 ct401 : Value}
    {f402 : Addr} {od402 an402 : Option Addr} {sl402 : Array (Option Value)} {oc402 kV402 dc402 pm402 cd402 ct402 : Value}
    {f403 : Addr} {od403 an403 : Option Addr} {sl403 : Array (Option Value)} {oc403 kV403 dc403 pm403 cd403 ct403 : Value}
    {C14 : Addr}
    {f1400 : Addr} {od1400 an1400 : Option Addr} {sl1400 : Array (Option Value)} {oc1400 kV1400 dc1400 pm1400 cd1400 ct1400 : Value}
    {f1401 : Addr} {od1401 an1401 : Option Addr} {sl1401 : Array (Option Value)} {oc1401 kV1401 dc1401 pm1401 cd1401 ct1401 : Value}
    {f1402 : Addr} {od1402 an1402 : Option Addr} {sl1402 : Array (Option Value)} {oc1402 kV1402 dc1402 pm1402 cd1402 ct1402 : Value}
    {C49 : Addr}
    {f4900 : Addr} {od4900 an4900 : Option Addr} {sl4900 : Array (Option Value)} {oc4900 kV4900 dc4900 pm4900 cd4900 ct4900 : Value}
    {f4901 : Addr} {od4901 an4901 : Option Addr} {sl4901 : Array (Option Value)} {oc4901 kV4901 dc4901 pm4901 cd4901 ct4901 : Value}
    {f4902 : Addr} {od4902 an4902 : Option Addr} {sl4902 : Array (Option Value)} {oc4902 kV4902 dc4902 pm4902 cd4902 ct4902 : Value}
    {f4903 : Addr} {od4903 an4903 : Option Addr} {sl4903 : Array (Option Value)} {oc4903 kV4903 dc4903 pm4903 cd4903 ct4903 : Value}
    {f4904 : Addr} {od4904 an4904 : Option Addr} {sl4904 : Array (Option Value)} {oc4904 kV4904 dc4904 pm4904 cd4904 ct4904 : Value}
    {f4905 : Addr} {od4905 an4905 : Option Addr} {sl4905 : Array (Option Value)} {oc4905 kV4905 dc4905 pm4905 cd4905 ct4905 : Value}
    {f4906 : Addr} {od4906 an4906 : Option Addr} {sl4906 : Array (Option Value)} {oc4906 kV4906 dc4906 pm4906 cd4906 ct4906 : Value}
    {f4907 : Addr} {od4907 an4907 : Option Addr} {sl4907 : Array (Option Value)} {oc4907 kV4907 dc4907 pm4907 cd4907 ct4907 : Value}
    {f4908 : Addr} {od4908 an4908 : Option Addr} {sl4908 : Array (Option Value)} {oc4908 kV4908 dc4908 pm4908 cd4908 ct4908 : Value}
    {f4909 : Addr} {od4909 an4909 : Option Addr} {sl4909 : Array (Option Value)} {oc4909 kV4909 dc4909 pm4909 cd4909 ct4909 : Value}
    {f4910 : Addr} {od4910 an4910 : Option Addr} {sl4910 : Array (Option Value)} {oc4910 kV4910 dc4910 pm4910 cd4910 ct4910 : Value}
    {f4911 : Addr} {od4911 an4911 : Option Addr} {sl4911 : Array (Option Value)} {oc4911 kV4911 dc4911 pm4911 cd4911 ct4911 : Value}
    {f4912 : Addr} {od4912 an4912 : Option Addr} {sl4912 : Array (Option Value)} {oc4912 kV4912 dc4912 pm4912 cd4912 ct4912 : Value}
    {f9 : Addr} {od9 an9 : Option Addr} {sl9 : Array (Option Value)} {oc9 kV9 dc9 pm9 cd9 ct9 : Value}
    {f10 : Addr} {od10 an10 : Option Addr} {sl10 : Array (Option Value)} {oc10 kV10 dc10 pm10 cd10 ct10 : Value}
    {f11 : Addr} {od11 an11 : Option Addr} {sl11 : Array (Option Value)} {oc11 kV11 dc11 pm11 cd11 ct11 : Value}
    {f12 : Addr} {od12 an12 : Option Addr} {sl12 : Array (Option Value)} {oc12 kV12 dc12 pm12 cd12 ct12 : Value}
    {f13 : Addr} {od13 an13 : Option Addr} {sl13 : Array (Option Value)} {oc13 kV13 dc13 pm13 cd13 ct13 : Value}
    {f15 : Addr} {od15 an15 : Option Addr} {sl15 : Array (Option Value)} {oc15 kV15 dc15 pm15 cd15 ct15 : Value}
    {f19 : Addr} {od19 an19 : Option Addr} {sl19 : Array (Option Value)} {oc19 kV19 dc19 pm19 cd19 ct19 : Value}
    {f20 : Addr} {od20 an20 : Option Addr} {sl20 : Array (Option Value)} {oc20 kV20 dc20 pm20 cd20 ct20 : Value}
    {f22 : Addr} {od22 an22 : Option Addr} {sl22 : Array (Option Value)} {oc22 kV22 dc22 pm22 cd22 ct22 : Value}
    {f23 : Addr} {od23 an23 : Option Addr} {sl23 : Array (Option Value)} {oc23 kV23 dc23 pm23 cd23 ct23 : Value}
    {f24 : Addr} {od24 an24 : Option Addr} {sl24 : Array (Option Value)} {oc24 kV24 dc24 pm24 cd24 ct24 : Value}
    {f25 : Addr} {od25 an25 : Option Addr} {sl25 : Array (Option Value)} {oc25 kV25 dc25 pm25 cd25 ct25 : Value}
    {f26 : Addr} {od26 an26 : Option Addr} {sl26 : Array (Option Value)} {oc26 kV26 dc26 pm26 cd26 ct26 : Value}
    {f27 : Addr} {od27 an27 : Option Addr} {sl27 : Array (Option Value)} {oc27 kV27 dc27 pm27 cd27 ct27 : Value}
    {f28 : Addr} {od28 an28 : Option Addr} {sl28 : Array (Option Value)} {oc28 kV28 dc28 pm28 cd28 ct28 : Value}
    {f29 : Addr} {od29 an29 : Option Addr} {sl29 : Array (Option Value)} {oc29 kV29 dc29 pm29 cd29 ct29 : Value}
    {f30 : Addr} {od30 an30 : Option Addr} {sl30 : Array (Option Value)} {oc30 kV30 dc30 pm30 cd30 ct30 : Value}
    {f31 : Addr} {od31 an31 : Option Addr} {sl31 : Array (Option Value)} {oc31 kV31 dc31 pm31 cd31 ct31 : Value}
    {f32 : Addr} {od32 an32 : Option Addr} {sl32 : Array (Option Value)} {oc32 kV32 dc32 pm32 cd32 ct32 : Value}
    {f47 : Addr} {od47 an47 : Option Addr} {sl47 : Array (Option Value)} {oc47 kV47 dc47 pm47 cd47 ct47 : Value}
    {f48 : Addr} {od48 an48 : Option Addr} {sl48 : Array (Option Value)} {oc48 kV48 dc48 pm48 cd48 ct48 : Value}
    {f61 : Addr} {od61 an61 : Option Addr} {sl61 : Array (Option Value)} {oc61 kV61 dc61 pm61 cd61 ct61 : Value}
    {f62 : Addr} {od62 an62 : Option Addr} {sl62 : Array (Option Value)} {oc62 kV62 dc62 pm62 cd62 ct62 : Value}
    {f63 : Addr} {od63 an63 : Option Addr} {sl63 : Array (Option Value)} {oc63 kV63 dc63 pm63 cd63 ct63 : Value}
    (c_BEGINNING : PySem.W.nsIn K mainGlobals "BEGINNING" = some (some (.int (1) t_BEGINNING)))
    (c_END : PySem.W.nsIn K mainGlobals "END" = some (some (.int (2) t_END)))
    (c_MOST_TOGETHER : PySem.W.nsIn K mainGlobals "MOST_TOGETHER" = some (some (.int (1024) t_MOST_TOGETHER)))
    (c_ALL_PLACES : PySem.W.nsIn K mainGlobals "ALL_PLACES" = some (some (.int (65535) t_ALL_PLACES)))
    (c_PLACES : PySem.W.nsIn K mainGlobals "PLACES" = some (some (.int (16) t_PLACES)))
    (c_MOST_PEOPLE : PySem.W.nsIn K mainGlobals "MOST_PEOPLE" = some (some (.int (8) t_MOST_PEOPLE)))
    (c_COULD_NOT_END : PySem.W.nsIn K mainGlobals "COULD_NOT_END" = some (some (.int (-33) t_COULD_NOT_END)))
    (c_TOO_MANY_TO_TELL : PySem.W.nsIn K mainGlobals "TOO_MANY_TO_TELL" = some (some (.int (-75) t_TOO_MANY_TO_TELL)))
    (c_MAY_NOT : PySem.W.nsIn K mainGlobals "MAY_NOT" = some (some (.int (-1) t_MAY_NOT)))
    (c_NO_SUCH : PySem.W.nsIn K mainGlobals "NO_SUCH" = some (some (.int (-2) t_NO_SUCH)))
    (c_CANNOT_BE_DONE : PySem.W.nsIn K mainGlobals "CANNOT_BE_DONE" = some (some (.int (-11) t_CANNOT_BE_DONE)))
    (c_IS_TAKEN : PySem.W.nsIn K mainGlobals "IS_TAKEN" = some (some (.int (-16) t_IS_TAKEN)))
    (c_NOT_TAKEN : PySem.W.nsIn K mainGlobals "NOT_TAKEN" = some (some (.int (-16) t_NOT_TAKEN)))
    (c_DID_ONE_APART : PySem.W.nsIn K mainGlobals "DID_ONE_APART" = some (some (.int (-17) t_DID_ONE_APART)))
    (c_NOT_SO : PySem.W.nsIn K mainGlobals "NOT_SO" = some (some (.int (-22) t_NOT_SO)))
    (c_TOO_MANY : PySem.W.nsIn K mainGlobals "TOO_MANY" = some (some (.int (-28) t_TOO_MANY)))
    (c_MOST_BITS : PySem.W.nsIn K mainGlobals "MOST_BITS" = some (some (.int (65535) t_MOST_BITS)))
    (c_MOST_PART : PySem.W.nsIn K mainGlobals "MOST_PART" = some (some (.int (15) t_MOST_PART)))
    (c_MOST_STEPS : PySem.W.nsIn K mainGlobals "MOST_STEPS" = some (some (.int (16) t_MOST_STEPS)))
    (c_MOST_TOLD_APART : PySem.W.nsIn K mainGlobals "MOST_TOLD_APART" = some (some (.int (32) t_MOST_TOLD_APART)))
    (c_MOST_CASES : PySem.W.nsIn K mainGlobals "MOST_CASES" = some (some (.int (16) t_MOST_CASES)))
    (c_BEGIN : PySem.W.nsIn K mainGlobals "BEGIN" = some (some (.int (0) t_BEGIN)))
    (c_WORK : PySem.W.nsIn K mainGlobals "WORK" = some (some (.int (1) t_WORK)))
    (c_APART : PySem.W.nsIn K mainGlobals "APART" = some (some (.int (2) t_APART)))
    (c_PERSON : PySem.W.nsIn K mainGlobals "PERSON" = some (some (.int (3) t_PERSON)))
    (c_READY : PySem.W.nsIn K mainGlobals "READY" = some (some (.int (4) t_READY)))
    (c_OPEN : PySem.W.nsIn K mainGlobals "OPEN" = some (some (.int (5) t_OPEN)))
    (c_DO : PySem.W.nsIn K mainGlobals "DO" = some (some (.int (6) t_DO)))
    (c_NEXT : PySem.W.nsIn K mainGlobals "NEXT" = some (some (.int (7) t_NEXT)))
    (c_STATE : PySem.W.nsIn K mainGlobals "STATE" = some (some (.int (8) t_STATE)))
    (b_len : PySem.W.nsIn K mainGlobals "len" = some none)
    (b_enumerate : PySem.W.nsIn K mainGlobals "enumerate" = some none)
    (b_min : PySem.W.nsIn K mainGlobals "min" = some none)
    (b_max : PySem.W.nsIn K mainGlobals "max" = some none)
    (b_tuple : PySem.W.nsIn K mainGlobals "tuple" = some none)
    (b_list : PySem.W.nsIn K mainGlobals "list" = some none)
    (hd1 : PySem.W.nsIn K mainGlobals "HANDED" = some (some (.ref hA))) (hd2 : K.lookup hA = some ⟨.type "tuple", hdd, .seq hits hn, hsl⟩) (hd3 : hits.size ≤ sizeLine) (hd4 : Vals ([0, 3, 2, 1, 0, 0, 3, 1, 1, 1].map V.int) hits.toList)
    (aC4 : PySem.W.nsIn K mainGlobals "Step" = some (some (.ref C4))) (pg4 : PySem.W.plainGet K C4 Str.empty = true) (hh4 : PySem.W.hasDictIn K C4 = true) (po4 : PySem.W.plainOver K C4 = true) (sa4 : PySem.W.findIn K (.ref C4) "__setattr__" = some (some (.builtin "object.__setattr__"))) (mk4 : PySem.W.makesIn K C4 = true) (kc4 : PySem.W.keepIn K (.ref C4) = true)
    (a400 : PySem.W.findIn K (.ref C4) "__init__" = some (some (.ref f400))) (i400 : PySem.W.isFn K (.ref f400) = true)
    (l400 : K.lookup f400 = some ⟨oc400, od400, .func (PySem.W.fnOf "__init__" "Step.__init__" (defArgs s_Step_init) (defBody s_Step_init) (defScope s_Step_init) .none kV400 dc400 pm400 an400 cd400 ct400), sl400⟩) (c400 : PySem.W.codeIn K cd400 "Step.__init__" = true) (k400 : PySem.W.keepIn K (.ref f400) = true)
    (a401 : PySem.W.findIn K (.ref C4) "doubles" = some (some (.ref f401))) (i401 : PySem.W.isFn K (.ref f401) = true)
    (l401 : K.lookup f401 = some ⟨oc401, od401, .func (PySem.W.fnOf "doubles" "Step.doubles" (defArgs s_Step_doubles) (defBody s_Step_doubles) (defScope s_Step_doubles) .none kV401 dc401 pm401 an401 cd401 ct401), sl401⟩) (c401 : PySem.W.codeIn K cd401 "Step.doubles" = true) (k401 : PySem.W.keepIn K (.ref f401) = true)
    (a402 : PySem.W.findIn K (.ref C4) "can_be_done" = some (some (.ref f402))) (i402 : PySem.W.isFn K (.ref f402) = true)
    (l402 : K.lookup f402 = some ⟨oc402, od402, .func (PySem.W.fnOf "can_be_done" "Step.can_be_done" (defArgs s_Step_can_be_done) (defBody s_Step_can_be_done) (defScope s_Step_can_be_done) .none kV402 dc402 pm402 an402 cd402 ct402), sl402⟩) (c402 : PySem.W.codeIn K cd402 "Step.can_be_done" = true) (k402 : PySem.W.keepIn K (.ref f402) = true)
    (a403 : PySem.W.findIn K (.ref C4) "marks_behind" = some (some (.ref f403))) (i403 : PySem.W.isFn K (.ref f403) = true)
    (l403 : K.lookup f403 = some ⟨oc403, od403, .func (PySem.W.fnOf "marks_behind" "Step.marks_behind" (defArgs s_Step_marks_behind) (defBody s_Step_marks_behind) (defScope s_Step_marks_behind) .none kV403 dc403 pm403 an403 cd403 ct403), sl403⟩) (c403 : PySem.W.codeIn K cd403 "Step.marks_behind" = true) (k403 : PySem.W.keepIn K (.ref f403) = true)
    (n4_takes : PySem.W.findIn K (.ref C4) "takes" = some none)
    (n4_gives : PySem.W.findIn K (.ref C4) "gives" = some none)
    (n4_part : PySem.W.findIn K (.ref C4) "part" = some none)
    (aC14 : PySem.W.nsIn K mainGlobals "Move" = some (some (.ref C14))) (pg14 : PySem.W.plainGet K C14 Str.empty = true) (hh14 : PySem.W.hasDictIn K C14 = true) (po14 : PySem.W.plainOver K C14 = true) (sa14 : PySem.W.findIn K (.ref C14) "__setattr__" = some (some (.builtin "object.__setattr__"))) (mk14 : PySem.W.makesIn K C14 = true) (kc14 : PySem.W.keepIn K (.ref C14) = true)
    (a1400 : PySem.W.findIn K (.ref C14) "__init__" = some (some (.ref f1400))) (i1400 : PySem.W.isFn K (.ref f1400) = true)
    (l1400 : K.lookup f1400 = some ⟨oc1400, od1400, .func (PySem.W.fnOf "__init__" "Move.__init__" (defArgs s_Move_init) (defBody s_Move_init) (defScope s_Move_init) .none kV1400 dc1400 pm1400 an1400 cd1400 ct1400), sl1400⟩) (c1400 : PySem.W.codeIn K cd1400 "Move.__init__" = true) (k1400 : PySem.W.keepIn K (.ref f1400) = true)
    (a1401 : PySem.W.findIn K (.ref C14) "fits" = some (some (.ref f1401))) (i1401 : PySem.W.isFn K (.ref f1401) = true)
    (l1401 : K.lookup f1401 = some ⟨oc1401, od1401, .func (PySem.W.fnOf "fits" "Move.fits" (defArgs s_Move_fits) (defBody s_Move_fits) (defScope s_Move_fits) .none kV1401 dc1401 pm1401 an1401 cd1401 ct1401), sl1401⟩) (c1401 : PySem.W.codeIn K cd1401 "Move.fits" = true) (k1401 : PySem.W.keepIn K (.ref f1401) = true)
    (a1402 : PySem.W.findIn K (.ref C14) "case_behind" = some (some (.ref f1402))) (i1402 : PySem.W.isFn K (.ref f1402) = true)
    (l1402 : K.lookup f1402 = some ⟨oc1402, od1402, .func (PySem.W.fnOf "case_behind" "Move.case_behind" (defArgs s_Move_case_behind) (defBody s_Move_case_behind) (defScope s_Move_case_behind) .none kV1402 dc1402 pm1402 an1402 cd1402 ct1402), sl1402⟩) (c1402 : PySem.W.codeIn K cd1402 "Move.case_behind" = true) (k1402 : PySem.W.keepIn K (.ref f1402) = true)
    (n14_number : PySem.W.findIn K (.ref C14) "number" = some none)
    (n14_who : PySem.W.findIn K (.ref C14) "who" = some none)
    (n14_takes : PySem.W.findIn K (.ref C14) "takes" = some none)
    (n14_bars : PySem.W.findIn K (.ref C14) "bars" = some none)
    (n14_brings : PySem.W.findIn K (.ref C14) "brings" = some none)
    (aC49 : PySem.W.nsIn K mainGlobals "Machine" = some (some (.ref C49))) (pg49 : PySem.W.plainGet K C49 Str.empty = true) (hh49 : PySem.W.hasDictIn K C49 = true) (po49 : PySem.W.plainOver K C49 = true) (sa49 : PySem.W.findIn K (.ref C49) "__setattr__" = some (some (.builtin "object.__setattr__"))) (mk49 : PySem.W.makesIn K C49 = true) (kc49 : PySem.W.keepIn K (.ref C49) = true)
    (a4900 : PySem.W.findIn K (.ref C49) "__init__" = some (some (.ref f4900))) (i4900 : PySem.W.isFn K (.ref f4900) = true)
    (l4900 : K.lookup f4900 = some ⟨oc4900, od4900, .func (PySem.W.fnOf "__init__" "Machine.__init__" (defArgs s_Machine_init) (defBody s_Machine_init) (defScope s_Machine_init) .none kV4900 dc4900 pm4900 an4900 cd4900 ct4900), sl4900⟩) (c4900 : PySem.W.codeIn K cd4900 "Machine.__init__" = true) (k4900 : PySem.W.keepIn K (.ref f4900) = true)
    (a4901 : PySem.W.findIn K (.ref C49) "begin" = some (some (.ref f4901))) (i4901 : PySem.W.isFn K (.ref f4901) = true)
    (l4901 : K.lookup f4901 = some ⟨oc4901, od4901, .func (PySem.W.fnOf "begin" "Machine.begin" (defArgs s_Machine_begin) (defBody s_Machine_begin) (defScope s_Machine_begin) .none kV4901 dc4901 pm4901 an4901 cd4901 ct4901), sl4901⟩) (c4901 : PySem.W.codeIn K cd4901 "Machine.begin" = true) (k4901 : PySem.W.keepIn K (.ref f4901) = true)
    (a4902 : PySem.W.findIn K (.ref C49) "work" = some (some (.ref f4902))) (i4902 : PySem.W.isFn K (.ref f4902) = true)
    (l4902 : K.lookup f4902 = some ⟨oc4902, od4902, .func (PySem.W.fnOf "work" "Machine.work" (defArgs s_Machine_work) (defBody s_Machine_work) (defScope s_Machine_work) .none kV4902 dc4902 pm4902 an4902 cd4902 ct4902), sl4902⟩) (c4902 : PySem.W.codeIn K cd4902 "Machine.work" = true) (k4902 : PySem.W.keepIn K (.ref f4902) = true)
    (a4903 : PySem.W.findIn K (.ref C49) "apart" = some (some (.ref f4903))) (i4903 : PySem.W.isFn K (.ref f4903) = true)
    (l4903 : K.lookup f4903 = some ⟨oc4903, od4903, .func (PySem.W.fnOf "apart" "Machine.apart" (defArgs s_Machine_apart) (defBody s_Machine_apart) (defScope s_Machine_apart) .none kV4903 dc4903 pm4903 an4903 cd4903 ct4903), sl4903⟩) (c4903 : PySem.W.codeIn K cd4903 "Machine.apart" = true) (k4903 : PySem.W.keepIn K (.ref f4903) = true)
    (a4904 : PySem.W.findIn K (.ref C49) "person" = some (some (.ref f4904))) (i4904 : PySem.W.isFn K (.ref f4904) = true)
    (l4904 : K.lookup f4904 = some ⟨oc4904, od4904, .func (PySem.W.fnOf "person" "Machine.person" (defArgs s_Machine_person) (defBody s_Machine_person) (defScope s_Machine_person) .none kV4904 dc4904 pm4904 an4904 cd4904 ct4904), sl4904⟩) (c4904 : PySem.W.codeIn K cd4904 "Machine.person" = true) (k4904 : PySem.W.keepIn K (.ref f4904) = true)
    (a4905 : PySem.W.findIn K (.ref C49) "ready" = some (some (.ref f4905))) (i4905 : PySem.W.isFn K (.ref f4905) = true)
    (l4905 : K.lookup f4905 = some ⟨oc4905, od4905, .func (PySem.W.fnOf "ready" "Machine.ready" (defArgs s_Machine_ready) (defBody s_Machine_ready) (defScope s_Machine_ready) .none kV4905 dc4905 pm4905 an4905 cd4905 ct4905), sl4905⟩) (c4905 : PySem.W.codeIn K cd4905 "Machine.ready" = true) (k4905 : PySem.W.keepIn K (.ref f4905) = true)
    (a4906 : PySem.W.findIn K (.ref C49) "far_of" = some (some (.ref f4906))) (i4906 : PySem.W.isFn K (.ref f4906) = true)
    (l4906 : K.lookup f4906 = some ⟨oc4906, od4906, .func (PySem.W.fnOf "far_of" "Machine.far_of" (defArgs s_Machine_far_of) (defBody s_Machine_far_of) (defScope s_Machine_far_of) .none kV4906 dc4906 pm4906 an4906 cd4906 ct4906), sl4906⟩) (c4906 : PySem.W.codeIn K cd4906 "Machine.far_of" = true) (k4906 : PySem.W.keepIn K (.ref f4906) = true)
    (a4907 : PySem.W.findIn K (.ref C49) "far_of_all" = some (some (.ref f4907))) (i4907 : PySem.W.isFn K (.ref f4907) = true)
    (l4907 : K.lookup f4907 = some ⟨oc4907, od4907, .func (PySem.W.fnOf "far_of_all" "Machine.far_of_all" (defArgs s_Machine_far_of_all) (defBody s_Machine_far_of_all) (defScope s_Machine_far_of_all) .none kV4907 dc4907 pm4907 an4907 cd4907 ct4907), sl4907⟩) (c4907 : PySem.W.codeIn K cd4907 "Machine.far_of_all" = true) (k4907 : PySem.W.keepIn K (.ref f4907) = true)
    (a4908 : PySem.W.findIn K (.ref C49) "open_case" = some (some (.ref f4908))) (i4908 : PySem.W.isFn K (.ref f4908) = true)
    (l4908 : K.lookup f4908 = some ⟨oc4908, od4908, .func (PySem.W.fnOf "open_case" "Machine.open_case" (defArgs s_Machine_open_case) (defBody s_Machine_open_case) (defScope s_Machine_open_case) .none kV4908 dc4908 pm4908 an4908 cd4908 ct4908), sl4908⟩) (c4908 : PySem.W.codeIn K cd4908 "Machine.open_case" = true) (k4908 : PySem.W.keepIn K (.ref f4908) = true)
    (a4909 : PySem.W.findIn K (.ref C49) "do" = some (some (.ref f4909))) (i4909 : PySem.W.isFn K (.ref f4909) = true)
    (l4909 : K.lookup f4909 = some ⟨oc4909, od4909, .func (PySem.W.fnOf "do" "Machine.do" (defArgs s_Machine_do) (defBody s_Machine_do) (defScope s_Machine_do) .none kV4909 dc4909 pm4909 an4909 cd4909 ct4909), sl4909⟩) (c4909 : PySem.W.codeIn K cd4909 "Machine.do" = true) (k4909 : PySem.W.keepIn K (.ref f4909) = true)
    (a4910 : PySem.W.findIn K (.ref C49) "next_step" = some (some (.ref f4910))) (i4910 : PySem.W.isFn K (.ref f4910) = true)
    (l4910 : K.lookup f4910 = some ⟨oc4910, od4910, .func (PySem.W.fnOf "next_step" "Machine.next_step" (defArgs s_Machine_next_step) (defBody s_Machine_next_step) (defScope s_Machine_next_step) .none kV4910 dc4910 pm4910 an4910 cd4910 ct4910), sl4910⟩) (c4910 : PySem.W.codeIn K cd4910 "Machine.next_step" = true) (k4910 : PySem.W.keepIn K (.ref f4910) = true)
    (a4911 : PySem.W.findIn K (.ref C49) "state" = some (some (.ref f4911))) (i4911 : PySem.W.isFn K (.ref f4911) = true)
    (l4911 : K.lookup f4911 = some ⟨oc4911, od4911, .func (PySem.W.fnOf "state" "Machine.state" (defArgs s_Machine_state) (defBody s_Machine_state) (defScope s_Machine_state) .none kV4911 dc4911 pm4911 an4911 cd4911 ct4911), sl4911⟩) (c4911 : PySem.W.codeIn K cd4911 "Machine.state" = true) (k4911 : PySem.W.keepIn K (.ref f4911) = true)
    (a4912 : PySem.W.findIn K (.ref C49) "leave" = some (some (.ref f4912))) (i4912 : PySem.W.isFn K (.ref f4912) = true)
    (l4912 : K.lookup f4912 = some ⟨oc4912, od4912, .func (PySem.W.fnOf "leave" "Machine.leave" (defArgs s_Machine_leave) (defBody s_Machine_leave) (defScope s_Machine_leave) .none kV4912 dc4912 pm4912 an4912 cd4912 ct4912), sl4912⟩) (c4912 : PySem.W.codeIn K cd4912 "Machine.leave" = true) (k4912 : PySem.W.keepIn K (.ref f4912) = true)
    (n49_steps : PySem.W.findIn K (.ref C49) "steps" = some none)
    (n49_told_apart : PySem.W.findIn K (.ref C49) "told_apart" = some none)
    (n49_people : PySem.W.findIn K (.ref C49) "people" = some none)
    (n49_cases : PySem.W.findIn K (.ref C49) "cases" = some none)
    (n49_taken : PySem.W.findIn K (.ref C49) "taken" = some none)
    (n49_told_far : PySem.W.findIn K (.ref C49) "told_far" = some none)
    (a9 : PySem.W.nsIn K mainGlobals "marks_of" = some (some (.ref f9)))
    (l9 : K.lookup f9 = some ⟨oc9, od9, .func (PySem.W.fnOf "marks_of" "marks_of" (defArgs s_marks_of) (defBody s_marks_of) (defScope s_marks_of) .none kV9 dc9 pm9 an9 cd9 ct9), sl9⟩) (c9 : PySem.W.codeIn K cd9 "marks_of" = true) (k9 : PySem.W.keepIn K (.ref f9) = true)
    (a10 : PySem.W.nsIn K mainGlobals "has_ended" = some (some (.ref f10)))
    (l10 : K.lookup f10 = some ⟨oc10, od10, .func (PySem.W.fnOf "has_ended" "has_ended" (defArgs s_has_ended) (defBody s_has_ended) (defScope s_has_ended) .none kV10 dc10 pm10 an10 cd10 ct10), sl10⟩) (c10 : PySem.W.codeIn K cd10 "has_ended" = true) (k10 : PySem.W.keepIn K (.ref f10) = true)
    (a11 : PySem.W.nsIn K mainGlobals "did_bit" = some (some (.ref f11)))
    (l11 : K.lookup f11 = some ⟨oc11, od11, .func (PySem.W.fnOf "did_bit" "did_bit" (defArgs s_did_bit) (defBody s_did_bit) (defScope s_did_bit) .none kV11 dc11 pm11 an11 cd11 ct11), sl11⟩) (c11 : PySem.W.codeIn K cd11 "did_bit" = true) (k11 : PySem.W.keepIn K (.ref f11) = true)
    (a12 : PySem.W.nsIn K mainGlobals "apart_from" = some (some (.ref f12)))
    (l12 : K.lookup f12 = some ⟨oc12, od12, .func (PySem.W.fnOf "apart_from" "apart_from" (defArgs s_apart_from) (defBody s_apart_from) (defScope s_apart_from) .none kV12 dc12 pm12 an12 cd12 ct12), sl12⟩) (c12 : PySem.W.codeIn K cd12 "apart_from" = true) (k12 : PySem.W.keepIn K (.ref f12) = true)
    (a13 : PySem.W.nsIn K mainGlobals "plays" = some (some (.ref f13)))
    (l13 : K.lookup f13 = some ⟨oc13, od13, .func (PySem.W.fnOf "plays" "plays" (defArgs s_plays) (defBody s_plays) (defScope s_plays) .none kV13 dc13 pm13 an13 cd13 ct13), sl13⟩) (c13 : PySem.W.codeIn K cd13 "plays" = true) (k13 : PySem.W.keepIn K (.ref f13) = true)
    (a15 : PySem.W.nsIn K mainGlobals "moves_of" = some (some (.ref f15)))
    (l15 : K.lookup f15 = some ⟨oc15, od15, .func (PySem.W.fnOf "moves_of" "moves_of" (defArgs s_moves_of) (defBody s_moves_of) (defScope s_moves_of) .none kV15 dc15 pm15 an15 cd15 ct15), sl15⟩) (c15 : PySem.W.codeIn K cd15 "moves_of" = true) (k15 : PySem.W.keepIn K (.ref f15) = true)
    (a19 : PySem.W.nsIn K mainGlobals "those_that_come" = some (some (.ref f19)))
    (l19 : K.lookup f19 = some ⟨oc19, od19, .func (PySem.W.fnOf "those_that_come" "those_that_come" (defArgs s_those_that_come) (defBody s_those_that_come) (defScope s_those_that_come) .none kV19 dc19 pm19 an19 cd19 ct19), sl19⟩) (c19 : PySem.W.codeIn K cd19 "those_that_come" = true) (k19 : PySem.W.keepIn K (.ref f19) = true)
    (a20 : PySem.W.nsIn K mainGlobals "how_far" = some (some (.ref f20)))
    (l20 : K.lookup f20 = some ⟨oc20, od20, .func (PySem.W.fnOf "how_far" "how_far" (defArgs s_how_far) (defBody s_how_far) (defScope s_how_far) .none kV20 dc20 pm20 an20 cd20 ct20), sl20⟩) (c20 : PySem.W.codeIn K cd20 "how_far" = true) (k20 : PySem.W.keepIn K (.ref f20) = true)
    (a22 : PySem.W.nsIn K mainGlobals "one_step_more" = some (some (.ref f22)))
    (l22 : K.lookup f22 = some ⟨oc22, od22, .func (PySem.W.fnOf "one_step_more" "one_step_more" (defArgs s_one_step_more) (defBody s_one_step_more) (defScope s_one_step_more) .none kV22 dc22 pm22 an22 cd22 ct22), sl22⟩) (c22 : PySem.W.codeIn K cd22 "one_step_more" = true) (k22 : PySem.W.keepIn K (.ref f22) = true)
    (a23 : PySem.W.nsIn K mainGlobals "all_marks" = some (some (.ref f23)))
    (l23 : K.lookup f23 = some ⟨oc23, od23, .func (PySem.W.fnOf "all_marks" "all_marks" (defArgs s_all_marks) (defBody s_all_marks) (defScope s_all_marks) .none kV23 dc23 pm23 an23 cd23 ct23), sl23⟩) (c23 : PySem.W.codeIn K cd23 "all_marks" = true) (k23 : PySem.W.keepIn K (.ref f23) = true)
    (a24 : PySem.W.nsIn K mainGlobals "those_ahead" = some (some (.ref f24)))
    (l24 : K.lookup f24 = some ⟨oc24, od24, .func (PySem.W.fnOf "those_ahead" "those_ahead" (defArgs s_those_ahead) (defBody s_those_ahead) (defScope s_those_ahead) .none kV24 dc24 pm24 an24 cd24 ct24), sl24⟩) (c24 : PySem.W.codeIn K cd24 "those_ahead" = true) (k24 : PySem.W.keepIn K (.ref f24) = true)
    (a25 : PySem.W.nsIn K mainGlobals "marks_that_can_end" = some (some (.ref f25)))
    (l25 : K.lookup f25 = some ⟨oc25, od25, .func (PySem.W.fnOf "marks_that_can_end" "marks_that_can_end" (defArgs s_marks_that_can_end) (defBody s_marks_that_can_end) (defScope s_marks_that_can_end) .none kV25 dc25 pm25 an25 cd25 ct25), sl25⟩) (c25 : PySem.W.codeIn K cd25 "marks_that_can_end" = true) (k25 : PySem.W.keepIn K (.ref f25) = true)
    (a26 : PySem.W.nsIn K mainGlobals "doubles_somewhere" = some (some (.ref f26)))
    (l26 : K.lookup f26 = some ⟨oc26, od26, .func (PySem.W.fnOf "doubles_somewhere" "doubles_somewhere" (defArgs s_doubles_somewhere) (defBody s_doubles_somewhere) (defScope s_doubles_somewhere) .none kV26 dc26 pm26 an26 cd26 ct26), sl26⟩) (c26 : PySem.W.codeIn K cd26 "doubles_somewhere" = true) (k26 : PySem.W.keepIn K (.ref f26) = true)
    (a27 : PySem.W.nsIn K mainGlobals "is_done_somewhere" = some (some (.ref f27)))
    (l27 : K.lookup f27 = some ⟨oc27, od27, .func (PySem.W.fnOf "is_done_somewhere" "is_done_somewhere" (defArgs s_is_done_somewhere) (defBody s_is_done_somewhere) (defScope s_is_done_somewhere) .none kV27 dc27 pm27 an27 cd27 ct27), sl27⟩) (c27 : PySem.W.codeIn K cd27 "is_done_somewhere" = true) (k27 : PySem.W.keepIn K (.ref f27) = true)
    (a28 : PySem.W.nsIn K mainGlobals "doubling_steps" = some (some (.ref f28)))
    (l28 : K.lookup f28 = some ⟨oc28, od28, .func (PySem.W.fnOf "doubling_steps" "doubling_steps" (defArgs s_doubling_steps) (defBody s_doubling_steps) (defScope s_doubling_steps) .none kV28 dc28 pm28 an28 cd28 ct28), sl28⟩) (c28 : PySem.W.codeIn K cd28 "doubling_steps" = true) (k28 : PySem.W.keepIn K (.ref f28) = true)
    (a29 : PySem.W.nsIn K mainGlobals "stuck_marks" = some (some (.ref f29)))
    (l29 : K.lookup f29 = some ⟨oc29, od29, .func (PySem.W.fnOf "stuck_marks" "stuck_marks" (defArgs s_stuck_marks) (defBody s_stuck_marks) (defScope s_stuck_marks) .none kV29 dc29 pm29 an29 cd29 ct29), sl29⟩) (c29 : PySem.W.codeIn K cd29 "stuck_marks" = true) (k29 : PySem.W.keepIn K (.ref f29) = true)
    (a30 : PySem.W.nsIn K mainGlobals "crowded_ends" = some (some (.ref f30)))
    (l30 : K.lookup f30 = some ⟨oc30, od30, .func (PySem.W.fnOf "crowded_ends" "crowded_ends" (defArgs s_crowded_ends) (defBody s_crowded_ends) (defScope s_crowded_ends) .none kV30 dc30 pm30 an30 cd30 ct30), sl30⟩) (c30 : PySem.W.codeIn K cd30 "crowded_ends" = true) (k30 : PySem.W.keepIn K (.ref f30) = true)
    (a31 : PySem.W.nsIn K mainGlobals "idle_steps" = some (some (.ref f31)))
    (l31 : K.lookup f31 = some ⟨oc31, od31, .func (PySem.W.fnOf "idle_steps" "idle_steps" (defArgs s_idle_steps) (defBody s_idle_steps) (defScope s_idle_steps) .none kV31 dc31 pm31 an31 cd31 ct31), sl31⟩) (c31 : PySem.W.codeIn K cd31 "idle_steps" = true) (k31 : PySem.W.keepIn K (.ref f31) = true)
    (a32 : PySem.W.nsIn K mainGlobals "first_fault" = some (some (.ref f32)))
    (l32 : K.lookup f32 = some ⟨oc32, od32, .func (PySem.W.fnOf "first_fault" "first_fault" (defArgs s_first_fault) (defBody s_first_fault) (defScope s_first_fault) .none kV32 dc32 pm32 an32 cd32 ct32), sl32⟩) (c32 : PySem.W.codeIn K cd32 "first_fault" = true) (k32 : PySem.W.keepIn K (.ref f32) = true)
    (a47 : PySem.W.nsIn K mainGlobals "is_some_places" = some (some (.ref f47)))
    (l47 : K.lookup f47 = some ⟨oc47, od47, .func (PySem.W.fnOf "is_some_places" "is_some_places" (defArgs s_is_some_places) (defBody s_is_some_places) (defScope s_is_some_places) .none kV47 dc47 pm47 an47 cd47 ct47), sl47⟩) (c47 : PySem.W.codeIn K cd47 "is_some_places" = true) (k47 : PySem.W.keepIn K (.ref f47) = true)
    (a48 : PySem.W.nsIn K mainGlobals "is_a_step" = some (some (.ref f48)))
    (l48 : K.lookup f48 = some ⟨oc48, od48, .func (PySem.W.fnOf "is_a_step" "is_a_step" (defArgs s_is_a_step) (defBody s_is_a_step) (defScope s_is_a_step) .none kV48 dc48 pm48 an48 cd48 ct48), sl48⟩) (c48 : PySem.W.codeIn K cd48 "is_a_step" = true) (k48 : PySem.W.keepIn K (.ref f48) = true)
    (a61 : PySem.W.nsIn K mainGlobals "answer_on_cases" = some (some (.ref f61)))
    (l61 : K.lookup f61 = some ⟨oc61, od61, .func (PySem.W.fnOf "answer_on_cases" "answer_on_cases" (defArgs s_answer_on_cases) (defBody s_answer_on_cases) (defScope s_answer_on_cases) .none kV61 dc61 pm61 an61 cd61 ct61), sl61⟩) (c61 : PySem.W.codeIn K cd61 "answer_on_cases" = true) (k61 : PySem.W.keepIn K (.ref f61) = true)
    (a62 : PySem.W.nsIn K mainGlobals "answer" = some (some (.ref f62)))
    (l62 : K.lookup f62 = some ⟨oc62, od62, .func (PySem.W.fnOf "answer" "answer" (defArgs s_answer) (defBody s_answer) (defScope s_answer) .none kV62 dc62 pm62 an62 cd62 ct62), sl62⟩) (c62 : PySem.W.codeIn K cd62 "answer" = true) (k62 : PySem.W.keepIn K (.ref f62) = true)
    (a63 : PySem.W.nsIn K mainGlobals "answers" = some (some (.ref f63)))
    (l63 : K.lookup f63 = some ⟨oc63, od63, .func (PySem.W.fnOf "answers" "answers" (defArgs s_answers) (defBody s_answers) (defScope s_answers) .none kV63 dc63 pm63 an63 cd63 ct63), sl63⟩) (c63 : PySem.W.codeIn K cd63 "answers" = true) (k63 : PySem.W.keepIn K (.ref f63) = true)
    : ∃ fd : FuncData, (∀ (s : Shared) (us : List Value), us.length = (["calls"] : List Str).length → BindsTo s fd ⟨us, []⟩ ((["calls"] : List Str).zip us)) ∧ ∀ base : Heap, K.In base → base.Ns mainGlobals mg → FnOk P w K mg base CX0 10 fa fd ["calls"] (spAnswers K) := by
  have e := hfa.symm.trans (PySem.W.mg_of X G a63)
  cases e
  have T : Txt K mg ⟨fun n => match n with | 4 => C4 | 14 => C14 | 49 => C49 | _ => C4, fun n => match n with | 400 => f400 | 401 => f401 | 402 => f402 | 403 => f403 | 1400 => f1400 | 1401 => f1401 | 1402 => f1402 | 4900 => f4900 | 4901 => f4901 | 4902 => f4902 | 4903 => f4903 | 4904 => f4904 | 4905 => f4905 | 4906 => f4906 | 4907 => f4907 | 4908 => f4908 | 4909 => f4909 | 4910 => f4910 | 4911 => f4911 | 4912 => f4912 | 9 => f9 | 10 => f10 | 11 => f11 | 12 => f12 | 13 => f13 | 15 => f15 | 19 => f19 | 20 => f20 | 22 => f22 | 23 => f23 | 24 => f24 | 25 => f25 | 26 => f26 | 27 => f27 | 28 => f28 | 29 => f29 | 30 => f30 | 31 => f31 | 32 => f32 | 47 => f47 | 48 => f48 | 61 => f61 | 62 => f62 | 63 => fa | _ => fa, fun n => match n with | 400 => PySem.W.fnOf "__init__" "Step.__init__" (defArgs s_Step_init) (defBody s_Step_init) (defScope s_Step_init) .none kV400 dc400 pm400 an400 cd400 ct400 | 401 => PySem.W.fnOf "doubles" "Step.doubles" (defArgs s_Step_doubles) (defBody s_Step_doubles) (defScope s_Step_doubles) .none kV401 dc401 pm401 an401 cd401 ct401 | 402 => PySem.W.fnOf "can_be_done" "Step.can_be_done" (defArgs s_Step_can_be_done) (defBody s_Step_can_be_done) (defScope s_Step_can_be_done) .none kV402 dc402 pm402 an402 cd402 ct402 | 403 => PySem.W.fnOf "marks_behind" "Step.marks_behind" (defArgs s_Step_marks_behind) (defBody s_Step_marks_behind) (defScope s_Step_marks_behind) .none kV403 dc403 pm403 an403 cd403 ct403 | 1400 => PySem.W.fnOf "__init__" "Move.__init__" (defArgs s_Move_init) (defBody s_Move_init) (defScope s_Move_init) .none kV1400 dc1400 pm1400 an1400 cd1400 ct1400 | 1401 => PySem.W.fnOf "fits" "Move.fits" (defArgs s_Move_fits) (defBody s_Move_fits) (defScope s_Move_fits) .none kV1401 dc1401 pm1401 an1401 cd1401 ct1401 | 1402 => PySem.W.fnOf "case_behind" "Move.case_behind" (defArgs s_Move_case_behind) (defBody s_Move_case_behind) (defScope s_Move_case_behind) .none kV1402 dc1402 pm1402 an1402 cd1402 ct1402 | 4900 => PySem.W.fnOf "__init__" "Machine.__init__" (defArgs s_Machine_init) (defBody s_Machine_init) (defScope s_Machine_init) .none kV4900 dc4900 pm4900 an4900 cd4900 ct4900 | 4901 => PySem.W.fnOf "begin" "Machine.begin" (defArgs s_Machine_begin) (defBody s_Machine_begin) (defScope s_Machine_begin) .none kV4901 dc4901 pm4901 an4901 cd4901 ct4901 | 4902 => PySem.W.fnOf "work" "Machine.work" (defArgs s_Machine_work) (defBody s_Machine_work) (defScope s_Machine_work) .none kV4902 dc4902 pm4902 an4902 cd4902 ct4902 | 4903 => PySem.W.fnOf "apart" "Machine.apart" (defArgs s_Machine_apart) (defBody s_Machine_apart) (defScope s_Machine_apart) .none kV4903 dc4903 pm4903 an4903 cd4903 ct4903 | 4904 => PySem.W.fnOf "person" "Machine.person" (defArgs s_Machine_person) (defBody s_Machine_person) (defScope s_Machine_person) .none kV4904 dc4904 pm4904 an4904 cd4904 ct4904 | 4905 => PySem.W.fnOf "ready" "Machine.ready" (defArgs s_Machine_ready) (defBody s_Machine_ready) (defScope s_Machine_ready) .none kV4905 dc4905 pm4905 an4905 cd4905 ct4905 | 4906 => PySem.W.fnOf "far_of" "Machine.far_of" (defArgs s_Machine_far_of) (defBody s_Machine_far_of) (defScope s_Machine_far_of) .none kV4906 dc4906 pm4906 an4906 cd4906 ct4906 | 4907 => PySem.W.fnOf "far_of_all" "Machine.far_of_all" (defArgs s_Machine_far_of_all) (defBody s_Machine_far_of_all) (defScope s_Machine_far_of_all) .none kV4907 dc4907 pm4907 an4907 cd4907 ct4907 | 4908 => PySem.W.fnOf "open_case" "Machine.open_case" (defArgs s_Machine_open_case) (defBody s_Machine_open_case) (defScope s_Machine_open_case) .none kV4908 dc4908 pm4908 an4908 cd4908 ct4908 | 4909 => PySem.W.fnOf "do" "Machine.do" (defArgs s_Machine_do) (defBody s_Machine_do) (defScope s_Machine_do) .none kV4909 dc4909 pm4909 an4909 cd4909 ct4909 | 4910 => PySem.W.fnOf "next_step" "Machine.next_step" (defArgs s_Machine_next_step) (defBody s_Machine_next_step) (defScope s_Machine_next_step) .none kV4910 dc4910 pm4910 an4910 cd4910 ct4910 | 4911 => PySem.W.fnOf "state" "Machine.state" (defArgs s_Machine_state) (defBody s_Machine_state) (defScope s_Machine_state) .none kV4911 dc4911 pm4911 an4911 cd4911 ct4911 | 4912 => PySem.W.fnOf "leave" "Machine.leave" (defArgs s_Machine_leave) (defBody s_Machine_leave) (defScope s_Machine_leave) .none kV4912 dc4912 pm4912 an4912 cd4912 ct4912 | 9 => PySem.W.fnOf "marks_of" "marks_of" (defArgs s_marks_of) (defBody s_marks_of) (defScope s_marks_of) .none kV9 dc9 pm9 an9 cd9 ct9 | 10 => PySem.W.fnOf "has_ended" "has_ended" (defArgs s_has_ended) (defBody s_has_ended) (defScope s_has_ended) .none kV10 dc10 pm10 an10 cd10 ct10 | 11 => PySem.W.fnOf "did_bit" "did_bit" (defArgs s_did_bit) (defBody s_did_bit) (defScope s_did_bit) .none kV11 dc11 pm11 an11 cd11 ct11 | 12 => PySem.W.fnOf "apart_from" "apart_from" (defArgs s_apart_from) (defBody s_apart_from) (defScope s_apart_from) .none kV12 dc12 pm12 an12 cd12 ct12 | 13 => PySem.W.fnOf "plays" "plays" (defArgs s_plays) (defBody s_plays) (defScope s_plays) .none kV13 dc13 pm13 an13 cd13 ct13 | 15 => PySem.W.fnOf "moves_of" "moves_of" (defArgs s_moves_of) (defBody s_moves_of) (defScope s_moves_of) .none kV15 dc15 pm15 an15 cd15 ct15 | 19 => PySem.W.fnOf "those_that_come" "those_that_come" (defArgs s_those_that_come) (defBody s_those_that_come) (defScope s_those_that_come) .none kV19 dc19 pm19 an19 cd19 ct19 | 20 => PySem.W.fnOf "how_far" "how_far" (defArgs s_how_far) (defBody s_how_far) (defScope s_how_far) .none kV20 dc20 pm20 an20 cd20 ct20 | 22 => PySem.W.fnOf "one_step_more" "one_step_more" (defArgs s_one_step_more) (defBody s_one_step_more) (defScope s_one_step_more) .none kV22 dc22 pm22 an22 cd22 ct22 | 23 => PySem.W.fnOf "all_marks" "all_marks" (defArgs s_all_marks) (defBody s_all_marks) (defScope s_all_marks) .none kV23 dc23 pm23 an23 cd23 ct23 | 24 => PySem.W.fnOf "those_ahead" "those_ahead" (defArgs s_those_ahead) (defBody s_those_ahead) (defScope s_those_ahead) .none kV24 dc24 pm24 an24 cd24 ct24 | 25 => PySem.W.fnOf "marks_that_can_end" "marks_that_can_end" (defArgs s_marks_that_can_end) (defBody s_marks_that_can_end) (defScope s_marks_that_can_end) .none kV25 dc25 pm25 an25 cd25 ct25 | 26 => PySem.W.fnOf "doubles_somewhere" "doubles_somewhere" (defArgs s_doubles_somewhere) (defBody s_doubles_somewhere) (defScope s_doubles_somewhere) .none kV26 dc26 pm26 an26 cd26 ct26 | 27 => PySem.W.fnOf "is_done_somewhere" "is_done_somewhere" (defArgs s_is_done_somewhere) (defBody s_is_done_somewhere) (defScope s_is_done_somewhere) .none kV27 dc27 pm27 an27 cd27 ct27 | 28 => PySem.W.fnOf "doubling_steps" "doubling_steps" (defArgs s_doubling_steps) (defBody s_doubling_steps) (defScope s_doubling_steps) .none kV28 dc28 pm28 an28 cd28 ct28 | 29 => PySem.W.fnOf "stuck_marks" "stuck_marks" (defArgs s_stuck_marks) (defBody s_stuck_marks) (defScope s_stuck_marks) .none kV29 dc29 pm29 an29 cd29 ct29 | 30 => PySem.W.fnOf "crowded_ends" "crowded_ends" (defArgs s_crowded_ends) (defBody s_crowded_ends) (defScope s_crowded_ends) .none kV30 dc30 pm30 an30 cd30 ct30 | 31 => PySem.W.fnOf "idle_steps" "idle_steps" (defArgs s_idle_steps) (defBody s_idle_steps) (defScope s_idle_steps) .none kV31 dc31 pm31 an31 cd31 ct31 | 32 => PySem.W.fnOf "first_fault" "first_fault" (defArgs s_first_fault) (defBody s_first_fault) (defScope s_first_fault) .none kV32 dc32 pm32 an32 cd32 ct32 | 47 => PySem.W.fnOf "is_some_places" "is_some_places" (defArgs s_is_some_places) (defBody s_is_some_places) (defScope s_is_some_places) .none kV47 dc47 pm47 an47 cd47 ct47 | 48 => PySem.W.fnOf "is_a_step" "is_a_step" (defArgs s_is_a_step) (defBody s_is_a_step) (defScope s_is_a_step) .none kV48 dc48 pm48 an48 cd48 ct48 | 61 => PySem.W.fnOf "answer_on_cases" "answer_on_cases" (defArgs s_answer_on_cases) (defBody s_answer_on_cases) (defScope s_answer_on_cases) .none kV61 dc61 pm61 an61 cd61 ct61 | 62 => PySem.W.fnOf "answer" "answer" (defArgs s_answer) (defBody s_answer) (defScope s_answer) .none kV62 dc62 pm62 an62 cd62 ct62 | 63 => PySem.W.fnOf "answers" "answers" (defArgs s_answers) (defBody s_answers) (defScope s_answers) .none kV63 dc63 pm63 an63 cd63 ct63 | _ => PySem.W.fnOf "answers" "answers" (defArgs s_answers) (defBody s_answers) (defScope s_answers) .none kV63 dc63 pm63 an63 cd63 ct63, hA⟩ := {
    c_BEGINNING := ⟨_, PySem.W.mg_of X G c_BEGINNING⟩
    c_END := ⟨_, PySem.W.mg_of X G c_END⟩
    c_MOST_TOGETHER := ⟨_, PySem.W.mg_of X G c_MOST_TOGETHER⟩
    c_ALL_PLACES := ⟨_, PySem.W.mg_of X G c_ALL_PLACES⟩
    c_PLACES := ⟨_, PySem.W.mg_of X G c_PLACES⟩
    c_MOST_PEOPLE := ⟨_, PySem.W.mg_of X G c_MOST_PEOPLE⟩
    c_COULD_NOT_END := ⟨_, PySem.W.mg_of X G c_COULD_NOT_END⟩
    c_TOO_MANY_TO_TELL := ⟨_, PySem.W.mg_of X G c_TOO_MANY_TO_TELL⟩
    c_MAY_NOT := ⟨_, PySem.W.mg_of X G c_MAY_NOT⟩
    c_NO_SUCH := ⟨_, PySem.W.mg_of X G c_NO_SUCH⟩
    c_CANNOT_BE_DONE := ⟨_, PySem.W.mg_of X G c_CANNOT_BE_DONE⟩
    c_IS_TAKEN := ⟨_, PySem.W.mg_of X G c_IS_TAKEN⟩
    c_NOT_TAKEN := ⟨_, PySem.W.mg_of X G c_NOT_TAKEN⟩
    c_DID_ONE_APART := ⟨_, PySem.W.mg_of X G c_DID_ONE_APART⟩
    c_NOT_SO := ⟨_, PySem.W.mg_of X G c_NOT_SO⟩
    c_TOO_MANY := ⟨_, PySem.W.mg_of X G c_TOO_MANY⟩
    c_MOST_BITS := ⟨_, PySem.W.mg_of X G c_MOST_BITS⟩
    c_MOST_PART := ⟨_, PySem.W.mg_of X G c_MOST_PART⟩
    c_MOST_STEPS := ⟨_, PySem.W.mg_of X G c_MOST_STEPS⟩
    c_MOST_TOLD_APART := ⟨_, PySem.W.mg_of X G c_MOST_TOLD_APART⟩
    c_MOST_CASES := ⟨_, PySem.W.mg_of X G c_MOST_CASES⟩
    c_BEGIN := ⟨_, PySem.W.mg_of X G c_BEGIN⟩
    c_WORK := ⟨_, PySem.W.mg_of X G c_WORK⟩
    c_APART := ⟨_, PySem.W.mg_of X G c_APART⟩
    c_PERSON := ⟨_, PySem.W.mg_of X G c_PERSON⟩
    c_READY := ⟨_, PySem.W.mg_of X G c_READY⟩
    c_OPEN := ⟨_, PySem.W.mg_of X G c_OPEN⟩
    c_DO := ⟨_, PySem.W.mg_of X G c_DO⟩
    c_NEXT := ⟨_, PySem.W.mg_of X G c_NEXT⟩
    c_STATE := ⟨_, PySem.W.mg_of X G c_STATE⟩
    b_len := PySem.W.mg_none_of X G b_len
    b_enumerate := PySem.W.mg_none_of X G b_enumerate
    b_min := PySem.W.mg_none_of X G b_min
    b_max := PySem.W.mg_none_of X G b_max
    b_tuple := PySem.W.mg_none_of X G b_tuple
    b_list := PySem.W.mg_none_of X G b_list
    handed := PySem.W.mg_of X G hd1
    handedAt := fun _ => .inr ⟨_, hits, hn, hd2, rfl, rfl, hd3, hd4⟩
    cl_Step := ⟨pg4, hh4, po4, sa4⟩
    mg_Step := PySem.W.mg_of X G aC4
    mk_Step := ⟨mk4, a400, i400, kc4⟩
    in_Step := fun_mk (st := s_Step_init) l400 c400 k400
    bi_Step := (fun_mk l400 c400 k400).binds (ps := ["self", "takes", "gives", "part"]) fun _ _ _ _ _ _ us hl => len4 us hl fun _ _ _ _ => rfl
    n_Step_takes := n4_takes
    n_Step_gives := n4_gives
    n_Step_part := n4_part
    m_Step_doubles := ⟨fun_mk (st := s_Step_doubles) l401 c401 k401, ⟨a401, i401, k401⟩, (fun_mk l401 c401 k401).binds (ps := ["self", "marks"]) fun _ _ _ _ _ _ us hl => len2 us hl fun _ _ => rfl⟩
    m_Step_can_be_done := ⟨fun_mk (st := s_Step_can_be_done) l402 c402 k402, ⟨a402, i402, k402⟩, (fun_mk l402 c402 k402).binds (ps := ["self", "marks"]) fun _ _ _ _ _ _ us hl => len2 us hl fun _ _ => rfl⟩
    m_Step_marks_behind := ⟨fun_mk (st := s_Step_marks_behind) l403 c403 k403, ⟨a403, i403, k403⟩, (fun_mk l403 c403 k403).binds (ps := ["self", "marks"]) fun _ _ _ _ _ _ us hl => len2 us hl fun _ _ => rfl⟩
    cl_Move := ⟨pg14, hh14, po14, sa14⟩
    mg_Move := PySem.W.mg_of X G aC14
    mk_Move := ⟨mk14, a1400, i1400, kc14⟩
    in_Move := fun_mk (st := s_Move_init) l1400 c1400 k1400
    bi_Move := (fun_mk l1400 c1400 k1400).binds (ps := ["self", "number", "who", "step", "others"]) fun _ _ _ _ _ _ us hl => len5 us hl fun _ _ _ _ _ => rfl
    n_Move_number := n14_number
    n_Move_who := n14_who
    n_Move_takes := n14_takes
    n_Move_bars := n14_bars
    n_Move_brings := n14_brings
    m_Move_fits := ⟨fun_mk (st := s_Move_fits) l1401 c1401 k1401, ⟨a1401, i1401, k1401⟩, (fun_mk l1401 c1401 k1401).binds (ps := ["self", "case"]) fun _ _ _ _ _ _ us hl => len2 us hl fun _ _ => rfl⟩
    m_Move_case_behind := ⟨fun_mk (st := s_Move_case_behind) l1402 c1402 k1402, ⟨a1402, i1402, k1402⟩, (fun_mk l1402 c1402 k1402).binds (ps := ["self", "case"]) fun _ _ _ _ _ _ us hl => len2 us hl fun _ _ => rfl⟩
    cl_Machine := ⟨pg49, hh49, po49, sa49⟩
    mg_Machine := PySem.W.mg_of X G aC49
    mk_Machine := ⟨mk49, a4900, i4900, kc49⟩
    in_Machine := fun_mk (st := s_Machine_init) l4900 c4900 k4900
    bi_Machine := (fun_mk l4900 c4900 k4900).binds (ps := ["self"]) fun _ _ _ _ _ _ us hl => len1 us hl fun _ => rfl
    n_Machine_steps := n49_steps
    n_Machine_told_apart := n49_told_apart
    n_Machine_people := n49_people
    n_Machine_cases := n49_cases
    n_Machine_taken := n49_taken
    n_Machine_told_far := n49_told_far
    m_Machine_begin := ⟨fun_mk (st := s_Machine_begin) l4901 c4901 k4901, ⟨a4901, i4901, k4901⟩, (fun_mk l4901 c4901 k4901).binds (ps := ["self"]) fun _ _ _ _ _ _ us hl => len1 us hl fun _ => rfl⟩
    m_Machine_work := ⟨fun_mk (st := s_Machine_work) l4902 c4902 k4902, ⟨a4902, i4902, k4902⟩, (fun_mk l4902 c4902 k4902).binds (ps := ["self", "takes", "gives", "part"]) fun _ _ _ _ _ _ us hl => len4 us hl fun _ _ _ _ => rfl⟩
    m_Machine_apart := ⟨fun_mk (st := s_Machine_apart) l4903 c4903 k4903, ⟨a4903, i4903, k4903⟩, (fun_mk l4903 c4903 k4903).binds (ps := ["self", "a", "b"]) fun _ _ _ _ _ _ us hl => len3 us hl fun _ _ _ => rfl⟩
    m_Machine_person := ⟨fun_mk (st := s_Machine_person) l4904 c4904 k4904, ⟨a4904, i4904, k4904⟩, (fun_mk l4904 c4904 k4904).binds (ps := ["self", "parts"]) fun _ _ _ _ _ _ us hl => len2 us hl fun _ _ => rfl⟩
    m_Machine_ready := ⟨fun_mk (st := s_Machine_ready) l4905 c4905 k4905, ⟨a4905, i4905, k4905⟩, (fun_mk l4905 c4905 k4905).binds (ps := ["self"]) fun _ _ _ _ _ _ us hl => len1 us hl fun _ => rfl⟩
    m_Machine_far_of := ⟨fun_mk (st := s_Machine_far_of) l4906 c4906 k4906, ⟨a4906, i4906, k4906⟩, (fun_mk l4906 c4906 k4906).binds (ps := ["self", "case", "people"]) fun _ _ _ _ _ _ us hl => len3 us hl fun _ _ _ => rfl⟩
    m_Machine_far_of_all := ⟨fun_mk (st := s_Machine_far_of_all) l4907 c4907 k4907, ⟨a4907, i4907, k4907⟩, (fun_mk l4907 c4907 k4907).binds (ps := ["self", "people"]) fun _ _ _ _ _ _ us hl => len2 us hl fun _ _ => rfl⟩
    m_Machine_open_case := ⟨fun_mk (st := s_Machine_open_case) l4908 c4908 k4908, ⟨a4908, i4908, k4908⟩, (fun_mk l4908 c4908 k4908).binds (ps := ["self"]) fun _ _ _ _ _ _ us hl => len1 us hl fun _ => rfl⟩
    m_Machine_do := ⟨fun_mk (st := s_Machine_do) l4909 c4909 k4909, ⟨a4909, i4909, k4909⟩, (fun_mk l4909 c4909 k4909).binds (ps := ["self", "k", "step", "person"]) fun _ _ _ _ _ _ us hl => len4 us hl fun _ _ _ _ => rfl⟩
    m_Machine_next_step := ⟨fun_mk (st := s_Machine_next_step) l4910 c4910 k4910, ⟨a4910, i4910, k4910⟩, (fun_mk l4910 c4910 k4910).binds (ps := ["self", "k"]) fun _ _ _ _ _ _ us hl => len2 us hl fun _ _ => rfl⟩
    m_Machine_state := ⟨fun_mk (st := s_Machine_state) l4911 c4911 k4911, ⟨a4911, i4911, k4911⟩, (fun_mk l4911 c4911 k4911).binds (ps := ["self", "k"]) fun _ _ _ _ _ _ us hl => len2 us hl fun _ _ => rfl⟩
    m_Machine_leave := ⟨fun_mk (st := s_Machine_leave) l4912 c4912 k4912, ⟨a4912, i4912, k4912⟩, (fun_mk l4912 c4912 k4912).binds (ps := ["self", "person"]) fun _ _ _ _ _ _ us hl => len2 us hl fun _ _ => rfl⟩
    g_marks_of := ⟨fun_mk (st := s_marks_of) l9 c9 k9, PySem.W.mg_of X G a9, (fun_mk l9 c9 k9).binds (ps := ["case"]) fun _ _ _ _ _ _ us hl => len1 us hl fun _ => rfl⟩
    g_has_ended := ⟨fun_mk (st := s_has_ended) l10 c10 k10, PySem.W.mg_of X G a10, (fun_mk l10 c10 k10).binds (ps := ["case"]) fun _ _ _ _ _ _ us hl => len1 us hl fun _ => rfl⟩
    g_did_bit := ⟨fun_mk (st := s_did_bit) l11 c11 k11, PySem.W.mg_of X G a11, (fun_mk l11 c11 k11).binds (ps := ["number", "who"]) fun _ _ _ _ _ _ us hl => len2 us hl fun _ _ => rfl⟩
    g_apart_from := ⟨fun_mk (st := s_apart_from) l12 c12 k12, PySem.W.mg_of X G a12, (fun_mk l12 c12 k12).binds (ps := ["number", "told_apart"]) fun _ _ _ _ _ _ us hl => len2 us hl fun _ _ => rfl⟩
    g_plays := ⟨fun_mk (st := s_plays) l13 c13 k13, PySem.W.mg_of X G a13, (fun_mk l13 c13 k13).binds (ps := ["parts", "part"]) fun _ _ _ _ _ _ us hl => len2 us hl fun _ _ => rfl⟩
    g_moves_of := ⟨fun_mk (st := s_moves_of) l15 c15 k15, PySem.W.mg_of X G a15, (fun_mk l15 c15 k15).binds (ps := ["people", "steps", "told_apart"]) fun _ _ _ _ _ _ us hl => len3 us hl fun _ _ _ => rfl⟩
    g_those_that_come := ⟨fun_mk (st := s_those_that_come) l19 c19 k19, PySem.W.mg_of X G a19, (fun_mk l19 c19 k19).binds (ps := ["moves", "newest", "begun_by"]) fun _ _ _ _ _ _ us hl => len3 us hl fun _ _ _ => rfl⟩
    g_how_far := ⟨fun_mk (st := s_how_far) l20 c20 k20, PySem.W.mg_of X G a20, (fun_mk l20 c20 k20).binds (ps := ["moves", "case"]) fun _ _ _ _ _ _ us hl => len2 us hl fun _ _ => rfl⟩
    g_one_step_more := ⟨fun_mk (st := s_one_step_more) l22 c22 k22, PySem.W.mg_of X G a22, (fun_mk l22 c22 k22).binds (ps := ["steps", "marks"]) fun _ _ _ _ _ _ us hl => len2 us hl fun _ _ => rfl⟩
    g_all_marks := ⟨fun_mk (st := s_all_marks) l23 c23 k23, PySem.W.mg_of X G a23, (fun_mk l23 c23 k23).binds (ps := ["steps"]) fun _ _ _ _ _ _ us hl => len1 us hl fun _ => rfl⟩
    g_those_ahead := ⟨fun_mk (st := s_those_ahead) l24 c24 k24, PySem.W.mg_of X G a24, (fun_mk l24 c24 k24).binds (ps := ["behind"]) fun _ _ _ _ _ _ us hl => len1 us hl fun _ => rfl⟩
    g_marks_that_can_end := ⟨fun_mk (st := s_marks_that_can_end) l25 c25 k25, PySem.W.mg_of X G a25, (fun_mk l25 c25 k25).binds (ps := ["behind"]) fun _ _ _ _ _ _ us hl => len1 us hl fun _ => rfl⟩
    g_doubles_somewhere := ⟨fun_mk (st := s_doubles_somewhere) l26 c26 k26, PySem.W.mg_of X G a26, (fun_mk l26 c26 k26).binds (ps := ["step", "behind"]) fun _ _ _ _ _ _ us hl => len2 us hl fun _ _ => rfl⟩
    g_is_done_somewhere := ⟨fun_mk (st := s_is_done_somewhere) l27 c27 k27, PySem.W.mg_of X G a27, (fun_mk l27 c27 k27).binds (ps := ["step", "behind"]) fun _ _ _ _ _ _ us hl => len2 us hl fun _ _ => rfl⟩
    g_doubling_steps := ⟨fun_mk (st := s_doubling_steps) l28 c28 k28, PySem.W.mg_of X G a28, (fun_mk l28 c28 k28).binds (ps := ["steps", "behind"]) fun _ _ _ _ _ _ us hl => len2 us hl fun _ _ => rfl⟩
    g_stuck_marks := ⟨fun_mk (st := s_stuck_marks) l29 c29 k29, PySem.W.mg_of X G a29, (fun_mk l29 c29 k29).binds (ps := ["behind"]) fun _ _ _ _ _ _ us hl => len1 us hl fun _ => rfl⟩
    g_crowded_ends := ⟨fun_mk (st := s_crowded_ends) l30 c30 k30, PySem.W.mg_of X G a30, (fun_mk l30 c30 k30).binds (ps := ["behind"]) fun _ _ _ _ _ _ us hl => len1 us hl fun _ => rfl⟩
    g_idle_steps := ⟨fun_mk (st := s_idle_steps) l31 c31 k31, PySem.W.mg_of X G a31, (fun_mk l31 c31 k31).binds (ps := ["steps", "behind"]) fun _ _ _ _ _ _ us hl => len2 us hl fun _ _ => rfl⟩
    g_first_fault := ⟨fun_mk (st := s_first_fault) l32 c32 k32, PySem.W.mg_of X G a32, (fun_mk l32 c32 k32).binds (ps := ["steps", "behind"]) fun _ _ _ _ _ _ us hl => len2 us hl fun _ _ => rfl⟩
    g_is_some_places := ⟨fun_mk (st := s_is_some_places) l47 c47 k47, PySem.W.mg_of X G a47, (fun_mk l47 c47 k47).binds (ps := ["bits"]) fun _ _ _ _ _ _ us hl => len1 us hl fun _ => rfl⟩
    g_is_a_step := ⟨fun_mk (st := s_is_a_step) l48 c48 k48, PySem.W.mg_of X G a48, (fun_mk l48 c48 k48).binds (ps := ["takes", "gives", "part"]) fun _ _ _ _ _ _ us hl => len3 us hl fun _ _ _ => rfl⟩
    g_answer_on_cases := ⟨fun_mk (st := s_answer_on_cases) l61 c61 k61, PySem.W.mg_of X G a61, (fun_mk l61 c61 k61).binds (ps := ["machine", "call", "handed"]) fun _ _ _ _ _ _ us hl => len3 us hl fun _ _ _ => rfl⟩
    g_answer := ⟨fun_mk (st := s_answer) l62 c62 k62, PySem.W.mg_of X G a62, (fun_mk l62 c62 k62).binds (ps := ["machine", "call", "handed"]) fun _ _ _ _ _ _ us hl => len3 us hl fun _ _ _ => rfl⟩
    g_answers := ⟨fun_mk (st := s_answers) l63 c63 k63, PySem.W.mg_of X G a63, (fun_mk l63 c63 k63).binds (ps := ["calls"]) fun _ _ _ _ _ _ us hl => len1 us hl fun _ => rfl⟩
  }
  exact ⟨PySem.W.fnOf "answers" "answers" (defArgs s_answers) (defBody s_answers) (defScope s_answers) .none kV63 dc63 pm63 an63 cd63 ct63, fun s us hu => len1 us hu fun _ => .of_eq rfl, fun base _ _ => ok_answers T⟩
end Ew
open PySem PySem.W PyProof.Rows
set_option maxRecDepth 100000 in
set_option maxHeartbeats 0 in
theorem PySem.Challenge.cw_endingwork_s01_answers_holds : PySem.Challenge.rw_endingwork_s01_answers.Holds := by
  w_on; k_headS; (case hw => exact ⟨[.list [.int 0]], by decide +kernel, by decide +kernel⟩)
  k_fillS
  refine L2.walk_specK (r := PySem.Challenge.rw_endingwork_s01_answers) (k := 10) (CX := L2.CX0) (ps := ["calls"]) (sp := Ew.spAnswers) (by decide +kernel) rfl rfl ⟨rfl, by decide, by decide⟩ (fun w h Y => PySem.W.kIn_of Y) ?F ?S (fun _ _ _ _ z => z)
  case F =>
    intro w mg fa h Y KX G hmg
    refine' Ew.all_mk KX G hmg ?c_BEGINNING ?c_END ?c_MOST_TOGETHER ?c_ALL_PLACES ?c_PLACES ?c_MOST_PEOPLE ?c_COULD_NOT_END ?c_TOO_MANY_TO_TELL ?c_MAY_NOT ?c_NO_SUCH ?c_CANNOT_BE_DONE ?c_IS_TAKEN ?c_NOT_TAKEN ?c_DID_ONE_APART ?c_NOT_SO ?c_TOO_MANY ?c_MOST_BITS ?c_MOST_PART ?c_MOST_STEPS ?c_MOST_TOLD_APART ?c_MOST_CASES ?c_BEGIN ?c_WORK ?c_APART ?c_PERSON ?c_READY ?c_OPEN ?c_DO ?c_NEXT ?c_STATE ?b_len ?b_enumerate ?b_min ?b_max ?b_tuple ?b_list ?hd1 ?hd2 ?hd3 ?hd4 ?aC4 ?pg4 ?hh4 ?po4 ?sa4 ?mk4 ?kc4 ?a400 ?i400 ?l400 ?c400 ?k400 ?a401 ?i401 ?l401 ?c401 ?k401 ?a402 ?i402 ?l402 ?c402 ?k402 ?a403 ?i403 ?l403 ?c403 ?k403 ?n4_takes ?n4_gives ?n4_part ?aC14 ?pg14 ?hh14 ?po14 ?sa14 ?mk14 ?kc14 ?a1400 ?i1400 ?l1400 ?c1400 ?k1400 ?a1401 ?i1401 ?l1401 ?c1401 ?k1401 ?a1402 ?i1402 ?l1402 ?c1402 ?k1402 ?n14_number ?n14_who ?n14_takes ?n14_bars ?n14_brings ?aC49 ?pg49 ?hh49 ?po49 ?sa49 ?mk49 ?kc49 ?a4900 ?i4900 ?l4900 ?c4900 ?k4900 ?a4901 ?i4901 ?l4901 ?c4901 ?k4901 ?a4902 ?i4902 ?l4902 ?c4902 ?k4902 ?a4903 ?i4903 ?l4903 ?c4903 ?k4903 ?a4904 ?i4904 ?l4904 ?c4904 ?k4904 ?a4905 ?i4905 ?l4905 ?c4905 ?k4905 ?a4906 ?i4906 ?l4906 ?c4906 ?k4906 ?a4907 ?i4907 ?l4907 ?c4907 ?k4907 ?a4908 ?i4908 ?l4908 ?c4908 ?k4908 ?a4909 ?i4909 ?l4909 ?c4909 ?k4909 ?a4910 ?i4910 ?l4910 ?c4910 ?k4910 ?a4911 ?i4911 ?l4911 ?c4911 ?k4911 ?a4912 ?i4912 ?l4912 ?c4912 ?k4912 ?n49_steps ?n49_told_apart ?n49_people ?n49_cases ?n49_taken ?n49_told_far ?a9 ?l9 ?c9 ?k9 ?a10 ?l10 ?c10 ?k10 ?a11 ?l11 ?c11 ?k11 ?a12 ?l12 ?c12 ?k12 ?a13 ?l13 ?c13 ?k13 ?a15 ?l15 ?c15 ?k15 ?a19 ?l19 ?c19 ?k19 ?a20 ?l20 ?c20 ?k20 ?a22 ?l22 ?c22 ?k22 ?a23 ?l23 ?c23 ?k23 ?a24 ?l24 ?c24 ?k24 ?a25 ?l25 ?c25 ?k25 ?a26 ?l26 ?c26 ?k26 ?a27 ?l27 ?c27 ?k27 ?a28 ?l28 ?c28 ?k28 ?a29 ?l29 ?c29 ?k29 ?a30 ?l30 ?c30 ?k30 ?a31 ?l31 ?c31 ?k31 ?a32 ?l32 ?c32 ?k32 ?a47 ?l47 ?c47 ?k47 ?a48 ?l48 ?c48 ?k48 ?a61 ?l61 ?c61 ?k61 ?a62 ?l62 ?c62 ?k62 ?a63 ?l63 ?c63 ?k63
    (case c_BEGINNING => k_is)
    (case c_END => k_is)
    (case c_MOST_TOGETHER => k_is)
    (case c_ALL_PLACES => k_is)
    (case c_PLACES => k_is)
    (case c_MOST_PEOPLE => k_is)
    (case c_COULD_NOT_END => k_is)
    (case c_TOO_MANY_TO_TELL => k_is)
    (case c_MAY_NOT => k_is)
    (case c_NO_SUCH => k_is)
    (case c_CANNOT_BE_DONE => k_is)
    (case c_IS_TAKEN => k_is)
    (case c_NOT_TAKEN => k_is)
    (case c_DID_ONE_APART => k_is)
    (case c_NOT_SO => k_is)
    (case c_TOO_MANY => k_is)
    (case c_MOST_BITS => k_is)
    (case c_MOST_PART => k_is)
    (case c_MOST_STEPS => k_is)
    (case c_MOST_TOLD_APART => k_is)
    (case c_MOST_CASES => k_is)
    (case c_BEGIN => k_is)
    (case c_WORK => k_is)
    (case c_APART => k_is)
    (case c_PERSON => k_is)
    (case c_READY => k_is)
    (case c_OPEN => k_is)
    (case c_DO => k_is)
    (case c_NEXT => k_is)
    (case c_STATE => k_is)
    (case b_len => k_is)
    (case b_enumerate => k_is)
    (case b_min => k_is)
    (case b_max => k_is)
    (case b_tuple => k_is)
    (case b_list => k_is)
    (case hd1 => k_is)
    (case hd2 => k_is)
    (case aC4 => k_is)
    (case pg4 => k_is)
    (case hh4 => k_is)
    (case po4 => k_is)
    (case sa4 => k_is)
    (case mk4 => k_is)
    (case kc4 => k_is)
    (case a400 => k_is)
    (case i400 => k_is)
    (case l400 => k_is)
    (case c400 => k_is)
    (case k400 => k_is)
    (case a401 => k_is)
    (case i401 => k_is)
    (case l401 => k_is)
    (case c401 => k_is)
    (case k401 => k_is)
    (case a402 => k_is)
    (case i402 => k_is)
    (case l402 => k_is)
    (case c402 => k_is)
    (case k402 => k_is)
    (case a403 => k_is)
    (case i403 => k_is)
    (case l403 => k_is)
    (case c403 => k_is)
    (case k403 => k_is)
    (case n4_takes => k_is)
    (case n4_gives => k_is)
    (case n4_part => k_is)
    (case aC14 => k_is)
    (case pg14 => k_is)
    (case hh14 => k_is)
    (case po14 => k_is)
    (case sa14 => k_is)
    (case mk14 => k_is)
    (case kc14 => k_is)
    (case a1400 => k_is)
    (case i1400 => k_is)
    (case l1400 => k_is)
    (case c1400 => k_is)
    (case k1400 => k_is)
    (case a1401 => k_is)
    (case i1401 => k_is)
    (case l1401 => k_is)
    (case c1401 => k_is)
    (case k1401 => k_is)
    (case a1402 => k_is)
    (case i1402 => k_is)
    (case l1402 => k_is)
    (case c1402 => k_is)
    (case k1402 => k_is)
    (case n14_number => k_is)
    (case n14_who => k_is)
    (case n14_takes => k_is)
    (case n14_bars => k_is)
    (case n14_brings => k_is)
    (case aC49 => k_is)
    (case pg49 => k_is)
    (case hh49 => k_is)
    (case po49 => k_is)
    (case sa49 => k_is)
    (case mk49 => k_is)
    (case kc49 => k_is)
    (case a4900 => k_is)
    (case i4900 => k_is)
    (case l4900 => k_is)
    (case c4900 => k_is)
    (case k4900 => k_is)
    (case a4901 => k_is)
    (case i4901 => k_is)
    (case l4901 => k_is)
    (case c4901 => k_is)
    (case k4901 => k_is)
    (case a4902 => k_is)
    (case i4902 => k_is)
    (case l4902 => k_is)
    (case c4902 => k_is)
    (case k4902 => k_is)
    (case a4903 => k_is)
    (case i4903 => k_is)
    (case l4903 => k_is)
    (case c4903 => k_is)
    (case k4903 => k_is)
    (case a4904 => k_is)
    (case i4904 => k_is)
    (case l4904 => k_is)
    (case c4904 => k_is)
    (case k4904 => k_is)
    (case a4905 => k_is)
    (case i4905 => k_is)
    (case l4905 => k_is)
    (case c4905 => k_is)
    (case k4905 => k_is)
    (case a4906 => k_is)
    (case i4906 => k_is)
    (case l4906 => k_is)
    (case c4906 => k_is)
    (case k4906 => k_is)
    (case a4907 => k_is)
    (case i4907 => k_is)
    (case l4907 => k_is)
    (case c4907 => k_is)
    (case k4907 => k_is)
    (case a4908 => k_is)
    (case i4908 => k_is)
    (case l4908 => k_is)
    (case c4908 => k_is)
    (case k4908 => k_is)
    (case a4909 => k_is)
    (case i4909 => k_is)
    (case l4909 => k_is)
    (case c4909 => k_is)
    (case k4909 => k_is)
    (case a4910 => k_is)
    (case i4910 => k_is)
    (case l4910 => k_is)
    (case c4910 => k_is)
    (case k4910 => k_is)
    (case a4911 => k_is)
    (case i4911 => k_is)
    (case l4911 => k_is)
    (case c4911 => k_is)
    (case k4911 => k_is)
    (case a4912 => k_is)
    (case i4912 => k_is)
    (case l4912 => k_is)
    (case c4912 => k_is)
    (case k4912 => k_is)
    (case n49_steps => k_is)
    (case n49_told_apart => k_is)
    (case n49_people => k_is)
    (case n49_cases => k_is)
    (case n49_taken => k_is)
    (case n49_told_far => k_is)
    (case a9 => k_is)
    (case l9 => k_is)
    (case c9 => k_is)
    (case k9 => k_is)
    (case a10 => k_is)
    (case l10 => k_is)
    (case c10 => k_is)
    (case k10 => k_is)
    (case a11 => k_is)
    (case l11 => k_is)
    (case c11 => k_is)
    (case k11 => k_is)
    (case a12 => k_is)
    (case l12 => k_is)
    (case c12 => k_is)
    (case k12 => k_is)
    (case a13 => k_is)
    (case l13 => k_is)
    (case c13 => k_is)
    (case k13 => k_is)
    (case a15 => k_is)
    (case l15 => k_is)
    (case c15 => k_is)
    (case k15 => k_is)
    (case a19 => k_is)
    (case l19 => k_is)
    (case c19 => k_is)
    (case k19 => k_is)
    (case a20 => k_is)
    (case l20 => k_is)
    (case c20 => k_is)
    (case k20 => k_is)
    (case a22 => k_is)
    (case l22 => k_is)
    (case c22 => k_is)
    (case k22 => k_is)
    (case a23 => k_is)
    (case l23 => k_is)
    (case c23 => k_is)
    (case k23 => k_is)
    (case a24 => k_is)
    (case l24 => k_is)
    (case c24 => k_is)
    (case k24 => k_is)
    (case a25 => k_is)
    (case l25 => k_is)
    (case c25 => k_is)
    (case k25 => k_is)
    (case a26 => k_is)
    (case l26 => k_is)
    (case c26 => k_is)
    (case k26 => k_is)
    (case a27 => k_is)
    (case l27 => k_is)
    (case c27 => k_is)
    (case k27 => k_is)
    (case a28 => k_is)
    (case l28 => k_is)
    (case c28 => k_is)
    (case k28 => k_is)
    (case a29 => k_is)
    (case l29 => k_is)
    (case c29 => k_is)
    (case k29 => k_is)
    (case a30 => k_is)
    (case l30 => k_is)
    (case c30 => k_is)
    (case k30 => k_is)
    (case a31 => k_is)
    (case l31 => k_is)
    (case c31 => k_is)
    (case k31 => k_is)
    (case a32 => k_is)
    (case l32 => k_is)
    (case c32 => k_is)
    (case k32 => k_is)
    (case a47 => k_is)
    (case l47 => k_is)
    (case c47 => k_is)
    (case k47 => k_is)
    (case a48 => k_is)
    (case l48 => k_is)
    (case c48 => k_is)
    (case k48 => k_is)
    (case a61 => k_is)
    (case l61 => k_is)
    (case c61 => k_is)
    (case k61 => k_is)
    (case a62 => k_is)
    (case l62 => k_is)
    (case c62 => k_is)
    (case k62 => k_is)
    (case a63 => k_is)
    (case l63 => k_is)
    (case c63 => k_is)
    (case k63 => k_is)
    (case hd3 => decide)
    (case hd4 => exact .cons ⟨_, rfl⟩ (.cons ⟨_, rfl⟩ (.cons ⟨_, rfl⟩ (.cons ⟨_, rfl⟩ (.cons ⟨_, rfl⟩ (.cons ⟨_, rfl⟩ (.cons ⟨_, rfl⟩ (.cons ⟨_, rfl⟩ (.cons ⟨_, rfl⟩ (.cons ⟨_, rfl⟩ (.nil)))))))))))
  case S =>
    intro K H xs a hO hwi hask hx
    cases hx with
    | cons h1 h2 =>
      cases h2
      cases h1 with
      | lst hs ha =>
        have e := L2.ints_dw a.1 _ ha
        subst e
        have q : ((Codec.inLen 0 30000 a.1 && a.1.all (Codec.inInt 0 4294967295)) && true) = true := hwi
        rw [Bool.and_eq_true, Bool.and_eq_true] at q
        exact ⟨_, a.1, rfl, hs, hO, (Codec.inNat_iff.mp q.1.1).2, hask, fun H' p hp => .lst (L2.SqL.of hp) (L2.dw_ints _)⟩
#print axioms PySem.Challenge.cw_endingwork_s01_answers_holds

