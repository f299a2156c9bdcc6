import PyProof.Rows.All
import Wide.All
import OpenK.AllK
import Wide.FinOn
import PyProof.EqAt
import PyProof.EqKinds
import PyProof.TupleCall
import KE.BitLaws
import KE.KLam
import KE.KSortTupG
import KE.KStar
import KE.KSortKeySt
import PySem.Challenge.RW_climborsink_k47_letters_of_a_chief
set_option Elab.async false
set_option linter.all false
set_option maxRecDepth 100000
namespace L2
open PySem PySem.Spec PyProof.Rows
abbrev Key := Sum Int Str
def keyIs : Key → Value → Bool
  | .inl k, v => Value.isInt k v
  | .inr x, v => Value.isStrOf x v
def keyH (w : World) : Key → Int
  | .inl k => hashInt k
  | .inr x => hashStr w x
theorem keyIs_shape : ∀ {k : Key} {v : Value}, keyIs k v = true → (∃ i t, k = Sum.inl i ∧ v = Value.int i t) ∨ (∃ x t, k = Sum.inr x ∧ v = Value.str x t)
  | .inl i, v, h => by
    obtain ⟨t, e⟩ := Value.isInt_shape (k := i) (v := v) h
    exact .inl ⟨i, t, rfl, e⟩
  | .inr x, v, h => by
    obtain ⟨t, e⟩ := Value.isStrOf_shape (x := x) (v := v) h
    exact .inr ⟨x, t, rfl, e⟩
theorem keyIs_int (i : Int) (t : Tok) : keyIs (.inl i) (.int i t) = true := by simp [keyIs, Value.isInt]
theorem keyIs_str (x : Str) (t : Tok) : keyIs (.inr x) (.str x t) = true := by simp [keyIs, Value.isStrOf]
theorem key_ll (a b : Int) : decide ((Sum.inl a : Key) = Sum.inl b) = (a == b) := by
  by_cases e : a = b
  · subst e; simp
  · have h : ¬ (Sum.inl a : Key) = Sum.inl b := fun q => e (Sum.inl.inj q)
    rw [decide_eq_false h]
    exact (beq_eq_false_iff_ne.mpr e).symm
theorem key_rr (a b : Str) : decide ((Sum.inr a : Key) = Sum.inr b) = decide (a = b) := by
  by_cases e : a = b
  · subst e; simp
  · have h : ¬ (Sum.inr a : Key) = Sum.inr b := fun q => e (Sum.inr.inj q)
    rw [decide_eq_false h, decide_eq_false e]
theorem key_lr (a : Int) (b : Str) : decide ((Sum.inl a : Key) = Sum.inr b) = false := decide_eq_false (fun q => nomatch q)
theorem key_rl (a : Str) (b : Int) : decide ((Sum.inr a : Key) = Sum.inl b) = false := decide_eq_false (fun q => nomatch q)
def mixKind (prog : Program) (w : World) : PySem.KeyKind prog w Key where
  is := keyIs
  hash := keyH w
  inj := fun v a b ha hb => by
    rcases keyIs_shape ha with ⟨i, t, rfl, rfl⟩ | ⟨x, t, rfl, rfl⟩
    · rcases keyIs_shape hb with ⟨j, u, rfl, e⟩ | ⟨y, u, rfl, e⟩
      · injection e with e1 _; rw [e1]
      · exact nomatch e
    · rcases keyIs_shape hb with ⟨j, u, rfl, e⟩ | ⟨y, u, rfl, e⟩
      · exact nomatch e
      · injection e with e1 _; rw [e1]
  byValue := fun k v h => by
    rcases keyIs_shape h with ⟨i, t, rfl, rfl⟩ | ⟨x, t, rfl, rfl⟩ <;> rfl
  pyHash := fun hv h => by
    rcases keyIs_shape hv with ⟨i, t, rfl, rfl⟩ | ⟨x, t, rfl, rfl⟩
    · exact wpAny_pyHash_int h
    · exact wpAny_pyHash_str h
  eqBool := fun hu hv h => by
    rcases keyIs_shape hu with ⟨i, t, rfl, rfl⟩ | ⟨x, t, rfl, rfl⟩
    · rcases keyIs_shape hv with ⟨j, u, rfl, rfl⟩ | ⟨y, u, rfl, rfl⟩
      · rw [key_ll] at h; exact wpAny_eqBool_int h
      · rw [key_lr] at h; exact SeqAt.EqAt.int_str i t y u _ _ _ _ h
    · rcases keyIs_shape hv with ⟨j, u, rfl, rfl⟩ | ⟨y, u, rfl, rfl⟩
      · rw [key_rl] at h; exact SeqAt.EqAt.str_int x t j u _ _ _ _ h
      · rw [key_rr] at h; exact wpAny_eqBool_str h
  «strs» := fun k x t v h => by
    rcases keyIs_shape h with ⟨i, u, rfl, e⟩ | ⟨y, u, rfl, e⟩
    · exact nomatch e
    · injection e with e1 _
      subst e1
      cases v <;> rfl
theorem mixKind_int (prog : Program) (w : World) (i : Int) (t : Tok) : (mixKind prog w).is (.inl i) (.int i t) = true := keyIs_int i t
theorem mixKind_str (prog : Program) (w : World) (x : Str) (t : Tok) : (mixKind prog w).is (.inr x) (.str x t) = true := keyIs_str x t
end L2
namespace L2
open PySem PySem.Spec PyProof.Rows
inductive V where
  | non | bl (b : Bool) | int (i : Int) | str (x : Str) | byt (b : Array UInt8) | flt (b : UInt64) | ref (a : Addr) | ty (n : String)
  deriving DecidableEq
def RelV : V → Value → Prop
  | .non, u => u = Value.none
  | .bl b, u => u = Value.bool b
  | .int i, u => ∃ t, u = Value.int i t
  | .str x, u => ∃ t, u = Value.str x t
  | .byt b, u => ∃ t, u = Value.bytes b t
  | .flt b, u => ∃ t, u = Value.float b t
  | .ref a, u => u = Value.ref a
  | .ty n, u => u = Value.type n
abbrev Vals : List V → List Value → Prop := Paired RelV
theorem Vals.length {xs : List V} {us : List Value} (r : Vals xs us) : xs.length = us.length := Paired.length r
theorem Vals.get : ∀ {xs : List V} {us : List Value} {i : Nat} {x : V}, Vals xs us → xs[i]? = some x → ∃ u, us[i]? = some u ∧ RelV x u
  | _, _, _, _, .nil, e => by simp at e
  | _, _, 0, _, .cons r _, e => by simp at e; subst e; exact ⟨_, rfl, r⟩
  | _, _, i + 1, x, .cons _ t, e => by
    obtain ⟨u, h1, h2⟩ := Vals.get (i := i) (x := x) t (by simpa using e)
    exact ⟨u, by simpa using h1, h2⟩
theorem Vals.set {x : V} {u : Value} (r : RelV x u) : ∀ {xs : List V} {us : List Value} (i : Nat), Vals xs us → Vals (xs.set i x) (us.set i u)
  | _, _, _, .nil => .nil
  | _, _, 0, .cons _ t => .cons r t
  | _, _, i + 1, .cons q t => .cons q (Vals.set r i t)
theorem Vals.append : ∀ {xs ys : List V} {us ws : List Value}, Vals xs us → Vals ys ws → Vals (xs ++ ys) (us ++ ws)
  | _, _, _, _, .nil, s => s
  | _, _, _, _, .cons r t, s => .cons r (Vals.append t s)
theorem Vals.take : ∀ {xs : List V} {us : List Value} (n : Nat), Vals xs us → Vals (xs.take n) (us.take n)
  | _, _, 0, _ => .nil
  | _, _, _ + 1, .nil => .nil
  | _, _, n + 1, .cons r t => .cons r (Vals.take n t)
theorem Vals.drop : ∀ {xs : List V} {us : List Value} (n : Nat), Vals xs us → Vals (xs.drop n) (us.drop n)
  | _, _, 0, r => r
  | _, _, _ + 1, .nil => .nil
  | _, _, n + 1, .cons _ t => Vals.drop n t
theorem Vals.none_of : ∀ {xs : List V} {us : List Value} {i : Nat}, Vals xs us → xs[i]? = none → us[i]? = none := fun {xs us i} r e => by
  have h1 := r.length
  have h2 : xs.length ≤ i := List.getElem?_eq_none_iff.mp e
  exact List.getElem?_eq_none_iff.mpr (by omega)
def RelO : Option V → Option Value → Prop
  | some v, some u => RelV v u
  | none, none => True
  | _, _ => False
def KV {κ : Type} : List (κ × V) → List (κ × Value) → Prop := Paired fun (p : κ × V) (q : κ × Value) => p.1 = q.1 ∧ RelV p.2 q.2
def kV : Key → V
  | .inl i => .int i
  | .inr x => .str x
inductive HO where
  /-- a list -/
  | lst (xs : List V)
  /-- a tuple (never changes) -/
  | tup (xs : List V)
  /-- a dict whose keys are ints and texts; one whose keys are tuples of ints and texts (the empty one is both) -/
  | dK (kvs : List (Key × V)) | dT (kvs : List (List Key × V))
  /-- a set of ints: its members, its size -/
  | set (S : Int → Bool) (n : Nat)
  /-- an instance of the class at C, its dict at dx, its attributes -/
  | ins (C dx : Addr) (fs : List (Str × V))
  /-- the dict of the instance at x -/
  | own (x : Addr)
  /-- the dict of an exception -/
  | xd (fs : List (Str × V))
  /-- a bound method, f of x -/
  | met (f x : Addr)
  /-- a range object lo, lo + 1, .. below hi -/
  | rng (lo hi : Int)
  /-- a thing that is known to the object (the script; a dict while a loop walks it): read, never written while it is so -/
  | frz (o : Obj) (u : HO)
  /-- a code object's table -/
  | tbl (t : Bool) (q : Str)
  /-- a list of the store -/
  | lsw (xs : List V)
  /-- any other thing, by what is true of its one object (a def of one's own: SetO a S n := HO.ext fun h => ..) -/
  | ext (φ : Heap → Prop)
abbrev Hp := Addr → Option HO
def upd (H : Hp) (a : Addr) (o : HO) : Hp := fun b => if b = a then some o else H b
theorem upd_same {H : Hp} {a : Addr} {o : HO} : upd H a o a = some o := by unfold upd; rw [if_pos rfl]
theorem upd_ne {H : Hp} {a b : Addr} {o : HO} (h : b ≠ a) : upd H a o b = H b := by unfold upd; rw [if_neg h]
theorem upd_upd {H : Hp} {a : Addr} {o u : HO} : upd (upd H a o) a u = upd H a u := by
  funext b; unfold upd; split <;> rfl
theorem ne_of {H : Hp} {a b : Addr} {o u : HO} (h : H a = some o) (h' : H b = some u) (d : o ≠ u) : a ≠ b := by
  intro e; subst e; rw [h] at h'; exact d (Option.some.inj h')
theorem ne_of_none {H : Hp} {a b : Addr} {o : HO} (h : H a = some o) (h' : H b = none) : a ≠ b := by
  intro e; subst e; rw [h] at h'; cases h'
section
variable (P : Program) (w : World)
def ObjOk (H : Hp) (h : Heap) (a : Addr) : HO → Prop
  | .lst xs => xs.length ≤ sizeLine ∧ ∃ (its : List Value) (n : Nat), Vals xs its ∧ h.get? a = some { cls := .type "list", data := .seq its.toArray n }
  | .lsw xs => xs.length ≤ sizeLine ∧ ∃ (its : List Value) (n : Nat), Vals xs its ∧ h.get? a = some { cls := .type "list", data := .seq its.toArray n }
  | .tup xs => xs.length ≤ sizeLine ∧ ∃ its : List Value, Vals xs its ∧ IsTup h a its.toArray
  | .dK kvs => kvs.length ≤ sizeLine ∧ (a == sysModules) = false ∧ ∃ vs, KV kvs vs ∧ h.DictOf (mixKind P w) a vs
  | .dT kvs => kvs.length ≤ sizeLine ∧ (a == sysModules) = false ∧ ∃ xs : List (List Key × Addr × Value),
      Paired (fun (p : List Key × V) (q : List Key × Addr × Value) => p.1 = q.1 ∧ H q.2.1 = some (.tup (p.1.map kV)) ∧ RelV p.2 q.2.2) kvs xs ∧
      ∃ o es ep, h.get? a = some o ∧ o.ExactDict ∧ o.data = .dict es ep ∧ es.toList = xs.map (entryOfKey (tupleKind (mixKind P w))) ∧ (xs.map (·.1)).Nodup
  | .set S n => h.SetOf (intKind P w) a S n
  | .ins C dx fs => H dx = some (.own a) ∧ fs.length ≤ 1000 ∧ dx ≠ a ∧ h.get? a = some (PySem.W.instObj C dx) ∧
      ∃ mA, h.Ns1 dx mA ∧ (∀ f, RelO (fs.lookup f) (mA f)) ∧ PySem.Within mA (fs.map (·.1))
  | .own _ => ∃ o, h.get? a = some o
  | .xd fs => ∃ mA, h.Ns1 a mA ∧ ∀ f, RelO (fs.lookup f) (mA f)
  | .rng lo hi => ∃ t u v, h.get? a = some { cls := .type "range", data := .fields #[.int lo t, .int hi u, .int 1 v] }
  | .frz o u => h.get? a = some o ∧ ObjOk H h a u
  | .tbl true q => h.CodeRec (.ref a) q
  | .tbl false q => ∃ ps : Array Value, h.get? a = some { cls := .none, data := .fields ps } ∧ TriplesOk ps.toList ∧ ∀ pos cv, codeAmong pos ps.toList = some cv → ∃ c, cv = .ref c ∧ H c = some (.tbl true q)
  | .met f x => h.get? a = some (PySem.W.methodObj (.ref f) (.ref x))
  | .ext φ => φ h ∧ (∃ o, h.get? a = some o) ∧ ∀ h1 h2 : Heap, φ h1 → (∀ o, h1.get? a = some o → h2.get? a = some o) → φ h2
def HOk (H : Hp) (h : Heap) : Prop := ∀ a o, H a = some o → ObjOk P w H h a o
end
section
variable {P : Program} {w : World} {H H' : Hp} {h h' : Heap} {a : Addr} {o : HO}
theorem ObjOk.lt (x : ObjOk P w H h a o) : a < h.objs.size := by
  cases o with
  | lst xs => obtain ⟨_, _, _, _, e⟩ := x; exact Heap.lt_size e
  | lsw xs => obtain ⟨_, _, _, _, e⟩ := x; exact Heap.lt_size e
  | tup xs => obtain ⟨_, _, _, p⟩ := x; exact p.lt
  | dK kvs => obtain ⟨_, _, _, _, o, _, _, e, _⟩ := x; exact Heap.lt_size e
  | dT kvs => obtain ⟨_, _, _, _, o, _, _, e, _⟩ := x; exact Heap.lt_size e
  | set S n => obtain ⟨o, _, _, _, e, _⟩ := x; exact Heap.lt_size e
  | ins C dx fs => obtain ⟨_, _, _, e, _⟩ := x; exact Heap.lt_size e
  | own y => obtain ⟨_, e⟩ := x; exact Heap.lt_size e
  | xd fs => obtain ⟨_, ⟨_, _, _, e, _⟩, _⟩ := x; exact Heap.lt_size e
  | rng lo hi => obtain ⟨_, _, _, e⟩ := x; exact Heap.lt_size e
  | frz ob u => obtain ⟨e, _⟩ := x; exact Heap.lt_size e
  | tbl t q =>
    cases t with
    | true => obtain ⟨_, _, _, _, e0, e, _⟩ := x; cases e0; exact Heap.lt_size e
    | false => obtain ⟨_, e, _⟩ := x; exact Heap.lt_size e
  | met f y => exact Heap.lt_size (show h.get? a = some _ from x)
  | ext φ => obtain ⟨_, ⟨_, e⟩, _⟩ := x; exact Heap.lt_size e
theorem Paired.mapP {α β : Type} {F G : α → β → Prop} : ∀ {l₁ : List α} {l₂ : List β}, Paired F l₁ l₂ → (∀ a b, F a b → G a b) → Paired G l₁ l₂
  | _, _, .nil, _ => .nil
  | _, _, .cons r t, f => .cons (f _ _ r) (Paired.mapP t f)
theorem ObjOk.stay (x : ObjOk P w H h a o) (k : ∀ b u, (b = a ∨ H b = some (.own a)) → h.get? b = some u → h'.get? b = some u)
    (ho : ∀ b, H b = some (.own a) → H' b = some (.own a)) (ht : ∀ b xs, H b = some (.tup xs) → H' b = some (.tup xs)) (hcd : ∀ b t q, H b = some (.tbl t q) → H' b = some (.tbl t q)) : ObjOk P w H' h' a o := by
  induction o with
  | lst xs => obtain ⟨z, its, n, r, e⟩ := x; exact ⟨z, its, n, r, k _ _ (.inl rfl) e⟩
  | lsw xs => obtain ⟨z, its, n, r, e⟩ := x; exact ⟨z, its, n, r, k _ _ (.inl rfl) e⟩
  | tup xs => obtain ⟨z, its, r, ob, e, c⟩ := x; exact ⟨z, its, r, ob, k _ _ (.inl rfl) e, c⟩
  | dK kvs => obtain ⟨z, y, vs, r, ob, es, ep, e, c⟩ := x; exact ⟨z, y, vs, r, ob, es, ep, k _ _ (.inl rfl) e, c⟩
  | dT kvs =>
    obtain ⟨z, y, xs, r, ob, es, ep, e, c⟩ := x
    exact ⟨z, y, xs, Paired.mapP r fun p q z => ⟨z.1, ht _ _ z.2.1, z.2.2⟩, ob, es, ep, k _ _ (.inl rfl) e, c⟩
  | set S n => obtain ⟨ob, es, ep, t, e, c⟩ := x; exact ⟨ob, es, ep, t, k _ _ (.inl rfl) e, c⟩
  | ins C dx fs =>
    obtain ⟨d, z, ne, e, mA, ⟨od, es, ep, e2, c⟩, r⟩ := x
    exact ⟨ho _ d, z, ne, k _ _ (.inl rfl) e, mA, ⟨od, es, ep, k _ _ (.inr d) e2, c⟩, r⟩
  | own y => obtain ⟨ob, e⟩ := x; exact ⟨ob, k _ _ (.inl rfl) e⟩
  | xd fs => obtain ⟨mA, ⟨od, es, ep, e, c⟩, r⟩ := x; exact ⟨mA, ⟨od, es, ep, k _ _ (.inl rfl) e, c⟩, r⟩
  | rng lo hi => obtain ⟨t, u, v, e⟩ := x; exact ⟨t, u, v, k _ _ (.inl rfl) e⟩
  | frz ob u ih => obtain ⟨e, q⟩ := x; exact ⟨k _ _ (.inl rfl) e, ih q⟩
  | tbl t q =>
    cases t with
    | true =>
      obtain ⟨c, o, vs, t, e0, e, r⟩ := x
      cases e0
      exact ⟨_, o, vs, t, rfl, k _ _ (.inl rfl) e, r⟩
    | false =>
      obtain ⟨ps, e, tr, r⟩ := x
      refine ⟨ps, k _ _ (.inl rfl) e, tr, fun pos cv z => ?_⟩
      obtain ⟨c, e1, e2⟩ := r pos cv z
      exact ⟨c, e1, hcd _ _ _ e2⟩
  | met f y =>
    have e : h.get? a = some (PySem.W.methodObj (.ref f) (.ref y)) := x
    show h'.get? a = some (PySem.W.methodObj (.ref f) (.ref y))
    exact k a _ (.inl rfl) e
  | ext φ => obtain ⟨p, ⟨o, e⟩, st⟩ := x; exact ⟨st _ _ p fun o q => k _ _ (.inl rfl) q, ⟨o, k _ _ (.inl rfl) e⟩, st⟩
theorem HOk.lt (x : HOk P w H h) (e : H a = some o) : a < h.objs.size := (x a o e).lt
theorem HOk.fresh (x : HOk P w H h) (e : h.objs.size ≤ a) : H a = none := by
  cases q : H a with
  | none => rfl
  | some u => exact absurd (Nat.lt_of_lt_of_le (x.lt q) e) (Nat.lt_irrefl _)
theorem HOk.kept (x : HOk P w H h) (k : ∀ b u, h.get? b = some u → h'.get? b = some u) : HOk P w H h' := fun a o e =>
  (x a o e).stay (fun b u _ q => k b u q) (fun _ q => q) (fun _ _ q => q) fun _ _ _ q => q
theorem HOk.laid (x : HOk P w H h) (k : ∀ b u, h.get? b = some u → h'.get? b = some u) (hp : h.objs.size ≤ a) (new : ObjOk P w (upd H a o) h' a o) : HOk P w (upd H a o) h' := fun b u e => by
  have hn := x.fresh hp
  by_cases hb : b = a
  · subst hb; rw [upd_same] at e; cases e; exact new
  · rw [upd_ne hb] at e
    exact (x b u e).stay (fun c v _ q => k c v q) (fun c q => by rw [upd_ne (ne_of_none q hn)]; exact q) (fun c xs q => by rw [upd_ne (ne_of_none q hn)]; exact q) fun c t z q => by rw [upd_ne (ne_of_none q hn)]; exact q
end
def Rd (H : Hp) (a : Addr) (u : HO) : Prop := H a = some u ∨ ∃ o, H a = some (.frz o u)
theorem Rd.of {H : Hp} {a : Addr} {u : HO} (h : H a = some u) : Rd H a u := .inl h
theorem Rd.ok {P : Program} {w : World} {H : Hp} {h : Heap} {a : Addr} {u : HO} (r : Rd H a u) (x : HOk P w H h) : ObjOk P w H h a u := by
  rcases r with r | ⟨o, r⟩
  · exact x a u r
  · obtain ⟨_, q⟩ := x a _ r
    exact q
def Mut : Option HO → Prop
  | some (.lst _) => True
  | some (.lsw _) => True
  | some (.dK _) => True
  | some (.dT _) => True
  | some (.set _ _) => True
  | some (.ins _ _ _) => True
  | some (.ext _) => True
  | _ => False
section
variable {P : Program} {w : World} {H : Hp} {h h' : Heap} {x e : Addr} {o' : HO}
theorem HOk.write (ok : HOk P w H h) (mu : Mut (H x)) (he : e = x ∨ H e = some (.own x)) (k : ∀ b u, b ≠ e → h.get? b = some u → h'.get? b = some u) (heo : ∃ u, h'.get? e = some u)
    (new : ObjOk P w (upd H x o') h' x o') : HOk P w (upd H x o') h' := fun b u q => by
  have nown : ∀ c y, H c = some (.own y) → c ≠ x := fun c y r z => by subst z; rw [r] at mu; exact mu
  have ntup : ∀ c xs, H c = some (.tup xs) → c ≠ x := fun c xs r z => by subst z; rw [r] at mu; exact mu
  by_cases hb : b = x
  · subst hb; rw [upd_same] at q; cases q; exact new
  · rw [upd_ne hb] at q
    by_cases hbe : b = e
    · have q' : H b = some (.own x) := by
        rcases he with z | z
        · exact absurd (hbe.trans z) hb
        · rw [hbe]; exact z
      rw [q] at q'; cases q'
      obtain ⟨v, hv⟩ := heo
      exact ⟨v, by rw [hbe]; exact hv⟩
    · refine (ok b u q).stay (fun c v hc r => k c v ?_ r) (fun c r => by rw [upd_ne (nown c b r)]; exact r) (fun c xs r => by rw [upd_ne (ntup c xs r)]; exact r) fun c t z r => by rw [upd_ne (fun y => by subst y; rw [r] at mu; exact mu)]; exact r
      rcases hc with rfl | hc
      · exact hbe
      · rintro rfl
        rcases he with z | z
        · exact nown c b hc z
        · rw [hc] at z; cases z; exact hb rfl
end
structure Un (fs ex : List Addr) (H H' : Hp) (h h' : Heap) : Prop where
  keep : ∀ b o, h.get? b = some o → H b = none → b ∉ fs → b ∉ ex → h'.get? b = some o
  slot : ∀ b o, h.get? b = some o → H b = none → b ∈ fs → b ∉ ex → ∃ sl, h'.get? b = some { o with slots := sl }
  free : ∀ b o, h.get? b = some o → H b = none → b ∉ ex → H' b = none
  there : ∀ b o, h.get? b = some o → b ∉ ex → ∃ o', h'.get? b = some o'
  tups : ∀ b xs, H b = some (.tup xs) → H' b = some (.tup xs)
  frzs : ∀ b o u, H b = some (.frz o u) → H' b = some (.frz o u)
  tbls : ∀ b t q, H b = some (.tbl t q) → H' b = some (.tbl t q)
section
variable {fs fs' ex ex' : List Addr} {H H1 H2 : Hp} {h h1 h2 h' : Heap} {a x e : Addr} {o : HO}
theorem Un.any (u : Un fs ex H H1 h h1) {b : Addr} {ob : Obj} (q : h.get? b = some ob) (n : H b = none) (hx : b ∉ ex) : ∃ sl, h1.get? b = some { ob with slots := sl } := by
  by_cases hb : b ∈ fs
  · exact u.slot b ob q n hb hx
  · exact ⟨ob.slots, u.keep b ob q n hb hx⟩
theorem Un.trans (a : Un fs ex H H1 h h1) (b : Un fs ex H1 H2 h1 h2) : Un fs ex H H2 h h2 where
  keep := fun c ob q n hc hx => b.keep c ob (a.keep c ob q n hc hx) (a.free c ob q n hx) hc hx
  slot := fun c ob q n hc hx => by
    obtain ⟨sl, e1⟩ := a.slot c ob q n hc hx
    obtain ⟨sl', e2⟩ := b.slot c _ e1 (a.free c ob q n hx) hc hx
    exact ⟨sl', e2⟩
  free := fun c ob q n hx => by
    obtain ⟨o', e1⟩ := a.there c ob q hx
    exact b.free c o' e1 (a.free c ob q n hx) hx
  there := fun c ob q hx => by
    obtain ⟨o', e1⟩ := a.there c ob q hx
    exact b.there c o' e1 hx
  tups := fun c xs q => b.tups c xs (a.tups c xs q)
  frzs := fun c ob xs q => b.frzs c ob xs (a.frzs c ob xs q)
  tbls := fun c t z q => b.tbls c t z (a.tbls c t z q)
theorem Un.kept (k : ∀ b u, h.get? b = some u → h'.get? b = some u) : Un fs ex H H h h' :=
  ⟨fun b ob q _ _ _ => k b ob q, fun b ob q _ _ _ => ⟨ob.slots, k b ob q⟩, fun _ _ _ n _ => n, fun b ob q _ => ⟨ob, k b ob q⟩, fun _ _ q => q, fun _ _ _ q => q, fun _ _ _ q => q⟩
theorem Un.refl : Un fs ex H H h h := Un.kept fun _ _ q => q
theorem Un.laid (k : ∀ b u, h.get? b = some u → h'.get? b = some u) (hp : h.objs.size ≤ a) (hn : H a = none) : Un fs ex H (upd H a o) h h' where
  keep := fun b u q _ _ _ => k b u q
  slot := fun b u q _ _ _ => ⟨u.slots, k b u q⟩
  free := fun b u q n _ => by rw [upd_ne (Nat.ne_of_lt (Nat.lt_of_lt_of_le (Heap.lt_size q) hp))]; exact n
  there := fun b u q _ => ⟨u, k b u q⟩
  tups := fun b xs q => by rw [upd_ne (ne_of_none q hn)]; exact q
  frzs := fun b u xs q => by rw [upd_ne (ne_of_none q hn)]; exact q
  tbls := fun b t z q => by rw [upd_ne (ne_of_none q hn)]; exact q
theorem Un.write (mu : Mut (H x)) (he : e = x ∨ H e = some (.own x)) (k : ∀ b u, b ≠ e → h.get? b = some u → h'.get? b = some u) (heo : ∃ u, h'.get? e = some u) : Un fs ex H (upd H x o) h h' := by
  have hx : ∀ b, H b = none → b ≠ x := fun b n z => by subst z; rw [n] at mu; exact mu
  have hb : ∀ b, H b = none → b ≠ e := fun b n z => by
    subst z
    rcases he with r | r
    · exact hx b n r
    · rw [n] at r; cases r
  have hm : ∀ b u, H b = some u → ¬ Mut (some u) → b ≠ x := fun b u q nm z => by subst z; rw [q] at mu; exact nm mu
  refine ⟨fun b u q n _ _ => k b u (hb b n) q, fun b u q n _ _ => ⟨u.slots, k b u (hb b n) q⟩, fun b u q n _ => by rw [upd_ne (hx b n)]; exact n, fun b u q _ => ?_,
    fun b xs q => by rw [upd_ne (hm b _ q fun z => z)]; exact q, fun b u xs q => by rw [upd_ne (hm b _ q fun z => z)]; exact q, fun b t z q => by rw [upd_ne (hm b _ q fun z => z)]; exact q⟩
  by_cases hbe : b = e
  · subst hbe; exact heo
  · exact ⟨u, k b u hbe q⟩
theorem Un.mono (u : Un fs ex H H1 h h1) (hs : ∀ b ∈ fs, b ∈ fs') (hx : ∀ b ∈ ex, b ∈ ex') : Un fs' ex' H H1 h h1 :=
  ⟨fun b ob q n hb he => u.keep b ob q n (fun z => hb (hs b z)) fun z => he (hx b z), fun _ _ q n _ he => u.any q n fun z => he (hx _ z), fun b ob q n he => u.free b ob q n fun z => he (hx b z), fun b ob q he => u.there b ob q fun z => he (hx b z), u.tups, u.frzs, u.tbls⟩
end
def trk (h : Heap) (H : Hp) : List Addr := (List.range h.objs.size).filter fun a => (H a).isSome
def hidT (h : Heap) (H : Hp) : Heap := PySem.W.hideAll h (trk h H)
theorem hidT_size (h : Heap) (H : Hp) : (hidT h H).objs.size = h.objs.size := PySem.W.hideAll_size _ _
theorem hidT_get {h : Heap} {H : Hp} {b : Addr} {o : Obj} (e : h.get? b = some o) (n : H b = none) : (hidT h H).get? b = some o :=
  PySem.W.hideAll_get _ e fun hm => by
    have q : (H b).isSome = true := (List.mem_filter.mp hm).2
    rw [n] at q; simp at q
theorem of_hidT {h : Heap} {H : Hp} {b : Addr} {o : Obj} (e : (hidT h H).get? b = some o) : h.get? b = some o ∧ H b = none := by
  have e' : h.get? b = some o := PySem.W.of_hideAll (trk h H) e
  refine ⟨e', ?_⟩
  cases q : H b with
  | none => rfl
  | some x =>
    have hm : b ∈ trk h H := List.mem_filter.mpr ⟨List.mem_range.mpr (Heap.lt_size e'), by simp [q]⟩
    have z : (hidT h H).get? b = none := PySem.W.hideAll_none (trk h H) hm
    rw [z] at e; cases e
def allNews (g h : Heap) (L : Addr) : List (Addr × Obj) := (List.range h.objs.size).filterMap fun a => if a = L ∨ (g.get? a).isSome = true then none else (h.get? a).map fun o => (a, o)
def rest (g h : Heap) (L d : Addr) : List (Addr × Obj) := (allNews g h L).filter fun p => decide (p.1 ≠ d)
end L2
namespace L2
open PySem PySem.Spec PyProof.Rows
def lamDefs : List Str := ["end_of", "order_by"]
def lamQ (x : Str) : Str := x ++ ".<locals>." ++ "<lambda>"
def TabH (K : PySem.W.Frag) (H : Hp) : Prop := ∀ x ∈ lamDefs, ∀ c P, PySem.W.tabIn K x = some (c, P) → H P = some (.tbl false (lamQ x))
structure Mod (K : PySem.W.Frag) (mg : Str → Option Value) (base : Heap) : Prop where
  bmain : ∃ bm ob, mg "__builtins__" = some (.ref bm) ∧ bm ≠ builtinsNs ∧ base.get? bm = some ob ∧ ob.cls = .type "module" ∧ ob.dict = some builtinsNs ∧ ob.data = .plain
  codes : ∀ x ∈ lamDefs, ∀ c P, PySem.W.tabIn K x = some (c, P) → PySem.W.CodeHd base c P
  kin : K.In base
  glob : base.Ns mainGlobals mg
  blt : ∃ mb, base.Ns builtinsNs mb ∧ ∀ x : Str, x ≠ "__name__" → mb x = bootBuiltins x
  nolimit : base.NoLimit
structure Cx where
  prog : Program
  w : World
  K : PySem.W.Frag
  mg : Str → Option Value
  base : Heap
  A : Around
  N : List Str
  s_0 : Shared
  H_0 : Hp
  env : Env
  outer : List Env
  stack : List Env
  ex : List Addr
  fn : Str → Bool
  calm : Bool
  pn : List (Addr × Obj)
  xe : Value → Shared → Prop
def frs (l : List Env) : List Addr := l.filterMap (·.frame)
abbrev Cx.fs (X : Cx) : List Addr := frs X.outer
def Vis (sc : Scope) (x : Str) : Prop := sc.names.lookup x = some .local ∨ sc.names.lookup x = some .cell ∨ sc.names.lookup x = some .free
def Loc (sc : Scope) (x : Str) : Prop := sc.names.lookup x = some .local ∨ sc.names.lookup x = some .cell
def Look (env : Env) (h : Heap) (m : Str → Option Value) (x : Str) (u : Value) : Prop :=
  (env.kindOf x = some .local ∧ m x = some u) ∨ ((env.kindOf x = some .cell ∨ env.kindOf x = some .free) ∧ ∃ c, env.cells.lookup x = some c ∧ h.IsCell c (some u))
structure Cx.Ok (X : Cx) : Prop where
  mod : Mod X.K X.mg X.base
  kind : X.env.scope.kind = .function
  glob : X.env.globals = mainGlobals
  blt : X.env.builtins = builtinsNs
  above : X.s_0.heap.objs.size ≤ X.env.locals
  inj : ∀ x y c, X.env.cells.lookup x = some c → X.env.cells.lookup y = some c → x = y
  has : ∀ x, (X.env.kindOf x = some .cell ∨ X.env.kindOf x = some .free) → ∃ c, X.env.cells.lookup x = some c
  cab : ∀ x c, X.fn x = true → X.env.cells.lookup x = some c → X.s_0.heap.objs.size ≤ c
  hd : X.calm = true → X.A.handled = none
  frames : X.A.frames = some X.stack
  stk : X.stack = X.outer ∨ (X.stack = X.env :: X.outer ∧ X.env.frame = some X.env.locals)
  exf : ∀ b ∈ X.ex, b ≠ X.env.locals ∧ ∀ x c, X.env.cells.lookup x = some c → c ≠ b
  bs : ∀ b o, X.base.get? b = some o → X.s_0.heap.get? b = some o ∧ X.H_0 b = none
  bsz : X.base.objs.size ≤ X.s_0.heap.objs.size
  noex : ∀ b o, X.base.get? b = some o → b ∉ X.ex
  exfs : ∀ b ∈ X.ex, b ∉ X.fs
  funs : X.s_0.heap.FunFrames X.base X.outer
  frf : ∀ b ∈ X.fs, X.H_0 b = none
  tb : TabH X.K X.H_0
structure Inv (X : Cx) (pins : List (Addr × Obj)) (σ : List (Option V)) (H : Hp) (s : Shared) : Prop where
  ok : X.Ok
  os : s.os = X.s_0.os
  bare : AllBare s.gens
  base : Un X.fs X.ex X.H_0 H X.s_0.heap s.heap
  loc : ∃ m, s.heap.Ns X.env.locals m ∧ ∀ (i : Nat) (x : Str) (v : V), X.N[i]? = some x → σ[i]? = some (some v) → Vis X.env.scope x → ∃ u, RelV v u ∧ Look X.env s.heap m x u
  cell : ∀ x c, X.env.cells.lookup x = some c → ∃ v, s.heap.IsCell c v
  free : H X.env.locals = none
  freeC : ∀ x c, X.env.cells.lookup x = some c → H c = none
  pin : ∀ p ∈ X.pn ++ pins, s.heap.get? p.1 = some p.2 ∧ H p.1 = none ∧ p.1 ≠ X.env.locals ∧ p.1 ∉ X.fs ∧ ∀ v, p.2.data ≠ .cell v
  hok : HOk X.prog X.w H s.heap
  len : σ.length = X.N.length
section
variable {X : Cx} {pins : List (Addr × Obj)} {σ : List (Option V)} {H H' : Hp} {s : Shared} {h' : Heap}
theorem Cx.Ok.nofr (ok : X.Ok) {b : Addr} {o : Obj} (e : X.base.get? b = some o) : b ∉ X.fs := fun hb => by
  have := (ok.funs.mem hb).1
  rw [e] at this; cases this
theorem Inv.bs (I : Inv X pins σ H s) : ∀ b o, X.base.get? b = some o → s.heap.get? b = some o ∧ H b = none := fun b o e =>
  ⟨I.base.keep b o (I.ok.bs b o e).1 (I.ok.bs b o e).2 (I.ok.nofr e) (I.ok.noex b o e), I.base.free b o (I.ok.bs b o e).1 (I.ok.bs b o e).2 (I.ok.noex b o e)⟩
theorem Inv.bk (I : Inv X pins σ H s) : ∀ b o, X.base.get? b = some o → s.heap.get? b = some o := fun b o e => (I.bs b o e).1
theorem Inv.mod (I : Inv X pins σ H s) : Mod X.K X.mg X.base := I.ok.mod
theorem Inv.kIn (I : Inv X pins σ H s) : X.K.In s.heap := I.ok.mod.kin.keeps I.bk
theorem Inv.nolimit (I : Inv X pins σ H s) : s.heap.NoLimit := I.ok.mod.nolimit.keeps I.bk
theorem Inv.fr (I : Inv X pins σ H s) : ∃ m, Fr X.base X.env.locals s.heap m :=
  let ⟨m, hn, _⟩ := I.loc
  ⟨m, hn, I.bk, Nat.le_trans I.ok.bsz I.ok.above⟩
theorem Inv.lt (I : Inv X pins σ H s) : X.env.locals < s.heap.objs.size := let ⟨_, hn, _⟩ := I.loc; hn.lt
theorem Inv.sz (I : Inv X pins σ H s) : X.s_0.heap.objs.size ≤ s.heap.objs.size := Nat.le_trans I.ok.above (Nat.le_of_lt I.lt)
theorem Inv.nofs (I : Inv X pins σ H s) {a : Addr} (h : s.heap.objs.size ≤ a) : a ∉ X.fs := fun hb => by
  obtain ⟨_, o, ho, _⟩ := I.ok.funs.mem hb
  exact absurd (Nat.lt_of_lt_of_le (Heap.lt_size ho) (Nat.le_trans I.sz h)) (Nat.lt_irrefl _)
theorem Inv.cne (I : Inv X pins σ H s) : ∀ x c, X.env.cells.lookup x = some c → c ≠ X.env.locals := fun x c e z => by
  obtain ⟨v, o, ho, hd⟩ := I.cell x c e
  obtain ⟨m, ⟨o', es, ep, ho', hd', _⟩, _⟩ := I.loc
  rw [z, ho'] at ho; cases ho; rw [hd'] at hd; cases hd
theorem Inv.funs (I : Inv X pins σ H s) : s.heap.FunFrames X.base X.outer := by
  have all : ∀ (l : List Env), (∀ b ∈ frs l, b ∈ X.fs) → X.s_0.heap.FunFrames X.base l → s.heap.FunFrames X.base l := by
    intro l
    induction l with
    | nil => intro _ _; trivial
    | cons env r ih =>
      intro hs hl
      obtain ⟨hk, ⟨L, o, hf, hn, ho, hd⟩, hr⟩ := hl
      have hL : L ∈ X.fs := hs L (by unfold frs; rw [List.filterMap_cons, hf]; exact List.mem_cons_self)
      obtain ⟨sl, e⟩ := I.base.slot L o ho (I.ok.frf L hL) hL fun z => I.ok.exfs L z hL
      exact ⟨hk, ⟨L, _, hf, hn, e, hd⟩, ih (fun b hb => hs b (by unfold frs; rw [List.filterMap_cons, hf]; exact List.mem_cons_of_mem _ hb)) hr⟩
  exact all X.outer (fun _ hb => hb) I.ok.funs
theorem Inv.stack (I : Inv X pins σ H s) : s.heap.FunFrames X.base X.stack := by
  rcases I.ok.stk with e | ⟨e, hf⟩
  · rw [e]; exact I.funs
  · rw [e]
    obtain ⟨m, hn, _⟩ := I.loc
    refine .cons (by rw [I.ok.kind]; decide) hf hn ?_ I.funs
    exact Heap.get?_none_of_le (Nat.le_trans I.ok.bsz I.ok.above)
theorem Inv.stkSub (I : Inv X pins σ H s) : ∀ b ∈ frs X.stack, b ∈ X.env.locals :: X.fs := fun b hb => by
  rcases I.ok.stk with e | ⟨e, hf⟩
  · rw [e] at hb; exact List.mem_cons_of_mem _ hb
  · rw [e] at hb
    unfold frs at hb
    rw [List.filterMap_cons, hf] at hb
    exact hb
theorem Inv.stkFree (I : Inv X pins σ H s) : ∀ b ∈ frs X.stack, H b = none := fun b hb => by
  rcases List.mem_cons.mp (I.stkSub b hb) with e | hb
  · rw [e]; exact I.free
  · obtain ⟨_, o, ho, _⟩ := I.ok.funs.mem hb
    exact I.base.free b o ho (I.ok.frf b hb) fun z => I.ok.exfs b z hb
theorem Inv.step {g' : Array GenState} {t' : Nat} {d' : Drawn} {ch : List Addr} (I : Inv X pins σ H s)
    (hch : ∀ b ∈ ch, (b ∈ X.ex ∨ X.s_0.heap.objs.size ≤ b) ∧ b ≠ X.env.locals ∧ (∀ x c, X.env.cells.lookup x = some c → c ≠ b) ∧ ∀ p ∈ X.pn ++ pins, p.1 ≠ b)
    (keep : ∀ b o, b ≠ X.env.locals → b ∉ X.fs → b ∉ ch → s.heap.get? b = some o → H b = none → h'.get? b = some o)
    (slot : ∀ b o, b ≠ X.env.locals → b ∈ X.fs → b ∉ ch → s.heap.get? b = some o → H b = none → ∃ sl, h'.get? b = some { o with slots := sl }) (free : ∀ b o, b ∉ ch → s.heap.get? b = some o → H b = none → H' b = none)
    (there : ∀ b o, b ∉ ch → s.heap.get? b = some o → ∃ o', h'.get? b = some o')
    (tups : ∀ b xs, H b = some (.tup xs) → H' b = some (.tup xs)) (frzs : ∀ b o u, H b = some (.frz o u) → H' b = some (.frz o u)) (tbls : ∀ b t q, H b = some (.tbl t q) → H' b = some (.tbl t q))
    (ns : ∀ m, s.heap.Ns X.env.locals m → h'.Ns X.env.locals m) (hok : HOk X.prog X.w H' h') (hg : AllBare g') :
    Inv X pins σ H' { s with heap := h', gens := g', drawn := d', toks := t' } := by
  have neL : ∀ b o, X.s_0.heap.get? b = some o → b ≠ X.env.locals := fun b o e => Nat.ne_of_lt (Nat.lt_of_lt_of_le (Heap.lt_size e) I.ok.above)
  have neC : ∀ b o, X.s_0.heap.get? b = some o → b ∉ X.ex → b ∉ ch := fun b o e hx hb => by
    rcases (hch b hb).1 with z | z
    · exact hx z
    · exact absurd (Nat.lt_of_lt_of_le (Heap.lt_size e) z) (Nat.lt_irrefl _)
  have cellK : ∀ x c, X.env.cells.lookup x = some c → ∀ v, s.heap.IsCell c v → h'.IsCell c v := fun x c e v ⟨o, ho, hd⟩ => by
    have nch : c ∉ ch := fun z => (hch c z).2.2.1 x c e rfl
    by_cases hc : c ∈ X.fs
    · obtain ⟨sl, q⟩ := slot c o (I.cne x c e) hc nch ho (I.freeC x c e)
      exact ⟨_, q, hd⟩
    · exact ⟨o, keep c o (I.cne x c e) hc nch ho (I.freeC x c e), hd⟩
  refine ⟨I.ok, I.os, hg, ⟨fun b o e n hb hx => ?_, fun b o e n hb hx => ?_, fun b o e n hx => ?_, fun b o e hx => ?_, fun b xs e => tups b xs (I.base.tups b xs e), fun b o xs e => frzs b o xs (I.base.frzs b o xs e), fun b t z e => ?_⟩, ?_, fun x c e => ?_, ?_, fun x c e => ?_, fun p hp => ?_, hok, I.len⟩
  · exact keep b o (neL b o e) hb (neC b o e hx) (I.base.keep b o e n hb hx) (I.base.free b o e n hx)
  · obtain ⟨sl, e1⟩ := I.base.slot b o e n hb hx
    obtain ⟨sl', e2⟩ := slot b _ (neL b o e) hb (neC b o e hx) e1 (I.base.free b o e n hx)
    exact ⟨sl', e2⟩
  · obtain ⟨o', e1⟩ := I.base.there b o e hx
    exact free b o' (neC b o e hx) e1 (I.base.free b o e n hx)
  · obtain ⟨o', e1⟩ := I.base.there b o e hx
    exact there b o' (neC b o e hx) e1
  · exact tbls b _ _ (I.base.tbls b _ _ e)
  · obtain ⟨m, hn, hl⟩ := I.loc
    refine ⟨m, ns m hn, fun i x v e1 e2 e3 => ?_⟩
    obtain ⟨u, r, l⟩ := hl i x v e1 e2 e3
    refine ⟨u, r, ?_⟩
    rcases l with l | ⟨k, c, e, z⟩
    · exact .inl l
    · exact .inr ⟨k, c, e, cellK x c e _ z⟩
  · obtain ⟨v, z⟩ := I.cell x c e
    exact ⟨v, cellK x c e v z⟩
  · obtain ⟨m, ⟨o, _, _, ho, _⟩, _⟩ := I.loc
    exact free _ o (fun z => (hch _ z).2.1 rfl) ho I.free
  · obtain ⟨v, o, ho, hd⟩ := I.cell x c e
    exact free c o (fun z => (hch c z).2.2.1 x c e rfl) ho (I.freeC x c e)
  · obtain ⟨e, n, ne, nf, d⟩ := I.pin p hp
    have nch : p.1 ∉ ch := fun z => (hch p.1 z).2.2.2 p hp rfl
    exact ⟨keep p.1 p.2 ne nf nch e n, free p.1 p.2 nch e n, ne, nf, d⟩
theorem Inv.un {t' : Nat} (I : Inv X pins σ H s) (u : Un X.fs [] H H' s.heap h') (hok : HOk X.prog X.w H' h') : Inv X pins σ H' { s with heap := h', toks := t' } := by
  obtain ⟨m, ⟨o, es, ep, ho, r⟩, _⟩ := id I.loc
  obtain ⟨sl, hL⟩ := u.any ho I.free (by simp)
  exact I.step (g' := s.gens) (d' := s.drawn) (ch := []) (fun _ z => nomatch z) (fun b o _ hb _ e n => u.keep b o e n hb (by simp)) (fun b o _ hb _ e n => u.slot b o e n hb (by simp)) (fun b o _ e n => u.free b o e n (by simp)) (fun b o _ e => u.there b o e (by simp)) u.tups u.frzs u.tbls (fun m' hm => by
    obtain ⟨o', es', ep', ho', r'⟩ := hm
    rw [ho] at ho'; cases ho'
    exact ⟨_, es', ep', hL, r'⟩) hok I.bare
theorem Inv.call {g' : Array GenState} {t' : Nat} {d' : Drawn} {ch : List Addr} (I : Inv X pins σ H s) (u : Un (frs X.stack) ch H H' s.heap h') (hok : HOk X.prog X.w H' h') (hg : AllBare g')
    (hch : ∀ b ∈ ch, (b ∈ X.ex ∨ X.s_0.heap.objs.size ≤ b) ∧ b ≠ X.env.locals ∧ (∀ x c, X.env.cells.lookup x = some c → c ≠ b) ∧ ∀ p ∈ X.pn ++ pins, p.1 ≠ b) :
    Inv X pins σ H' { s with heap := h', gens := g', drawn := d', toks := t' } := by
  obtain ⟨m, ⟨o, es, ep, ho, r⟩, _⟩ := id I.loc
  obtain ⟨sl, hL⟩ := u.any ho I.free fun z => (hch _ z).2.1 rfl
  exact I.step (ch := ch) hch (fun b o hL hb hc e n => u.keep b o e n (fun z => (List.mem_cons.mp (I.stkSub b z)).elim hL hb) hc) (fun b o _ _ hc e n => u.any e n hc) (fun b o hc e n => u.free b o e n hc) (fun b o hc e => u.there b o e hc) u.tups u.frzs u.tbls (fun m' hm => by
    obtain ⟨o', es', ep', ho', r'⟩ := hm
    rw [ho] at ho'; cases ho'
    exact ⟨_, es', ep', hL, r'⟩) hok hg
theorem Inv.turned {t' : Nat} {it : Addr} (I : Inv X pins σ H s) (k : ∀ b o, b ≠ it → s.heap.get? b = some o → h'.get? b = some o) (hn : H it = none) (hL : it ≠ X.env.locals)
    (h1 : it ∈ X.ex ∨ X.s_0.heap.objs.size ≤ it) (h2 : ∀ x c, X.env.cells.lookup x = some c → c ≠ it) (h3 : ∀ p ∈ X.pn ++ pins, p.1 ≠ it) : Inv X pins σ H { s with heap := h', toks := t' } := by
  have nit : ∀ b u, H b = some u → b ≠ it := fun b u e z => by rw [z, hn] at e; cases e
  refine I.step (g' := s.gens) (d' := s.drawn) (ch := [it]) (fun b hb => ?_) (fun b o _ _ hc e _ => k b o (fun z => hc (by simp [z])) e) (fun b o _ _ hc e _ => ⟨o.slots, k b o (fun z => hc (by simp [z])) e⟩) (fun _ _ _ _ n => n)
    (fun b o hc e => ⟨o, k b o (fun z => hc (by simp [z])) e⟩) (fun _ _ e => e) (fun _ _ _ e => e) (fun _ _ _ e => e) (fun m hm => ?_) (fun b u e => ?_) I.bare
  · have e : b = it := by simpa using hb
    subst e
    exact ⟨h1, hL, h2, h3⟩
  · obtain ⟨o, es, ep, ho, r⟩ := hm
    exact ⟨o, es, ep, k _ o (Ne.symm hL) ho, r⟩
  · refine (I.hok b u e).stay (fun c v hc q => k c v ?_ q) (fun _ q => q) (fun _ _ q => q) fun _ _ _ q => q
    rcases hc with z | z
    · rw [z]; exact nit b u e
    · exact nit c _ z
theorem Inv.tok (I : Inv X pins σ H s) (t : Nat) : Inv X pins σ H { s with toks := t } := I.un (h' := s.heap) (t' := t) Un.refl I.hok
theorem Inv.kept {t' : Nat} (I : Inv X pins σ H s) (k : ∀ b u, s.heap.get? b = some u → h'.get? b = some u) : Inv X pins σ H { s with heap := h', toks := t' } := I.un (Un.kept k) (I.hok.kept k)
theorem Inv.laid {a : Addr} {o : HO} {t' : Nat} (I : Inv X pins σ H s) (k : ∀ b u, s.heap.get? b = some u → h'.get? b = some u) (hp : s.heap.objs.size ≤ a) (new : ObjOk X.prog X.w (upd H a o) h' a o) :
    Inv X pins σ (upd H a o) { s with heap := h', toks := t' } := I.un (Un.laid k hp (I.hok.fresh hp)) (I.hok.laid k hp new)
theorem Inv.write {x e : Addr} {o : HO} {t' : Nat} (I : Inv X pins σ H s) (mu : Mut (H x)) (he : e = x ∨ H e = some (.own x)) (k : ∀ b u, b ≠ e → s.heap.get? b = some u → h'.get? b = some u) (heo : ∃ u, h'.get? e = some u)
    (new : ObjOk X.prog X.w (upd H x o) h' x o) : Inv X pins σ (upd H x o) { s with heap := h', toks := t' } := I.un (Un.write mu he k heo) (I.hok.write mu he k heo new)
theorem Inv.weak {σ' : List (Option V)} (I : Inv X pins σ H s) (hl : σ'.length = σ.length) (w : ∀ (i : Nat) v, σ'[i]? = some (some v) → σ[i]? = some (some v)) : Inv X pins σ' H s :=
  ⟨I.ok, I.os, I.bare, I.base, let ⟨m, hn, hl'⟩ := I.loc; ⟨m, hn, fun i x v e1 e2 e3 => hl' i x v e1 (w i v e2) e3⟩, I.cell, I.free, I.freeC, I.pin, I.hok, hl.trans I.len⟩
theorem Inv.pins_of {pins' : List (Addr × Obj)} (I : Inv X pins σ H s) (h : ∀ p ∈ pins', s.heap.get? p.1 = some p.2 ∧ H p.1 = none ∧ p.1 ≠ X.env.locals ∧ p.1 ∉ X.fs ∧ ∀ v, p.2.data ≠ .cell v) : Inv X pins' σ H s :=
  ⟨I.ok, I.os, I.bare, I.base, I.loc, I.cell, I.free, I.freeC, fun p hp => (List.mem_append.mp hp).elim (fun z => I.pin p (List.mem_append_left _ z)) (h p), I.hok, I.len⟩
theorem nodup_ix {N : List Str} (hN : N.Nodup) {i j : Nat} {x : Str} (a : N[i]? = some x) (b : N[j]? = some x) : i = j := by
  obtain ⟨h1, e1⟩ := List.getElem?_eq_some_iff.mp a
  obtain ⟨h2, e2⟩ := List.getElem?_eq_some_iff.mp b
  exact (List.getElem_inj hN).mp (e1.trans e2.symm)
theorem store_ok2 {M : Model} {A : Around} {E : Value → Shared → Prop} {i : Nat} {x : Str} {v : V} {u : Value} {Q : Unit → Shared → Prop} (I : Inv X pins σ H s) (hN : X.N.Nodup) (hi : X.N[i]? = some x) (hx : Loc X.env.scope x) (r : RelV v u)
    (h : ∀ s', Inv X pins (σ.set i (some v)) H s' → (∃ a, Heap.SameBut a s.heap s'.heap ∧ (a = X.env.locals ∨ X.env.cells.lookup x = some a)) → Q () s') (hf : X.fn x = true ∨ X.env.scope.names.lookup x = some .local := by first | exact .inl rfl | exact .inr rfl | assumption) : wpAny M A (storeName X.env x u) Q E s := by
  obtain ⟨m, hn, hl⟩ := id I.loc
  have hcls : (X.env.scope.kind == .class || (X.env.scope.kind == .module && X.env.locals != X.env.globals)) = false := by rw [I.ok.kind]; rfl
  have hiσ : i < σ.length := by rw [I.len]; exact (List.getElem?_eq_some_iff.mp hi).1
  have cne := I.cne
  have tracked : ∀ {a : Addr} {h' : Heap}, (∃ o, s.heap.get? a = some o ∧ H a = none) → Heap.SameBut a s.heap h' → HOk X.prog X.w H h' := fun {a h'} ha hs b ob e => by
    obtain ⟨_, _, hfree⟩ := ha
    refine (I.hok b ob e).stay (fun c w' hc q => (hs.2 c ?_).trans q) (fun _ q => q) (fun _ _ q => q) fun _ _ _ q => q
    rintro rfl
    rcases hc with rfl | hc
    · rw [hfree] at e; cases e
    · rw [hfree] at hc; cases hc
  rcases hx with hk | hk
  · refine wpAny_storeName_local hk hn (fun h' hn' hs => ?_) hcls
    obtain ⟨oL, _, _, hoL, _⟩ := id hn
    refine h _ ⟨I.ok, I.os, I.bare, ⟨fun b o e n hb hx => ?_, fun b o e n hb hx => ?_, I.base.free, fun b o e hx => ?_, I.base.tups, I.base.frzs, I.base.tbls⟩, ⟨_, hn', fun j y v' e1 e2 e3 => ?_⟩, fun y c e => ?_, I.free, I.freeC, fun p hp => ?_, tracked ⟨oL, hoL, I.free⟩ hs, by simpa using I.len⟩ ⟨_, hs, .inl rfl⟩
    · exact (hs.2 b (Nat.ne_of_lt (Nat.lt_of_lt_of_le (Heap.lt_size e) I.ok.above))).trans (I.base.keep b o e n hb hx)
    · obtain ⟨sl, e1⟩ := I.base.slot b o e n hb hx
      exact ⟨sl, (hs.2 b (Nat.ne_of_lt (Nat.lt_of_lt_of_le (Heap.lt_size e) I.ok.above))).trans e1⟩
    · obtain ⟨o', e1⟩ := I.base.there b o e hx
      exact ⟨o', (hs.2 b (Nat.ne_of_lt (Nat.lt_of_lt_of_le (Heap.lt_size e) I.ok.above))).trans e1⟩
    · by_cases hj : j = i
      · subst hj
        rw [hi] at e1; cases e1
        rw [List.getElem?_set_self hiσ] at e2
        cases e2
        exact ⟨u, r, .inl ⟨hk, by simp⟩⟩
      · rw [List.getElem?_set_ne (Ne.symm hj)] at e2
        obtain ⟨u', r', q⟩ := hl j y v' e1 e2 e3
        refine ⟨u', r', ?_⟩
        rcases q with ⟨k, e⟩ | ⟨k, c, e, z⟩
        · refine .inl ⟨k, ?_⟩
          have : y ≠ x := fun e => hj (nodup_ix hN e1 (e ▸ hi))
          simp [this, e]
        · exact .inr ⟨k, c, e, z.sameBut hs (cne y c e)⟩
    · obtain ⟨w', z⟩ := I.cell y c e
      exact ⟨w', z.sameBut hs (cne y c e)⟩
    · obtain ⟨e, n, ne, nf, d⟩ := I.pin p hp
      exact ⟨(hs.2 p.1 ne).trans e, n, ne, nf, d⟩
  · have hfn : X.fn x = true := by
      rcases hf with z | z
      · exact z
      · rw [z] at hk; cases hk
    obtain ⟨c, hc⟩ := I.ok.has x (.inl hk)
    obtain ⟨w', z⟩ := I.cell x c hc
    refine wpAny_storeName_cell I.ok.kind hk hc z (fun h' hc' hs => ?_)
    obtain ⟨oc, hoc, hocd⟩ := id z
    refine h { s with heap := h' } ⟨I.ok, I.os, I.bare, ⟨fun b o e n hb hx => ?_, fun b o e n hb hx => ?_, I.base.free, fun b o e hx => ?_, I.base.tups, I.base.frzs, I.base.tbls⟩, ⟨m, hn.sameBut hs (Ne.symm (cne x c hc)), fun j y v' e1 e2 e3 => ?_⟩, fun y c' e => ?_, I.free, I.freeC, fun p hp => ?_, tracked ⟨oc, hoc, I.freeC x c hc⟩ hs, by simpa using I.len⟩ ⟨c, hs, .inr hc⟩
    · exact (hs.2 b (Nat.ne_of_lt (Nat.lt_of_lt_of_le (Heap.lt_size e) (I.ok.cab x c hfn hc)))).trans (I.base.keep b o e n hb hx)
    · obtain ⟨sl, e1⟩ := I.base.slot b o e n hb hx
      exact ⟨sl, (hs.2 b (Nat.ne_of_lt (Nat.lt_of_lt_of_le (Heap.lt_size e) (I.ok.cab x c hfn hc)))).trans e1⟩
    · obtain ⟨o', e1⟩ := I.base.there b o e hx
      exact ⟨o', (hs.2 b (Nat.ne_of_lt (Nat.lt_of_lt_of_le (Heap.lt_size e) (I.ok.cab x c hfn hc)))).trans e1⟩
    · by_cases hj : j = i
      · subst hj
        rw [hi] at e1; cases e1
        rw [List.getElem?_set_self hiσ] at e2
        cases e2
        exact ⟨u, r, .inr ⟨.inl hk, c, hc, hc'⟩⟩
      · rw [List.getElem?_set_ne (Ne.symm hj)] at e2
        obtain ⟨u', r', q⟩ := hl j y v' e1 e2 e3
        refine ⟨u', r', ?_⟩
        rcases q with q | ⟨k, c', e, z'⟩
        · exact .inl q
        · refine .inr ⟨k, c', e, z'.sameBut hs ?_⟩
          rintro rfl
          exact hj (nodup_ix hN e1 (I.ok.inj _ _ _ e hc ▸ hi))
    · by_cases hcc : c' = c
      · subst hcc; exact ⟨_, hc'⟩
      · obtain ⟨w2, z2⟩ := I.cell y c' e
        exact ⟨w2, z2.sameBut hs hcc⟩
    · obtain ⟨e, n, ne, nf, d⟩ := I.pin p hp
      refine ⟨(hs.2 p.1 ?_).trans e, n, ne, nf, d⟩
      intro q
      rw [q, hoc] at e
      have q' : oc = p.2 := Option.some.inj e
      exact d w' (by rw [← q']; exact hocd)
theorem store_ok {M : Model} {A : Around} {E : Value → Shared → Prop} {i : Nat} {x : Str} {v : V} {u : Value} {Q : Unit → Shared → Prop} (I : Inv X pins σ H s) (hN : X.N.Nodup) (hi : X.N[i]? = some x) (hx : Loc X.env.scope x) (r : RelV v u)
    (h : ∀ s', Inv X pins (σ.set i (some v)) H s' → Q () s') (hf : X.fn x = true ∨ X.env.scope.names.lookup x = some .local := by first | exact .inl rfl | exact .inr rfl | assumption) : wpAny M A (storeName X.env x u) Q E s :=
  store_ok2 I hN hi hx r (fun s' I' _ => h s' I') hf
theorem Inv.call' {s' : Shared} {ch : List Addr} (I : Inv X pins σ H s) (ho : s'.os = s.os) (u : Un (frs X.stack) ch H H' s.heap s'.heap) (hok : HOk X.prog X.w H' s'.heap) (hg : AllBare s'.gens)
    (hch : ∀ b ∈ ch, (b ∈ X.ex ∨ X.s_0.heap.objs.size ≤ b) ∧ b ≠ X.env.locals ∧ (∀ x c, X.env.cells.lookup x = some c → c ≠ b) ∧ ∀ p ∈ X.pn ++ pins, p.1 ≠ b) : Inv X pins σ H' s' := by
  obtain ⟨h', g', d', t', o'⟩ := s'
  have e : o' = s.os := ho
  subst e
  exact I.call (g' := g') (t' := t') (d' := d') u hok hg hch
end
abbrev XK := Value → Option Addr → Hp → Prop
abbrev St := List (Option V)
abbrev VK := V → Hp → Prop
abbrev TE := St → Hp → VK → Prop
abbrev TT := St → Hp → (Bool → Hp → Prop) → Prop
abbrev TA := St → Hp → (List V → Hp → Prop) → Prop
structure Ends where
  nx : St → Hp → Prop
  rt : VK
  bk : St → Hp → Prop := fun _ _ => False
  ct : St → Hp → Prop := fun _ _ => False
abbrev TS := Ends → St → Hp → Prop
def EP (X : Cx) (pins : List (Addr × Obj)) (σ : St) (Q : VK) (u : Value) (s' : Shared) : Prop := ∃ v H', Inv X pins σ H' s' ∧ RelV v u ∧ Q v H'
def TP (X : Cx) (pins : List (Addr × Obj)) (σ : St) (Q : Bool → Hp → Prop) (b : Bool) (s' : Shared) : Prop := ∃ H', Inv X pins σ H' s' ∧ Q b H'
def AP (X : Cx) (pins : List (Addr × Obj)) (σ : St) (Q : List V → Hp → Prop) (us : List Value) (s' : Shared) : Prop := ∃ vs H', Inv X pins σ H' s' ∧ Vals vs us ∧ Q vs H'
def SP (X : Cx) (pins : List (Addr × Obj)) (D : Ends) (f : Flow) (s' : Shared) : Prop :=
  match f with
  | .next => ∃ σ' H', Inv X pins σ' H' s' ∧ D.nx σ' H'
  | .brk => ∃ σ' H', Inv X pins σ' H' s' ∧ D.bk σ' H'
  | .cont => ∃ σ' H', Inv X pins σ' H' s' ∧ D.ct σ' H'
  | .ret u => ∃ v σ' H', Inv X pins σ' H' s' ∧ RelV v u ∧ D.rt v H'
def PE (X : Cx) (e : Expr) (t : TE) : Prop :=
  ∀ (pins : List (Addr × Obj)) (s : Shared) (σ : St) (H : Hp) (Q : VK), Inv X pins σ H s → t σ H Q → wpAny (model X.prog X.w) X.A (eval e X.env) (EP X pins σ Q) X.xe s
def PT (X : Cx) (e : Expr) (t : TT) : Prop :=
  ∀ (pins : List (Addr × Obj)) (s : Shared) (σ : St) (H : Hp) (Q : Bool → Hp → Prop), Inv X pins σ H s → t σ H Q → wpAny (model X.prog X.w) X.A (isTrue e X.env (eval e X.env)) (TP X pins σ Q) X.xe s
def PW (X : Cx) (e : Expr) (t : TT) : Prop :=
  ∀ (whole : Sem Value) (pins : List (Addr × Obj)) (s : Shared) (σ : St) (H : Hp) (Q : Bool → Hp → Prop), Inv X pins σ H s → t σ H Q → wpAny (model X.prog X.w) X.A (isTrue e X.env whole) (TP X pins σ Q) X.xe s
theorem PW.pt {X : Cx} {e : Expr} {t : TT} (h : PW X e t) : PT X e t := h _
def PA (X : Cx) (es : List Expr) (t : TA) : Prop :=
  ∀ (pos : Pos) (pins : List (Addr × Obj)) (s : Shared) (σ : St) (H : Hp) (Q : List V → Hp → Prop), Inv X pins σ H s → t σ H Q → wpAny (model X.prog X.w) X.A (spliced (backTo pos (starEach es X.env))) (AP X pins σ Q) X.xe s
def PS (X : Cx) (st : Stmt) (t : TS) : Prop :=
  ∀ (pins : List (Addr × Obj)) (s : Shared) (σ : St) (H : Hp) (D : Ends), Inv X pins σ H s → t D σ H → wpAny (model X.prog X.w) X.A (exec st X.env) (SP X pins D) X.xe s
def PSs (X : Cx) (st : List Stmt) (t : TS) : Prop :=
  ∀ (pins : List (Addr × Obj)) (s : Shared) (σ : St) (H : Hp) (D : Ends), Inv X pins σ H s → t D σ H → wpAny (model X.prog X.w) X.A (execs st X.env) (SP X pins D) X.xe s
theorem thn {α : Type} {t : Sem α} {Q Q' : α → Shared → Prop} {M : Model} {A : Around} {E : Value → Shared → Prop} {s : Shared} (h : wpAny M A t Q E s) (hQ : ∀ a s, Q a s → Q' a s) : wpAny M A t Q' E s := wpAny_mono h hQ fun _ _ x => x
end L2
namespace L2
open PySem PySem.Spec PyProof.Rows
section
variable {X : Cx}
def tVar (i : Nat) : TE := fun σ H Q => ∃ v, σ[i]? = some (some v) ∧ Q v H
def tC (v : V) : TE := fun _ H Q => Q v H
theorem pe_var {i : Nat} {x : Str} {pos : Pos} (hN : X.N[i]? = some x) (hv : Vis X.env.scope x) (hd : (x == ("__debug__" : Str)) = false := by decide) (hcd : (x == ("__classdict__" : Str)) = false := by decide) : PE X (.Name x pos) (tVar i) := by
  intro pins s σ H Q I h
  obtain ⟨v, e, h⟩ := h
  obtain ⟨m, hn, hl⟩ := I.loc
  obtain ⟨u, r, l⟩ := hl i x v hN e hv
  have fin : EP X pins σ Q u s := ⟨v, H, I, r, h⟩
  rcases l with ⟨hk, hm⟩ | ⟨hk, c, hc, hcell⟩
  · exact wpAny_Name (wpAny_loadName_local I.ok.kind hk hn hm fin) hd
  · rcases hk with hk | hk
    · exact wpAny_Name (wpAny_loadName_cell I.ok.kind hk hc hcell fin) hd
    · exact wpAny_Name (wpAny_loadName_free I.ok.kind hk hc hcell fin hcd) hd
theorem pe_int {i j pos} : PE X (.Constant (.int i) j pos) (tC (.int i)) := fun _ _ _ H _ I h => wpAny_Constant_int ⟨.int i, H, I.tok _, ⟨_, rfl⟩, h⟩
theorem pe_bl {b j pos} : PE X (.Constant (.bool b) j pos) (tC (.bl b)) := fun _ _ _ H _ I h => Constant_bool ⟨.bl b, H, I, rfl, h⟩
theorem pe_str {x j pos} : PE X (.Constant (.str x) j pos) (tC (.str x)) := fun _ _ _ H _ I h => Calls.Constant_str ⟨.str x, H, I.tok _, ⟨_, rfl⟩, h⟩
def Gl (X : Cx) (x : Str) : Prop := X.env.kindOf x = some .globalImplicit
theorem ld_glob {E : Value → Shared → Prop} {pins : List (Addr × Obj)} {s : Shared} {σ : St} {H : Hp} {x : Str} {u : Value} {pos : Pos} {Q : Value → Shared → Prop} (I : Inv X pins σ H s) (hg : Gl X x) (hm : X.mg x = some u) (h : Q u s)
    (hd : (x == ("__debug__" : Str)) = false := by decide) : wpAny (model X.prog X.w) X.A (eval (.Name x pos) X.env) Q E s :=
  Calls.Name_function_global I.ok.kind hg (Calls.loadGlobal_global (by rw [I.ok.glob]; exact I.mod.glob.keeps I.bk) hm h) hd
theorem ld_blt {E : Value → Shared → Prop} {pins : List (Addr × Obj)} {s : Shared} {σ : St} {H : Hp} {x : Str} {u : Value} {pos : Pos} {Q : Value → Shared → Prop} (I : Inv X pins σ H s) (hg : Gl X x) (hm : X.mg x = none) (hv : bootBuiltins x = some u) (h : Q u s)
    (hn : x ≠ "__name__" := by decide) (hd : (x == ("__debug__" : Str)) = false := by decide) : wpAny (model X.prog X.w) X.A (eval (.Name x pos) X.env) Q E s := by
  obtain ⟨mb, h1, h2⟩ := I.mod.blt
  exact Calls.Name_function_global I.ok.kind hg (Calls.loadGlobal_builtin (by rw [I.ok.glob]; exact I.mod.glob.keeps I.bk) hm (by rw [I.ok.blt]; exact h1.keeps I.bk) ((h2 x hn).trans hv) h) hd
theorem pe_glob {x : Str} {v : V} {u : Value} {pos : Pos} (hg : Gl X x) (hm : X.mg x = some u) (r : RelV v u) (hd : (x == ("__debug__" : Str)) = false := by decide) : PE X (.Name x pos) (tC v) :=
  fun _ _ _ H _ I h => ld_glob I hg hm ⟨v, H, I, r, h⟩ hd
theorem pe_bltn {x : Str} {v : V} {u : Value} {pos : Pos} (hg : Gl X x) (hm : X.mg x = none) (hv : bootBuiltins x = some u) (r : RelV v u) (hn : x ≠ "__name__" := by decide) (hd : (x == ("__debug__" : Str)) = false := by decide) : PE X (.Name x pos) (tC v) :=
  fun _ _ _ H _ I h => ld_blt I hg hm hv ⟨v, H, I, r, h⟩ hn hd
variable {a b : Expr} {ta tb : TE} {pos : Pos}
variable {tA tB' : TT} {rest : List Expr}
def tAnd (t u : TT) : TT := fun σ H Q => t σ H fun c H1 => if c = true then u σ H1 Q else Q false H1
def tOr (t u : TT) : TT := fun σ H Q => t σ H fun c H1 => if c = true then Q true H1 else u σ H1 Q
def tNot (t : TT) : TT := fun σ H Q => t σ H fun c H1 => Q (!c) H1
theorem pw_and1 (ha : PT X a tA) : PW X (.BoolOp .And [a] pos) tA := by
  intro wh pins s σ H Q I h
  refine isTrue_and (thn (ha pins s σ H Q I h) fun c s1 e => ?_)
  cases c with
  | true => exact isTrue_and_nil e
  | false => exact e
theorem pw_or1 (ha : PT X a tA) : PW X (.BoolOp .Or [a] pos) tA := by
  intro wh pins s σ H Q I h
  refine isTrue_or (thn (ha pins s σ H Q I h) fun c s1 e => ?_)
  cases c with
  | false => exact isTrue_or_nil e
  | true => exact e
theorem pw_and (ha : PT X a tA) (hb : PW X (.BoolOp .And (b :: rest) pos) tB') : PW X (.BoolOp .And (a :: b :: rest) pos) (tAnd tA tB') := by
  intro wh pins s σ H Q I h
  refine isTrue_and (thn (ha pins s σ H _ I h) fun c s1 ⟨H1, I1, q1⟩ => ?_)
  cases c with
  | true => exact hb wh pins s1 σ H1 Q I1 q1
  | false => exact ⟨H1, I1, q1⟩
theorem pw_or (ha : PT X a tA) (hb : PW X (.BoolOp .Or (b :: rest) pos) tB') : PW X (.BoolOp .Or (a :: b :: rest) pos) (tOr tA tB') := by
  intro wh pins s σ H Q I h
  refine isTrue_or (thn (ha pins s σ H _ I h) fun c s1 ⟨H1, I1, q1⟩ => ?_)
  cases c with
  | true => exact ⟨H1, I1, q1⟩
  | false => exact hb wh pins s1 σ H1 Q I1 q1
theorem pt_not (ha : PT X a tA) : PT X (.UnaryOp .Not a pos) (tNot tA) := by
  intro pins s σ H Q I h
  exact isTrue_not (ha pins s σ H (fun c H1 => Q (!c) H1) I h)
def tAndV (ta tb : TE) : TE := fun σ H Q => ta σ H fun x H1 => ∃ c, x = .bl c ∧ if c = true then tb σ H1 Q else Q (.bl false) H1
theorem pe_one {op} {t : TE} (h : PE X a t) : PE X (.BoolOp op [a] pos) t := fun pins s σ H Q I hw => BoolOp_one (h pins s σ H Q I hw)
theorem pe_and (ha : PE X a ta) (hb : PE X (.BoolOp .And (b :: rest) pos) tb) : PE X (.BoolOp .And (a :: b :: rest) pos) (tAndV ta tb) := by
  intro pins s σ H Q I h
  refine BoolOp_and (thn (ha pins s σ H _ I h) fun v s1 ⟨x, H1, I1, r1, q1⟩ => ?_)
  obtain ⟨c, rfl, q1⟩ := q1
  cases r1
  refine wpAny_truthy_bool ?_
  cases c with
  | true => exact hb pins s1 σ H1 Q I1 q1
  | false => exact ⟨.bl false, H1, I1, rfl, q1⟩
end
end L2
namespace L2
open PySem PySem.Spec PyProof.Rows
def SqL (K : PySem.W.Frag) (H : Hp) (a : Addr) (xs : List V) : Prop :=
  Rd H a (.lst xs) ∨ H a = some (.lsw xs) ∨
    ∃ (o : Obj) (its : Array Value) (n : Nat), K.lookup a = some o ∧ o.cls = .type "list" ∧ o.dict = none ∧ o.data = .seq its n ∧ its.size ≤ sizeLine ∧ Vals xs its.toList
def SqT (K : PySem.W.Frag) (H : Hp) (a : Addr) (xs : List V) : Prop :=
  Rd H a (.tup xs) ∨
    ∃ (o : Obj) (its : Array Value) (n : Nat), K.lookup a = some o ∧ o.cls = .type "tuple" ∧ o.data = .seq its n ∧ its.size ≤ sizeLine ∧ Vals xs its.toList
def absV : Value → Option V
  | .none => some .non
  | .bool b => some (.bl b)
  | .int i _ => some (.int i)
  | .str x _ => some (.str x)
  | .bytes b _ => some (.byt b)
  | .float b _ => some (.flt b)
  | .ref a => some (.ref a)
  | .type n => some (.ty n)
  | _ => none
theorem RelV.abs {x : V} {u : Value} (r : RelV x u) : absV u = some x := by
  cases x with
  | non => cases r; rfl
  | bl _ => cases r; rfl
  | int _ => obtain ⟨t, rfl⟩ := r; rfl
  | str _ => obtain ⟨t, rfl⟩ := r; rfl
  | byt _ => obtain ⟨t, rfl⟩ := r; rfl
  | flt _ => obtain ⟨t, rfl⟩ := r; rfl
  | ref _ => cases r; rfl
  | ty _ => cases r; rfl
theorem RelV.inj {x y : V} {u : Value} (r : RelV x u) (q : RelV y u) : x = y := Option.some.inj (r.abs.symm.trans q.abs)
theorem Vals.inj : ∀ {xs ys : List V} {us : List Value}, Vals xs us → Vals ys us → xs = ys
  | _, _, _, .nil, .nil => rfl
  | _, _, _, .cons r t, .cons r' t' => by rw [r.inj r', Vals.inj t t']
section
variable {X : Cx} {pins : List (Addr × Obj)} {σ : St} {H : Hp} {s : Shared} {a : Addr} {xs ys : List V}
theorem SqL.of {K : PySem.W.Frag} (h : H a = some (.lst xs)) : SqL K H a xs := .inl (.inl h)
theorem SqT.of {K : PySem.W.Frag} (h : H a = some (.tup xs)) : SqT K H a xs := .inl (.inl h)
theorem Inv.list (I : Inv X pins σ H s) (h : SqL X.K H a xs) : ∃ its : List Value, Vals xs its ∧ PlainL s.heap a its.toArray ∧ xs.length ≤ sizeLine := by
  rcases h with h | h | ⟨o, its, n, hk, hc, hd, hs, hz, r⟩
  · obtain ⟨z, its, n, r, e⟩ := h.ok I.hok
    exact ⟨its, r, ⟨_, n, e, rfl, rfl, rfl⟩, z⟩
  · obtain ⟨z, its, n, r, e⟩ := I.hok _ _ h
    exact ⟨its, r, ⟨_, n, e, rfl, rfl, rfl⟩, z⟩
  · refine ⟨its.toList, r, ⟨o, n, I.kIn a o hk, hc, hd, by simpa using hs⟩, ?_⟩
    have e := r.length
    simp only [Array.length_toList] at e
    omega
theorem Inv.tuple (I : Inv X pins σ H s) (h : SqT X.K H a xs) : ∃ its : List Value, Vals xs its ∧ IsTup s.heap a its.toArray ∧ xs.length ≤ sizeLine := by
  rcases h with h | ⟨o, its, n, hk, hc, hs, hz, r⟩
  · obtain ⟨z, its, r, p⟩ := h.ok I.hok
    exact ⟨its, r, p, z⟩
  · refine ⟨its.toList, r, ⟨o, I.kIn a o hk, hc, n, by simpa using hs⟩, ?_⟩
    have e := r.length
    simp only [Array.length_toList] at e
    omega
theorem Inv.list_inj (I : Inv X pins σ H s) (h : SqL X.K H a xs) (h' : SqL X.K H a ys) : xs = ys := by
  obtain ⟨its, r, ⟨o, n, e, _, _, d⟩, _⟩ := I.list h
  obtain ⟨its', r', ⟨o', n', e', _, _, d'⟩, _⟩ := I.list h'
  rw [e] at e'; cases e'
  rw [d] at d'
  injection d' with d1 _
  have : its = its' := by simpa using congrArg Array.toList d1
  subst this
  exact r.inj r'
theorem Inv.tuple_inj (I : Inv X pins σ H s) (h : SqT X.K H a xs) (h' : SqT X.K H a ys) : xs = ys := by
  obtain ⟨its, r, ⟨o, e, _, n, d⟩, _⟩ := I.tuple h
  obtain ⟨its', r', ⟨o', e', _, n', d'⟩, _⟩ := I.tuple h'
  rw [e] at e'; cases e'
  rw [d] at d'
  injection d' with d1 _
  have : its = its' := by simpa using congrArg Array.toList d1
  subst this
  exact r.inj r'
end
abbrev Cx.wish (X : Cx) (E : Value → Shared → Prop) : Cx := { X with xe := E }
abbrev Cx.nox (X : Cx) : Cx := X.wish fun _ _ => False
theorem Cx.Ok.wish {X : Cx} (ok : X.Ok) (E : Value → Shared → Prop) : (X.wish E).Ok :=
  ⟨ok.mod, ok.kind, ok.glob, ok.blt, ok.above, ok.inj, ok.has, ok.cab, ok.hd, ok.frames, ok.stk, ok.exf, ok.bs, ok.bsz, ok.noex, ok.exfs, ok.funs, ok.frf, ok.tb⟩
theorem Cx.Ok.unwish {X : Cx} {E : Value → Shared → Prop} (ok : (X.wish E).Ok) : X.Ok :=
  ⟨ok.mod, ok.kind, ok.glob, ok.blt, ok.above, ok.inj, ok.has, ok.cab, ok.hd, ok.frames, ok.stk, ok.exf, ok.bs, ok.bsz, ok.noex, ok.exfs, ok.funs, ok.frf, ok.tb⟩
section
variable {X : Cx} {pins : List (Addr × Obj)} {σ : St} {H : Hp} {s : Shared} {E : Value → Shared → Prop}
theorem Inv.wish (I : Inv X pins σ H s) (E : Value → Shared → Prop) : Inv (X.wish E) pins σ H s := ⟨I.ok.wish E, I.os, I.bare, I.base, I.loc, I.cell, I.free, I.freeC, I.pin, I.hok, I.len⟩
theorem Inv.unwish (I : Inv (X.wish E) pins σ H s) : Inv X pins σ H s := ⟨I.ok.unwish, I.os, I.bare, I.base, I.loc, I.cell, I.free, I.freeC, I.pin, I.hok, I.len⟩
theorem SP.unwish {D : Ends} {f : Flow} {s' : Shared} (h : SP (X.wish E) pins D f s') : SP X pins D f s' := by
  cases f with
  | next => obtain ⟨σ', H', I, q⟩ := h; exact ⟨σ', H', I.unwish, q⟩
  | brk => obtain ⟨σ', H', I, q⟩ := h; exact ⟨σ', H', I.unwish, q⟩
  | cont => obtain ⟨σ', H', I, q⟩ := h; exact ⟨σ', H', I.unwish, q⟩
  | ret u => obtain ⟨v, σ', H', I, r, q⟩ := h; exact ⟨v, σ', H', I.unwish, r, q⟩
theorem PE.nox {e : Expr} {t : TE} (h : PE X.nox e t) : PE X e t := fun pins s σ H Q I hw =>
  wpAny_mono (h pins s σ H Q (I.wish _) hw) (fun _ _ ⟨v, H', I', r, q⟩ => ⟨v, H', I'.unwish, r, q⟩) fun _ _ z => False.elim z
theorem PT.nox {e : Expr} {t : TT} (h : PT X.nox e t) : PT X e t := fun pins s σ H Q I hw =>
  wpAny_mono (h pins s σ H Q (I.wish _) hw) (fun _ _ ⟨H', I', q⟩ => ⟨H', I'.unwish, q⟩) fun _ _ z => False.elim z
theorem PSs.nox {st : List Stmt} {t : TS} (h : PSs X.nox st t) : PSs X st t := fun pins s σ H D I hw =>
  wpAny_mono (h pins s σ H D (I.wish _) hw) (fun _ _ q => q.unwish) fun _ _ z => False.elim z
end
section
variable {X : Cx} {st : Stmt} {rest : List Stmt} {t u : TS} {e : Expr} {te : TE} {pos : Pos}
def tNext : TS := fun D σ H => D.nx σ H
def tSeq (t u : TS) : TS := fun D σ H => t { D with nx := u D } σ H
theorem pss_nil : PSs X [] tNext := fun _ _ σ H _ I h => wpAny_execs_nil ⟨σ, H, I, h⟩
theorem pss_cons (h1 : PS X st t) (h2 : PSs X rest u) : PSs X (st :: rest) (tSeq t u) := by
  intro pins s σ H D I h
  refine wpAny_execs_cons (thn (h1 pins s σ H { D with nx := u D } I h) fun f s1 q => ?_)
  cases f with
  | next =>
    obtain ⟨σ', H', I', q⟩ := q
    exact h2 pins s1 σ' H' D I' q
  | ret v => exact q
  | brk => exact q
  | cont => exact q
theorem pss_one (h1 : PS X st t) : PSs X [st] t := by
  intro pins s σ H D I h
  refine wpAny_execs_cons (thn (h1 pins s σ H D I h) fun f s1 q => ?_)
  cases f with
  | next => exact wpAny_execs_nil q
  | ret v => exact q
  | brk => exact q
  | cont => exact q
theorem Inv.quiet {pins : List (Addr × Obj)} {σ : St} {H : Hp} {s : Shared} (I : Inv X pins σ H s) : interactive X.env = false := by simp [interactive, I.ok.kind]
def tDrop (te : TE) : TS := fun D σ H => te σ H fun _ H1 => D.nx σ H1
theorem ps_expr (he : PE X e te) (hs : swapsWith e none pos.line X.env = pure false := by rfl) : PS X (.Expr e pos) (tDrop te) := by
  intro pins s σ H D I h
  exact wpAny_Expr_any (thn (he pins s σ H _ I h) fun v s1 ⟨x, H1, I1, r1, q1⟩ => ⟨σ, H1, I1, q1⟩) I.quiet hs
def tRet (te : TE) : TS := fun D σ H => te σ H D.rt
theorem ps_ret (he : PE X e te) : PS X (.Return (some e) pos) (tRet te) := by
  intro pins s σ H D I h
  exact wpAny_Return_some (thn (he pins s σ H _ I h) fun v s1 ⟨x, H1, I1, r1, q1⟩ => ⟨x, σ, H1, I1, r1, q1⟩)
def tIfS (c : TT) (t u : TS) : TS := fun D σ H => c σ H fun b H1 => if b = true then t D σ H1 else u D σ H1
theorem ps_if {c : Expr} {a b : List Stmt} {tc : TT} (hc : PT X c tc) (ha : PSs X a t) (hb : PSs X b u) : PS X (.If c a b pos) (tIfS tc t u) := by
  intro pins s σ H D I h
  refine wpAny_If (thn (hc pins s σ H _ I h) fun d s1 ⟨H1, I1, q1⟩ => ?_)
  cases d with
  | true => exact ha pins s1 σ H1 D I1 q1
  | false => exact hb pins s1 σ H1 D I1 q1
def tNever : TS := fun _ _ _ => False
theorem ps_never : PS X st tNever := fun _ _ _ _ _ _ h => h.elim
end
abbrev TG := V → St → Hp → (St → Hp → Prop) → Prop
abbrev TGs := List V → St → Hp → (St → Hp → Prop) → Prop
def PG (X : Cx) (target : Expr) (t : TG) : Prop :=
  ∀ (pins : List (Addr × Obj)) (s : Shared) (σ : St) (H : Hp) (v : V) (u : Value) (Q : St → Hp → Prop), Inv X pins σ H s → RelV v u → t v σ H Q →
    wpAny (model X.prog X.w) X.A (assign target X.env u) (fun _ s' => ∃ σ' H', Inv X pins σ' H' s' ∧ Q σ' H') X.xe s
def PGs (X : Cx) (ts : List Expr) (t : TGs) : Prop :=
  ∀ (pins : List (Addr × Obj)) (s : Shared) (σ : St) (H : Hp) (vs : List V) (us : List Value) (Q : St → Hp → Prop), Inv X pins σ H s → Vals vs us → t vs σ H Q →
    wpAny (model X.prog X.w) X.A (assignInOrder ((assignEach ts X.env).map (·.2)) us) (fun _ s' => ∃ σ' H', Inv X pins σ' H' s' ∧ Q σ' H') X.xe s
abbrev TSet := V → V → V → Hp → (Hp → Prop) → Prop
def PSet (X : Cx) (t : TSet) : Prop :=
  ∀ (pins : List (Addr × Obj)) (s : Shared) (σ : St) (H : Hp) (o i v : V) (ov iv u : Value) (Q : Hp → Prop), Inv X pins σ H s → RelV o ov → RelV i iv → RelV v u → t o i v H Q →
    wpAny (model X.prog X.w) X.A (setItem ov iv u) (fun _ s' => ∃ H', Inv X pins σ H' s' ∧ Q H') X.xe s
section
variable {X : Cx} {pos : Pos}
def gName (i : Nat) : TG := fun v σ H Q => Q (σ.set i (some v)) H
theorem pg_name {i : Nat} {x : Str} (hN : X.N.Nodup) (hi : X.N[i]? = some x) (hx : Loc X.env.scope x) (hf : X.fn x = true ∨ X.env.scope.names.lookup x = some .local := by first | exact .inl rfl | exact .inr rfl | assumption) : PG X (.Name x pos) (gName i) := by
  intro pins s σ H v u Q I r h
  exact wpAny_assign_Name (store_ok I hN hi hx r (fun s' I' => ⟨_, H, I', h⟩) hf)
def gNil : TGs := fun vs σ H Q => vs = [] ∧ Q σ H
def gCons (t : TG) (u : TGs) : TGs := fun vs σ H Q => ∃ v r, vs = v :: r ∧ t v σ H fun σ' H' => u r σ' H' Q
theorem pgs_nil : PGs X [] gNil := by
  intro pins s σ H vs us Q I r h
  obtain ⟨e, h⟩ := h
  subst e
  cases r
  exact assignInOrder_nil ⟨σ, H, I, h⟩
theorem pgs_cons {e : Expr} {es : List Expr} {t : TG} {u : TGs} (h1 : PG X e t) (h2 : PGs X es u)
    (hs : (assignEach (e :: es) X.env).map (·.2) = assign e X.env :: (assignEach es X.env).map (·.2) := by rfl) : PGs X (e :: es) (gCons t u) := by
  intro pins s σ H vs us Q I r h
  obtain ⟨v, vr, e1, h⟩ := h
  subst e1
  cases r with
  | cons r rr =>
    rw [hs]
    refine assignInOrder_cons (thn (h1 pins s σ H _ _ _ I r h) fun _ s1 ⟨σ1, H1, I1, q1⟩ => ?_)
    exact h2 pins s1 σ1 H1 _ _ Q I1 rr q1
def gTup (K : PySem.W.Frag) (n : Nat) (t : TGs) : TG := fun v σ H Q => ∃ a xs, v = .ref a ∧ SqT K H a xs ∧ xs.length = n ∧ t xs σ H Q
theorem pg_tup {es : List Expr} {k : Nat} {t : TGs} {n : Nat} (hc : X.calm = true) (h : PGs X es t)
    (hn : (assignEach es X.env).length = n := by rfl) (hst : (assignEach es X.env).findIdx? (·.1) = none := by rfl) : PG X (.Tuple es k pos) (gTup X.K n t) := by
  intro pins s σ H v u Q I r hw
  obtain ⟨a, xs, e1, hq, hl, hw⟩ := hw
  subst e1
  cases r
  obtain ⟨its, rv, ht, hz⟩ := I.tuple hq
  refine assign_Tuple_tuple (I.ok.hd hc) ht (by simp [hn, ← hl, rv.length]) hst fun h' hx => ?_
  have I1 : Inv X pins σ H { s with heap := h' } := I.kept (t' := s.toks) fun b o e => hx b o (Nat.ne_of_lt (Heap.lt_size e)) e
  exact h pins _ σ H xs _ Q I1 (by simpa using rv) hw
def gSub (to ti : TE) (t : TSet) : TG := fun v σ H Q => to σ H fun o H1 => ti σ H1 fun i H2 => t o i v H2 fun H3 => Q σ H3
theorem pg_sub {o i : Expr} {to ti : TE} {t : TSet} (ho : PE X o to) (hi : PE X i ti) (hs : PSet X t)
    (ha : ∀ v, assign (.Subscript o i pos) X.env v = (do
      let ov ← holding [v] (eval o X.env)
      let iv ← holding [v, ov] (eval i X.env)
      standAt pos
      holding [v, ov, iv] (setItem ov iv v)
      release [v, ov, iv] []) := by intro _; rfl) : PG X (.Subscript o i pos) (gSub to ti t) := by
  intro pins s σ H v u Q I r h
  rw [ha]
  refine wpAny_bind (wpAny_holding (thn (ho pins s σ H _ I h) fun ov s1 ⟨x, H1, I1, r1, q1⟩ => ?_))
  refine wpAny_bind (wpAny_holding (thn (hi pins s1 σ H1 _ I1 q1) fun iv s2 ⟨y, H2, I2, r2, q2⟩ => ?_))
  refine wpAny_bind (wpAny_standAt (wpAny_bind (wpAny_holding (thn (hs pins s2 σ H2 x y v ov iv u _ I2 r1 r2 r q2) fun _ s3 ⟨H3, I3, q3⟩ => ?_))))
  exact wpAny_release ⟨σ, H3, I3, q3⟩
def tAsg (te : TE) (g : TG) : TS := fun D σ H => te σ H fun x H1 => g x σ H1 D.nx
theorem ps_asg {tg e : Expr} {te : TE} {g : TG} (he : PE X e te) (hg : PG X tg g) (hs : swapsWithSole [tg] e pos.line X.env = pure false := by rfl) (hw : swappedStores [tg] e X.env = pure none := by rfl)
    (h1 : (assignEach [tg] X.env).map (·.2) = [assign tg X.env] := by rfl) : PS X (.Assign [tg] e pos) (tAsg te g) := by
  intro pins s σ H D I h
  refine wpAny_Assign_stores (thn (he pins s σ H _ I h) fun v s1 ⟨x, H1, I1, r1, q1⟩ => ?_) hs hw
  rw [h1]
  exact thn (hg pins s1 σ H1 x v _ I1 r1 q1) fun _ s2 q => q
theorem ps_set {i : Nat} {x : Str} {e : Expr} {te : TE} {pos' : Pos} (hN : X.N.Nodup) (hi : X.N[i]? = some x) (hx : Loc X.env.scope x) (he : PE X e te) (hs : swapsWith e (some (.Name x pos')) pos.line X.env = pure false := by rfl) (hf : X.fn x = true ∨ X.env.scope.names.lookup x = some .local := by first | exact .inl rfl | exact .inr rfl | assumption) :
    PS X (.Assign [.Name x pos'] e pos) (tAsg te (gName i)) := by
  intro pins s σ H D I h
  refine wpAny_Assign_Name (thn (he pins s σ H _ I h) fun v s1 ⟨y, H1, I1, r1, q1⟩ => ?_) hs
  exact store_ok I1 hN hi hx r1 (fun s2 I2 => ⟨_, H1, I2, q1⟩) hf
def tPar (i j : Nat) (ta : TA) : TS := fun D σ H => ta σ H fun vs H1 => ∃ v w, vs = [v, w] ∧ D.nx ((σ.set i (some v)).set j (some w)) H1
theorem ps_par {i j : Nat} {x y : Str} {a b : Expr} {ta : TA} {px py pt : Pos} {kt k2 pt2} (hc : X.calm = true) (hN : X.N.Nodup) (hi : X.N[i]? = some x) (hj : X.N[j]? = some y) (hij : i ≠ j)
    (hx : X.env.scope.names.lookup x = some .local) (hy : X.env.scope.names.lookup y = some .local) (ha : PA X [a, b] ta)
    (hw : swappedStores [.Tuple [.Name x px, .Name y py] kt pt] (.Tuple [a, b] k2 pt2) X.env = pure (some [x, y]))
    (hs : swapsWithSole [.Tuple [.Name x px, .Name y py] kt pt] (.Tuple [a, b] k2 pt2) pos.line X.env = pure false := by rfl) :
    PS X (.Assign [.Tuple [.Name x px, .Name y py] kt pt] (.Tuple [a, b] k2 pt2) pos) (tPar i j ta) := by
  intro pins s σ H D I h
  rw [exec_Assign_arm]
  refine wpAny_bind (wpAny_standAt ?_)
  rw [hs]
  refine wpAny_bind (wpAny_pure ?_)
  rw [if_neg (by decide)]
  refine wpAny_bind (Tuple_ (thn (ha _ pins s σ H _ I h) fun us s1 ⟨vs, H1, I1, r1, q1⟩ => ?_))
  obtain ⟨v, w, e1, q1⟩ := q1
  subst e1
  obtain ⟨u1, u2, rfl, rv, rw'⟩ : ∃ u1 u2, us = [u1, u2] ∧ RelV v u1 ∧ RelV w u2 := by
    cases r1 with
    | cons p q =>
      cases q with
      | cons p' q' =>
        cases q'
        exact ⟨_, _, rfl, p, p'⟩
  refine wpAny_newObj_type ?_ (by show 2 ≤ sizeLine; decide)
  have I2 : Inv X pins σ H1 { s1 with heap := s1.heap.push { cls := .type "tuple", data := .seq [u1, u2].toArray } } := I1.kept (t' := s1.toks) fun b o e => Heap.get?_push_of_some _ e
  rw [hw]
  refine wpAny_bind (wpAny_pure ?_)
  show wpAny (model X.prog X.w) X.A (do rule "assign.swapped-stores"; let items ← unpackItems (.ref s1.heap.objs.size) 2 none; assignInOrder [fun v => bindName X.env y v, fun v => bindName X.env x v] items.reverse; pure Flow.next) _ _ _
  refine wpAny_bind (wpAny_rule (wpAny_bind (unpackItems_tuple (items := #[u1, u2]) (I.ok.hd hc) (IsTup.new s1.heap _) fun h' hx' => ?_)))
  have I3 := I2.kept (h' := h') (t' := s1.toks) fun b o e => hx' b o (Nat.ne_of_lt (Heap.lt_size e)) e
  show wpAny _ _ (assignInOrder [fun v => bindName X.env y v, fun v => bindName X.env x v] [u2, u1] >>= fun _ => pure Flow.next) _ _ _
  refine wpAny_bind (assignInOrder_cons (wpAny_bindName (store_ok I3 hN hj (.inl hy) rw' (fun s2 I4 => ?_) (.inr hy))))
  refine assignInOrder_cons (wpAny_bindName (store_ok I4 hN hi (.inl hx) rv (fun s3 I5 => assignInOrder_nil (wpAny_pure ?_)) (.inr hx)))
  rw [List.set_comm _ _ (Ne.symm hij)] at I5
  exact ⟨_, H1, I5, q1⟩
end
section
variable {X : Cx} {pos : Pos}
def tWhile (c : TT) (tb : TS) : TS := fun D σ H => ∃ W : Nat → St → Hp → Prop, (∃ m, W m σ H) ∧ ∀ m σ H, W m σ H →
  c σ H fun b H1 => if b = true then ∃ N : St → Hp → Prop, (∀ σ' H', N σ' H' → ∃ m', m' < m ∧ W m' σ' H') ∧ tb { D with nx := N, ct := N, bk := D.nx } σ H1 else D.nx σ H1
theorem ps_while {c : Expr} {body : List Stmt} {tc : TT} {tb : TS} (hp : PassesOwn (model X.prog X.w) X.A X.env X.xe) (hc : PT X c tc) (hb : PSs X body tb) : PS X (.While c body [] pos) (tWhile tc tb) := by
  intro pins s σ H D I h
  obtain ⟨W, ⟨m0, w0⟩, turn⟩ := h
  refine wpAny_While (codeAny_whileLoop (fun n s' => ∃ σ' H', Inv X pins σ' H' s' ∧ W n σ' H') ?_ m0 ⟨σ, H, I, w0⟩)
  rintro n s1 ⟨σ1, H1, I1, w1⟩
  refine wpAny_passesOwn hp (thn (hc pins s1 σ1 H1 _ I1 (turn n σ1 H1 w1)) fun b s2 ⟨H2, I2, q2⟩ => ?_)
  cases b with
  | true =>
    obtain ⟨N, hN, q2⟩ := q2
    rw [if_pos rfl]
    refine wpAny_passesOwn hp (thn (hb pins s2 σ1 H2 _ I2 q2) fun f s3 q3 => ?_)
    cases f with
    | next =>
      obtain ⟨σ3, H3, I3, n3⟩ := q3
      obtain ⟨m', hm, w3⟩ := hN σ3 H3 n3
      exact ⟨m', hm, σ3, H3, I3, w3⟩
    | cont =>
      obtain ⟨σ3, H3, I3, n3⟩ := q3
      obtain ⟨m', hm, w3⟩ := hN σ3 H3 n3
      exact ⟨m', hm, σ3, H3, I3, w3⟩
    | brk => exact q3
    | ret v => exact q3
  | false =>
    rw [if_neg Bool.false_ne_true]
    exact wpAny_execs_nil ⟨σ1, H2, I2, q2⟩
end
structure It where
  go : Nat → Hp → Prop
  yld : Nat → Hp → V → Hp → Prop
  stop : Nat → Hp → Prop
def FpOk (X : Cx) (pins : List (Addr × Obj)) (H : Hp) (b : Addr) : Prop :=
  H b = none ∧ b ≠ X.env.locals ∧ b ∉ X.fs ∧ (b ∈ X.ex ∨ X.s_0.heap.objs.size ≤ b) ∧ (∀ x c, X.env.cells.lookup x = some c → c ≠ b) ∧ ∀ p ∈ X.pn ++ pins, p.1 ≠ b
theorem Inv.fpOk {X : Cx} {pins : List (Addr × Obj)} {σ : St} {H H' : Hp} {s : Shared} {b : Addr} (I : Inv X pins σ H s) (hb : s.heap.objs.size ≤ b) (hn : H' b = none) : FpOk X pins H' b := by
  refine ⟨hn, Nat.ne_of_gt (Nat.lt_of_lt_of_le I.lt hb), I.nofs hb, .inr (Nat.le_trans I.sz hb), fun x c e z => ?_, fun p hp z => ?_⟩
  · obtain ⟨v, q⟩ := I.cell x c e
    exact absurd (Nat.lt_of_lt_of_le q.lt (by rw [z]; exact hb)) (Nat.lt_irrefl _)
  · exact absurd (Nat.lt_of_lt_of_le (Heap.lt_size (I.pin p hp).1) (by rw [z]; exact hb)) (Nat.lt_irrefl _)
structure Turn (P : Program) (w : World) (K : PySem.W.Frag) (tg : Expr) (J : It) (fp : List Addr) (it : Addr) (tn : Nat → Heap → Prop) : Prop where
  mem : it ∈ fp
  obj : ∀ i h, tn i h → ∀ b ∈ fp, ∃ o, h.get? b = some o ∧ ∀ v, o.data ≠ .cell v
  keep : ∀ i h h', tn i h → (∀ b ∈ fp, ∀ o, h.get? b = some o → h'.get? b = some o) → tn i h'
  item : ∀ (X : Cx), X.prog = P → X.w = w → X.K = K → X.calm = true → ∀ (i : Nat) (pins : List (Addr × Obj)) (s : Shared) (σ : St) (H : Hp) (E : Value → Shared → Prop), Inv X pins σ H s → (∀ b ∈ fp, FpOk X pins H b) → tn i s.heap → J.go i H →
    wpAny (model P w) X.A (pyNext (.ref it)) (fun r s1 => ∃ u, r = some u ∧
      wpAny (model P w) X.A (letOwnedTupleGo tg (.ref it) u) (fun _ s2 => ∃ x H', Inv X pins σ H' s2 ∧ RelV x u ∧ J.yld i H x H' ∧ tn (i + 1) s2.heap ∧ ∀ b ∈ fp, H' b = none) E s1) E s
  done : ∀ (X : Cx), X.prog = P → X.w = w → X.K = K → X.calm = true → ∀ (i : Nat) (pins : List (Addr × Obj)) (s : Shared) (σ : St) (H : Hp) (E : Value → Shared → Prop), Inv X pins σ H s → (∀ b ∈ fp, FpOk X pins H b) → tn i s.heap → J.stop i H →
    wpAny (model P w) X.A (pyNext (.ref it)) (fun r s1 => r = none ∧ Inv X pins σ H s1) E s
  self : ∀ (A : Around) (i : Nat) (s : Shared) (Q : Value → Shared → Prop) (E : Value → Shared → Prop), tn i s.heap → Q (.ref it) s → wpAny (model P w) A (pyIter (.ref it)) Q E s
abbrev TI := St → Hp → (It → Hp → Prop) → Prop
def PIE (X : Cx) (pins : List (Addr × Obj)) (σ : St) (tg : Expr) (R : It → Hp → Prop) (itv : Value) (s2 : Shared) : Prop :=
  ∃ (it : Addr) (fp : List Addr) (tn : Nat → Heap → Prop) (J : It) (H' : Hp), itv = .ref it ∧ Inv X pins σ H' s2 ∧ Turn X.prog X.w X.K tg J fp it tn ∧ tn 0 s2.heap ∧ (∀ b ∈ fp, FpOk X pins H' b) ∧ R J H'
def PI (X : Cx) (tg iter : Expr) (wi : TI) : Prop :=
  ∀ (pins : List (Addr × Obj)) (s : Shared) (σ : St) (H : Hp) (R : It → Hp → Prop), Inv X pins σ H s → wi σ H R →
    wpAny (model X.prog X.w) X.A (eval iter X.env) (fun v s1 => wpAny (model X.prog X.w) X.A (pyIter v) (PIE X pins σ tg R) X.xe s1) X.xe s
theorem go_of {M : Model} {A : Around} {E : Value → Shared → Prop} {s : Shared} {tg : Expr} {it : Addr} {u : Value} {o : Obj} {n : String} {vs : Array Value} {Q : Unit → Shared → Prop} (ho : s.heap.get? it = some o) (hc : o.cls = .type n) (hd : o.data = .fields vs)
    (hn : ["enumerate", "zip", "dict_itemiterator", "dict_reverseitemiterator", "odict_iterator", "itertools.zip_longest", "itertools.pairwise"].contains n = false) (hQ : Q () s) : wpAny M A (letOwnedTupleGo tg (.ref it) u) Q E s := by
  unfold letOwnedTupleGo
  cases tg <;> first
    | exact wpAny_pure hQ
    | (cases u <;> first
        | exact wpAny_pure hQ
        | (refine wpAny_bind (wpAny_load ho ?_)
           rw [hc, hd]
           show wpAny M A (if (["enumerate", "zip", "dict_itemiterator", "dict_reverseitemiterator", "odict_iterator", "itertools.zip_longest", "itertools.pairwise"].contains n && vs[0]? == some (rawInt _)) = true then _ else _) Q E s
           rw [if_neg (by intro h; rw [hn, Bool.false_and] at h; cases h)]
           exact wpAny_pure hQ))
def Itl (K : PySem.W.Frag) (a : Addr) : It :=
  ⟨fun i H => ∃ xs x, SqL K H a xs ∧ xs[i]? = some x, fun i H x H' => H' = H ∧ ∀ xs, SqL K H a xs → xs[i]? = some x, fun i H => ∃ xs, SqL K H a xs ∧ xs.length ≤ i⟩
def Itt (K : PySem.W.Frag) (a : Addr) : It :=
  ⟨fun i H => ∃ xs x, SqT K H a xs ∧ xs[i]? = some x, fun i H x H' => H' = H ∧ ∀ xs, SqT K H a xs → xs[i]? = some x, fun i H => ∃ xs, SqT K H a xs ∧ xs.length ≤ i⟩
def Itr (lo : Int) (n : Nat) : It := ⟨fun i _ => i < n, fun i H x H' => H' = H ∧ x = .int (lo + i), fun i _ => n ≤ i⟩
theorem turn_list {P : Program} {w : World} {K : PySem.W.Frag} {tg : Expr} (a it : Addr) : Turn P w K tg (Itl K a) [it] it (fun i h => h.IsListIter it a i) where
  mem := by simp
  obj := fun i h st b hb => by
    have e : b = it := by simpa using hb
    subst e
    obtain ⟨o, e, c, d⟩ := st
    exact ⟨o, e, fun v z => by rw [d] at z; cases z⟩
  keep := fun i h h' st k => st.at fun o e => k it (by simp) o e
  item := by
    intro X hP hw hK hc i pins s σ H E I hf st hg
    subst hP hw hK
    obtain ⟨xs, x, hq, hx⟩ := hg
    obtain ⟨its, rv, p, hz⟩ := I.list hq
    obtain ⟨u, hu, ru⟩ := rv.get hx
    obtain ⟨f0, f1, f2, f3, f4, f5⟩ := hf it (by simp)
    refine wpAny_pyNext_list_item st p.isList (x := u) (by simpa using hu) fun h' st' sb => ?_
    have I1 : Inv X pins σ H { s with heap := h' } := I.turned (t' := s.toks) (fun b o hb e => (sb.2 b hb).trans e) f0 f1 f3 f4 f5
    obtain ⟨o, e, c, d⟩ := id st'
    exact ⟨u, rfl, go_of (s := { s with heap := h' }) e c d (by decide) ⟨x, H, I1, ru, ⟨rfl, fun ys hy => by rw [I.list_inj hy hq]; exact hx⟩, st', fun b hb => (hf b hb).1⟩⟩
  done := by
    intro X hP hw hK hc i pins s σ H E I hf st hg
    subst hP hw hK
    obtain ⟨xs, hq, hx⟩ := hg
    obtain ⟨its, rv, p, hz⟩ := I.list hq
    obtain ⟨f0, f1, f2, f3, f4, f5⟩ := hf it (by simp)
    have hl := rv.length
    exact wpAny_pyNext_list_end (I.ok.hd hc) st p.isList (by simp; omega) fun h' eb => ⟨rfl, I.turned (t' := s.toks) (fun b o hb e => eb b o hb e) f0 f1 f3 f4 f5⟩
  self := fun _ _ _ _ _ st h => wpAny_pyIter_listiter st h
theorem turn_tuple {P : Program} {w : World} {K : PySem.W.Frag} {tg : Expr} (a it : Addr) : Turn P w K tg (Itt K a) [it] it (fun i h => h.IsTupleIter it a i) where
  mem := by simp
  obj := fun i h st b hb => by
    have e : b = it := by simpa using hb
    subst e
    obtain ⟨o, e, c, d⟩ := st
    exact ⟨o, e, fun v z => by rw [d] at z; cases z⟩
  keep := fun i h h' st k => st.at fun o e => k it (by simp) o e
  item := by
    intro X hP hw hK hc i pins s σ H E I hf st hg
    subst hP hw hK
    obtain ⟨xs, x, hq, hx⟩ := hg
    obtain ⟨its, rv, p, hz⟩ := I.tuple hq
    obtain ⟨u, hu, ru⟩ := rv.get hx
    obtain ⟨f0, f1, f2, f3, f4, f5⟩ := hf it (by simp)
    refine wpAny_pyNext_tuple_item st (show s.heap.IsTuple a its.toArray from p) (x := u) (by simpa using hu) fun h' st' sb => ?_
    have I1 : Inv X pins σ H { s with heap := h' } := I.turned (t' := s.toks) (fun b o hb e => (sb.2 b hb).trans e) f0 f1 f3 f4 f5
    obtain ⟨o, e, c, d⟩ := id st'
    exact ⟨u, rfl, go_of (s := { s with heap := h' }) e c d (by decide) ⟨x, H, I1, ru, ⟨rfl, fun ys hy => by rw [I.tuple_inj hy hq]; exact hx⟩, st', fun b hb => (hf b hb).1⟩⟩
  done := by
    intro X hP hw hK hc i pins s σ H E I hf st hg
    subst hP hw hK
    obtain ⟨xs, hq, hx⟩ := hg
    obtain ⟨its, rv, p, hz⟩ := I.tuple hq
    obtain ⟨f0, f1, f2, f3, f4, f5⟩ := hf it (by simp)
    have hl := rv.length
    exact wpAny_pyNext_tuple_end (I.ok.hd hc) st (show s.heap.IsTuple a its.toArray from p) (by simp; omega) fun h' eb => ⟨rfl, I.turned (t' := s.toks) (fun b o hb e => eb b o hb e) f0 f1 f3 f4 f5⟩
  self := fun _ _ _ _ _ st h => wpAny_pyIter_tupleiter st h
theorem turn_range {P : Program} {w : World} {K : PySem.W.Frag} {tg : Expr} (it : Addr) (lo : Int) (n : Nat) : Turn P w K tg (Itr lo n) [it] it (fun i h => IsRangeIter h it (lo + (i : Nat) * 1) ((n : Int) - (i : Nat)) 1) where
  mem := by simp
  obj := fun i h st b hb => by
    have e : b = it := by simpa using hb
    subst e
    exact ⟨_, st, fun v z => by
      have z' : Data.fields _ = Data.cell v := z
      cases z'⟩
  keep := fun i h h' st k => k it (by simp) _ st
  item := by
    intro X hP hw hK hc i pins s σ H E I hf st hg
    subst hP hw hK
    obtain ⟨f0, f1, f2, f3, f4, f5⟩ := hf it (by simp)
    have W := Walks.range (prog := X.prog) (w := X.w) (I.ok.hd hc) it lo 1 n
    refine W.item i s _ _ hg st fun v h' tk hv st' kk => ?_
    obtain ⟨t, rfl⟩ := hv
    have I1 : Inv X pins σ H { s with heap := h', toks := tk } := I.turned (fun b o hb e => kk b o (by simpa using hb) e) f0 f1 f3 f4 f5
    refine ⟨_, rfl, go_of (s := { s with heap := h', toks := tk }) (n := "range_iterator") st' rfl rfl (by decide) ⟨.int (lo + i), H, I1, ⟨t, ?_⟩, ⟨rfl, rfl⟩, st', fun b hb => (hf b hb).1⟩⟩
    rw [Int.mul_one]
  done := by
    intro X hP hw hK hc i pins s σ H E I hf st hg
    subst hP hw hK
    obtain ⟨f0, f1, f2, f3, f4, f5⟩ := hf it (by simp)
    exact wpAny_pyNext_range_end (I.ok.hd hc) st (by have : n ≤ i := hg; omega) fun h' eb => ⟨rfl, I.turned (t' := s.toks) (fun b o hb e => eb b o hb e) f0 f1 f3 f4 f5⟩
  self := fun _ _ _ _ _ st h => wpAny_pyIter_rangeiter st h
end L2
namespace L2
open PySem PySem.Spec PyProof.Rows
section
variable {X : Cx} {tg : Expr}
def iList (K : PySem.W.Frag) (tl : TE) : TI := fun σ H R => tl σ H fun x H1 => ∃ a, x = .ref a ∧ (∃ xs, SqL K H1 a xs) ∧ R (Itl K a) H1
def iTup (K : PySem.W.Frag) (tl : TE) : TI := fun σ H R => tl σ H fun x H1 => ∃ a, x = .ref a ∧ (∃ xs, SqT K H1 a xs) ∧ R (Itt K a) H1
theorem pi_list {l : Expr} {tl : TE} (hl : PE X l tl) : PI X tg l (iList X.K tl) := by
  intro pins s σ H R I h
  refine thn (hl pins s σ H _ I h) fun v s1 ⟨x, H1, I1, r1, q1⟩ => ?_
  obtain ⟨a, e, ⟨xs, hq⟩, q⟩ := q1
  subst e
  cases r1
  obtain ⟨its, rv, p, hz⟩ := I1.list hq
  refine wpAny_pyIter_list p.isList ?_
  refine ⟨s1.heap.objs.size, [s1.heap.objs.size], _, _, H1, rfl, I1.kept (t' := s1.toks) fun b o e => Heap.get?_push_of_some _ e, turn_list a _, ⟨_, Heap.get?_push_size _ rfl, rfl, rfl⟩, fun b hb => ?_, q⟩
  have e : b = s1.heap.objs.size := by simpa using hb
  subst e
  exact I1.fpOk (Nat.le_refl _) (I1.hok.fresh (Nat.le_refl _))
theorem pi_tup {l : Expr} {tl : TE} (hl : PE X l tl) : PI X tg l (iTup X.K tl) := by
  intro pins s σ H R I h
  refine thn (hl pins s σ H _ I h) fun v s1 ⟨x, H1, I1, r1, q1⟩ => ?_
  obtain ⟨a, e, ⟨xs, hq⟩, q⟩ := q1
  subst e
  cases r1
  obtain ⟨its, rv, p, hz⟩ := I1.tuple hq
  refine wpAny_pyIter_tuple (show s1.heap.IsTuple a its.toArray from p) ?_
  refine ⟨s1.heap.objs.size, [s1.heap.objs.size], _, _, H1, rfl, I1.kept (t' := s1.toks) fun b o e => Heap.get?_push_of_some _ e, turn_tuple a _, ⟨_, Heap.get?_push_size _ rfl, rfl, rfl⟩, fun b hb => ?_, q⟩
  have e : b = s1.heap.objs.size := by simpa using hb
  subst e
  exact I1.fpOk (Nat.le_refl _) (I1.hok.fresh (Nat.le_refl _))
theorem range_it {pins : List (Addr × Obj)} {σ : St} {H : Hp} {s : Shared} {R : It → Hp → Prop} {E : Value → Shared → Prop} {lo hi : Int} {t u v : Tok} {tk : Nat} (I : Inv X pins σ H s) (h1 : -(2 ^ 62) ≤ lo) (h2 : lo < 2 ^ 62) (h3 : -(2 ^ 62) ≤ hi) (h4 : hi < 2 ^ 62)
    (q : R (Itr lo (hi - lo).toNat) H) : wpAny (model X.prog X.w) X.A (pyIter (.ref s.heap.objs.size)) (PIE X pins σ tg R) E { s with heap := s.heap.push { cls := .type "range", data := .fields #[.int lo t, .int hi u, .int 1 v] }, toks := tk } := by
  refine wpAny_pyIter_range (IsRange.new ..) (small_one h1 h2 h3 h4) ?_
  have I1 : Inv X pins σ H { s with heap := s.heap.push { cls := .type "range", data := .fields #[.int lo t, .int hi u, .int 1 v] }, toks := tk } := I.kept fun b o e => Heap.get?_push_of_some _ e
  refine ⟨(s.heap.push { cls := .type "range", data := .fields #[.int lo t, .int hi u, .int 1 v] }).objs.size, [(s.heap.push { cls := .type "range", data := .fields #[.int lo t, .int hi u, .int 1 v] }).objs.size], _, _, H, rfl,
    I1.kept (t' := tk) fun b o e => Heap.get?_push_of_some _ e, turn_range _ lo (hi - lo).toNat, ?_, fun b hb => ?_, q⟩
  · have e1 : lo + ((0 : Nat) : Int) * 1 = lo := by simp
    have e2 : (((hi - lo).toNat : Nat) : Int) - ((0 : Nat) : Int) = Builtin.Range.rangeSize lo hi 1 := by rw [rangeSize_one]; split <;> omega
    show IsRangeIter _ _ (lo + ((0 : Nat) : Int) * 1) ((((hi - lo).toNat : Nat) : Int) - ((0 : Nat) : Int)) 1
    rw [e1, e2]
    exact Heap.get?_push_size _ rfl
  · have e : b = (s.heap.push { cls := .type "range", data := .fields #[.int lo t, .int hi u, .int 1 v] }).objs.size := by simpa using hb
    subst e
    exact I1.fpOk (Nat.le_refl _) (I1.hok.fresh (Nat.le_refl _))
def iRng1 (ta : TA) : TI := fun σ H R => ta σ H fun vs H1 => ∃ j : Int, vs = [.int j] ∧ -(2 ^ 62) ≤ j ∧ j < 2 ^ 62 ∧ R (Itr 0 j.toNat) H1
def iRng2 (ta : TA) : TI := fun σ H R => ta σ H fun vs H1 => ∃ i j : Int, vs = [.int i, .int j] ∧ (-(2 ^ 62) ≤ i ∧ i < 2 ^ 62 ∧ -(2 ^ 62) ≤ j ∧ j < 2 ^ 62) ∧ R (Itr i (j - i).toNat) H1
theorem pi_range1 {a : Expr} {ta : TA} {p pos : Pos} (hg : Gl X "range") (hm : X.mg "range" = none) (ha : PA X [a] ta) (hs : starEach [a] X.env = [(false, eval a X.env)] := by rfl) : PI X tg (.Call (.Name "range" p) [a] [] pos) (iRng1 ta) := by
  intro pins s σ H R I h
  refine Call_ (ld_blt I hg hm boot_range (PyProof.Rows.callWith_type1 (thn (ha pos pins s σ H _ I h) fun us s1 ⟨vs, H1, I1, r1, q1⟩ => ?_) hs rfl))
  obtain ⟨j, e, q1, q2, q⟩ := q1
  subst e
  cases r1 with
  | cons r rr =>
    cases rr
    obtain ⟨t, rfl⟩ := r
    exact call_range_1 (range_it I1 (by omega) (by omega) q1 q2 (by simpa using q))
theorem pi_range2 {a b : Expr} {ta : TA} {p pos : Pos} (hg : Gl X "range") (hm : X.mg "range" = none) (ha : PA X [a, b] ta) (hs : starEach [a, b] X.env = [(false, eval a X.env), (false, eval b X.env)] := by rfl) (hs2 : starEach [b] X.env = [(false, eval b X.env)] := by rfl) :
    PI X tg (.Call (.Name "range" p) [a, b] [] pos) (iRng2 ta) := by
  intro pins s σ H R I h
  refine Call_ (ld_blt I hg hm boot_range (PyProof.Rows.callWith_type1 (thn (ha pos pins s σ H _ I h) fun us s1 ⟨vs, H1, I1, r1, q1⟩ => ?_) (by rw [hs, hs2]) (by rw [hs2]; rfl)))
  obtain ⟨i, j, e, ⟨q1, q2, q3, q4⟩, q⟩ := q1
  subst e
  cases r1 with
  | cons r rr =>
    cases rr with
    | cons r' rr =>
      cases rr
      obtain ⟨t, rfl⟩ := r
      obtain ⟨t', rfl⟩ := r'
      exact call_range_2 (range_it I1 q1 q2 q3 q4 q)
def tFor (wi : TI) (g : TG) (tb : TS) : TS := fun D σ H => wi σ H fun J H1 => ∃ W : Nat → Nat → St → Hp → Prop, (∃ m, W 0 m σ H1) ∧ ∀ i m σ H, W i m σ H →
  (J.stop i H ∧ D.nx σ H) ∨ (J.go i H ∧ ∃ N : St → Hp → Prop, (∀ σ' H', N σ' H' → ∃ m', m' < m ∧ W (i + 1) m' σ' H') ∧ ∀ x H', J.yld i H x H' → g x σ H' fun σ2 H2 => tb { D with nx := N, ct := N, bk := D.nx } σ2 H2)
def pinsAt (fp : List Addr) (h : Heap) : List (Addr × Obj) := fp.filterMap fun b => (h.get? b).map fun o => (b, o)
theorem mem_pinsAt {fp : List Addr} {h : Heap} {b : Addr} {o : Obj} (hb : b ∈ fp) (e : h.get? b = some o) : (b, o) ∈ pinsAt fp h := List.mem_filterMap.mpr ⟨b, hb, by rw [e]; rfl⟩
theorem of_pinsAt {fp : List Addr} {h : Heap} {p : Addr × Obj} (hp : p ∈ pinsAt fp h) : p.1 ∈ fp ∧ h.get? p.1 = some p.2 := by
  obtain ⟨b, hb, e⟩ := List.mem_filterMap.mp hp
  cases q : h.get? b with
  | none => rw [q] at e; cases e
  | some o =>
    rw [q] at e
    have e' : (b, o) = p := Option.some.inj e
    subst e'
    exact ⟨hb, q⟩
theorem Inv.pinned {pins : List (Addr × Obj)} {σ : St} {H : Hp} {s : Shared} {fp : List Addr} (I : Inv X pins σ H s) (hf : ∀ b ∈ fp, FpOk X pins H b) (ho : ∀ b ∈ fp, ∃ o, s.heap.get? b = some o ∧ ∀ v, o.data ≠ .cell v) : Inv X (pins ++ pinsAt fp s.heap) σ H s :=
  I.pins_of fun p hp => (List.mem_append.mp hp).elim (fun z => I.pin p (List.mem_append_right _ z)) fun z => by
    obtain ⟨hb, e⟩ := of_pinsAt z
    obtain ⟨f0, f1, f2, _⟩ := hf p.1 hb
    obtain ⟨o, e', d⟩ := ho p.1 hb
    rw [e] at e'; cases e'
    exact ⟨e, f0, f1, f2, d⟩
theorem Inv.unpinned {pins pl : List (Addr × Obj)} {σ : St} {H : Hp} {s : Shared} (I : Inv X (pins ++ pl) σ H s) : Inv X pins σ H s := I.pins_of fun p hp => I.pin p (List.mem_append_right _ (List.mem_append_left _ hp))
theorem ps_for {iter : Expr} {body : List Stmt} {wi : TI} {g : TG} {tb : TS} {pos : Pos} (hp : PassesOwn (model X.prog X.w) X.A X.env X.xe) (hc : X.calm = true) (hi : PI X tg iter wi) (hg : PG X tg g) (hb : PSs X body tb)
    (hs : ∀ x, foldedSetIterable iter X.env x = pure x := by intro _; rfl) : PS X (.For tg iter body [] pos) (tFor wi g tb) := by
  intro pins s σ H D I h
  refine wpAny_For (thn (hi pins s σ H _ I h) fun v s1 h1 => thn h1 fun itv s2 h2 => ?_) hs
  obtain ⟨it, fp, tn, J, H2, e, I2, T, st2, f2, W, ⟨m0, w0⟩, turn⟩ := h2
  subst e
  -- what stays true of the iterator's objects through the loop
  have stat : ∀ {H' : Hp}, (∀ b ∈ fp, H' b = none) → ∀ b ∈ fp, FpOk X pins H' b := fun hn b hb => ⟨hn b hb, (f2 b hb).2⟩
  refine codeAny_forLoop_any (fun n s' => ∃ i σ' H', Inv X pins σ' H' s' ∧ tn i s'.heap ∧ (∀ b ∈ fp, H' b = none) ∧ W i n σ' H') ?_ m0 ⟨0, σ, H2, I2, st2, fun b hb => (f2 b hb).1, w0⟩
  rintro n s3 ⟨i, σ3, H3, I3, st3, fr3, w3⟩
  rcases turn i n σ3 H3 w3 with ⟨stop, qn⟩ | ⟨go, N, hN, step⟩
  · refine wpAny_passesOwn hp (thn (T.done X rfl rfl rfl hc i pins s3 σ3 H3 X.xe I3 (stat fr3) st3 stop) fun r s4 ⟨hr, I4⟩ => ?_)
    subst hr
    exact wpAny_execs_nil ⟨σ3, H3, I4, qn⟩
  · refine wpAny_passesOwn hp (thn (T.item X rfl rfl rfl hc i pins s3 σ3 H3 X.xe I3 (stat fr3) st3 go) fun r s4 ⟨u, hr, h4⟩ => ?_)
    subst hr
    refine wpAny_passesOwn hp (thn h4 fun _ s5 ⟨x, H5, I5, r5, y5, st5, fr5⟩ => ?_)
    have I5' := I5.pinned (stat fr5) (T.obj _ _ st5)
    refine wpAny_passesOwn hp (thn (hg _ s5 σ3 H5 x u _ I5' r5 (step x H5 y5)) fun _ s6 ⟨σ6, H6, I6, q6⟩ => ?_)
    refine wpAny_passesOwn hp (thn (hb _ s6 σ6 H6 _ I6 q6) fun f s7 q7 => ?_)
    have again : ∀ {σ7 : St} {H7 : Hp}, Inv X (pins ++ pinsAt fp s5.heap) σ7 H7 s7 → N σ7 H7 → ∃ m, m < n ∧ ∃ i σ' H', Inv X pins σ' H' s7 ∧ tn i s7.heap ∧ (∀ b ∈ fp, H' b = none) ∧ W i m σ' H' := fun {σ7 H7} I7 n7 => by
      obtain ⟨m', hm, w7⟩ := hN σ7 H7 n7
      refine ⟨m', hm, i + 1, σ7, H7, I7.unpinned, T.keep _ _ _ st5 fun b hb o e => (I7.pin (b, o) (List.mem_append_right _ (List.mem_append_right _ (mem_pinsAt hb e)))).1, fun b hb => ?_, w7⟩
      obtain ⟨o, e, d⟩ := T.obj _ _ st5 b hb
      exact (I7.pin (b, o) (List.mem_append_right _ (List.mem_append_right _ (mem_pinsAt hb e)))).2.1
    cases f with
    | next => obtain ⟨σ7, H7, I7, n7⟩ := q7; exact again I7 n7
    | cont => obtain ⟨σ7, H7, I7, n7⟩ := q7; exact again I7 n7
    | brk => obtain ⟨σ7, H7, I7, q7⟩ := q7; exact ⟨σ7, H7, I7.unpinned, q7⟩
    | ret v => obtain ⟨x7, σ7, H7, I7, r7, q7⟩ := q7; exact ⟨x7, σ7, H7, I7.unpinned, r7, q7⟩
end
end L2
namespace L2
open PySem PySem.Spec PyProof.Rows
abbrev R2 := V → V → Hp → VK → Prop
def OpR (X : Cx) (f : Value → Value → Sem Value) (r : R2) : Prop :=
  ∀ (pins : List (Addr × Obj)) (s : Shared) (σ : St) (H : Hp) (x y : V) (v u : Value) (Q : VK), Inv X pins σ H s → RelV x v → RelV y u → r x y H Q →
    wpAny (model X.prog X.w) X.A (f v u) (EP X pins σ Q) X.xe s
def CallR (X : Cx) (f : Value) (r : List V → Hp → VK → Prop) : Prop :=
  ∀ (pins : List (Addr × Obj)) (s : Shared) (σ : St) (H : Hp) (xs : List V) (us : List Value) (Q : VK), Inv X pins σ H s → Vals xs us → r xs H Q →
    wpAny (model X.prog X.w) X.A (call f us) (EP X pins σ Q) X.xe s
def TruR (X : Cx) (r : V → Hp → (Bool → Hp → Prop) → Prop) : Prop :=
  ∀ (pins : List (Addr × Obj)) (s : Shared) (σ : St) (H : Hp) (x : V) (v : Value) (Q : Bool → Hp → Prop), Inv X pins σ H s → RelV x v → r x H Q →
    wpAny (model X.prog X.w) X.A (truthy v) (TP X pins σ Q) X.xe s
def tOp (r : R2) (ta tb : TE) : TE := fun σ H Q => ta σ H fun x H1 => tb σ H1 fun y H2 => r x y H2 Q
def rI (C : Int → Int → Prop) (g : Int → Int → V) : R2 := fun x y H Q => ∃ i j, x = .int i ∧ y = .int j ∧ C i j ∧ Q (g i j) H
def rI0 (g : Int → Int → V) : R2 := fun x y H Q => ∃ i j, x = .int i ∧ y = .int j ∧ Q (g i j) H
section
variable {X : Cx} {a b c : Expr} {ta tb tc : TE} {pos : Pos}
theorem binT (ha : PE X a ta) (hb : PE X b tb) {pins : List (Addr × Obj)} {s : Shared} {σ : St} {H : Hp} {R : V → V → Hp → Prop} (I : Inv X pins σ H s)
    (h : ta σ H fun x H1 => tb σ H1 fun y H2 => R x y H2) {Q : Value → Shared → Prop} {f : Value → Value → Sem Value}
    (hf : ∀ v u s2 x y H2, Inv X pins σ H2 s2 → RelV x v → RelV y u → R x y H2 → wpAny (model X.prog X.w) X.A (f v u) Q X.xe s2) :
    wpAny (model X.prog X.w) X.A (eval a X.env) (fun v s₁ => wpAny (model X.prog X.w) X.A (eval b X.env) (fun u s₂ => wpAny (model X.prog X.w) X.A (f v u) Q X.xe s₂) X.xe s₁) X.xe s := by
  refine thn (ha pins s σ H _ I h) fun v s1 ⟨x, H1, I1, r1, q1⟩ => ?_
  refine thn (hb pins s1 σ H1 _ I1 q1) fun u s2 ⟨y, H2, I2, r2, q2⟩ => ?_
  exact hf v u s2 x y H2 I2 r1 r2 q2
theorem pe_op {op : Operator} {r : R2} (ho : OpR X (binaryOp op) r) (ha : PE X a ta) (hb : PE X b tb) : PE X (.BinOp a op b pos) (tOp r ta tb) := by
  intro pins s σ H Q I h
  exact wpAny_BinOp (binT ha hb I h fun v u s2 x y H2 I2 rx ry q => ho pins s2 σ H2 x y v u Q I2 rx ry q)
theorem opI {f : Value → Value → Sem Value} {C : Int → Int → Prop} {g : Int → Int → Int}
    (rule : ∀ (i j : Int) (t u : Tok) (s : Shared) (Q : Value → Shared → Prop) (E : Value → Shared → Prop), C i j → Q (.int (g i j) s.toks) { s with toks := s.toks + 1 } → wpAny (model X.prog X.w) X.A (f (.int i t) (.int j u)) Q E s) :
    OpR X f (rI C fun i j => .int (g i j)) := by
  intro pins s σ H x y v u Q I rx ry h
  obtain ⟨i, j, rfl, rfl, hc, q⟩ := h
  obtain ⟨t, rfl⟩ := rx
  obtain ⟨t', rfl⟩ := ry
  exact rule i j t t' s _ _ hc ⟨.int (g i j), H, I.tok _, ⟨_, rfl⟩, q⟩
theorem opI0 {f : Value → Value → Sem Value} {g : Int → Int → Int}
    (rule : ∀ (i j : Int) (t u : Tok) (s : Shared) (Q : Value → Shared → Prop) (E : Value → Shared → Prop), Q (.int (g i j) s.toks) { s with toks := s.toks + 1 } → wpAny (model X.prog X.w) X.A (f (.int i t) (.int j u)) Q E s) :
    OpR X f (rI0 fun i j => .int (g i j)) := by
  intro pins s σ H x y v u Q I rx ry h
  obtain ⟨i, j, rfl, rfl, q⟩ := h
  obtain ⟨t, rfl⟩ := rx
  obtain ⟨t', rfl⟩ := ry
  exact rule i j t t' s _ _ ⟨.int (g i j), H, I.tok _, ⟨_, rfl⟩, q⟩
theorem opB0 {f : Value → Value → Sem Value} {g : Int → Int → Bool}
    (rule : ∀ (i j : Int) (t u : Tok) (s : Shared) (Q : Value → Shared → Prop) (E : Value → Shared → Prop), Q (.bool (g i j)) s → wpAny (model X.prog X.w) X.A (f (.int i t) (.int j u)) Q E s) :
    OpR X f (rI0 fun i j => .bl (g i j)) := by
  intro pins s σ H x y v u Q I rx ry h
  obtain ⟨i, j, rfl, rfl, q⟩ := h
  obtain ⟨t, rfl⟩ := rx
  obtain ⟨t', rfl⟩ := ry
  exact rule i j t t' s _ _ ⟨.bl (g i j), H, I, rfl, q⟩
def CDiv (i j : Int) : Prop := 0 < j ∧ j < 1073741824
def CMul (i j : Int) : Prop := (-(2 ^ 64) < i ∧ i < 2 ^ 64) ∨ (-(2 ^ 64) < j ∧ j < 2 ^ 64)
theorem CMul.ok {i j : Int} (h : CMul i j) : IntMulOk i j := by
  rcases h with ⟨h1, h2⟩ | ⟨h1, h2⟩
  · exact .of_left (intBits_le_64 h1 h2)
  · exact .of_right (intBits_le_64 h1 h2)
theorem op_add : OpR X (binaryOp .Add) (rI0 fun i j => .int (i + j)) := opI0 fun _ _ _ _ _ _ _ q => add_int q
theorem op_sub : OpR X (binaryOp .Sub) (rI0 fun i j => .int (i - j)) := opI0 fun _ _ _ _ _ _ _ q => sub_int q
theorem op_mul : OpR X (binaryOp .Mult) (rI CMul fun i j => .int (i * j)) := opI fun _ _ _ _ _ _ _ hc q => mul_int q hc.ok
theorem op_fdiv : OpR X (binaryOp .FloorDiv) (rI CDiv fun i j => .int (i / j)) := opI fun i j _ _ _ _ _ hc q => by
  have h1 : (0 : Int) < j := hc.1
  have h2 : j < 1073741824 := hc.2
  exact floordiv_int (by omega) (by rw [Int.fdiv_eq_ediv_of_nonneg i (by omega)]; exact q) (.inl (PyProof.noPylong_small (by omega)))
theorem op_mod : OpR X (binaryOp .Mod) (rI (fun _ j => 0 < j) fun i j => .int (i % j)) := opI fun i j _ _ _ _ _ hc q => by
  have h1 : (0 : Int) < j := hc
  exact mod_int' (by omega) (by rw [Int.fmod_eq_emod_of_nonneg i (by omega)]; exact q)
end
def scal : V → V → Bool
  | .non, .non => true | .non, .int _ => true | .int _, .non => true | .non, .bl _ => true | .bl _, .non => true | .non, .str _ => true | .str _, .non => true
  | .int _, .int _ => true | .bl _, .bl _ => true | .str _, .str _ => true | .byt _, .byt _ => true
  | .int _, .str _ => true | .str _, .int _ => true | .bl _, .str _ => true | .str _, .bl _ => true
  | _, _ => false
def rEq : R2 := fun x y H Q => scal x y = true ∧ Q (.bl (decide (x = y))) H
def rNe : R2 := fun x y H Q => scal x y = true ∧ Q (.bl (!decide (x = y))) H
theorem dec_int {i j : Int} : decide (V.int i = V.int j) = (i == j) := by
  rw [Bool.eq_iff_iff]
  simp
theorem dec_bl {i j : Bool} : decide (V.bl i = V.bl j) = (i == j) := by
  rw [Bool.eq_iff_iff]
  simp
theorem dec_str {i j : Str} : decide (V.str i = V.str j) = (i == j) := by
  rw [Bool.eq_iff_iff]
  simp
theorem dec_byt {i j : Array UInt8} : decide (V.byt i = V.byt j) = (i.toList == j.toList) := by
  rw [Bool.eq_iff_iff]
  cases i
  cases j
  simp
section
variable {X : Cx} {a b c : Expr} {ta tb tc : TE} {pos : Pos}
theorem fin_bl {pins : List (Addr × Obj)} {σ : St} {H : Hp} {s : Shared} {Q : VK} {k k' : Bool} (I : Inv X pins σ H s) (q : Q (.bl k) H) (e : k = k') : EP X pins σ Q (.bool k') s := by
  subst e
  exact ⟨.bl k, H, I, rfl, q⟩
theorem op_eq : OpR X (compareOp .Eq) rEq := by
  intro pins s σ H x y v u Q I rx ry h
  obtain ⟨hs, q⟩ := h
  cases x with
  | non =>
    cases rx
    cases y with
    | non => cases ry; exact PySem.EqNone.eq_none_none (fin_bl I q (by simp))
    | bl j => cases ry; exact PySem.EqNone.eq_none_bool (fin_bl I q (by simp))
    | int j => obtain ⟨t', rfl⟩ := ry; exact PySem.EqNone.eq_none_int (fin_bl I q (by simp))
    | str j => obtain ⟨t', rfl⟩ := ry; exact PySem.EqNone.eq_none_str (fin_bl I q (by simp))
    | _ => exact absurd (show false = true from hs) Bool.false_ne_true
  | bl i =>
    cases rx
    cases y with
    | non => cases ry; exact PySem.EqNone.eq_bool_none (fin_bl I q (by simp))
    | bl j => cases ry; exact eq_bool (fin_bl I q dec_bl)
    | str j => obtain ⟨t', rfl⟩ := ry; exact PySem.EqMixed.eq_bool_str (fin_bl I q (by simp))
    | _ => exact absurd (show false = true from hs) Bool.false_ne_true
  | int i =>
    obtain ⟨t, rfl⟩ := rx
    cases y with
    | non => cases ry; exact PySem.EqNone.eq_int_none (fin_bl I q (by simp))
    | int j => obtain ⟨t', rfl⟩ := ry; exact eq_int (fin_bl I q dec_int)
    | str j => obtain ⟨t', rfl⟩ := ry; exact PySem.EqMixed.eq_int_str (fin_bl I q (by simp))
    | _ => exact absurd (show false = true from hs) Bool.false_ne_true
  | str i =>
    obtain ⟨t, rfl⟩ := rx
    cases y with
    | non => cases ry; exact PySem.EqNone.eq_str_none (fin_bl I q (by simp))
    | bl j => cases ry; exact PySem.EqMixed.eq_str_bool (fin_bl I q (by simp))
    | int j => obtain ⟨t', rfl⟩ := ry; exact PySem.EqMixed.eq_str_int (fin_bl I q (by simp))
    | str j => obtain ⟨t', rfl⟩ := ry; exact eq_str (fin_bl I q dec_str)
    | _ => exact absurd (show false = true from hs) Bool.false_ne_true
  | byt i =>
    obtain ⟨t, rfl⟩ := rx
    cases y with
    | byt j => obtain ⟨t', rfl⟩ := ry; exact PySem.W.eq_bytes (fin_bl I q dec_byt)
    | _ => exact absurd (show false = true from hs) Bool.false_ne_true
  | _ => cases y <;> exact absurd (show false = true from hs) Bool.false_ne_true
theorem op_ne : OpR X (compareOp .NotEq) rNe := by
  intro pins s σ H x y v u Q I rx ry h
  obtain ⟨hs, q⟩ := h
  cases x with
  | non =>
    cases rx
    cases y with
    | non => cases ry; exact PySem.EqNone.ne_none_none (fin_bl I q (by simp))
    | bl j => cases ry; exact PySem.EqNone.ne_none_bool (fin_bl I q (by simp))
    | int j => obtain ⟨t', rfl⟩ := ry; exact PySem.EqNone.ne_none_int (fin_bl I q (by simp))
    | str j => obtain ⟨t', rfl⟩ := ry; exact PySem.EqNone.ne_none_str (fin_bl I q (by simp))
    | _ => exact absurd (show false = true from hs) Bool.false_ne_true
  | bl i =>
    cases rx
    cases y with
    | non => cases ry; exact PySem.EqNone.ne_bool_none (fin_bl I q (by simp))
    | bl j => cases ry; exact ne_bool (fin_bl I q (congrArg not dec_bl))
    | str j => obtain ⟨t', rfl⟩ := ry; exact PySem.EqMixed.ne_bool_str (fin_bl I q (by simp))
    | _ => exact absurd (show false = true from hs) Bool.false_ne_true
  | int i =>
    obtain ⟨t, rfl⟩ := rx
    cases y with
    | non => cases ry; exact PySem.EqNone.ne_int_none (fin_bl I q (by simp))
    | int j => obtain ⟨t', rfl⟩ := ry; exact ne_int (fin_bl I q (congrArg not dec_int))
    | str j => obtain ⟨t', rfl⟩ := ry; exact PySem.EqMixed.ne_int_str (fin_bl I q (by simp))
    | _ => exact absurd (show false = true from hs) Bool.false_ne_true
  | str i =>
    obtain ⟨t, rfl⟩ := rx
    cases y with
    | non => cases ry; exact PySem.EqNone.ne_str_none (fin_bl I q (by simp))
    | bl j => cases ry; exact PySem.EqMixed.ne_str_bool (fin_bl I q (by simp))
    | int j => obtain ⟨t', rfl⟩ := ry; exact PySem.EqMixed.ne_str_int (fin_bl I q (by simp))
    | str j => obtain ⟨t', rfl⟩ := ry; exact ne_str (fin_bl I q (congrArg not dec_str))
    | _ => exact absurd (show false = true from hs) Bool.false_ne_true
  | byt i =>
    obtain ⟨t, rfl⟩ := rx
    cases y with
    | byt j => obtain ⟨t', rfl⟩ := ry; exact PySem.W.ne_bytes (fin_bl I q (congrArg not dec_byt))
    | _ => exact absurd (show false = true from hs) Bool.false_ne_true
  | _ => cases y <;> exact absurd (show false = true from hs) Bool.false_ne_true
theorem op_lt : OpR X (compareOp .Lt) (rI0 fun i j => .bl (decide (i < j))) := opB0 fun _ _ _ _ _ _ _ q => lt_int q
theorem op_le : OpR X (compareOp .LtE) (rI0 fun i j => .bl (decide (i ≤ j))) := opB0 fun _ _ _ _ _ _ _ q => le_int q
theorem op_gt : OpR X (compareOp .Gt) (rI0 fun i j => .bl (decide (j < i))) := opB0 fun _ _ _ _ _ _ _ q => gt_int q
theorem OpR.or {f : Value → Value → Sem Value} {r r' : R2} (h : OpR X f r) (h' : OpR X f r') : OpR X f (fun x y H Q => r x y H Q ∨ r' x y H Q) := by
  intro pins s σ H x y v u Q I rx ry q
  rcases q with q | q
  · exact h pins s σ H x y v u Q I rx ry q
  · exact h' pins s σ H x y v u Q I rx ry q
theorem nomark (b : Expr) {op : CmpOp} (h : op ≠ .In := by decide) (h2 : op ≠ .NotIn := by decide) : behindInMarks op b = false := by
  have e1 : (op == CmpOp.In) = false := by cases op <;> first | rfl | exact absurd rfl h
  have e2 : (op == CmpOp.NotIn) = false := by cases op <;> first | rfl | exact absurd rfl h2
  cases b <;> simp [behindInMarks, e1, e2]
theorem pe_cmpR {op : CmpOp} {r : R2} (ho : OpR X (compareOp op) r) (ha : PE X a ta) (hb : PE X b tb) (hm : behindInMarks op b = false) : PE X (.Compare a [op] [b] pos) (tOp r ta tb) := by
  intro pins s σ H Q I h
  exact wpAny_Compare1 (binT ha hb I h fun v u s2 x y H2 I2 rx ry q => ho pins s2 σ H2 x y v u Q I2 rx ry q) hm
def tTest (t : TE) : TT := fun σ H Q => t σ H fun x H' => ∃ k, x = .bl k ∧ Q k H'
theorem pt_cmpR {op : CmpOp} {r : R2} (ho : OpR X (compareOp op) r) (ha : PE X a ta) (hb : PE X b tb) (hm : behindInMarks op b = false) : PT X (.Compare a [op] [b] pos) (tTest (tOp r ta tb)) := by
  intro pins s σ H Q I h
  refine wpAny_isTrue_Compare1 (thn (ha pins s σ H _ I h) fun v s1 ⟨x, H1, I1, r1, q1⟩ => thn (hb pins s1 σ H1 _ I1 q1) fun u s2 ⟨y, H2, I2, r2, q2⟩ =>
    thn (ho pins s2 σ H2 x y v u _ I2 r1 r2 q2) fun c s3 ⟨z, H3, I3, r3, k, e, q3⟩ => ?_) hm
  subst e
  cases r3
  exact wpAny_truthy_bool ⟨H3, I3, q3⟩
def tChain (r r' : R2) (ta tb tc : TE) : TE := fun σ H Q => ta σ H fun x H1 => tb σ H1 fun y H2 => r x y H2 fun z H3 => ∃ k, z = .bl k ∧
  (if k = true then tc σ H3 fun w' H4 => r' y w' H4 Q else Q (.bl false) H3)
theorem pe_chain {op op' : CmpOp} {r r' : R2} (ho : OpR X (compareOp op) r) (ho' : OpR X (compareOp op') r') (ha : PE X a ta) (hb : PE X b tb) (hc : PE X c tc)
    (hm : lastMarks [op, op'] [b, c] = false := by with_unfolding_all rfl) : PE X (.Compare a [op, op'] [b, c] pos) (tChain r r' ta tb tc) := by
  intro pins s σ H Q I h
  refine Compare_chain (thn (ha pins s σ H _ I h) fun v s1 ⟨x, H1, I1, r1, q1⟩ => chain_link (thn (hb pins s1 σ H1 _ I1 q1) fun u s2 ⟨y, H2, I2, r2, q2⟩ =>
    thn (ho pins s2 σ H2 x y v u _ I2 r1 r2 q2) fun d s3 ⟨z, H3, I3, r3, k, e, q3⟩ => ?_)) hm
  subst e
  cases r3
  refine wpAny_truthy_bool ?_
  cases k with
  | false => exact ite_ff ⟨.bl false, H3, I3, rfl, q3⟩
  | true => exact ite_tt (chain_last (thn (hc pins s3 σ H3 _ I3 q3) fun w' s4 ⟨z', H4, I4, r4, q4⟩ => ho' pins s4 σ H4 y z' u w' Q I4 r2 r4 q4))
theorem pt_chain {op op' : CmpOp} {r r' : R2} (ho : OpR X (compareOp op) r) (ho' : OpR X (compareOp op') r') (ha : PE X a ta) (hb : PE X b tb) (hc : PE X c tc)
    (hm : lastMarks [op, op'] [b, c] = false := by with_unfolding_all rfl) : PT X (.Compare a [op, op'] [b, c] pos) (tTest (tChain r r' ta tb tc)) := by
  intro pins s σ H Q I h
  refine isTrue_chain (thn (ha pins s σ H _ I h) fun v s1 ⟨x, H1, I1, r1, q1⟩ => test_link (thn (hb pins s1 σ H1 _ I1 q1) fun u s2 ⟨y, H2, I2, r2, q2⟩ =>
    thn (ho pins s2 σ H2 x y v u _ I2 r1 r2 q2) fun d s3 ⟨z, H3, I3, r3, k, e, q3⟩ => ?_)) hm
  subst e
  cases r3
  refine wpAny_truthy_bool ?_
  cases k with
  | false =>
    obtain ⟨k', e', q'⟩ := q3
    cases e'
    exact ite_ff ⟨H3, I3, q'⟩
  | true =>
    refine ite_tt (test_last (thn (hc pins s3 σ H3 _ I3 q3) fun w' s4 ⟨z', H4, I4, r4, q4⟩ => thn (ho' pins s4 σ H4 y z' u w' _ I4 r2 r4 q4) fun d' s5 ⟨z2, H5, I5, r5, k2, e2, q5⟩ => ?_))
    subst e2
    cases r5
    exact wpAny_truthy_bool ⟨H5, I5, q5⟩
def TruV (K : PySem.W.Frag) (x : V) (H : Hp) (k : Bool) : Prop :=
  match x with
  | .non => k = false
  | .bl b => k = b
  | .int i => k = (i != 0)
  | .str y => y.length ≤ sizeLine ∧ k = ((y.length : Int) != 0)
  | .byt y => y.size ≤ sizeLine ∧ k = ((y.size : Int) != 0)
  | .ref p => (∃ xs, SqL K H p xs ∧ k = !xs.isEmpty) ∨ (∃ xs, SqT K H p xs ∧ k = !xs.isEmpty) ∨ ∃ kvs, H p = some (.dK kvs) ∧ k = !kvs.isEmpty
  | _ => False
theorem isEmpty_kv {κ : Type} {kvs : List (κ × V)} {vs : List (κ × Value)} (r : KV kvs vs) : (!vs.isEmpty) = !kvs.isEmpty := by
  cases r <;> rfl
theorem isEmpty_of {xs : List V} {its : List Value} (r : Vals xs its) : (!its.toArray.isEmpty) = !xs.isEmpty := by
  cases r <;> simp
theorem line63 : (sizeLine : Nat) < 2 ^ 63 := by rw [sizeLine_eq]; decide
theorem tru_ok : TruR X (fun x H Q => ∃ k, TruV X.K x H k ∧ Q k H) := by
  intro pins s σ H x v Q I rx h
  obtain ⟨k, e, q⟩ := h
  have hl := line63
  have hs : sizeLine = 16777216 := sizeLine_eq
  cases x with
  | non =>
    cases rx
    have e' : k = false := e
    subst e'
    exact truthy_none ⟨H, I, q⟩
  | bl b =>
    cases rx
    have e' : k = b := e
    subst e'
    exact wpAny_truthy_bool ⟨H, I, q⟩
  | int i =>
    obtain ⟨t, rfl⟩ := rx
    have e' : k = (i != 0) := e
    subst e'
    exact PySem.P.truthy_int ⟨H, I, q⟩
  | str y =>
    obtain ⟨t, rfl⟩ := rx
    obtain ⟨hy, e'⟩ : y.length ≤ sizeLine ∧ k = ((y.length : Int) != 0) := e
    subst e'
    exact PySem.P.truthy_str (by omega) ⟨H, I.tok _, q⟩
  | byt y =>
    obtain ⟨t, rfl⟩ := rx
    obtain ⟨hy, e'⟩ : y.size ≤ sizeLine ∧ k = ((y.size : Int) != 0) := e
    subst e'
    exact PySem.W.truthy_bytes (by omega) ⟨H, I.tok _, q⟩
  | ref p =>
    cases rx
    have e' : (∃ xs, SqL X.K H p xs ∧ k = !xs.isEmpty) ∨ (∃ xs, SqT X.K H p xs ∧ k = !xs.isEmpty) ∨ ∃ kvs, H p = some (.dK kvs) ∧ k = !kvs.isEmpty := e
    rcases e' with ⟨xs, hx, e'⟩ | ⟨xs, hx, e'⟩ | ⟨kvs, hx, e'⟩
    · subst e'
      obtain ⟨its, r, pl, hz⟩ := I.list hx
      have hlen := r.length
      exact wpAny_truthy_list pl.isList (by simp only [List.size_toArray]; omega) ⟨H, I.tok _, by rw [isEmpty_of r]; exact q⟩
    · subst e'
      obtain ⟨its, r, pl, hz⟩ := I.tuple hx
      have hlen := r.length
      exact truthy_tuple pl (by simp only [List.size_toArray]; omega) ⟨H, I.tok _, by rw [isEmpty_of r]; exact q⟩
    · subst e'
      obtain ⟨hz, hS, vs, r, m⟩ : kvs.length ≤ sizeLine ∧ (p == sysModules) = false ∧ ∃ vs, KV kvs vs ∧ s.heap.DictOf (mixKind X.prog X.w) p vs := I.hok p _ hx
      have hlen : kvs.length = vs.length := Paired.length r
      exact wpAny_truthy_dict hS m (by omega) ⟨H, I.tok _, by rw [isEmpty_kv r]; exact q⟩
  | _ => exact (show False from e).elim
theorem pt_truth (ha : PE X a ta) (he : ∀ whole, isTrue a X.env whole = (do let v ← whole; standAt a.pos; holding [v] (truthy v))) :
    PT X a (fun σ H Q => ta σ H fun x H' => ∃ k, TruV X.K x H' k ∧ Q k H') := by
  intro pins s σ H Q I h
  exact isTrue_plain (thn (ha pins s σ H _ I h) fun v s1 ⟨x, H1, I1, r1, q1⟩ => tru_ok pins s1 σ H1 x v Q I1 r1 q1) (he _)
theorem vals1 {x : V} {us : List Value} (r : Vals [x] us) : ∃ u, us = [u] ∧ RelV x u := by
  cases r with
  | cons r1 r2 => cases r2; exact ⟨_, rfl, r1⟩
theorem vals2 {x y : V} {us : List Value} (r : Vals [x, y] us) : ∃ u w', us = [u, w'] ∧ RelV x u ∧ RelV y w' := by
  cases r with
  | cons r1 r2 =>
    cases r2 with
    | cons r3 r4 => cases r4; exact ⟨_, _, rfl, r1, r3⟩
theorem call_abs : CallR X (.builtin "abs") (fun xs H Q => ∃ i, xs = [.int i] ∧ Q (.int (if i < 0 then -i else i)) H) := by
  intro pins s σ H xs us Q I r h
  obtain ⟨i, rfl, q⟩ := h
  obtain ⟨u, rfl, t, rfl⟩ := vals1 r
  exact call_abs_int fun u tk => ⟨.int (if i < 0 then -i else i), H, I.tok _, ⟨_, rfl⟩, q⟩
theorem call_max2 (hc : X.calm = true) : CallR X (.builtin "max") (fun xs H Q => ∃ i j, xs = [.int i, .int j] ∧ Q (.int (if j > i then j else i)) H) := by
  intro pins s σ H xs us Q I r h
  obtain ⟨i, j, rfl, q⟩ := h
  obtain ⟨u, w', rfl, ⟨t, rfl⟩, ⟨t', rfl⟩⟩ := vals2 r
  refine max_two_ints (I.ok.hd hc) fun h' tk k => ⟨_, H, I.kept k, ?_, q⟩
  by_cases hj : j > i
  · rw [if_pos hj, if_pos hj]; exact ⟨_, rfl⟩
  · rw [if_neg hj, if_neg hj]; exact ⟨_, rfl⟩
theorem call_min2 (hc : X.calm = true) : CallR X (.builtin "min") (fun xs H Q => ∃ i j, xs = [.int i, .int j] ∧ Q (.int (if j < i then j else i)) H) := by
  intro pins s σ H xs us Q I r h
  obtain ⟨i, j, rfl, q⟩ := h
  obtain ⟨u, w', rfl, ⟨t, rfl⟩, ⟨t', rfl⟩⟩ := vals2 r
  refine min_two_ints (I.ok.hd hc) fun h' tk k => ⟨_, H, I.kept k, ?_, q⟩
  by_cases hj : j < i
  · rw [if_pos hj, if_pos hj]; exact ⟨_, rfl⟩
  · rw [if_neg hj, if_neg hj]; exact ⟨_, rfl⟩
end
end L2
namespace L2
open PySem PySem.Spec PyProof.Rows
structure ObjM (h : Heap) (x dx C : Addr) (mA : Str → Option Value) : Prop where
  obj : h.get? x = some (PySem.W.instObj C dx)
  ns : h.Ns1 dx mA
  ne : dx ≠ x
theorem lookIn_ns {h : Heap} {dx : Addr} {mA : Str → Option Value} (n : h.Ns1 dx mA) : ∃ od, h.get? dx = some od ∧ ∀ name, PySem.W.lookIn name od = some (mA name) := by
  obtain ⟨o, es, ep, ho, hd, hk, _, hm⟩ := n
  refine ⟨o, ho, fun name => ?_⟩
  have e := hm name
  unfold nsFind findBy at e
  rw [← Array.find?_toList] at e
  unfold PySem.W.lookIn
  rw [hd]
  dsimp only
  split
  · rename_i y q
    rw [q] at e
    exact congrArg some e
  · rename_i q
    rw [q] at e
    have a : es.toList.any (·.refKey) = false := by
      rw [List.any_eq_false]
      intro y hy
      obtain ⟨z, t, hkey⟩ := hk y (Array.mem_toList_iff.mp hy)
      simp [DictEntry.refKey, hkey]
    have a' : ¬ es.toList.any (·.refKey) = true := by rw [a]; exact Bool.false_ne_true
    rw [if_neg a']
    exact congrArg some e
theorem ObjM.look {h : Heap} {x dx C : Addr} {mA : Str → Option Value} (I : ObjM h x dx C mA) : ∃ od, PySem.W.InstAt h x (PySem.W.instObj C dx) C (some od) ∧ ∀ name, PySem.W.lookIn name od = some (mA name) :=
  let ⟨od, ho, hl⟩ := lookIn_ns I.ns
  ⟨od, ⟨I.obj, rfl, rfl, ho⟩, hl⟩
section
variable {prog : Program} {w : World} {A : Around} {E : Value → Shared → Prop} {s : Shared} {K : PySem.W.Frag} {x dx C f : Addr} {mA : Str → Option Value} {name : Str} {v : Value}
theorem get_map {expr : Bool} {Q : Value → Shared → Prop} (X : K.In s.heap) (I : ObjM s.heap x dx C mA) (hg : PySem.W.plainGet K C name = true) (hh : PySem.W.hasDictIn K C = true)
    (ha : PySem.W.findIn K (.ref C) name = some none) (hv : mA name = some v) (hv' : PySem.W.handedIn v = true) (h : Q v { s with toks := s.toks + 1 }) :
    wpAny (model prog w) A (getAttr (.ref x) name expr) Q E s := by
  obtain ⟨od, J, hl⟩ := I.look
  exact PySem.W.get_value X J (PySem.W.plainGet_of hg).1 (PySem.W.findObj_own hh ha rfl (by rw [hl, hv])) hv' h
theorem get_meth {pl : Sem Bool} {Q : Value × List Value → Shared → Prop} (X : K.In s.heap) (I : ObjM s.heap x dx C mA) (hg : PySem.W.plainGet K C name = true)
    (hf : PySem.W.findIn K (.ref C) name = some (some (.ref f))) (ht : PySem.W.isFn K (.ref f) = true) (hv : mA name = none) (h : Q (.ref f, [.ref x]) s) :
    wpAny (model prog w) A (getMethod (.ref x) name pl) Q E s := by
  obtain ⟨od, J, hl⟩ := I.look
  exact PySem.W.method_fn X J (PySem.W.plainGet_of hg).1 (PySem.W.plainGet_of hg).2 hf (beq_iff_eq.mp ht) (by show (PySem.W.lookIn name od).map (·.isSome) = some false; rw [hl, hv]; rfl) h
theorem set_map {ns : List Str} {Q : Unit → Shared → Prop} (X : K.In s.heap) (I : ObjM s.heap x dx C mA)
    (hs : PySem.W.findIn K (.ref C) "__setattr__" = some (some (.builtin "object.__setattr__"))) (hp : PySem.W.plainOver K C = true) (ht : PySem.W.takerIn K C name = some none) (hh : PySem.W.hasDictIn K C = true)
    (hw : PySem.Within mA ns) (hsz : ns.length ≤ sizeLine)
    (h : ∀ h', ObjM h' x dx C (fun y => if y = name then some v else mA y) → Heap.SameBut dx s.heap h' → Q () { s with heap := h', toks := s.toks + 2 }) :
    wpAny (model prog w) A (setAttr (.ref x) name v) Q E s := by
  obtain ⟨od, J, hl⟩ := I.look
  refine PySem.W.set_plain X J hs (PySem.W.osa_open (s := { s with toks := s.toks + 1 }) (r := none) X J hp ht fun b => ?_)
  obtain ⟨cd, hc, hd'⟩ := PySem.W.any_some hh
  have hx : s.heap.get? x = some ⟨.ref C, some dx, .plain, #[]⟩ := I.obj
  refine wpAny_bind (wpAny_pure (wpAny_bind (wpAny_bind (wpAny_loadPart hx (wpAny_bind (PySem.W.Looks.here (s := { s with toks := s.toks + 1 }) (PySem.W.looks_clsIn X hc) ?_))))))
  rw [hd']
  refine wpAny_pure (a := some dx) (wpAny_bind (wpAny_pure (wpAny_bind ?_)))
  refine wpAny_nsSet1 (s := { s with toks := s.toks + 1 }) I.ns fun h' hn2 hs2 => ?_
  obtain ⟨oD, esD, epD, hoD, hdD, hcD⟩ := hn2.count (PySem.Within.cons name v hw)
  refine wpAny_bind (wpAny_lookBehind hoD (by rw [hdD]; exact pastItsLine_dict (Nat.le_trans hcD (by rw [List.length_cons]; omega))) ?_)
  exact wpAny_pure (h _ ⟨(hs2.2 _ (Ne.symm I.ne)).trans I.obj, hn2, I.ne⟩ hs2)
theorem make_map {R : Result → Shared → Prop} {vs : List Value} {kw : List (Str × Value)} (X : K.In s.heap) (hm : PySem.W.makesIn K C = true)
    (hi : PySem.W.findIn K (.ref C) "__init__" = some (some (.ref f))) (hf : PySem.W.typeIn K (.ref f) = some (.type "function"))
    (h : codeAny (model prog w) (A.under (.builtin "type.__call__" ⟨.ref C :: vs, kw⟩)) (.call (.ref f) ⟨.ref (s.heap.objs.size + 1) :: vs, kw⟩) (PySem.W.InitBack (s.heap.objs.size + 1) R)
      { s with heap := (s.heap.push PySem.W.emptyDict).push (PySem.W.instObj C s.heap.objs.size) }) :
    codeAny (model prog w) A (.call (.ref C) ⟨vs, kw⟩) R s := by
  obtain ⟨hh, g, d, t, os⟩ := s
  exact PySem.W.make_core (PySem.W.makes_of X hm) (PySem.W.looks_findIn X hi) (fun self => PySem.W.bind_fn X self hf) (.inl rfl) h
end
def putF (f : Str) (v : V) : List (Str × V) → List (Str × V)
  | [] => [(f, v)]
  | (g, x) :: r => if g = f then (g, v) :: r else (g, x) :: putF f v r
theorem lookup_putF (f g : Str) (v : V) : ∀ fs : List (Str × V), (putF f v fs).lookup g = if g = f then some v else fs.lookup g
  | [] => by
    show List.lookup g [(f, v)] = _
    by_cases h : g = f
    · have hb : (g == f) = true := beq_iff_eq.mpr h
      simp only [List.lookup, hb, if_pos h]
    · have hb : (g == f) = false := beq_eq_false_iff_ne.mpr h
      simp only [List.lookup, hb, if_neg h]
  | (k, x) :: r => by
    have ih := lookup_putF f g v r
    rw [show putF f v ((k, x) :: r) = (if k = f then (k, v) :: r else (k, x) :: putF f v r) from rfl]
    by_cases hk : k = f
    · rw [if_pos hk]
      by_cases h : g = k
      · have hb : (g == k) = true := beq_iff_eq.mpr h
        simp only [List.lookup, hb, if_pos (h.trans hk)]
      · have hb : (g == k) = false := beq_eq_false_iff_ne.mpr h
        simp only [List.lookup, hb, if_neg (fun e : g = f => h (e.trans hk.symm))]
    · rw [if_neg hk]
      by_cases h : g = k
      · have hb : (g == k) = true := beq_iff_eq.mpr h
        simp only [List.lookup, hb, if_neg (fun e : g = f => hk (h.symm.trans e))]
      · have hb : (g == k) = false := beq_eq_false_iff_ne.mpr h
        simp only [List.lookup, hb]
        exact ih
theorem keys_putF (f : Str) (v : V) : ∀ fs : List (Str × V), f ∈ (putF f v fs).map (·.1) ∧ ∀ g, g ∈ fs.map (·.1) → g ∈ (putF f v fs).map (·.1)
  | [] => ⟨by simp [putF], fun g h => by simp at h⟩
  | (k, x) :: r => by
    obtain ⟨i1, i2⟩ := keys_putF f v r
    rw [show putF f v ((k, x) :: r) = (if k = f then (k, v) :: r else (k, x) :: putF f v r) from rfl]
    by_cases hk : k = f
    · rw [if_pos hk]
      subst hk
      exact ⟨by simp, fun g h => by simpa using h⟩
    · rw [if_neg hk]
      refine ⟨?_, fun g h => ?_⟩
      · rw [List.map_cons]
        exact List.mem_cons_of_mem _ i1
      · rw [List.map_cons] at h ⊢
        rcases List.mem_cons.mp h with e | e
        · exact List.mem_cons.mpr (.inl e)
        · exact List.mem_cons_of_mem _ (i2 g e)
theorem length_putF (f : Str) (v : V) : ∀ fs : List (Str × V), (putF f v fs).length ≤ fs.length + 1
  | [] => by simp [putF]
  | (k, x) :: r => by
    have ih := length_putF f v r
    rw [show putF f v ((k, x) :: r) = (if k = f then (k, v) :: r else (k, x) :: putF f v r) from rfl]
    by_cases hk : k = f
    · rw [if_pos hk, List.length_cons, List.length_cons]; omega
    · rw [if_neg hk, List.length_cons, List.length_cons]; omega
theorem RelO.some_of {v : V} {o : Option Value} (r : RelO (some v) o) : ∃ u, o = some u ∧ RelV v u := by
  cases o with
  | none => exact (show False from r).elim
  | some u => exact ⟨u, rfl, r⟩
theorem RelO.none_of {o : Option Value} (r : RelO none o) : o = none := by
  cases o with
  | none => rfl
  | some u => exact (show False from r).elim
theorem handed_of {v : V} {u : Value} (r : RelV v u) : PySem.W.handedIn u = true := by
  cases v with
  | non => cases (show u = Value.none from r); rfl
  | bl b => cases (show u = Value.bool b from r); rfl
  | int i => obtain ⟨t, e⟩ := (show ∃ t, u = Value.int i t from r); cases e; rfl
  | str x => obtain ⟨t, e⟩ := (show ∃ t, u = Value.str x t from r); cases e; rfl
  | byt b => obtain ⟨t, e⟩ := (show ∃ t, u = Value.bytes b t from r); cases e; rfl
  | flt b => obtain ⟨t, e⟩ := (show ∃ t, u = Value.float b t from r); cases e; rfl
  | ref a => cases (show u = Value.ref a from r); rfl
  | ty n => cases (show u = Value.type n from r); rfl
section
variable {P : Program} {w : World} {H H' : Hp} {h h' : Heap} {a C dx : Addr} {fs fs' : List (Str × V)}
theorem ins_get (hok : HOk P w H h) (e : H a = some (.ins C dx fs)) : ∃ mA, ObjM h a dx C mA ∧ (∀ f, RelO (fs.lookup f) (mA f)) ∧ PySem.Within mA (fs.map (·.1)) ∧ fs.length ≤ 1000 ∧ H dx = some (.own a) := by
  obtain ⟨d, z, ne, ob, mA, n, r, q⟩ := (show ObjOk P w H h a (.ins C dx fs) from hok a _ e)
  exact ⟨mA, ⟨ob, n, ne⟩, r, q, z, d⟩
end
structure Cls (K : PySem.W.Frag) (C : Addr) : Prop where
  pg : PySem.W.plainGet K C Str.empty = true
  hd : PySem.W.hasDictIn K C = true
  po : PySem.W.plainOver K C = true
  sa : PySem.W.findIn K (.ref C) "__setattr__" = some (some (.builtin "object.__setattr__"))
theorem Cls.get {K : PySem.W.Frag} {C : Addr} (c : Cls K C) (f : Str) : PySem.W.plainGet K C f = true := c.pg
def NoAttr (K : PySem.W.Frag) (C : Addr) (f : Str) : Prop := PySem.W.findIn K (.ref C) f = some none
theorem NoAttr.taker {K : PySem.W.Frag} {C : Addr} {f : Str} (n : NoAttr K C f) : PySem.W.takerIn K C f = some none := by
  unfold PySem.W.takerIn
  rw [show PySem.W.findIn K (.ref C) f = some none from n]
  rfl
structure Meth (K : PySem.W.Frag) (C : Addr) (m : Str) (f : Addr) : Prop where
  at_ : PySem.W.findIn K (.ref C) m = some (some (.ref f))
  fn : PySem.W.isFn K (.ref f) = true
  kp : PySem.W.keepIn K (.ref f) = true
section
variable {X : Cx} {pins : List (Addr × Obj)} {σ : St} {H : Hp} {s : Shared} {a C dx : Addr} {fs : List (Str × V)} {f : Str} {v : V} {A : Around} {E : Value → Shared → Prop}
theorem getattr_ok {b : Bool} {Q : Value → Shared → Prop} (I : Inv X pins σ H s) (e : H a = some (.ins C dx fs)) (c : Cls X.K C) (n : NoAttr X.K C f) (l : fs.lookup f = some v)
    (h : ∀ u s', Inv X pins σ H s' → RelV v u → Q u s') : wpAny (model X.prog X.w) A (getAttr (.ref a) f b) Q E s := by
  obtain ⟨mA, O, r, _, _, _⟩ := ins_get I.hok e
  obtain ⟨u, hu, ru⟩ := RelO.some_of (v := v) (o := mA f) (by rw [← l]; exact r f)
  exact get_map I.kIn O (c.get f) c.hd n hu (handed_of ru) (h u _ (I.tok _) ru)
theorem getmeth_ok {m : Str} {g : Addr} {pl : Sem Bool} {Q : Value × List Value → Shared → Prop} (I : Inv X pins σ H s) (e : H a = some (.ins C dx fs)) (c : Cls X.K C) (k : Meth X.K C m g) (l : fs.lookup m = none)
    (h : Q (.ref g, [.ref a]) s) : wpAny (model X.prog X.w) A (getMethod (.ref a) m pl) Q E s := by
  obtain ⟨mA, O, r, _, _, _⟩ := ins_get I.hok e
  have hn : mA m = none := RelO.none_of (by rw [← l]; exact r m)
  exact get_meth I.kIn O (c.get m) k.at_ k.fn hn h
theorem setattr_ok {y : V} {u : Value} {Q : Unit → Shared → Prop} (I : Inv X pins σ H s) (e : H a = some (.ins C dx fs)) (c : Cls X.K C) (n : NoAttr X.K C f) (hl : fs.length < 1000) (ry : RelV y u)
    (h : ∀ s', Inv X pins σ (upd H a (.ins C dx (putF f y fs))) s' → Q () s') : wpAny (model X.prog X.w) A (setAttr (.ref a) f u) Q E s := by
  obtain ⟨mA, O, r, wi, _, ho⟩ := ins_get I.hok e
  have hz : (fs.map (·.1)).length ≤ sizeLine := by rw [List.length_map, sizeLine_eq]; omega
  refine set_map I.kIn O c.sa c.po n.taker c.hd wi hz fun h' O' sb => h _ ?_
  have hd : ∃ o, h'.get? dx = some o := let ⟨o, _, _, e', _⟩ := O'.ns; ⟨o, e'⟩
  refine I.write (x := a) (e := dx) (by rw [e]; exact True.intro) (.inr ho) (fun b q hb z => (sb.2 b hb).trans z) hd ?_
  refine ⟨by rw [upd_ne O.ne]; exact ho, ?_, O.ne, O'.obj, _, O'.ns, fun g => ?_, fun g hg => ?_⟩
  · have := length_putF f y fs; omega
  · show RelO ((putF f y fs).lookup g) (if g = f then some u else mA g)
    rw [lookup_putF]
    by_cases q : g = f
    · rw [if_pos q, if_pos q]; exact ry
    · rw [if_neg q, if_neg q]; exact r g
  · by_cases q : g = f
    · rw [q]; exact (keys_putF f y fs).1
    · refine (keys_putF f y fs).2 g (wi g fun z => hg ?_)
      show (if g = f then some u else mA g) = none
      rw [if_neg q]; exact z
theorem Inv.made (I : Inv X pins σ H s) : Inv X pins σ (upd (upd H s.heap.objs.size (.own (s.heap.objs.size + 1))) (s.heap.objs.size + 1) (.ins C s.heap.objs.size []))
    { s with heap := (s.heap.push PySem.W.emptyDict).push (PySem.W.instObj C s.heap.objs.size) } := by
  have e1 : (s.heap.push PySem.W.emptyDict).get? s.heap.objs.size = some PySem.W.emptyDict := Heap.get?_push_size s.heap rfl
  have e2 : ((s.heap.push PySem.W.emptyDict).push (PySem.W.instObj C s.heap.objs.size)).get? (s.heap.objs.size + 1) = some (PySem.W.instObj C s.heap.objs.size) := by
    have := Heap.get?_push_size (s.heap.push PySem.W.emptyDict) (o := PySem.W.instObj C s.heap.objs.size) rfl
    rwa [Heap.size_push] at this
  have e3 : (s.heap.push PySem.W.emptyDict).Ns s.heap.objs.size (fun _ => none) := ⟨PySem.W.emptyDict, #[], _, e1, rfl, (fun e he => absurd he (by simp)), fun _ => rfl⟩
  have I1 := I.laid (a := s.heap.objs.size) (o := .own (s.heap.objs.size + 1)) (h' := s.heap.push PySem.W.emptyDict) (t' := s.toks) (fun b u q => Heap.get?_push_of_some _ q) (Nat.le_refl _) ⟨_, e1⟩
  refine I1.laid (a := s.heap.objs.size + 1) (o := .ins C s.heap.objs.size []) (t' := s.toks) (fun b u q => Heap.get?_push_of_some _ q) (Nat.le_of_eq (Heap.size_push _ _)) ?_
  have ne : s.heap.objs.size ≠ s.heap.objs.size + 1 := Nat.ne_of_lt (Nat.lt_succ_self _)
  refine ⟨by rw [upd_ne ne, upd_same], Nat.zero_le _, ne, e2, fun _ => none, (Heap.Ns1.of_empty e3).at fun o q => Heap.get?_push_of_some _ q, fun _ => True.intro, fun y hy => absurd rfl hy⟩
theorem attr_of {prog : Program} {w : World} {env : Env} {e : Expr} {f : Str} {pos : Pos} {s : Shared} {Q : Value → Shared → Prop} (hb : attributeBase e f env (eval e env) = eval e env)
    (h : wpAny (model prog w) A (eval e env) (fun o s₁ => wpAny (model prog w) A (getAttr o f true) Q E s₁) E s) : wpAny (model prog w) A (eval (.Attribute e f pos) env) Q E s :=
  Attribute_any_ h (by rw [arm_eval_Attribute, hb])
end
def tFld (K : PySem.W.Frag) (ta : TE) (f : Str) : TE := fun σ H Q => ta σ H fun x H1 => ∃ a C dx fs v, x = .ref a ∧ H1 a = some (.ins C dx fs) ∧ Cls K C ∧ NoAttr K C f ∧ fs.lookup f = some v ∧ Q v H1
def sFld (K : PySem.W.Frag) (ta tv : TE) (f : Str) : TS := fun D σ H => tv σ H fun y H1 => ta σ H1 fun x H2 => ∃ a C dx fs, x = .ref a ∧ H2 a = some (.ins C dx fs) ∧ Cls K C ∧ NoAttr K C f ∧ fs.length < 1000 ∧
  D.nx σ (upd H2 a (.ins C dx (putF f y fs)))
def InOp (X : Cx) (op : Operator) (rd : V → V → Hp → VK → Prop) : Prop :=
  ∀ (pins : List (Addr × Obj)) (s : Shared) (σ : St) (H : Hp) (x y : V) (u v : Value) (Q : VK), Inv X pins σ H s → RelV x u → RelV y v → rd x y H Q → wpAny (model X.prog X.w) X.A (inplaceOp op u v) (EP X pins σ Q) X.xe s
def sFldAug (K : PySem.W.Frag) (ta tv : TE) (rd : V → V → Hp → VK → Prop) (f : Str) : TS := fun D σ H => ta σ H fun x H1 => ∃ a C dx fs v, x = .ref a ∧ H1 a = some (.ins C dx fs) ∧ Cls K C ∧ NoAttr K C f ∧ fs.lookup f = some v ∧
  tv σ H1 fun y H2 => rd v y H2 fun z H3 => ∃ dx' fs', H3 a = some (.ins C dx' fs') ∧ fs'.length < 1000 ∧ D.nx σ (upd H3 a (.ins C dx' (putF f z fs')))
section
variable {X : Cx} {o e value : Expr} {f : Str} {pos pos' tpos : Pos} {ta tv : TE}
theorem pe_fld (he : PE X e ta) (hb : attributeBase e f X.env (eval e X.env) = eval e X.env) : PE X (.Attribute e f pos) (tFld X.K ta f) := by
  intro pins s σ H Q I h
  refine attr_of hb (thn (he pins s σ H _ I h) fun u s1 ⟨x, H1, I1, rx, a, C, dx, fs, v, ex, ea, c, n, l, q⟩ => ?_)
  subst ex
  obtain rfl : u = Value.ref a := rx
  exact getattr_ok I1 ea c n l fun u' s2 I2 ru => ⟨v, H1, I2, ru, q⟩
theorem ps_fld (ha : PE X o ta) (hv : PE X value tv) (hs : swapsWith value (some (.Attribute o f pos')) pos.line X.env = pure false) : PS X (.Assign [.Attribute o f pos'] value pos) (sFld X.K ta tv f) := by
  intro pins s σ H D I h
  refine plainObj_wpAny_Assign_Attribute (thn (hv pins s σ H _ I h) fun u s1 ⟨y, H1, I1, ry, q⟩ => thn (ha pins s1 σ H1 _ I1 q) fun ov s2 ⟨x, H2, I2, rx, a, C, dx, fs, ex, ea, c, n, l, q2⟩ => ?_) hs
  subst ex
  obtain rfl : ov = Value.ref a := rx
  exact setattr_ok I2 ea c n l ry fun s3 I3 => ⟨σ, _, I3, q2⟩
theorem ps_fldaug {op : Operator} {rd : V → V → Hp → VK → Prop} (ha : PE X o ta) (hv : PE X value tv) (hop : InOp X op rd) : PS X (.AugAssign (.Attribute o f tpos) op value pos) (sFldAug X.K ta tv rd f) := by
  intro pins s σ H D I h
  refine wpAny_AugAssign_AttributeAny (thn (ha pins s σ H _ I h) fun ov s1 ⟨x, H1, I1, rx, a, C, dx, fs, v, ex, ea, c, n, l, q⟩ => ?_)
  subst ex
  obtain rfl : ov = Value.ref a := rx
  refine getattr_ok I1 ea c n l fun u s2 I2 ru => thn (hv pins s2 σ H1 _ I2 q) fun w3 s3 ⟨y, H2, I3, ry, q3⟩ => thn (hop pins s3 σ H2 v y u w3 _ I3 ru ry q3) fun w4 s4 ⟨z, H3, I4, rz, dx', fs', ea', l', q4⟩ => ?_
  exact setattr_ok I4 ea' c n l' rz fun s5 I5 => ⟨σ, _, I5, q4⟩
def rAdd : V → V → Hp → VK → Prop := fun x y H Q => ∃ i j, x = .int i ∧ y = .int j ∧ Q (.int (i + j)) H
theorem in_add : InOp X .Add rAdd := by
  rintro pins s σ H x y u v Q I rx ry ⟨i, j, rfl, rfl, q⟩
  obtain ⟨t, rfl⟩ := (show ∃ t, u = Value.int i t from rx)
  obtain ⟨t', rfl⟩ := (show ∃ t', v = Value.int j t' from ry)
  exact PyProof.Rows.iadd_int ⟨.int (i + j), H, I.tok _, ⟨_, rfl⟩, q⟩
end
section
variable {X : Cx} {pins : List (Addr × Obj)} {σ : St} {H : Hp} {s : Shared} {A : Around} {E : Value → Shared → Prop} {Q : Value → Shared → Prop} {c : Value} {b : Bool}
inductive TyOf (K : PySem.W.Frag) (H : Hp) : V → Value → Prop where
  | non : TyOf K H .non (.type "NoneType")
  | bl (x : Bool) : TyOf K H (.bl x) (.type "bool")
  | int (i : Int) : TyOf K H (.int i) (.type "int")
  | str (x : Str) : TyOf K H (.str x) (.type "str")
  | flt (x : UInt64) : TyOf K H (.flt x) (.type "float")
  | lst {a : Addr} {xs : List V} (e : H a = some (.lst xs)) : TyOf K H (.ref a) (.type "list")
  | frz {a : Addr} {o : Obj} {xs : List V} (e : H a = some (.frz o (.lst xs))) : TyOf K H (.ref a) (.type "list")
  | tup {a : Addr} {xs : List V} (e : H a = some (.tup xs)) : TyOf K H (.ref a) (.type "tuple")
  | dK {a : Addr} {kvs : List (Key × V)} (e : H a = some (.dK kvs)) : TyOf K H (.ref a) (.type "dict")
  | dT {a : Addr} {kvs : List (List Key × V)} (e : H a = some (.dT kvs)) : TyOf K H (.ref a) (.type "dict")
  | ins {a C dx : Addr} {fs : List (Str × V)} (e : H a = some (.ins C dx fs)) (cl : Cls K C) (ha : PySem.W.findIn K (.ref C) "__class__" = some (some (.builtin "object.__class__")))
      (hn : PySem.W.specialIn K (.builtin "object.__class__") "__get__" = some (some (.builtin "getset_descriptor.__get__"))) (htk : PySem.W.takesIn K (.builtin "object.__class__") = some true)
      (hm : PySem.W.mroIn K C (.type "object") = some true) : TyOf K H (.ref a) (.ref C)
theorem isinst_ok {x : V} {u t : Value} (I : Inv X pins σ H s) (rx : RelV x u) (ty : TyOf X.K H x t) (e : PySem.W.kitOne X.K t c = some b) (h : ∀ tk, Q (.bool b) { s with toks := tk }) :
    wpAny (model X.prog X.w) A (call (.builtin "isinstance") [u, c]) Q E s := by
  cases ty with
  | non => cases (show u = Value.none from rx); exact PySem.W.kia_one PySem.W.kitx_none I.kIn True.intro e (fun z => nomatch z) h
  | bl y => cases (show u = Value.bool y from rx); exact PySem.W.kia_one PySem.W.kitx_bool I.kIn True.intro e (fun z => nomatch z) h
  | int i => obtain ⟨t, q⟩ := (show ∃ t, u = Value.int i t from rx); cases q; exact PySem.W.kia_one PySem.W.kitx_int I.kIn True.intro e (fun z => nomatch z) h
  | str y => obtain ⟨t, q⟩ := (show ∃ t, u = Value.str y t from rx); cases q; exact PySem.W.kia_one PySem.W.kitx_str I.kIn True.intro e (fun z => nomatch z) h
  | flt y => obtain ⟨t, q⟩ := (show ∃ t, u = Value.float y t from rx); cases q; exact PySem.W.kia_one PySem.W.kitx_float I.kIn True.intro e (fun z => nomatch z) h
  | @lst a xs ea =>
    cases (show u = Value.ref a from rx)
    obtain ⟨_, _, n, _, h1⟩ := (show ObjOk X.prog X.w H s.heap a (.lst xs) from I.hok a _ ea)
    exact PySem.W.kia_one PySem.W.kitx_list I.kIn ⟨_, h1, rfl⟩ e (fun z => nomatch z) h
  | @frz a ob xs ea =>
    cases (show u = Value.ref a from rx)
    obtain ⟨_, _, _, n, _, h1⟩ := (show ObjOk X.prog X.w H s.heap a (.frz ob (.lst xs)) from I.hok a _ ea)
    exact PySem.W.kia_one PySem.W.kitx_list I.kIn ⟨_, h1, rfl⟩ e (fun z => nomatch z) h
  | @tup a xs ea =>
    cases (show u = Value.ref a from rx)
    obtain ⟨_, _, _, p⟩ := (show ObjOk X.prog X.w H s.heap a (.tup xs) from I.hok a _ ea)
    obtain ⟨o, h1, h2, _⟩ := p
    exact PySem.W.kia_one PySem.W.kitx_tuple I.kIn ⟨o, h1, h2⟩ e (fun z => nomatch z) h
  | @dK a kvs ea =>
    cases (show u = Value.ref a from rx)
    obtain ⟨_, _, vs, _, p⟩ := (show ObjOk X.prog X.w H s.heap a (.dK kvs) from I.hok a _ ea)
    obtain ⟨o, es, ep, h1, h2, _⟩ := p
    exact PySem.W.kia_one PySem.W.kitx_dict I.kIn ⟨o, h1, h2.1⟩ e (fun z => nomatch z) h
  | @dT a kvs ea =>
    cases (show u = Value.ref a from rx)
    obtain ⟨_, _, xs, _, o, es, ep, h1, h2, _⟩ := (show ObjOk X.prog X.w H s.heap a (.dT kvs) from I.hok a _ ea)
    exact PySem.W.kia_one PySem.W.kitx_dict I.kIn ⟨o, h1, h2.1⟩ e (fun z => nomatch z) h
  | @ins a C dx fs ea cl ha hn htk hm =>
    cases (show u = Value.ref a from rx)
    obtain ⟨mA, O, _⟩ := ins_get I.hok ea
    obtain ⟨od, J, _⟩ := O.look
    exact PySem.W.kia_one (PySem.W.kitx_own (cl.get _) cl.hd ha hn htk hm) I.kIn J e (fun z => nomatch z) h
end
end L2
namespace L2
open PySem PySem.Spec PyProof.Rows
structure Room (k : Nat) (A : Around) : Prop where
  hd : A.handled = none
  dp : A.depth + 3 * k + 5 < recursionLimit
  un : A.units + 16 * k + 200 < cLine
  gd : A.guards = some []
theorem Room.mono {j k : Nat} {A : Around} (r : Room k A) (h : j ≤ k) : Room j A := ⟨r.hd, by have := r.dp; omega, by have := r.un; omega, r.gd⟩
theorem Room.deeper {k : Nat} {A : Around} (r : Room (k + 1) A) (env : Env) : Room k (A.deeper env) :=
  ⟨r.hd, by have := r.dp; show A.depth + 1 + 3 * k + 5 < _; omega, by have := r.un; show A.units + 3 + 16 * k + 200 < _; omega, r.gd⟩
theorem Room.in1 {k : Nat} {A : Around} (r : Room (k + 1) A) : Room k A.in1 :=
  ⟨r.hd, by have := r.dp; show A.depth + 3 * k + 5 < _; omega, by have := r.un; show A.units + 1 + 16 * k + 200 < _; omega, r.gd⟩
theorem make_depth {A : Around} {C : Addr} {us : List Value} {kw : List (Str × Value)} : (A.under (.builtin "type.__call__" ⟨.ref C :: us, kw⟩)).depth = A.depth + 1 := by
  first | rfl | simp [Around.under, Code.weight, Code.isCreation, Code.isGuard, Code.isCaller, Code.frames, Code.isFrame, guardIds]
theorem make_units {A : Around} {C : Addr} {us : List Value} {kw : List (Str × Value)} : (A.under (.builtin "type.__call__" ⟨.ref C :: us, kw⟩)).units = A.units + 1 := by
  first | rfl | simp [Around.under, Code.cUnits, Code.frames, Code.isFrame]
theorem Room.make {k : Nat} {A : Around} (r : Room (k + 1) A) (C : Addr) (us : List Value) (kw : List (Str × Value)) : Room k (A.under (.builtin "type.__call__" ⟨.ref C :: us, kw⟩)) :=
  ⟨r.hd, by have := r.dp; rw [make_depth]; omega, by have := r.un; rw [make_units]; omega, by first | exact r.gd | simpa [Around.under, Code.guards, Code.isGuard, guardIds, pushGuards] using r.gd⟩
theorem Room.depth {k : Nat} {A : Around} (r : Room k A) : A.depth < recursionLimit := by have := r.dp; omega
theorem Room.units {k : Nat} {A : Around} (r : Room k A) : A.units + 64 < cLine := by have := r.un; omega
def tNil : TA := fun _ H Q => Q [] H
def tCons (ta : TE) (tr : TA) : TA := fun σ H Q => ta σ H fun x H1 => tr σ H1 fun xs H2 => Q (x :: xs) H2
section
variable {X : Cx} {e : Expr} {es : List Expr} {te : TE} {t : TA} {pos : Pos}
theorem pa_nil : PA X [] tNil := fun _ _ _ _ H Q I h => Calls.spliced_nil ⟨[], H, I, .nil, h⟩
theorem pa_cons (ha : PE X e te) (hr : PA X es t) (hs : starEach (e :: es) X.env = (false, eval e X.env) :: starEach es X.env := by rfl) : PA X (e :: es) (tCons te t) := by
  intro pos pins s σ H Q I h
  rw [hs]
  show wpAny _ _ (spliced ((false, eval e X.env) :: backTo pos (starEach es X.env))) _ _ s
  refine Calls.spliced_cons (thn (ha pins s σ H _ I h) fun u s1 ⟨x, H1, I1, r1, q1⟩ => ?_)
  exact thn (hr pos pins s1 σ H1 _ I1 q1) fun us s2 ⟨xs, H2, I2, r2, q2⟩ => ⟨x :: xs, H2, I2, .cons r1 r2, q2⟩
def tTup (t : TA) : TE := fun σ H Q => t σ H fun xs H1 => xs.length ≤ sizeLine ∧ ∀ p, H1 p = none → Q (.ref p) (upd H1 p (.tup xs))
def tLst (t : TA) : TE := fun σ H Q => t σ H fun xs H1 => xs.length ≤ sizeLine ∧ ∀ p, H1 p = none → Q (.ref p) (upd H1 p (.lst xs))
theorem pe_tup {x1} (h : PA X es t) : PE X (.Tuple es x1 pos) (tTup t) := by
  intro pins s σ H Q I hq
  refine wpAny_Tuple_spliced (thn (h pos pins s σ H _ I hq) fun us s1 ⟨xs, H1, I1, r, z, q⟩ => ⟨by rw [← r.length]; exact z, ?_⟩)
  have hf : H1 s1.heap.objs.size = none := I1.hok.fresh (Nat.le_refl _)
  refine ⟨.ref s1.heap.objs.size, upd H1 s1.heap.objs.size (.tup xs), I1.laid (t' := s1.toks) (fun b u e => Heap.get?_push_of_some _ e) (Nat.le_refl _) ?_, rfl, q _ hf⟩
  exact ⟨z, us, r, ⟨_, Heap.get?_push_size _ rfl, rfl, _, rfl⟩⟩
theorem pe_lst (h : PA X es t) : PE X (.List es pos) (tLst t) := by
  intro pins s σ H Q I hq
  refine wpAny_List_spliced (thn (h pos pins s σ H _ I hq) fun us s1 ⟨xs, H1, I1, r, z, q⟩ => ⟨by rw [← r.length]; exact z, ?_⟩)
  have hf : H1 s1.heap.objs.size = none := I1.hok.fresh (Nat.le_refl _)
  refine ⟨.ref s1.heap.objs.size, upd H1 s1.heap.objs.size (.lst xs), I1.laid (t' := s1.toks) (fun b u e => Heap.get?_push_of_some _ e) (Nat.le_refl _) ?_, rfl, q _ hf⟩
  exact ⟨z, us, 0, r, Heap.get?_push_size _ rfl⟩
end
abbrev Sp := List V → Hp → VK → XK → Prop
abbrev CXT := List Env → Hp → Shared → XK → Value → Shared → Prop
structure Env0 (P : Program) (w : World) (K : PySem.W.Frag) (mg : Str → Option Value) (base : Heap) (A : Around) (outer : List Env) (s : Shared) (H : Hp) : Prop where
  frames : A.frames = some outer
  mod : Mod K mg base
  bs : ∀ b o, base.get? b = some o → s.heap.get? b = some o ∧ H b = none
  bsz : base.objs.size ≤ s.heap.objs.size
  funs : s.heap.FunFrames base outer
  frf : ∀ b ∈ frs outer, H b = none
  tb : TabH K H
  hok : HOk P w H s.heap
  bare : AllBare s.gens
def CE (outer : List Env) (P : Program) (w : World) (H : Hp) (s : Shared) (Q : VK) (u : Value) (s' : Shared) : Prop :=
  ∃ v H', s'.os = s.os ∧ AllBare s'.gens ∧ Un (frs outer) [] H H' s.heap s'.heap ∧ HOk P w H' s'.heap ∧ RelV v u ∧ Q v H'
def CR (CX : CXT) (outer : List Env) (P : Program) (w : World) (H : Hp) (s : Shared) (Q : VK) (E : XK) (r : Result) (s' : Shared) : Prop :=
  match r with
  | .ok (.ret u) => CE outer P w H s Q u s'
  | .ok _ => False
  | .error e => CX outer H s E e s'
structure FnOk (P : Program) (w : World) (K : PySem.W.Frag) (mg : Str → Option Value) (base : Heap) (CX : CXT) (k : Nat) (f : Addr) (fd : FuncData) (ps : List Str) (sp : Sp) : Prop where
  len : ∀ vs H Q E, sp vs H Q E → vs.length = ps.length
  run : ∀ (A : Around) (outer : List Env) (s : Shared) (H : Hp) (args : Args) (us : List Value) (vs : List V) (Q : VK) (E : XK), Room k A → Env0 P w K mg base A outer s H → BindsTo s fd args (ps.zip us) → Vals vs us → sp vs H Q E →
    codeAny (model P w) A (.call (.ref f) args) (CR CX outer P w H s Q E) s
theorem FnOk.mono {P : Program} {w : World} {K : PySem.W.Frag} {mg : Str → Option Value} {base : Heap} {CX : CXT} {j k : Nat} {f : Addr} {fd : FuncData} {ps : List Str} {sp : Sp} (F : FnOk P w K mg base CX j f fd ps sp) (h : j ≤ k) :
    FnOk P w K mg base CX k f fd ps sp := ⟨F.len, fun A outer s H args us vs Q E hr => F.run A outer s H args us vs Q E (hr.mono h)⟩
theorem FnOk.imp {P : Program} {w : World} {K : PySem.W.Frag} {mg : Str → Option Value} {base : Heap} {CX : CXT} {k : Nat} {f : Addr} {fd : FuncData} {ps : List Str} {sp sp' : Sp} (F : FnOk P w K mg base CX k f fd ps sp)
    (h : ∀ vs H Q E, sp' vs H Q E → sp vs H Q E) : FnOk P w K mg base CX k f fd ps sp' :=
  ⟨fun vs H Q E q => F.len vs H Q E (h _ _ _ _ q), fun A outer s H args us vs Q E hr he hb hv hs => F.run A outer s H args us vs Q E hr he hb hv (h _ _ _ _ hs)⟩
theorem Env0.make {P : Program} {w : World} {K : PySem.W.Frag} {mg : Str → Option Value} {base : Heap} {A : Around} {outer : List Env} {s : Shared} {H : Hp} (e : Env0 P w K mg base A outer s H) (C : Addr) (us : List Value) (kw : List (Str × Value)) :
    Env0 P w K mg base (A.under (.builtin "type.__call__" ⟨.ref C :: us, kw⟩)) outer s H := ⟨by first | exact e.frames | (simpa [Around.under, Code.envs, Code.isFrame, pushEnvs] using e.frames), e.mod, e.bs, e.bsz, e.funs, e.frf, e.tb, e.hok, e.bare⟩
theorem Env0.in1 {P : Program} {w : World} {K : PySem.W.Frag} {mg : Str → Option Value} {base : Heap} {A : Around} {outer : List Env} {s : Shared} {H : Hp} (e : Env0 P w K mg base A outer s H) :
    Env0 P w K mg base A.in1 outer s H := ⟨e.frames, e.mod, e.bs, e.bsz, e.funs, e.frf, e.tb, e.hok, e.bare⟩
section
variable {X : Cx} {pins : List (Addr × Obj)} {σ : St} {H : Hp} {s s' : Shared}
theorem Inv.env0 (I : Inv X pins σ H s) : Env0 X.prog X.w X.K X.mg X.base X.A X.stack s H :=
  ⟨I.ok.frames, I.ok.mod, I.bs, Nat.le_trans I.ok.bsz I.sz, I.stack, I.stkFree, fun x hx c P e => I.base.tbls _ _ _ (I.ok.tb x hx c P e), I.hok, I.bare⟩
theorem Inv.after {Q : VK} {u : Value} (I : Inv X pins σ H s) (h : CE X.stack X.prog X.w H s Q u s') : EP X pins σ Q u s' := by
  obtain ⟨v, H', os, bare, un, hok, r, q⟩ := h
  obtain ⟨hh, g, d, t, os'⟩ := s'
  obtain rfl : os' = s.os := os
  exact ⟨v, H', I.call (h' := hh) (g' := g) (d' := d) (t' := t) (ch := []) un hok bare (fun b z => absurd z (by simp)), r, q⟩
end
def tCall (sp : Sp) (dvs : List V) (E : XK) (t : TA) : TE := fun σ H Q => t σ H fun vs H1 => sp (vs ++ dvs) H1 Q E
def tMeth (C : Addr) (m : Str) (sp : Sp) (dvs : List V) (E : XK) (ta : TE) (t : TA) : TE := fun σ H Q => ta σ H fun x H1 => ∃ a dx fs, x = .ref a ∧ H1 a = some (.ins C dx fs) ∧ fs.lookup m = none ∧
  t σ H1 fun vs H2 => sp (x :: (vs ++ dvs)) H2 Q E
def tMake (C : Addr) (sp : Sp) (dvs : List V) (E : XK) (t : TA) : TE := fun σ H Q => t σ H fun vs H1 => ∀ x dx, H1 x = none → H1 dx = none → dx ≠ x →
  sp (.ref x :: (vs ++ dvs)) (upd (upd H1 dx (.own x)) x (.ins C dx [])) (fun v H2 => v = .non ∧ Q (.ref x) H2) E
def Binds (K : PySem.W.Frag) (fd : FuncData) (ps : List Str) (ds : List Value) : Prop :=
  ∀ (s : Shared) (us : List Value), K.In s.heap → (us ++ ds).length = ps.length → BindsTo s fd ⟨us, []⟩ (ps.zip (us ++ ds))
theorem Binds.all {K : PySem.W.Frag} {fd : FuncData} {ps : List Str} (h : ∀ us : List Value, us.length = ps.length → bindArgs fd ⟨us, []⟩ = pure (ps.zip us)) : Binds K fd ps [] := fun s us _ hl => by
  rw [List.append_nil] at hl ⊢
  exact .of_eq (h us hl)
def Passes (CX : CXT) (X : Cx) (E : XK) : Prop := ∀ (pins : List (Addr × Obj)) (σ : St) (H : Hp) (s : Shared) (e : Value) (s' : Shared), Inv X pins σ H s → CX X.stack H s E e s' → X.xe e s'
section
variable {X : Cx} {CX : CXT} {k : Nat} {f C : Addr} {fd : FuncData} {ps : List Str} {sp : Sp} {dvs : List V} {ds : List Value} {E : XK} {x m : Str} {p pos apos : Pos} {e o : Expr} {es : List Expr} {ta : TE} {t : TA}
theorem run_fn {pins : List (Addr × Obj)} {σ : St} {H : Hp} {s : Shared} {Q : VK} {us : List Value} {vs : List V} (F : FnOk X.prog X.w X.K X.mg X.base CX k f fd ps sp) (hr : Room k X.A) (hb : Binds X.K fd ps ds) (hd : Vals dvs ds) (hx : Passes CX X E)
    (I : Inv X pins σ H s) (r : Vals vs us) (h : sp (vs ++ dvs) H Q E) : wpAny (model X.prog X.w) X.A (call (.ref f) us) (EP X pins σ Q) X.xe s := by
  have r2 : Vals (vs ++ dvs) (us ++ ds) := r.append hd
  have hl : (us ++ ds).length = ps.length := by rw [← r2.length]; exact F.len _ _ _ _ h
  refine wpAny_call (codeAny_mono (F.run X.A X.stack s H ⟨us, []⟩ (us ++ ds) (vs ++ dvs) Q E hr I.env0 (hb s us I.kIn hl) r2 h) fun r s' hq => ?_)
  cases r with
  | error e => exact hx pins σ H s e s' I hq
  | ok fl =>
    cases fl with
    | ret u => exact I.after hq
    | next => exact False.elim hq
    | brk => exact False.elim hq
    | cont => exact False.elim hq
theorem pe_call (F : FnOk X.prog X.w X.K X.mg X.base CX k f fd ps sp) (hr : Room k X.A) (hg : Gl X x) (hm : X.mg x = some (.ref f)) (hk : PySem.W.keepIn X.K (.ref f) = true) (hb : Binds X.K fd ps ds) (hd : Vals dvs ds) (hx : Passes CX X E)
    (ha : PA X (e :: es) t) (hdb : (x == ("__debug__" : Str)) = false := by decide) (he : starEach (e :: es) X.env = (false, eval e X.env) :: starEach es X.env := by rfl) (hpl : (backTo pos (starEach es X.env)).any (·.1) = false := by rfl) :
    PE X (.Call (.Name x p) (e :: es) [] pos) (tCall sp dvs E t) := by
  intro pins s σ H Q I h
  refine wpAny_Call_Name_kw (ld_glob I hg hm ?_ hdb)
  refine PySem.W.callWith_K (h₀ := X.base) I.ok.mod.kin hk (thn (ha pos pins s σ H _ I h) fun us s1 ⟨vs, H1, I1, r, q⟩ => ⟨I1.kIn, ?_⟩) he hpl
  exact run_fn F hr hb hd hx I1 r q
theorem pe_meth {pl : Sem Bool} (he : PE X o ta) (c : Cls X.K C) (hm : Meth X.K C m f) (F : FnOk X.prog X.w X.K X.mg X.base CX k f fd ps sp) (hr : Room k X.A) (hb : Binds X.K fd ps ds) (hd : Vals dvs ds) (hx : Passes CX X E) (ha : PA X (e :: es) t)
    (hst : starEach (e :: es) X.env = (false, eval e X.env) :: starEach es X.env := by rfl) (hpl : (backTo pos (starEach es X.env)).any (·.1) = false := by rfl)
    (ht : eval (.Call (.Attribute o m apos) (e :: es) [] pos) X.env = (do
      let ov ← eval o X.env
      standAt apos.atName
      let (f, first) ← holding [ov] (getMethod ov m pl)
      callWith pos f first (backTo pos (starEach (e :: es) X.env)) (backToKw pos (keywordEach [] X.env))) := by rfl) :
    PE X (.Call (.Attribute o m apos) (e :: es) [] pos) (tMeth C m sp dvs E ta t) := by
  intro pins s σ H Q I h
  refine PySem.W.methodCall_KW (pl := pl) (thn (he pins s σ H _ I h) fun u s1 ⟨x, H1, I1, rx, a, dx, fs, ex, ea, l, q⟩ => ?_) ht
  subst ex
  obtain rfl : u = Value.ref a := rx
  refine getmeth_ok I1 ea c hm l ?_
  refine PySem.W.callWith_K (first := [.ref a]) (h₀ := X.base) I.ok.mod.kin hm.kp (thn (ha pos pins s1 σ H1 _ I1 q) fun us s2 ⟨vs, H2, I2, r, q2⟩ => ⟨I2.kIn, ?_⟩) hst hpl
  exact run_fn (us := .ref a :: us) (vs := .ref a :: vs) F hr hb hd hx I2 (.cons rfl r) q2
theorem pe_meth0 {pl : Sem Bool} (he : PE X o ta) (c : Cls X.K C) (hm : Meth X.K C m f) (F : FnOk X.prog X.w X.K X.mg X.base CX k f fd ps sp) (hr : Room k X.A) (hb : Binds X.K fd ps ds) (hd : Vals dvs ds) (hx : Passes CX X E)
    (ht : eval (.Call (.Attribute o m apos) [] [] pos) X.env = (do
      let ov ← eval o X.env
      standAt apos.atName
      let (f, first) ← holding [ov] (getMethod ov m pl)
      callWith pos f first (backTo pos (starEach [] X.env)) (backToKw pos (keywordEach [] X.env))) := by rfl) :
    PE X (.Call (.Attribute o m apos) [] [] pos) (tMeth C m sp dvs E ta tNil) := by
  intro pins s σ H Q I h
  refine PySem.W.methodCall_KW (pl := pl) (thn (he pins s σ H _ I h) fun u s1 ⟨x, H1, I1, rx, a, dx, fs, ex, ea, l, q⟩ => ?_) ht
  subst ex
  obtain rfl : u = Value.ref a := rx
  refine getmeth_ok I1 ea c hm l ?_
  exact PySem.W.callWith_K0 (first := [.ref a]) I1.kIn hm.kp (run_fn (us := [.ref a]) (vs := [.ref a]) F hr hb hd hx I1 (.cons rfl .nil) q)
structure Mk (K : PySem.W.Frag) (C f : Addr) : Prop where
  makes : PySem.W.makesIn K C = true
  init : PySem.W.findIn K (.ref C) "__init__" = some (some (.ref f))
  fn : PySem.W.isFn K (.ref f) = true
  kp : PySem.W.keepIn K (.ref C) = true
theorem run_make {pins : List (Addr × Obj)} {σ : St} {H : Hp} {s : Shared} {Q : VK} {us : List Value} {vs : List V} (M : Mk X.K C f) (F : FnOk X.prog X.w X.K X.mg X.base CX k f fd ps sp) (hr : Room (k + 1) X.A) (hb : Binds X.K fd ps ds) (hd : Vals dvs ds)
    (hx : Passes CX X E) (I : Inv X pins σ H s) (r : Vals vs us)
    (h : ∀ x dx, H x = none → H dx = none → dx ≠ x → sp (.ref x :: (vs ++ dvs)) (upd (upd H dx (.own x)) x (.ins C dx [])) (fun v H2 => v = .non ∧ Q (.ref x) H2) E) :
    wpAny (model X.prog X.w) X.A (call (.ref C) us) (EP X pins σ Q) X.xe s := by
  have hq := h (s.heap.objs.size + 1) s.heap.objs.size (I.hok.fresh (Nat.le_succ _)) (I.hok.fresh (Nat.le_refl _)) (Nat.ne_of_lt (Nat.lt_succ_self _))
  have I2 := Inv.made (C := C) I
  have r2 : Vals (V.ref (s.heap.objs.size + 1) :: (vs ++ dvs)) (Value.ref (s.heap.objs.size + 1) :: (us ++ ds)) := .cons rfl (r.append hd)
  have hl : (Value.ref (s.heap.objs.size + 1) :: us ++ ds).length = ps.length := by
    have e := r2.length
    rw [F.len _ _ _ _ hq] at e
    exact e.symm
  refine wpAny_call (make_map (f := f) I.kIn M.makes M.init (beq_iff_eq.mp M.fn) (codeAny_mono (F.run _ X.stack _ _ ⟨Value.ref (s.heap.objs.size + 1) :: us, []⟩ (Value.ref (s.heap.objs.size + 1) :: (us ++ ds)) _ _ E (hr.make C us [])
    (I2.env0.make C us []) (hb _ (Value.ref (s.heap.objs.size + 1) :: us) I2.kIn hl) r2 hq) fun r s' hq' => ?_))
  cases r with
  | error e => exact hx pins σ _ _ e s' I2 hq'
  | ok fl =>
    cases fl with
    | ret u =>
      obtain ⟨v, H', I3, rv, ev, q3⟩ := I2.after hq'
      subst ev
      exact ⟨rv, ⟨V.ref (s.heap.objs.size + 1), H', I3, rfl, q3⟩⟩
    | next => exact False.elim hq'
    | brk => exact False.elim hq'
    | cont => exact False.elim hq'
theorem pe_make (M : Mk X.K C f) (F : FnOk X.prog X.w X.K X.mg X.base CX k f fd ps sp) (hr : Room (k + 1) X.A) (hg : Gl X x) (hm : X.mg x = some (.ref C)) (hb : Binds X.K fd ps ds) (hd : Vals dvs ds) (hx : Passes CX X E)
    (ha : PA X (e :: es) t) (hdb : (x == ("__debug__" : Str)) = false := by decide) (he : starEach (e :: es) X.env = (false, eval e X.env) :: starEach es X.env := by rfl) (hpl : (backTo pos (starEach es X.env)).any (·.1) = false := by rfl) :
    PE X (.Call (.Name x p) (e :: es) [] pos) (tMake C sp dvs E t) := by
  intro pins s σ H Q I h
  refine wpAny_Call_Name_kw (ld_glob I hg hm ?_ hdb)
  refine PySem.W.callWith_K (h₀ := X.base) I.ok.mod.kin M.kp (thn (ha pos pins s σ H _ I h) fun us s1 ⟨vs, H1, I1, r, q⟩ => ⟨I1.kIn, ?_⟩) he hpl
  exact run_make M F hr hb hd hx I1 r q
end
structure FnScope (N P : List Str) (sc : Scope) : Prop where
  kind : sc.kind = .function
  co : sc.isCoroutine = false
  gen : sc.isGenerator = false
  nd : N.Nodup
  pre : N.take P.length = P
  par : ∀ x ∈ P, sc.names.lookup x = some .local ∨ sc.names.lookup x = some .cell
  nofree : ∀ y ∈ sc.names, y.2 ≠ .free
theorem bindL_out {kindOf : Str → Option NameKind} {x : Str} : ∀ {binds : List (Str × Value)} {m : Str → Option Value}, (∀ v, (x, v) ∉ binds) → bindL kindOf binds m x = m x
  | [], _, _ => rfl
  | (n, v) :: r, m, h => by
    unfold bindL
    rw [bindL_out fun w hw => h w (List.mem_cons_of_mem _ hw)]
    split
    · have : x ≠ n := by rintro rfl; exact h v List.mem_cons_self
      simp [this]
    · rfl
theorem bindC_out {kindOf : Str → Option NameKind} {x : Str} : ∀ {binds : List (Str × Value)} {m : Str → Option Value}, (∀ v, (x, v) ∉ binds) → bindC kindOf binds m x = m x
  | [], _, _ => rfl
  | (n, v) :: r, m, h => by
    unfold bindC
    rw [bindC_out fun w hw => h w (List.mem_cons_of_mem _ hw)]
    split
    · rfl
    · have : x ≠ n := by rintro rfl; exact h v List.mem_cons_self
      simp [this]
theorem bindL_get {kindOf : Str → Option NameKind} {x : Str} {v : Value} : ∀ {P : List Str} {vs : List Value} {i : Nat} {m : Str → Option Value}, P.Nodup → P[i]? = some x → vs[i]? = some v → kindOf x = some .local →
    bindL kindOf (P.zip vs) m x = some v
  | [], _, _, _, _, h, _, _ => by simp at h
  | _ :: _, [], _, _, _, _, h, _ => by simp at h
  | p :: P, w :: vs, 0, m, nd, h1, h2, hk => by
    simp at h1 h2; subst h1; subst h2
    show bindL kindOf ((p, w) :: P.zip vs) m p = _
    unfold bindL
    rw [bindL_out fun v hv => (List.nodup_cons.mp nd).1 (List.of_mem_zip hv).1, if_pos hk]
    simp
  | p :: P, w :: vs, i + 1, m, nd, h1, h2, hk => by
    show bindL kindOf ((p, w) :: P.zip vs) m x = _
    unfold bindL
    exact bindL_get (i := i) (List.nodup_cons.mp nd).2 (by simpa using h1) (by simpa using h2) hk
theorem bindC_get {kindOf : Str → Option NameKind} {x : Str} {v : Value} : ∀ {P : List Str} {vs : List Value} {i : Nat} {m : Str → Option Value}, P.Nodup → P[i]? = some x → vs[i]? = some v → kindOf x ≠ some .local →
    bindC kindOf (P.zip vs) m x = some v
  | [], _, _, _, _, h, _, _ => by simp at h
  | _ :: _, [], _, _, _, _, h, _ => by simp at h
  | p :: P, w :: vs, 0, m, nd, h1, h2, hk => by
    simp at h1 h2; subst h1; subst h2
    show bindC kindOf ((p, w) :: P.zip vs) m p = _
    unfold bindC
    rw [bindC_out fun v hv => (List.nodup_cons.mp nd).1 (List.of_mem_zip hv).1, if_neg hk]
    simp
  | p :: P, w :: vs, i + 1, m, nd, h1, h2, hk => by
    show bindC kindOf ((p, w) :: P.zip vs) m x = _
    unfold bindC
    exact bindC_get (i := i) (List.nodup_cons.mp nd).2 (by simpa using h1) (by simpa using h2) hk
def start (N : List Str) (vs : List V) : St := vs.map some ++ List.replicate (N.length - vs.length) none
def cxOf (CX : CXT) (P : Program) (w : World) (K : PySem.W.Frag) (mg : Str → Option Value) (base : Heap) (N : List Str) (qual : Str) (scope : Scope) (f : Addr) (cd : Value) (A : Around) (outer : List Env) (s : Shared) (H : Hp) (E : XK) : Cx where
  prog := P
  w := w
  K := K
  mg := mg
  base := base
  A := A.deeper (envOfC qual scope s.heap.objs.size f cd)
  N := N
  s_0 := s
  H_0 := H
  env := envOfC qual scope s.heap.objs.size f cd
  outer := outer
  stack := envOfC qual scope s.heap.objs.size f cd :: outer
  ex := []
  calm := true
  fn := fun _ => true
  pn := []
  xe := fun e s' => wpAny (model P w) (A.deeper (envOfC qual scope s.heap.objs.size f cd)) (leaving (envOfC qual scope s.heap.objs.size f cd) e) (fun _ s'' => CX outer H s E e s'') (fun e' s'' => CX outer H s E e' s'') s'
theorem cell_has {sc : Scope} {n : Nat} {x : Str} (h : sc.names.lookup x = some .cell) : ∃ c, (cellsFrom n sc.names []).lookup x = some c := by
  have q := PySem.W.cellsFrom_some sc.names n [] (.inl h)
  exact Option.isSome_iff_exists.mp q
theorem inv_start {CX : CXT} {P : Program} {w : World} {K : PySem.W.Frag} {mg : Str → Option Value} {base : Heap} {N ps : List Str} {qual : Str} {scope : Scope} {f : Addr} {cd : Value} {A : Around} {outer : List Env} {s s1 : Shared} {H : Hp} {E : XK} {us : List Value} {vs : List V}
    (S : FnScope N ps scope) (hd : A.handled = none) (e0 : Env0 P w K mg base A outer s H) (hl : vs.length = ps.length) (r : Vals vs us)
    (x : InCallC s s.heap.objs.size (bindL (envOfC qual scope s.heap.objs.size f cd).kindOf (ps.zip us) fun _ => none) (cellsFrom (s.heap.objs.size + 1) scope.names []) (bindC (envOfC qual scope s.heap.objs.size f cd).kindOf (ps.zip us) fun _ => none) s1) :
    Inv (cxOf CX P w K mg base N qual scope f cd A outer s H E) [] (start N vs) H s1 := by
  have hpl : ps.length ≤ N.length := by have := congrArg List.length S.pre; rw [List.length_take] at this; omega
  obtain ⟨h1, tk, rfl, hk⟩ := x.done
  have noA : ∀ b : Addr, b ∉ (cxOf CX P w K mg base N qual scope f cd A outer s H E).ex := fun b z => absurd (show b ∈ ([] : List Addr) from z) (by simp)
  refine ⟨⟨e0.mod, S.kind, rfl, rfl, Nat.le_refl _, fun y z c h1 h2 => ?_, fun y hy => ?_, fun y c _ h => ?_, fun _ => hd, Around.frames_deeper e0.frames, .inr ⟨rfl, rfl⟩, fun b z => absurd z (noA b), e0.bs, e0.bsz, fun b _ _ => noA b, fun b z => absurd z (noA b), e0.funs, e0.frf, e0.tb⟩,
    rfl, e0.bare, Un.kept hk, ⟨_, x.toInCall.ns, fun i y v h1 h2 h3 => ?_⟩, fun y c h => ⟨_, x.cell y c h⟩, e0.hok.fresh (Nat.le_refl _), fun y c h => ?_, fun p hp => absurd (show p ∈ ([] : List (Addr × Obj)) from hp) (by simp), e0.hok.kept hk, ?_⟩
  · exact name_of_addr x.apart (PySem.mem_of_lookup h1) (PySem.mem_of_lookup h2)
  · have hy : scope.names.lookup y = some .cell ∨ scope.names.lookup y = some .free := hy
    rcases hy with hy | hy
    · exact cell_has hy
    · exact absurd rfl (S.nofree _ (PySem.mem_of_lookup hy))
  · exact Nat.le_of_lt (x.above y c (PySem.mem_of_lookup h))
  · have hi : i < vs.length := by
      unfold start at h2
      by_cases hi : i < vs.length
      · exact hi
      · rw [List.getElem?_append_right (by simpa using hi)] at h2
        rw [List.getElem?_replicate] at h2
        split at h2 <;> cases h2
    have ha : vs[i]? = some v := by
      unfold start at h2
      rw [List.getElem?_append_left (by simpa using hi), List.getElem?_map] at h2
      cases e : vs[i]? with
      | none => rw [e] at h2; cases h2
      | some a => rw [e] at h2; cases h2; rfl
    obtain ⟨u, hu, rv⟩ := r.get ha
    have hp : ps[i]? = some y := by
      rw [← S.pre, List.getElem?_take_of_lt (by omega)]; exact h1
    have ndP : ps.Nodup := by rw [← S.pre]; exact S.nd.sublist (List.take_sublist _ _)
    refine ⟨u, rv, ?_⟩
    rcases S.par y (List.mem_of_getElem? hp) with k | k
    · exact .inl ⟨k, bindL_get ndP hp hu k⟩
    · obtain ⟨c, e⟩ := cell_has (n := s.heap.objs.size + 1) k
      refine .inr ⟨.inl k, c, e, ?_⟩
      have q := x.cell y c e
      rw [bindC_get ndP hp hu (by show scope.names.lookup y ≠ _; rw [k]; decide)] at q
      exact q
  · exact e0.hok.fresh (Nat.le_of_lt (x.above y c (PySem.mem_of_lookup h)))
  · unfold start
    show _ = N.length
    rw [List.length_append, List.length_map, List.length_replicate]
    omega
theorem fn_of {CX : CXT} {P : Program} {w : World} {K : PySem.W.Frag} {mg : Str → Option Value} {base : Heap} {k : Nat} {f : Addr} {name qual : Str} {params : Arguments} {body : List Stmt} {scope : Scope} {dV kV doc pm cdv ct oc : Value} {an od : Option Addr}
    {osl : Array (Option Value)} {N ps : List Str} {sp : Sp} (lk : K.lookup f = some ⟨oc, od, .func (PySem.W.fnOf name qual params body scope dV kV doc pm an cdv ct), osl⟩) (hcd : PySem.W.codeIn K cdv qual = true) (S : FnScope N ps scope)
    (len : ∀ vs H Q E, sp vs H Q E → vs.length = ps.length)
    (hbody : ∀ (A : Around) (outer : List Env) (s : Shared) (H : Hp) (vs : List V) (Q : VK) (E : XK), Room k (A.deeper (envOfC qual scope s.heap.objs.size f cdv)) → sp vs H Q E →
      ∃ t, PSs (cxOf CX P w K mg base N qual scope f cdv A outer s H E) body t ∧ t { nx := fun _ H' => Q .non H', rt := Q } (start N vs) H) :
    FnOk P w K mg base CX (k + 1) f (PySem.W.fnOf name qual params body scope dV kV doc pm an cdv ct) ps sp := by
  refine ⟨len, fun A outer s H args us vs Q E hr e0 hb r hsp => ?_⟩
  have hl := len _ _ _ _ hsp
  have KX : K.In s.heap := e0.mod.kin.keeps fun b o e => (e0.bs b o e).1
  have lim : s.heap.NoLimit := e0.mod.nolimit.keeps fun b o e => (e0.bs b o e).1
  have hkind : ∀ y ∈ ps.zip us, scope.names.lookup y.1 = some .local ∨ (scope.names.lookup y.1 = some .cell ∧ ((cellsFrom (s.heap.objs.size + 1) scope.names []).lookup y.1).isSome = true) := fun ⟨n, v⟩ hy => by
    rcases S.par n (List.of_mem_zip hy).1 with q | q
    · exact .inl q
    · exact .inr ⟨q, PySem.W.cellsFrom_some _ _ _ (.inl q)⟩
  refine codeAny_call_function hr.depth (KX _ _ lk) rfl S.co S.gen rfl (PySem.W.codeRec_of KX hcd) (hb _ _ _ _ ?_)
  refine wpAny_newFunctionEnv_cells S.kind hkind fun env he s1 x => ?_
  subst he
  refine ⟨lim.keeps x.toInCall.keep, codeAny_func ?_⟩
  obtain ⟨t, ht, hq⟩ := hbody A outer s H vs Q E (hr.deeper _) hsp
  have I : Inv (cxOf CX P w K mg base N qual scope f cdv A outer s H E) [] (start N vs) H s1 := inv_start S hr.hd e0 hl r x
  refine wpAny_mono (ht [] s1 (start N vs) H _ I hq) (fun fl s' hs => ?_) fun e s' hs => hs
  have fin : ∀ {σ' : St} {H' : Hp} {v : V} {u : Value}, Inv (cxOf CX P w K mg base N qual scope f cdv A outer s H E) [] σ' H' s' → RelV v u → Q v H' → CE outer P w H s Q u s' :=
    fun {σ' H' v u} J rv q => ⟨v, H', J.os, J.bare, J.base, J.hok, rv, q⟩
  cases fl with
  | ret u =>
    obtain ⟨v, σ', H', J, rv, q⟩ := hs
    exact fin J rv q
  | next =>
    obtain ⟨σ', H', J, q⟩ := hs
    exact fin (v := V.non) (u := Value.none) J rfl q
  | brk =>
    obtain ⟨_, _, _, q⟩ := hs
    exact False.elim q
  | cont =>
    obtain ⟨_, _, _, q⟩ := hs
    exact False.elim q
end L2
namespace L2
open PySem PySem.Spec PyProof.Rows
section
variable {X : Cx} {x : Str} {p pos : Pos} {e : Expr} {es : List Expr} {t : TA} {id T : String} {r : List V → Hp → VK → Prop}
def tCB (r : List V → Hp → VK → Prop) (t : TA) : TE := fun σ H Q => t σ H fun vs H1 => r vs H1 Q
theorem pe_callB (hc : CallR X (.builtin id) r) (hg : Gl X x) (hm : X.mg x = none) (hv : bootBuiltins x = some (.builtin id)) (ha : PA X (e :: es) t) (hn : x ≠ "__name__" := by decide) (hdb : (x == ("__debug__" : Str)) = false := by decide)
    (he : starEach (e :: es) X.env = (false, eval e X.env) :: starEach es X.env := by rfl) (hpl : (backTo pos (starEach es X.env)).any (·.1) = false := by rfl) : PE X (.Call (.Name x p) (e :: es) [] pos) (tCB r t) := by
  intro pins s σ H Q I h
  refine wpAny_Call_Name_kw (ld_blt I hg hm hv ?_ hn hdb)
  exact PyProof.Rows.callWith_builtin1 (thn (ha pos pins s σ H _ I h) fun us s1 ⟨vs, H1, I1, r1, q1⟩ => hc pins s1 σ H1 vs us Q I1 r1 q1) he hpl
theorem pe_callTy (hc : CallR X (.type T) r) (hg : Gl X x) (hm : X.mg x = none) (hv : bootBuiltins x = some (.type T)) (ha : PA X (e :: es) t) (hn : x ≠ "__name__" := by decide) (hdb : (x == ("__debug__" : Str)) = false := by decide)
    (he : starEach (e :: es) X.env = (false, eval e X.env) :: starEach es X.env := by rfl) (hpl : (backTo pos (starEach es X.env)).any (·.1) = false := by rfl) : PE X (.Call (.Name x p) (e :: es) [] pos) (tCB r t) := by
  intro pins s σ H Q I h
  refine wpAny_Call_Name_kw (ld_blt I hg hm hv ?_ hn hdb)
  exact PyProof.Rows.callWith_type1 (thn (ha pos pins s σ H _ I h) fun us s1 ⟨vs, H1, I1, r1, q1⟩ => hc pins s1 σ H1 vs us Q I1 r1 q1) he hpl
end
end L2
namespace L2
open PySem PySem.Spec PyProof.Rows
abbrev TO := St → Hp → (Option Int → Hp → Prop) → Prop
def PO (X : Cx) (e : Option Expr) (t : TO) : Prop :=
  ∀ (pins : List (Addr × Obj)) (s : Shared) (σ : St) (H : Hp) (Q : Option Int → Hp → Prop), Inv X pins σ H s → t σ H Q →
    wpAny (model X.prog X.w) X.A (evalPart e X.env) (fun u s' => ∃ o H', Inv X pins σ H' s' ∧ IsPart u o ∧ Q o H') X.xe s
section
variable {X : Cx} {e : Expr} {te : TE} {lo hi : Option Expr} {tl th : TO} {pos p2 : Pos}
def SlR (X : Cx) (r : V → Option Int → Option Int → Hp → VK → Prop) : Prop :=
  ∀ (pins : List (Addr × Obj)) (s : Shared) (σ : St) (H : Hp) (x : V) (v vl vu : Value) (lo hi : Option Int) (sl : Addr) (Q : VK), Inv X pins σ H s → RelV x v → s.heap.IsSliceOf sl vl vu .none → IsPart vl lo → IsPart vu hi → r x lo hi H Q →
    ∃ T id, typeLookup (.type T) "__getitem__" = pure (some (.builtin id)) ∧ s.TypeIs v T ∧ wpAny (model X.prog X.w) X.A (getItem v (.ref sl)) (EP X pins σ Q) X.xe s
theorem SlR.or {r r' : V → Option Int → Option Int → Hp → VK → Prop} (h : SlR X r) (h' : SlR X r') : SlR X (fun x lo hi H Q => r x lo hi H Q ∨ r' x lo hi H Q) := by
  intro pins s σ H x v vl vu lo hi sl Q I rx hs pl pu q
  rcases q with q | q
  · exact h pins s σ H x v vl vu lo hi sl Q I rx hs pl pu q
  · exact h' pins s σ H x v vl vu lo hi sl Q I rx hs pl pu q
end
end L2
namespace L2
open PySem PySem.Spec PyProof.Rows
def ixN (n : Nat) (i : Int) : Option Nat := if 0 ≤ i then (if i < n then some i.toNat else none) else if -(n : Int) ≤ i then some (i + n).toNat else none
def atI {α : Type} (xs : List α) (i : Int) : Option α := (ixN xs.length i).bind fun j => xs[j]?
theorem ixN_seq {n : Nat} {i : Int} {j : Nat} (h : ixN n i = some j) : seqIndex? i n = some j ∧ j < n ∧ -(n : Int) ≤ i ∧ i < n := by
  unfold ixN at h
  by_cases h0 : 0 ≤ i
  · rw [if_pos h0] at h
    by_cases h1 : i < n
    · rw [if_pos h1] at h
      have e : i.toNat = j := Option.some.inj h
      exact ⟨by rw [seqIndex_of h0 h1, e], by omega, by omega, h1⟩
    · rw [if_neg h1] at h; cases h
  · rw [if_neg h0] at h
    by_cases h1 : -(n : Int) ≤ i
    · rw [if_pos h1] at h
      have e : (i + n).toNat = j := Option.some.inj h
      exact ⟨by rw [seqIndex_neg (by omega) h1, e], by omega, h1, by omega⟩
    · rw [if_neg h1] at h; cases h
theorem atI_get {α : Type} {xs : List α} {i : Int} {v : α} (h : atI xs i = some v) : ∃ j, seqIndex? i xs.length = some j ∧ xs[j]? = some v ∧ j < xs.length ∧ -(xs.length : Int) ≤ i ∧ i < xs.length := by
  unfold atI at h
  cases e : ixN xs.length i with
  | none => rw [e] at h; cases h
  | some j =>
    rw [e] at h
    obtain ⟨h1, h2, h3, h4⟩ := ixN_seq e
    exact ⟨j, h1, h, h2, h3, h4⟩
theorem atI_nat {α : Type} {xs : List α} {j : Nat} {v : α} (h : xs[j]? = some v) : atI xs (j : Int) = some v := by
  have hj : j < xs.length := (List.getElem?_eq_some_iff.mp h).1
  have e : ixN xs.length (j : Int) = some j := by
    unfold ixN
    rw [if_pos (by omega), if_pos (by omega)]; simp
  unfold atI; rw [e]; exact h
def PlainIx (b : Expr) : Prop := ∀ o i, subscripted b false o i = operate [o, i] (getItem o i)
def IxR (X : Cx) (r : R2) : Prop :=
  ∀ (value slice : Expr) (pins : List (Addr × Obj)) (s : Shared) (σ : St) (H : Hp) (x y : V) (v u : Value) (Q : VK), Inv X pins σ H s → RelV x v → RelV y u → r x y H Q →
    subscripted slice false v u = operate [v, u] (getItem v u) → wpAny (model X.prog X.w) X.A (subscriptTail value slice v u) (EP X pins σ Q) X.xe s
def MtR (X : Cx) (id : String) (r : V → List V → Hp → VK → Prop) : Prop :=
  ∀ (pins : List (Addr × Obj)) (s : Shared) (σ : St) (H : Hp) (x : V) (xs : List V) (v : Value) (us : List Value) (Q : VK), Inv X pins σ H s → RelV x v → Vals xs us → r x xs H Q →
    wpAny (model X.prog X.w) X.A (call (.builtin id) (v :: us)) (EP X pins σ Q) X.xe s
section
variable {X : Cx} {a b : Expr} {ta tb : TE} {pos : Pos}
theorem IxR.or {r r' : R2} (h : IxR X r) (h' : IxR X r') : IxR X (fun x y H Q => r x y H Q ∨ r' x y H Q) := by
  intro value slice pins s σ H x y v u Q I rx ry q hs
  rcases q with q | q
  · exact h value slice pins s σ H x y v u Q I rx ry q hs
  · exact h' value slice pins s σ H x y v u Q I rx ry q hs
theorem MtR.or {id : String} {r r' : V → List V → Hp → VK → Prop} (h : MtR X id r) (h' : MtR X id r') : MtR X id (fun x xs H Q => r x xs H Q ∨ r' x xs H Q) := by
  intro pins s σ H x xs v us Q I rx rs q
  rcases q with q | q
  · exact h pins s σ H x xs v us Q I rx rs q
  · exact h' pins s σ H x xs v us Q I rx rs q
theorem pe_ix {r : R2} (hr : IxR X r) (ha : PE X a ta) (hb : PE X b tb) (hs : PlainIx b) : PE X (.Subscript a b pos) (tOp r ta tb) := by
  intro pins s σ H Q I h
  exact Subscript_ (binT ha hb I h fun v u s2 x y H2 I2 rx ry q => hr a b pins s2 σ H2 x y v u Q I2 rx ry q (hs _ _))
def rIxL (K : PySem.W.Frag) : R2 := fun x y H Q => ∃ p xs i v, x = .ref p ∧ y = .int i ∧ SqL K H p xs ∧ atI xs i = some v ∧ Q v H
def rIxT (K : PySem.W.Frag) : R2 := fun x y H Q => ∃ p xs i v, x = .ref p ∧ y = .int i ∧ SqT K H p xs ∧ atI xs i = some v ∧ Q v H
def rIxS : R2 := fun x y H Q => ∃ z i c, x = .str z ∧ y = .int i ∧ z.length ≤ sizeLine ∧ atI z.cps.toList i = some c ∧ Q (.str ⟨#[c]⟩) H
theorem ix_list : IxR X (rIxL X.K) := by
  intro value slice pins s σ H x y v u Q I rx ry h hs
  obtain ⟨p, xs, i, z, rfl, rfl, hq, he, q⟩ := h
  cases rx
  obtain ⟨t, rfl⟩ := ry
  obtain ⟨its, r, pl, hz⟩ := I.list hq
  obtain ⟨j, h1, h2, h3, h4, h5⟩ := atI_get he
  obtain ⟨w, ew, rw'⟩ := r.get h2
  have hl := r.length
  have hn := line63
  have fin : EP X pins σ Q w s := ⟨z, H, I, rw', q⟩
  by_cases h0 : 0 ≤ i
  · have hj : i.toNat = j := by
      rw [seqIndex_of h0 h5] at h1
      exact Option.some.inj h1
    exact item_listR pl.isList h0 (by omega) (by rw [hj]; simpa using ew) fin hs
  · have hj : (i + (its.toArray.size : Int)).toNat = j := by
      rw [seqIndex_neg (by omega) h4] at h1
      rw [List.size_toArray, ← hl]
      exact Option.some.inj h1
    exact subscriptTail_builtinR (x := w) pl.isList.typeIs slot_list_getitem.lookup
      (wpAny_getItem_list_neg (Q := fun r s' => r = w ∧ EP X pins σ Q r s') pl.isList (by omega) (by rw [List.size_toArray] <;> omega) (by omega) (by rw [hj]; simpa using ew) ⟨rfl, fin⟩) hs
theorem ix_tup : IxR X (rIxT X.K) := by
  intro value slice pins s σ H x y v u Q I rx ry h hs
  obtain ⟨p, xs, i, z, rfl, rfl, hq, he, q⟩ := h
  cases rx
  obtain ⟨t, rfl⟩ := ry
  obtain ⟨its, r, pl, hz⟩ := I.tuple hq
  obtain ⟨j, h1, h2, h3, h4, h5⟩ := atI_get he
  obtain ⟨w, ew, rw'⟩ := r.get h2
  have hl := r.length
  have hn := line63
  have fin : EP X pins σ Q w s := ⟨z, H, I, rw', q⟩
  exact subscriptTail_builtinR (x := w) pl.typeIs slot_tuple_getitem.lookup
    (getItem_tuple (j := j) (Q := fun r s' => r = w ∧ EP X pins σ Q r s') pl (by omega) (by omega) (by rw [List.size_toArray, ← hl]; exact h1) (by simpa using ew) ⟨rfl, fin⟩) hs
theorem ix_str : IxR X rIxS := by
  intro value slice pins s σ H x y v u Q I rx ry h hs
  obtain ⟨z, i, c, rfl, rfl, hz, he, q⟩ := h
  obtain ⟨t, rfl⟩ := rx
  obtain ⟨t', rfl⟩ := ry
  obtain ⟨j, h1, h2, h3, h4, h5⟩ := atI_get he
  have hl : z.cps.toList.length = z.length := by simp [Str.length]
  rw [hl] at h1 h4 h5
  have hn := line63
  exact tail_any (typeIs_str s z t) slot_str_getitem.lookup (getItem_str (c := c) (by
    have e1 : decide (i < -(2 ^ 63 : Int)) = false := decide_eq_false (by omega)
    have e2 : decide (i ≥ 2 ^ 63) = false := decide_eq_false (by omega)
    rw [e1, e2, Bool.or_false]) (by rw [h1]; simpa using h2) ⟨.str ⟨#[c]⟩, H, I.tok _, ⟨_, rfl⟩, q⟩) hs
def rIx (K : PySem.W.Frag) : R2 := fun x y H Q => rIxL K x y H Q ∨ rIxT K x y H Q ∨ rIxS x y H Q
theorem ix_seq : IxR X (rIx X.K) := ix_list.or (ix_tup.or ix_str)
theorem mapSeq_set (its : List Value) (n j : Nat) (u : Value) : Obj.mapSeq (·.setIfInBounds j u) { cls := .type "list", data := .seq its.toArray n } = { cls := .type "list", data := .seq (its.set j u).toArray n } := by
  simp [Obj.mapSeq]
theorem Inv.lst {pins : List (Addr × Obj)} {σ : St} {H : Hp} {s : Shared} {p : Addr} {xs : List V} (I : Inv X pins σ H s) (h : H p = some (.lst xs)) :
    ∃ (its : List Value) (n : Nat), Vals xs its ∧ s.heap.get? p = some { cls := .type "list", data := .seq its.toArray n } ∧ xs.length ≤ sizeLine := by
  obtain ⟨z, its, n, r, e⟩ := I.hok p _ h
  exact ⟨its, n, r, e, z⟩
theorem Inv.lstUpd {pins : List (Addr × Obj)} {σ : St} {H : Hp} {s : Shared} {p : Addr} {xs ys : List V} {its its' : List Value} {n n' : Nat} {f : Obj → Obj} (I : Inv X pins σ H s) (h : H p = some (.lst xs))
    (ho : s.heap.get? p = some { cls := .type "list", data := .seq its.toArray n }) (hf : f { cls := .type "list", data := .seq its.toArray n } = { cls := .type "list", data := .seq its'.toArray n' }) (r : Vals ys its') (hz : ys.length ≤ sizeLine) (t : Nat) :
    Inv X pins σ (upd H p (.lst ys)) { s with heap := s.heap.update p f, toks := t } := by
  have e : (s.heap.update p f).get? p = some { cls := .type "list", data := .seq its'.toArray n' } := by
    rw [Heap.get?_update_self f ho (by rw [hf] <;> rfl), hf]
  refine I.write (x := p) (e := p) (by rw [h]; trivial) (.inl rfl) (fun b u hb q => (Heap.get?_update_other _ _ (Ne.symm hb)).trans q) ⟨_, e⟩ ?_
  exact ⟨hz, its', n', r, e⟩
def rSetL : V → V → V → Hp → (Hp → Prop) → Prop := fun o i v H Q => ∃ p xs k j, o = .ref p ∧ i = .int k ∧ H p = some (.lst xs) ∧ ixN xs.length k = some j ∧ Q (upd H p (.lst (xs.set j v)))
theorem set_list : PSet X rSetL := by
  intro pins s σ H o i v ov iv u Q I ro ri rv h
  obtain ⟨p, xs, k, j, rfl, rfl, hp, hj, q⟩ := h
  cases ro
  obtain ⟨t, rfl⟩ := ri
  obtain ⟨its, n, r, ho, hz⟩ := I.lst hp
  obtain ⟨h1, h2, h3, h4⟩ := ixN_seq hj
  have hl := r.length
  have hn := line63
  have I' : Inv X pins σ (upd H p (.lst (xs.set j v))) { s with heap := s.heap.update p (Obj.mapSeq (·.setIfInBounds j u)) } :=
    I.lstUpd hp ho (mapSeq_set its n j u) (r.set rv j) (by rw [List.length_set]; exact hz) s.toks
  by_cases h0 : 0 ≤ k
  · have hk : k.toNat = j := by
      rw [seqIndex_of h0 h4] at h1
      exact Option.some.inj h1
    exact PySem.W.ki_setAt ho h0 (by omega) (by rw [List.size_toArray, ← hl]; exact h4) (by rw [hk]; exact ⟨_, I', q⟩)
  · have hk : (k + (its.toArray.size : Int)).toNat = j := by
      rw [seqIndex_neg (by omega) h3] at h1
      rw [List.size_toArray, ← hl]
      exact Option.some.inj h1
    exact PySem.W.ki_setBack ho (by omega) (by rw [List.size_toArray, ← hl]; exact h3) (by omega) (by rw [hk]; exact ⟨_, I', q⟩)
def flatV : V → Bool
  | .non => true
  | .bl _ => true
  | .int _ => true
  | .str _ => true
  | _ => false
def eqV : V → V → Bool
  | .non, .non => true
  | .bl a, .bl b => a == b
  | .bl a, .int b => (if a then 1 else 0) == b
  | .int a, .bl b => a == (if b then 1 else 0)
  | .int a, .int b => a == b
  | .str a, .str b => a == b
  | _, _ => false
theorem eqAt_V {A : Around} {s : Shared} {y x : V} {u v : Value} (ry : RelV y u) (rx : RelV x v) (fy : flatV y = true) (fx : flatV x = true) : SeqAt.EqAt A s u v (eqV y x) := by
  cases y with
  | non =>
    cases ry
    cases x with
    | non => cases rx; exact SeqAt.EqAt.same _
    | bl b => cases rx; exact SeqAt.EqAt.none_bool b
    | int b => obtain ⟨t, rfl⟩ := rx; exact SeqAt.EqAt.none_int b t
    | str b => obtain ⟨t, rfl⟩ := rx; exact SeqAt.EqAt.none_str b t
    | _ => exact absurd (show false = true from fx) Bool.false_ne_true
  | bl a =>
    cases ry
    cases x with
    | non => cases rx; exact SeqAt.EqAt.bool_none a
    | bl b => cases rx; exact SeqAt.EqAt.bool_bool a b
    | int b => obtain ⟨t, rfl⟩ := rx; exact SeqAt.EqAt.bool_int a b t
    | str b => obtain ⟨t, rfl⟩ := rx; exact SeqAt.EqAt.bool_str a b t
    | _ => exact absurd (show false = true from fx) Bool.false_ne_true
  | int a =>
    obtain ⟨t', rfl⟩ := ry
    cases x with
    | non => cases rx; exact SeqAt.EqAt.int_none a t'
    | bl b => cases rx; exact SeqAt.EqAt.int_bool a t' b
    | int b => obtain ⟨t, rfl⟩ := rx; exact SeqAt.EqAt.int_int a t' b t
    | str b => obtain ⟨t, rfl⟩ := rx; exact SeqAt.EqAt.int_str a t' b t
    | _ => exact absurd (show false = true from fx) Bool.false_ne_true
  | str a =>
    obtain ⟨t', rfl⟩ := ry
    cases x with
    | non => cases rx; exact SeqAt.EqAt.str_none a t'
    | bl b => cases rx; exact SeqAt.EqAt.str_bool a t' b
    | int b => obtain ⟨t, rfl⟩ := rx; exact SeqAt.EqAt.str_int a t' b t
    | str b => obtain ⟨t, rfl⟩ := rx; exact SeqAt.EqAt.str_str a t' b t
    | _ => exact absurd (show false = true from fx) Bool.false_ne_true
  | _ => exact absurd (show false = true from fy) Bool.false_ne_true
def eqU (x : V) (u : Value) : Bool := match u with
  | .none => eqV .non x
  | .bool b => eqV (.bl b) x
  | .int i _ => eqV (.int i) x
  | .str z _ => eqV (.str z) x
  | _ => false
theorem eqU_of {x y : V} {u : Value} (r : RelV y u) (f : flatV y = true) : eqU x u = eqV y x := by
  cases y with
  | non => cases r; rfl
  | bl b => cases r; rfl
  | int i => obtain ⟨t, rfl⟩ := r; rfl
  | str z => obtain ⟨t, rfl⟩ := r; rfl
  | _ => exact absurd (show false = true from f) Bool.false_ne_true
theorem any_eqU {x : V} : ∀ {xs : List V} {us : List Value}, Vals xs us → xs.all flatV = true → us.any (eqU x) = xs.any fun y => eqV y x
  | _, _, .nil, _ => rfl
  | y :: xs, u :: us, .cons r t, f => by
    rw [List.all_cons, Bool.and_eq_true] at f
    rw [List.any_cons, List.any_cons, eqU_of r f.1, any_eqU t f.2]
theorem mem_eqAt {A : Around} {s : Shared} {x : V} {v : Value} (rx : RelV x v) (fx : flatV x = true) : ∀ {xs : List V} {us : List Value}, Vals xs us → xs.all flatV = true → ∀ u ∈ us, SeqAt.EqAt A s u v (eqU x u)
  | _, _, .nil, _ => fun u hu => by cases hu
  | y :: xs, u :: us, .cons r t, f => fun u' hu => by
    rw [List.all_cons, Bool.and_eq_true] at f
    rcases List.mem_cons.mp hu with rfl | hu
    · rw [eqU_of r f.1]; exact eqAt_V r rx f.1 fx
    · exact mem_eqAt rx fx t f.2 u' hu
def inV (x : V) (xs : List V) : Bool := xs.any fun y => eqV y x
def rIn (K : PySem.W.Frag) (neg : Bool) : R2 := fun x y H Q => ∃ p xs, y = .ref p ∧ (SqL K H p xs ∨ SqT K H p xs) ∧ flatV x = true ∧ xs.all flatV = true ∧ Q (.bl (if neg then !inV x xs else inV x xs)) H
theorem op_in_seq : OpR X (compareOp .In) (rIn X.K false) := by
  intro pins s σ H x y v u Q I rx ry h
  obtain ⟨p, xs, rfl, hq, fx, fs, q⟩ := h
  cases ry
  rcases hq with hq | hq
  · obtain ⟨its, r, pl, hz⟩ := I.list hq
    refine SeqAt.in_listAt (eqU x) pl.isList (fun w hw => mem_eqAt rx fx r fs w (by simpa using hw)) ⟨.bl _, H, I, rfl, ?_⟩
    rw [show its.toArray.any (eqU x) = its.any (eqU x) by simp, any_eqU r fs]
    exact q
  · obtain ⟨its, r, pl, hz⟩ := I.tuple hq
    refine SeqAt.in_tupleAt (eqU x) pl (fun w hw => mem_eqAt rx fx r fs w (by simpa using hw)) ⟨.bl _, H, I, rfl, ?_⟩
    rw [show its.toArray.any (eqU x) = its.any (eqU x) by simp, any_eqU r fs]
    exact q
theorem op_notIn_seq : OpR X (compareOp .NotIn) (rIn X.K true) := by
  intro pins s σ H x y v u Q I rx ry h
  obtain ⟨p, xs, rfl, hq, fx, fs, q⟩ := h
  cases ry
  rcases hq with hq | hq
  · obtain ⟨its, r, pl, hz⟩ := I.list hq
    refine SeqAt.notIn_listAt (eqU x) pl.isList (fun w hw => mem_eqAt rx fx r fs w (by simpa using hw)) ⟨.bl _, H, I, rfl, ?_⟩
    rw [show its.toArray.any (eqU x) = its.any (eqU x) by simp, any_eqU r fs]
    exact q
  · obtain ⟨its, r, pl, hz⟩ := I.tuple hq
    refine SeqAt.notIn_tupleAt (eqU x) pl (fun w hw => mem_eqAt rx fx r fs w (by simpa using hw)) ⟨.bl _, H, I, rfl, ?_⟩
    rw [show its.toArray.any (eqU x) = its.any (eqU x) by simp, any_eqU r fs]
    exact q
theorem call_len_seq : CallR X (.builtin "len") (fun xs H Q => ∃ p ys, xs = [.ref p] ∧ (SqL X.K H p ys ∨ SqT X.K H p ys) ∧ Q (.int ys.length) H) := by
  intro pins s σ H xs us Q I r h
  obtain ⟨p, ys, rfl, hq, q⟩ := h
  obtain ⟨u, rfl, rx⟩ := vals1 r
  cases rx
  have hn := line63
  rcases hq with hq | hq
  · obtain ⟨its, r', pl, hz⟩ := I.list hq
    have hlen := r'.length
    exact Calls.call_len_list pl.isList (by simp only [List.size_toArray] <;> omega) ⟨.int ys.length, H, I.tok _, ⟨s.toks + 1, by rw [List.size_toArray, hlen]⟩, q⟩
  · obtain ⟨its, r', pl, hz⟩ := I.tuple hq
    have hlen := r'.length
    exact len_tuple pl (by simp only [List.size_toArray] <;> omega) ⟨.int ys.length, H, I.tok _, ⟨s.toks + 1, by rw [List.size_toArray, hlen]⟩, q⟩
theorem CallR.or {f : Value} {r r' : List V → Hp → VK → Prop} (h : CallR X f r) (h' : CallR X f r') : CallR X f (fun xs H Q => r xs H Q ∨ r' xs H Q) := by
  intro pins s σ H xs us Q I rs q
  rcases q with q | q
  · exact h pins s σ H xs us Q I rs q
  · exact h' pins s σ H xs us Q I rs q
theorem call_tuple_of : CallR X (.type "tuple") (fun xs H Q => ∃ p ys, xs = [.ref p] ∧ ((SqL X.K H p ys ∧ ∀ l, H l = none → Q (.ref l) (upd H l (.tup ys))) ∨ (SqT X.K H p ys ∧ Q (.ref p) H))) := by
  intro pins s σ H xs us Q I r h
  obtain ⟨p, ys, rfl, h⟩ := h
  obtain ⟨u, rfl, rx⟩ := vals1 r
  cases rx
  rcases h with ⟨hq, q⟩ | ⟨hq, q⟩
  · obtain ⟨its, r', pl, hz⟩ := I.list hq
    have hlen := r'.length
    refine call_tuple_list pl.isList (fun h' kp => ?_) (by simp only [List.size_toArray] <;> omega)
    have I1 : Inv X pins σ H { s with heap := h' } := I.kept (t' := s.toks) kp
    have I2 : Inv X pins σ (upd H h'.objs.size (.tup ys)) { s with heap := h'.push { cls := .type "tuple", data := .seq its.toArray } } :=
      I1.laid (t' := s.toks) (fun b o e => Heap.get?_push_of_some _ e) (Nat.le_refl _) (show ObjOk X.prog X.w _ _ _ (.tup ys) from ⟨hz, its, r', IsTup.new _ _⟩)
    exact ⟨.ref h'.objs.size, _, I2, rfl, q _ (I1.hok.fresh (Nat.le_refl _))⟩
  · obtain ⟨its, r', pl, hz⟩ := I.tuple hq
    exact call_tuple_same pl ⟨.ref p, H, I, rfl, q⟩
def tyV (K : PySem.W.Frag) (T : String) (x : V) (H : Hp) : Prop := match x with
  | .str _ => T = "str"
  | .int _ => T = "int"
  | .ref p => (T = "list" ∧ ∃ xs, SqL K H p xs) ∨ (T = "tuple" ∧ ∃ o, K.lookup p = some o ∧ o.cls = .type "tuple" ∧ o.dict = none) ∨
      (T = "dict" ∧ ((∃ kvs, H p = some (.dK kvs)) ∨ ∃ kvs, H p = some (.dT kvs))) ∨ (T = "set" ∧ ∃ S n, H p = some (.set S n))
  | _ => False
theorem tyV_is {pins : List (Addr × Obj)} {σ : St} {H : Hp} {s : Shared} {T : String} {x : V} {v : Value} (I : Inv X pins σ H s) (r : RelV x v) (ty : tyV X.K T x H) :
    s.TypeIs v T ∧ ∀ a, v = .ref a → ∃ ob, s.heap.get? a = some ob ∧ ob.dict = none := by
  cases x with
  | str z =>
    obtain ⟨t, rfl⟩ := r
    cases (show T = "str" from ty)
    exact ⟨typeIs_str s z t, fun _ e => nomatch e⟩
  | int i =>
    obtain ⟨t, rfl⟩ := r
    cases (show T = "int" from ty)
    exact ⟨typeIs_int s i t, fun _ e => nomatch e⟩
  | ref p =>
    cases r
    rcases ty with ⟨rfl, xs, hq⟩ | ⟨rfl, o, hk, hc, hd⟩ | ⟨rfl, hk⟩ | ⟨rfl, S, n, hk⟩
    · obtain ⟨its, _, pl, _⟩ := I.list hq
      refine ⟨pl.isList.typeIs, fun a e => ?_⟩
      cases e
      obtain ⟨o, n, e, c, hd, _⟩ := pl
      exact ⟨o, e, hd⟩
    · refine ⟨⟨o, I.kIn p o hk, hc⟩, fun a e => ?_⟩
      cases e
      exact ⟨o, I.kIn _ o hk, hd⟩
    · have z : ∃ o, s.heap.get? p = some o ∧ o.ExactDict := by
        rcases hk with ⟨kvs, hk⟩ | ⟨kvs, hk⟩
        · obtain ⟨_, _, _, _, o, _, _, e, ex, _⟩ := I.hok p _ hk
          exact ⟨o, e, ex⟩
        · obtain ⟨_, _, _, _, o, _, _, e, ex, _⟩ := I.hok p _ hk
          exact ⟨o, e, ex⟩
      obtain ⟨o, e, ex⟩ := z
      refine ⟨⟨o, e, ex.1⟩, fun a e2 => ?_⟩
      cases e2
      exact ⟨o, e, ex.2.1⟩
    · obtain ⟨o, _, _, _, e, ex, _⟩ := I.hok p _ hk
      refine ⟨⟨o, e, ex.1⟩, fun a e2 => ?_⟩
      cases e2
      exact ⟨o, e, ex.2.1⟩
  | _ => exact False.elim ty
def tBM (K : PySem.W.Frag) (T : String) (r : V → List V → Hp → VK → Prop) (to : TE) (t : TA) : TE := fun σ H Q => to σ H fun x H1 => tyV K T x H1 ∧ t σ H1 fun xs H2 => r x xs H2 Q
variable {o e : Expr} {es : List Expr} {to : TE} {t : TA} {name : Str} {apos cpos : Pos} {T id : String} {r : V → List V → Hp → VK → Prop}
theorem pe_bm (pa : PlainAttrs T) (slot : Slot T name id) (hty : typeOf (.builtin id) = pure (.type "method_descriptor")) (hm : MtR X id r) (ho : PE X o to) (ha : PA X (e :: es) t)
    (hbase : attributeBase o name X.env (eval o X.env) = eval o X.env := by rfl)
    (hfew : ((backTo cpos (starEach (e :: es) X.env)).all (fun x => !x.1) && (backToKw cpos (keywordEach [] X.env)).all (fun x => x.1.isSome)
      && decide ((e :: es).length + ([] : List Keyword).length + (if ([] : List Keyword).isEmpty then 0 else 1) < 30)) = true := by rfl)
    (hline : (apos.endLine == cpos.line) = true := by rfl) (hs : starEach (e :: es) X.env = (false, eval e X.env) :: starEach es X.env := by rfl) (hplain : (backTo cpos (starEach es X.env)).any (·.1) = false := by rfl) :
    PE X (.Call (.Attribute o name apos) (e :: es) [] cpos) (tBM X.K T r to t) := by
  intro pins s σ H Q I h
  refine wpAny_Call_method_late hbase hfew hline rfl (thn (ho pins s σ H _ I h) fun v s1 ⟨x, H1, I1, r1, ty, q1⟩ => ?_)
  obtain ⟨h1, h2⟩ := tyV_is I1 r1 ty
  refine ⟨T, id, pa, slot, hty, h1, h2, ?_⟩
  have hA := ha cpos pins s1 σ H1 _ I1 q1
  rw [hs] at hA ⊢
  refine Calls.callWith_builtin (by show (false || (backTo cpos (starEach es X.env)).any (·.1)) = false; rw [hplain] <;> rfl) (Calls.evalArgs_plain ?_)
  exact thn hA fun us s2 ⟨vs, H2, I2, r2, q2⟩ => hm pins s2 σ H2 x vs v us Q I2 r1 r2 q2
end
end L2
namespace L2
open PySem PySem.Spec PyProof.Rows
def MtM (X : Cx) (id : String) (r : V → List V → Hp → VK → Prop) : Prop :=
  ∀ (pins : List (Addr × Obj)) (s : Shared) (σ : St) (H : Hp) (x : V) (xs : List V) (v : Value) (us : List Value) (Q : VK), Inv X pins σ H s → RelV x v → Vals xs us → r x xs H Q →
    wpAny (model X.prog X.w) X.A (call (.builtin id) (v :: us)) (EP X pins σ Q) X.xe s
theorem Vals.one : ∀ {x : V} {us : List Value}, Vals [x] us → ∃ u, us = [u] ∧ RelV x u
  | _, _, .cons r .nil => ⟨_, rfl, r⟩
theorem Vals.zero : ∀ {us : List Value}, Vals [] us → us = []
  | _, .nil => rfl
theorem Vals.eraseIdx : ∀ {xs : List V} {us : List Value} (i : Nat), Vals xs us → Vals (xs.eraseIdx i) (us.eraseIdx i)
  | _, _, _, .nil => .nil
  | _, _, 0, .cons _ t => t
  | _, _, i + 1, .cons r t => .cons r (Vals.eraseIdx i t)
theorem Vals.reverse {xs : List V} {us : List Value} (h : Vals xs us) : Vals xs.reverse us.reverse := by
  induction h with
  | nil => exact .nil
  | cons r t ih => rw [List.reverse_cons, List.reverse_cons]; exact Vals.append ih (.cons r .nil)
theorem Vals.rep {xs : List V} {us : List Value} (h : Vals xs us) : ∀ k : Nat, Vals (List.replicate k xs).flatten (List.replicate k us).flatten
  | 0 => .nil
  | k + 1 => by
    rw [List.replicate_succ, List.replicate_succ, List.flatten_cons, List.flatten_cons]
    exact Vals.append h (Vals.rep h k)
theorem len_erase {α : Type} : ∀ (l : List α) (i : Nat), (l.eraseIdx i).length ≤ l.length
  | [], _ => Nat.le_refl _
  | _ :: _, 0 => Nat.le_succ _
  | _ :: r, i + 1 => Nat.succ_le_succ (len_erase r i)
theorem foldl_rep (its : List Value) : ∀ (k : Nat) (acc : List Value),
    List.foldl (fun x1 x2 => x1 ++ x2) acc.toArray (List.replicate k its.toArray) = (acc ++ (List.replicate k its).flatten).toArray
  | 0, acc => by simp
  | k + 1, acc => by
    have e : acc.toArray ++ its.toArray = (acc ++ its).toArray := by simp
    have e2 : (acc ++ its) ++ (List.replicate k its).flatten = acc ++ (List.replicate (k + 1) its).flatten := by
      rw [List.replicate_succ, List.flatten_cons, List.append_assoc]
    rw [← e2, ← foldl_rep its k (acc ++ its), ← e, List.replicate_succ, List.foldl_cons]
section
variable {X : Cx} {pins : List (Addr × Obj)} {σ : St} {H : Hp} {s : Shared} {l b : Addr} {xs ys zs : List V}
theorem Inv.lset {its its' : List Value} {n : Nat} {f : Array Value → Array Value} {t' : Nat} (I : Inv X pins σ H s) (hH : H l = some (.lst xs))
    (e : s.heap.get? l = some { cls := .type "list", data := .seq its.toArray n }) (hf : f its.toArray = its'.toArray) (hv : Vals ys its') (hz : ys.length ≤ sizeLine) :
    Inv X pins σ (upd H l (.lst ys)) { s with heap := s.heap.update l (Obj.mapSeq f), toks := t' } := by
  have q := PySem.IsL.update e f
  rw [hf] at q
  refine I.write (x := l) (e := l) (by rw [hH]; exact trivial) (.inl rfl) (fun b' u hb hu => (Heap.get?_update_other s.heap (Obj.mapSeq f) (Ne.symm hb)).trans hu) ⟨_, q⟩ ?_
  exact ⟨hz, its', _, hv, q⟩
theorem Inv.fresh (I : Inv X pins σ H s) : H s.heap.objs.size = none := I.hok.fresh (Nat.le_refl _)
theorem Inv.lstM (I : Inv X pins σ H s) (hH : H l = some (.lst xs)) : xs.length ≤ sizeLine ∧ ∃ (its : List Value) (n : Nat), Vals xs its ∧ xs.length = its.length ∧ s.heap.get? l = some { cls := .type "list", data := .seq its.toArray n } := by
  obtain ⟨z, its, n, r, e⟩ := I.hok l _ hH
  exact ⟨z, its, n, r, r.length, e⟩
end
section
variable {X : Cx}
def rPopAt : V → List V → Hp → VK → Prop := fun x vs H Q => ∃ l xs i k y, x = .ref l ∧ vs = [.int i] ∧ H l = some (.lst xs) ∧ -(2 ^ 63) ≤ i ∧ i < 2 ^ 63 ∧ seqIndex? i xs.length = some k ∧ xs[k]? = some y ∧ Q y (upd H l (.lst (xs.eraseIdx k)))
theorem mt_popAt : MtM X "list.pop" rPopAt := by
  intro pins s σ H x vs v us Q I rx rv h
  obtain ⟨l, xs, i, k, y, rfl, rfl, hH, h1, h2, hk, hy, q⟩ := h
  cases rx
  obtain ⟨u, rfl, ru⟩ := rv.one
  obtain ⟨t, rfl⟩ := ru
  obtain ⟨z, its, n, r, hl, e⟩ := I.lstM hH
  obtain ⟨w, hw, rw'⟩ := r.get hy
  refine call_meets F.slot_list_pop ⟨_, e, rfl⟩ F.entry_list_pop (F.args_list_pop_2 _ _)
    (MeetsSeq.list_pop_at l its.toArray n i t k w (fitsIndex_both h1 h2) (by rw [List.size_toArray, ← hl]; exact hk) (by rw [← Array.getElem?_toList]; exact hw) (by rw [List.size_toArray]; omega)) ⟨e, ?_⟩
  refine ⟨y, _, I.lset (its' := its.eraseIdx k) hH e ?_ (r.eraseIdx k) ?_, rw', q⟩
  · show its.toArray.eraseIdxIfInBounds k = (its.eraseIdx k).toArray
    rw [List.eraseIdxIfInBounds_toArray]
  · have := len_erase xs k
    omega
theorem len_rep {α : Type} (xs : List α) (k : Nat) : (List.replicate k xs).flatten.length = k * xs.length := by
  induction k with
  | zero => simp
  | succ k ih => rw [List.replicate_succ, List.flatten_cons, List.length_append, ih, Nat.succ_mul, Nat.add_comm]
end
end L2
namespace L2
open PySem PySem.Spec PyProof.Rows
theorem Vals.ints : ∀ {ns : List Int} {us : List Value}, Vals (ns.map V.int) us → IntsAre us ns
  | [], us, h => by
    rw [List.map_nil] at h
    cases h
    exact IntsAre.nil
  | n :: ns, us, h => by
    rw [List.map_cons] at h
    cases h with
    | cons r t =>
      obtain ⟨k, rfl⟩ := r
      exact IntsAre.cons n k (Vals.ints t)
theorem Vals.bls : ∀ {bs : List Bool} {us : List Value}, Vals (bs.map V.bl) us → us = bs.map Value.bool
  | [], us, h => by
    rw [List.map_nil] at h
    cases h
    rfl
  | b :: bs, us, h => by
    rw [List.map_cons] at h
    cases h with
    | cons r t =>
      cases r
      rw [Vals.bls t, List.map_cons]
theorem Vals.ref1 {a : Addr} {us : List Value} (r : Vals [V.ref a] us) : us = [Value.ref a] := by
  cases r with
  | cons r t =>
    cases t
    cases r
    rfl
theorem iter_any {prog : Program} {w : World} {A : Around} {E : Value → Shared → Prop} {s : Shared} {l : Addr} {items : Array Value} {Q : Value → Shared → Prop} (hl : s.heap.IsList l items)
    (h : ∀ s₂ : Shared, s₂ = { s with heap := s.heap.push { cls := .type "list_iterator", data := .fields #[.ref l, .int 0 0] } } →
      (s₂.heap.IsListIter s.heap.objs.size l 0 ∧ s₂.heap.IsList l items) → l ≠ s.heap.objs.size → Q (.ref s.heap.objs.size) s₂) : wpAny (model prog w) A (pyIter (.ref l)) Q E s := by
  have hlt : l < s.heap.objs.size := by obtain ⟨_, e, _⟩ := hl; exact Heap.lt_size e
  exact wpAny_pyIter_list hl (h _ rfl ⟨⟨_, Heap.get?_push_size _ rfl, rfl, rfl⟩, hl.push _⟩ (Nat.ne_of_lt hlt))
theorem truth_bools {prog : Program} {w : World} {A : Around} {bs : List Bool} {its : List Value} (e : its = bs.map Value.bool) :
    TruthOf prog w A (fun i v => its.toArray[i]? = some v) (fun i => bs.getD i false) := fun i v s Q E hv hq => by
  have hv' : its[i]? = some v := by simpa using hv
  rw [e, List.getElem?_map] at hv'
  obtain ⟨b, hb, rfl⟩ := Option.map_eq_some_iff.mp hv'
  have hg : bs.getD i false = b := by rw [List.getD_eq_getElem?_getD, hb] <;> rfl
  have hq' : Q (bs.getD i false) s := hq
  rw [hg] at hq'
  exact wpAny_truthy_bool hq'
theorem all_range : ∀ bs : List Bool, (List.range bs.length).all (fun i => bs.getD i false) = bs.all id
  | [] => rfl
  | b :: bs => by
    rw [List.length_cons, List.range_succ_eq_map, List.all_cons, List.all_map, List.all_cons, ← all_range bs]
    all_goals rfl
section
variable {X : Cx}
def rAll (K : PySem.W.Frag) : List V → Hp → VK → Prop := fun vs H Q => ∃ (a : Addr) (bs : List Bool), vs = [V.ref a] ∧ SqL K H a (bs.map V.bl) ∧ Q (.bl (bs.all id)) H
theorem cr_all (hc : X.calm = true) : CallR X (.builtin "all") (rAll X.K) := by
  intro pins s σ H vs us Q I r h
  obtain ⟨a, bs, rfl, hs, q⟩ := h
  obtain ⟨its, rv, hl, _⟩ := I.list hs
  rw [Vals.ref1 r]
  have hb := rv.bls
  refine call_all_walk (iter_any hl.isList fun s₂ e2 st hne => ?_)
  subst e2
  refine ⟨_, _, _, _, _, _, _, rfl, Walks.list (A := X.A.in1) (I.ok.hd hc) _ a hne its.toArray, st, truth_bools hb, fun h' tk hk => ?_⟩
  refine ⟨.bl _, H, I.kept fun b o eo => hk b o (fun hmem => ?_) (Heap.get?_push_of_some _ eo), ?_, q⟩
  · rcases List.mem_cons.mp hmem with e1 | hmem
    · exact absurd (e1 ▸ Heap.lt_size eo) (Nat.lt_irrefl _)
    · cases hmem
  · show Value.bool _ = Value.bool _
    rw [← all_range, hb, List.size_toArray, List.length_map]
end
mutual
inductive Dp (K : PySem.W.Frag) (H : Hp) : V → PyData → Prop
  | non : Dp K H .non .none
  | bl (b : Bool) : Dp K H (.bl b) (.bool b)
  | int (i : Int) : Dp K H (.int i) (.int i)
  | str (x : Str) : Dp K H (.str x) (.str x)
  | lst {a : Addr} {xs : List V} {ds : List PyData} : SqL K H a xs → DpAll K H xs ds → Dp K H (.ref a) (.list ds)
  | tup {a : Addr} {xs : List V} {ds : List PyData} : SqT K H a xs → DpAll K H xs ds → Dp K H (.ref a) (.tuple ds)
inductive DpAll (K : PySem.W.Frag) (H : Hp) : List V → List PyData → Prop
  | nil : DpAll K H [] []
  | cons {v : V} {vs : List V} {d : PyData} {ds : List PyData} : Dp K H v d → DpAll K H vs ds → DpAll K H (v :: vs) (d :: ds)
end
section
variable {X : Cx} {pins : List (Addr × Obj)} {σ : St} {H : Hp} {s : Shared}
mutual
theorem Dp.reads (I : Inv X pins σ H s) : ∀ (d : PyData) (v : V) (u : Value), Dp X.K H v d → RelV v u → ∃ as, Reads s.heap u d as
  | .none, _, _, h, r => by
    cases h
    cases r
    exact ⟨_, Reads.none⟩
  | .bool b, _, _, h, r => by
    cases h
    cases r
    exact ⟨_, Reads.bool b⟩
  | .int i, _, _, h, r => by
    cases h
    obtain ⟨t, rfl⟩ := r
    exact ⟨_, Reads.int i t⟩
  | .str x, _, _, h, r => by
    cases h
    obtain ⟨t, rfl⟩ := r
    exact ⟨_, Reads.str x t⟩
  | .list ds, _, _, h, r => by
    cases h with
    | lst hs ha =>
      cases r
      obtain ⟨its, rv, ⟨o, n, ho, hc, _, hd⟩, _⟩ := I.list hs
      obtain ⟨as, hr⟩ := Dp.readsAll I ds _ its ha rv
      exact ⟨_, Reads.list ho hc hd hr⟩
  | .tuple ds, _, _, h, r => by
    cases h with
    | tup hs ha =>
      cases r
      obtain ⟨its, rv, ⟨o, ho, hc, n, hd⟩, _⟩ := I.tuple hs
      obtain ⟨as, hr⟩ := Dp.readsAll I ds _ its ha rv
      exact ⟨_, Reads.tuple ho hc hd hr⟩
  | .dict _, _, _, h, _ => by cases h
theorem Dp.readsAll (I : Inv X pins σ H s) : ∀ (ds : List PyData) (vs : List V) (us : List Value), DpAll X.K H vs ds → Vals vs us → ∃ as, ReadsAll s.heap us ds as
  | [], _, _, h, r => by
    cases h
    cases r
    exact ⟨_, ReadsAll.nil⟩
  | d :: ds, _, _, h, r => by
    cases h with
    | cons h1 h2 =>
      cases r with
      | cons r1 r2 =>
        obtain ⟨as, q1⟩ := Dp.reads I d _ _ h1 r1
        obtain ⟨bs, q2⟩ := Dp.readsAll I ds _ _ h2 r2
        exact ⟨_, ReadsAll.cons q1 q2⟩
end
end
section
variable {X : Cx}
def rEqD (K : PySem.W.Frag) : R2 := fun x y H Q => ∃ d e, Dp K H x d ∧ Dp K H y e ∧ SeqAt.shaped d = true ∧ SeqAt.shaped e = true ∧ Q (.bl (PyData.eqv d e)) H
def rNeD (K : PySem.W.Frag) : R2 := fun x y H Q => ∃ d e, Dp K H x d ∧ Dp K H y e ∧ SeqAt.shaped d = true ∧ SeqAt.shaped e = true ∧ Q (.bl (!PyData.eqv d e)) H
theorem op_eqD (hu : X.A.units + 64 < cLine) : OpR X (compareOp .Eq) (rEqD X.K) := by
  intro pins s σ H x y v u Q I rx ry h
  obtain ⟨d, e, hd, he, sd, se, q⟩ := h
  obtain ⟨as, r1⟩ := Dp.reads I d x v hd rx
  obtain ⟨bs, r2⟩ := Dp.reads I e y u he ry
  exact SeqAt.compareEq_shaped r1 r2 sd se hu ⟨.bl _, H, I, rfl, q⟩
theorem op_neD (hu : X.A.units + 64 < cLine) : OpR X (compareOp .NotEq) (rNeD X.K) := by
  intro pins s σ H x y v u Q I rx ry h
  obtain ⟨d, e, hd, he, sd, se, q⟩ := h
  obtain ⟨as, r1⟩ := Dp.reads I d x v hd rx
  obtain ⟨bs, r2⟩ := Dp.reads I e y u he ry
  exact SeqAt.compareNe_shaped r1 r2 sd se hu ⟨.bl _, H, I, rfl, q⟩
end
end L2
namespace L2
open PySem PySem.Spec PyProof.Rows
abbrev CellAt (h : Heap) (c : Addr) (v : Option Value) : Prop := h.IsCell c v
def relS (scope sc : Scope) : Scope :=
  { scope with names := scope.names.map fun (n, k) => if (k == .free && sc.kind == .function && sc.names.lookup n == some .cell) then (n, .cell) else (n, k) }
def cloFrom (cells : List (Str × Addr)) : List (Str × NameKind) → List (Str × Addr) → List (Str × Addr)
  | [], acc => acc
  | (n, k) :: r, acc => if k == .free then cloFrom cells r ((n, (cells.lookup n).getD 0) :: acc) else cloFrom cells r acc
theorem closure_loop (env : Env) (f : Str × NameKind → List (Str × Addr) → Sem (ForInStep (List (Str × Addr))))
    (hf : ∀ n k c, f (n, k) c = if k == .free then (do let a ← cellOf env n; pure (.yield ((n, a) :: c))) else pure (.yield c)) :
    ∀ (names : List (Str × NameKind)) (acc : List (Str × Addr)), (∀ y ∈ names, y.2 = .free → ∃ c, env.cells.lookup y.1 = some c) → forIn names acc f = pure (cloFrom env.cells names acc)
  | [], acc, _ => by rw [List.forIn_nil]; rfl
  | (n, k) :: r, acc, h => by
    rw [List.forIn_cons, hf]
    have ih := fun acc => closure_loop env f hf r acc fun y hy => h y (List.mem_cons_of_mem _ hy)
    unfold cloFrom
    by_cases hk : (k == NameKind.free) = true
    · rw [if_pos hk, if_pos hk]
      obtain ⟨c, hc⟩ := h (n, k) List.mem_cons_self (by simpa using hk)
      have e : cellOf env n = pure c := by unfold cellOf; rw [hc]
      rw [e]
      have e2 : (env.cells.lookup n).getD 0 = c := by rw [hc]; rfl
      rw [e2]
      exact ih _
    · rw [if_neg hk, if_neg hk]
      exact ih _
theorem closure_ok {scope : Scope} {env : Env} (h : ∀ y ∈ scope.names, y.2 = .free → ∃ c, env.cells.lookup y.1 = some c) : closureFor scope env = pure (cloFrom env.cells scope.names []) := by
  simp only [closureFor]
  rw [closure_loop env _ (fun n k c => rfl) scope.names [] h]
  rfl
theorem mem_lookup {α : Type} : ∀ {l : List (Str × α)} {n : Str} {c : α}, (n, c) ∈ l → ∃ c', l.lookup n = some c'
  | (k, v) :: r, n, c, h => by
    rw [List.lookup_cons]
    cases hb : n == k with
    | true => exact ⟨_, rfl⟩
    | false =>
      rcases List.mem_cons.mp h with e | h
      · cases e; simp at hb
      · exact mem_lookup h
theorem cloFrom_mem {cells : List (Str × Addr)} : ∀ {names : List (Str × NameKind)} {acc : List (Str × Addr)} {n : Str} {c : Addr}, (n, c) ∈ cloFrom cells names acc → (n, c) ∈ acc ∨ ((n, .free) ∈ names ∧ c = (cells.lookup n).getD 0)
  | [], _, _, _, h => .inl h
  | (m, k) :: r, acc, n, c, h => by
    unfold cloFrom at h
    split at h
    · rename_i hk
      have hk : k = .free := by simpa using hk
      rcases cloFrom_mem h with h | ⟨h1, h2⟩
      · rcases List.mem_cons.mp h with e | h
        · cases e; exact .inr ⟨hk ▸ List.mem_cons_self, rfl⟩
        · exact .inl h
      · exact .inr ⟨List.mem_cons_of_mem _ h1, h2⟩
    · rcases cloFrom_mem h with h | ⟨h1, h2⟩
      · exact .inl h
      · exact .inr ⟨List.mem_cons_of_mem _ h1, h2⟩
theorem cloFrom_acc {cells : List (Str × Addr)} : ∀ {names : List (Str × NameKind)} {acc : List (Str × Addr)} {p : Str × Addr}, p ∈ acc → p ∈ cloFrom cells names acc
  | [], _, _, h => h
  | (m, k) :: r, acc, p, h => by
    unfold cloFrom
    split
    · exact cloFrom_acc (List.mem_cons_of_mem _ h)
    · exact cloFrom_acc h
theorem cloFrom_has {cells : List (Str × Addr)} : ∀ {names : List (Str × NameKind)} {acc : List (Str × Addr)} {n : Str}, (n, .free) ∈ names → (n, (cells.lookup n).getD 0) ∈ cloFrom cells names acc
  | (m, k) :: r, acc, n, h => by
    unfold cloFrom
    rcases List.mem_cons.mp h with e | h
    · cases e
      exact cloFrom_acc List.mem_cons_self
    · split
      · exact cloFrom_has h
      · exact cloFrom_has h
theorem cells_mem : ∀ {names : List (Str × NameKind)} {h : Heap} {acc : List (Str × Addr)} {x : Str} {c : Addr}, (x, c) ∈ cellsFrom h.objs.size names acc →
    (x, c) ∈ acc ∨ ((x, .cell) ∈ names ∧ h.objs.size ≤ c ∧ CellAt (pushCells h names) c none)
  | [], _, _, _, _, h => .inl h
  | (n, k) :: r, h, acc, x, c, hm => by
    unfold cellsFrom at hm
    unfold pushCells
    split at hm
    · rename_i hk
      rw [if_pos hk]
      have hk : k = .cell := by simpa using hk
      rw [← Heap.size_push h { cls := .type "cell", data := .cell none }] at hm
      rcases cells_mem hm with hm | ⟨h1, h2, h3⟩
      · rcases List.mem_cons.mp hm with e | hm
        · cases e
          exact .inr ⟨hk ▸ List.mem_cons_self, Nat.le_refl _, _, pushCells_keeps r _ _ _ (Heap.get?_push_size _ rfl), rfl⟩
        · exact .inl hm
      · rw [Heap.size_push] at h2
        exact .inr ⟨List.mem_cons_of_mem _ h1, Nat.le_of_succ_le h2, h3⟩
    · rename_i hk
      rw [if_neg hk]
      rcases cells_mem hm with hm | ⟨h1, h2, h3⟩
      · exact .inl hm
      · exact .inr ⟨List.mem_cons_of_mem _ h1, h2, h3⟩
theorem cells_acc : ∀ {names : List (Str × NameKind)} {n : Nat} {acc : List (Str × Addr)} {p : Str × Addr}, p ∈ acc → p ∈ cellsFrom n names acc
  | [], _, _, _, h => h
  | (m, k) :: r, n, acc, p, h => by
    unfold cellsFrom
    split
    · exact cells_acc (List.mem_cons_of_mem _ h)
    · exact cells_acc h
theorem cells_has : ∀ {names : List (Str × NameKind)} {n : Nat} {acc : List (Str × Addr)} {x : Str}, (x, .cell) ∈ names → ∃ c, (x, c) ∈ cellsFrom n names acc
  | (m, k) :: r, n, acc, x, h => by
    unfold cellsFrom
    rcases List.mem_cons.mp h with e | h
    · cases e
      exact ⟨n, cells_acc List.mem_cons_self⟩
    · split
      · exact cells_has h
      · exact cells_has h
theorem cells_inj : ∀ {names : List (Str × NameKind)} {h : Heap} {acc : List (Str × Addr)} {x y : Str} {c : Addr}, (∀ p ∈ acc, p.2 < h.objs.size) → (∀ x y c, (x, c) ∈ acc → (y, c) ∈ acc → x = y) →
    (x, c) ∈ cellsFrom h.objs.size names acc → (y, c) ∈ cellsFrom h.objs.size names acc → x = y
  | [], _, _, _, _, _, _, hi, h1, h2 => hi _ _ _ h1 h2
  | (n, k) :: r, h, acc, x, y, c, hl, hi, h1, h2 => by
    unfold cellsFrom at h1 h2
    split at h1
    · rename_i hk
      rw [if_pos hk] at h2
      rw [← Heap.size_push h { cls := .type "cell", data := .cell none }] at h1 h2
      refine cells_inj (h := h.push _) (fun p hp => ?_) (fun x y c a b => ?_) h1 h2
      · rw [Heap.size_push]
        rcases List.mem_cons.mp hp with rfl | hp
        · exact Nat.lt_succ_self _
        · exact Nat.lt_succ_of_lt (hl p hp)
      · rcases List.mem_cons.mp a with e | a <;> rcases List.mem_cons.mp b with e' | b
        · cases e; cases e'; rfl
        · cases e; exact absurd (hl _ b) (Nat.lt_irrefl _)
        · cases e'; exact absurd (hl _ a) (Nat.lt_irrefl _)
        · exact hi _ _ _ a b
    · rename_i hk
      rw [if_neg hk] at h2
      exact cells_inj hl hi h1 h2
theorem newEnv_comp {M : Model} {A : Around} {E : Value → Shared → Prop} {s : Shared} {scope : Scope} {globals : Addr} {closure : List (Str × Addr)} {qual : Str} {func : Option Addr} {code : Value} {around : Env} {builtins : Addr} {Q : Env → Shared → Prop}
    (h : Q (newEnv scope s.heap.objs.size globals (cellsFrom (s.heap.objs.size + 1) scope.names closure) qual func code (some around) builtins)
      { s with heap := pushCells (s.heap.push { cls := .type "dict", data := .dict #[] }) scope.names }) :
    wpAny M A (newFunctionEnv scope globals closure [] qual func code (some around) builtins) Q E s := by
  simp only [newFunctionEnv, Option.isSome_some, if_true]
  refine wpAny_bind (wpAny_alloc ?_)
  refine wpAny_bind (wpAny_layCells _ (fun n k c => rfl) scope.names closure _ _ ?_)
  rw [show ({ s with heap := s.heap.push { cls := .type "dict", data := .dict #[] } } : Shared).heap.objs.size = s.heap.objs.size + 1 from Heap.size_push ..]
  rw [List.forIn_nil]
  exact wpAny_bind (wpAny_pure (wpAny_pure h))
theorem lookup_relS {sc : Scope} : ∀ {names : List (Str × NameKind)} {x : Str} {k : NameKind},
    (names.map fun (n, k) => if (k == NameKind.free && sc.kind == .function && sc.names.lookup n == some .cell) then (n, NameKind.cell) else (n, k)).lookup x = some k →
    ∃ k', names.lookup x = some k' ∧ (k = k' ∨ (k' = .free ∧ k = .cell))
  | [], _, _, h => by simp at h
  | (n, k₀) :: r, x, k, h => by
    have ih := @lookup_relS sc r x k
    have h' : List.lookup x ((if (k₀ == NameKind.free && sc.kind == .function && sc.names.lookup n == some .cell) = true then (n, NameKind.cell) else (n, k₀)) :: (r.map _)) = some k := h
    cases hx : x == n with
    | true =>
      simp only [List.lookup_cons, hx]
      by_cases hc : (k₀ == NameKind.free && sc.kind == .function && sc.names.lookup n == some .cell) = true
      · rw [if_pos hc] at h'
        simp only [List.lookup_cons, hx] at h'
        cases h'
        simp only [Bool.and_eq_true, beq_iff_eq] at hc
        exact ⟨k₀, rfl, .inr ⟨hc.1.1, rfl⟩⟩
      · rw [if_neg hc] at h'
        simp only [List.lookup_cons, hx] at h'
        cases h'
        exact ⟨_, rfl, .inl rfl⟩
    | false =>
      simp only [List.lookup_cons, hx]
      by_cases hc : (k₀ == NameKind.free && sc.kind == .function && sc.names.lookup n == some .cell) = true
      · rw [if_pos hc] at h'
        simp only [List.lookup_cons, hx] at h'
        exact ih h'
      · rw [if_neg hc] at h'
        simp only [List.lookup_cons, hx] at h'
        exact ih h'
structure BlkOk (N : List Str) (sc scope : Scope) (own : List (Str × Nat)) : Prop where
  kind : scope.kind = .function
  uniq : ∀ y ∈ scope.names, scope.names.lookup y.1 = some y.2
  ix : ∀ p ∈ own, N[p.2]? = some p.1
  free : ∀ y ∈ scope.names, y.2 = .free → sc.names.lookup y.1 = some .cell ∨ sc.names.lookup y.1 = some .free
  own : ∀ y ∈ scope.names, y.2 = .local ∨ y.2 = .cell → y.1 ∈ own.map (·.1) ∨ y.1 ∉ N
def wipe (σ : St) : List Nat → St
  | [] => σ
  | v :: vs => (wipe σ vs).set v none
theorem wipe_length (σ : St) : ∀ vs : List Nat, (wipe σ vs).length = σ.length
  | [] => rfl
  | v :: vs => by unfold wipe; rw [List.length_set, wipe_length σ vs]
theorem wipe_some {σ : St} {i : Nat} {x : V} : ∀ {vs : List Nat}, (wipe σ vs)[i]? = some (some x) → σ[i]? = some (some x) ∧ i ∉ vs
  | [], h => ⟨h, by simp⟩
  | v :: vs, h => by
    unfold wipe at h
    by_cases hi : v = i
    · subst hi
      by_cases hv : v < (wipe σ vs).length
      · rw [List.getElem?_set_self hv] at h; cases h
      · rw [List.getElem?_eq_none (by simpa using hv)] at h; cases h
    · rw [List.getElem?_set_ne hi] at h
      obtain ⟨h1, h2⟩ := wipe_some h
      exact ⟨h1, by simp only [List.mem_cons, not_or]; exact ⟨fun e => hi e.symm, h2⟩⟩
abbrev Cx.blk (X : Cx) (s : Shared) (H : Hp) (scope : Scope) (cenv : Env) (fp : List Addr) : Cx := { X with s_0 := s, H_0 := H, env := cenv, outer := X.stack, ex := fp, fn := fun x => scope.names.lookup x == some .cell, pn := [], xe := fun _ _ => False }
section
variable {X : Cx} {pins : List (Addr × Obj)} {σ : St} {H : Hp} {s : Shared}
theorem block_start {scope : Scope} {own : List (Str × Nat)} {fp : List Addr} (I : Inv X pins σ H s) (ok : BlkOk X.N X.env.scope scope own) (hN : X.N.Nodup) (hfp : ∀ b ∈ fp, FpOk X pins H b ∧ b < s.heap.objs.size) :
    Inv (X.blk s H scope (compEnvC scope (cellsFrom (s.heap.objs.size + 1) scope.names (cloFrom X.env.cells scope.names [])) s.heap.objs.size X.env) fp) [] (wipe σ (own.map (·.2))) H { s with heap := pushCells (s.heap.push { cls := .type "dict", data := .dict #[] }) scope.names } := by
  have hfree : ∀ y ∈ scope.names, y.2 = .free → ∃ c, X.env.cells.lookup y.1 = some c := fun y hy e => by
    rcases ok.free y hy e with k | k
    · exact I.ok.has _ (.inl k)
    · exact I.ok.has _ (.inr k)
  generalize hcenv : compEnvC scope (cellsFrom (s.heap.objs.size + 1) scope.names (cloFrom X.env.cells scope.names [])) s.heap.objs.size X.env = cenv
  have kp : ∀ b o, s.heap.get? b = some o → (pushCells (s.heap.push { cls := .type "dict", data := .dict #[] }) scope.names).get? b = some o := fun b o e => pushCells_keeps _ _ _ _ (Heap.get?_push_of_some _ e)
  have hL : cenv.locals = s.heap.objs.size := by rw [← hcenv]; rfl
  have hcl : cenv.cells = cellsFrom (s.heap.objs.size + 1) scope.names (cloFrom X.env.cells scope.names []) := by rw [← hcenv]; rfl
  have hsc : cenv.scope = relS scope X.env.scope := by rw [← hcenv]; rfl
  rw [← Heap.size_push s.heap { cls := .type "dict", data := .dict #[] }] at hcl
  have cm : ∀ {y c}, (y, c) ∈ cloFrom X.env.cells scope.names [] → X.env.cells.lookup y = some c ∧ c < s.heap.objs.size := fun {y c} hm => by
    rcases cloFrom_mem hm with hm | ⟨h1, rfl⟩
    · cases hm
    · obtain ⟨c, hc⟩ := hfree _ h1 rfl
      rw [hc]
      obtain ⟨w, z⟩ := I.cell _ _ hc
      exact ⟨rfl, z.lt⟩
  have mem : ∀ {y c}, cenv.cells.lookup y = some c → (X.env.cells.lookup y = some c ∧ c < s.heap.objs.size) ∨ (s.heap.objs.size + 1 ≤ c ∧ CellAt (pushCells (s.heap.push { cls := .type "dict", data := .dict #[] }) scope.names) c none) := fun {y c} e => by
    rw [hcl] at e
    rcases cells_mem (PySem.mem_of_lookup e) with hm | ⟨_, h2, h3⟩
    · exact .inl (cm hm)
    · rw [Heap.size_push] at h2; exact .inr ⟨h2, h3⟩
  have look : ∀ {y}, scope.names.lookup y = some .free → ∃ c, cenv.cells.lookup y = some c ∧ X.env.cells.lookup y = some c := fun {y} hl => by
    have hy : (y, NameKind.free) ∈ scope.names := PySem.mem_of_lookup hl
    obtain ⟨c', e'⟩ := mem_lookup (cells_acc (names := scope.names) (n := (s.heap.push { cls := .type "dict", data := .dict #[] }).objs.size) (cloFrom_has (cells := X.env.cells) (acc := []) hy))
    rw [← hcl] at e'
    refine ⟨c', e', ?_⟩
    rw [hcl] at e'
    rcases cells_mem (PySem.mem_of_lookup e') with hm | ⟨h1, _, _⟩
    · exact (cm hm).1
    · have := ok.uniq _ h1
      rw [hl] at this; cases this
  have okB : (X.blk s H scope cenv fp).Ok := by
    refine ⟨I.ok.mod, by show cenv.scope.kind = _; rw [hsc]; exact ok.kind, by show cenv.globals = _; rw [← hcenv]; exact I.ok.glob, by show cenv.builtins = _; rw [← hcenv]; exact I.ok.blt, by show s.heap.objs.size ≤ cenv.locals; rw [hL]; exact Nat.le_refl _,
      fun y z c e1 e2 => ?_, fun y hy => ?_, fun y c z e => ?_, I.ok.hd, I.ok.frames, .inl rfl, fun b hb => ⟨?_, fun y c e z => ?_⟩, I.bs, Nat.le_trans I.ok.bsz I.sz, fun b o e hb => ?_, fun b hb z => ?_, I.stack, I.stkFree, fun x hx c P e => I.base.tbls _ _ _ (I.ok.tb x hx c P e)⟩
    · have e1 : cenv.cells.lookup y = some c := e1
      have e2 : cenv.cells.lookup z = some c := e2
      rw [hcl] at e1 e2
      refine cells_inj (fun p hp => ?_) (fun y z c a b => I.ok.inj y z c (cm a).1 (cm b).1) (PySem.mem_of_lookup e1) (PySem.mem_of_lookup e2)
      rw [Heap.size_push]
      exact Nat.lt_succ_of_lt (cm (y := p.1) (c := p.2) hp).2
    · show ∃ c, cenv.cells.lookup y = some c
      have key : ∀ k, cenv.kindOf y = some k → (k = .cell ∨ k = .free) → ∃ c, cenv.cells.lookup y = some c := fun k hk hk' => by
        unfold Env.kindOf at hk
        rw [hsc] at hk
        obtain ⟨k', e, r⟩ := lookup_relS hk
        have : k' = .cell ∨ k' = .free := by
          rcases r with rfl | ⟨rfl, _⟩
          · exact hk'
          · exact .inr rfl
        rcases this with rfl | rfl
        · obtain ⟨c, hm⟩ := cells_has (n := (s.heap.push { cls := .type "dict", data := .dict #[] }).objs.size) (acc := cloFrom X.env.cells scope.names []) (PySem.mem_of_lookup e)
          obtain ⟨c', e'⟩ := mem_lookup hm
          exact ⟨c', by rw [hcl]; exact e'⟩
        · obtain ⟨c, h1, _⟩ := look e
          exact ⟨c, h1⟩
      rcases hy with hy | hy
      · exact key _ hy (.inl rfl)
      · exact key _ hy (.inr rfl)
    · have z : (scope.names.lookup y == some NameKind.cell) = true := z
      have z : scope.names.lookup y = some .cell := by simpa using z
      have e : cenv.cells.lookup y = some c := e
      rw [hcl] at e
      rcases cells_mem (PySem.mem_of_lookup e) with hm | ⟨_, h2, _⟩
      · rcases cloFrom_mem hm with hm | ⟨h1, _⟩
        · cases hm
        · have q := ok.uniq _ h1
          rw [z] at q; cases q
      · rw [Heap.size_push] at h2
        exact Nat.le_of_succ_le h2
    · show b ≠ cenv.locals
      rw [hL]; exact Nat.ne_of_lt (hfp b hb).2
    · have e : cenv.cells.lookup y = some c := e
      rcases mem e with ⟨h1, _⟩ | ⟨h1, _⟩
      · exact (hfp b hb).1.2.2.2.2.1 y c h1 z
      · have h2 : s.heap.objs.size + 1 ≤ b := by rw [← z]; exact h1
        exact absurd (Nat.lt_of_lt_of_le (hfp b hb).2 (Nat.le_of_succ_le h2)) (Nat.lt_irrefl _)
    · rcases (hfp b hb).1.2.2.2.1 with z | z
      · exact I.ok.noex b o e z
      · exact absurd (Nat.lt_of_lt_of_le (Heap.lt_size e) (Nat.le_trans I.ok.bsz z)) (Nat.lt_irrefl _)
    · rcases List.mem_cons.mp (I.stkSub b z) with z | z
      · exact (hfp b hb).1.2.1 z
      · exact (hfp b hb).1.2.2.1 z
  refine ⟨okB, rfl, I.bare, Un.kept kp, ⟨fun _ => none, ?_, fun i y av e1 e2 e3 => ?_⟩, fun y c e => ?_, ?_, fun y c e => ?_, fun p hp => ?_, I.hok.kept kp, by rw [wipe_length]; exact I.len⟩
  · show Heap.Ns _ cenv.locals _
    rw [hL]
    exact Heap.Ns.keeps (Heap.Ns.new ..) fun b o e => pushCells_keeps _ _ _ _ e
  · obtain ⟨e2, hne⟩ := wipe_some e2
    have hfr : scope.names.lookup y = some .free ∧ (cenv.kindOf y = some .cell ∨ cenv.kindOf y = some .free) := by
      have key : ∀ k, cenv.scope.names.lookup y = some k → k = .local ∨ k = .cell ∨ k = .free → scope.names.lookup y = some .free ∧ (cenv.kindOf y = some .cell ∨ cenv.kindOf y = some .free) := fun k hk hk' => by
        have hk0 := hk
        rw [hsc] at hk
        obtain ⟨k', e, r⟩ := lookup_relS hk
        have no : ¬ (k' = .local ∨ k' = .cell) := fun hh => by
          rcases ok.own _ (PySem.mem_of_lookup e) hh with e' | e'
          · obtain ⟨p, hp, hpy⟩ := List.mem_map.mp e'
            have e3 := ok.ix p hp
            have : p.1 = y := hpy
            rw [this] at e3
            exact hne (List.mem_map.mpr ⟨p, hp, nodup_ix hN e3 e1⟩)
          · exact e' (List.mem_of_getElem? e1)
        rcases r with rfl | ⟨rfl, rfl⟩
        · rcases hk' with rfl | rfl | rfl
          · exact absurd (.inl rfl) no
          · exact absurd (.inr rfl) no
          · exact ⟨e, .inr hk0⟩
        · exact ⟨e, .inl hk0⟩
      have e3 : Vis cenv.scope y := e3
      rcases e3 with e3 | e3 | e3
      · exact key _ e3 (.inl rfl)
      · exact key _ e3 (.inr (.inl rfl))
      · exact key _ e3 (.inr (.inr rfl))
    obtain ⟨m, hn, hl⟩ := I.loc
    have hvis : Vis X.env.scope y := (ok.free _ (PySem.mem_of_lookup hfr.1) rfl).elim (fun k => .inr (.inl k)) (fun k => .inr (.inr k))
    obtain ⟨w, r, q⟩ := hl i y av e1 e2 hvis
    refine ⟨w, r, .inr ⟨hfr.2, ?_⟩⟩
    obtain ⟨c, h1, h2⟩ := look hfr.1
    rcases q with ⟨k, _⟩ | ⟨_, c', e', z⟩
    · have k : X.env.scope.names.lookup y = some .local := k
      rcases ok.free _ (PySem.mem_of_lookup hfr.1) rfl with k' | k' <;> rw [show X.env.scope.names.lookup y = _ from k'] at k <;> cases k
    · rw [h2] at e'; cases e'
      exact ⟨c, h1, z.keeps kp⟩
  · have e : cenv.cells.lookup y = some c := e
    rcases mem e with ⟨h1, _⟩ | ⟨_, z⟩
    · obtain ⟨w, z⟩ := I.cell y c h1
      exact ⟨w, z.keeps kp⟩
    · exact ⟨_, z⟩
  · show H cenv.locals = none
    rw [hL]; exact I.hok.fresh (Nat.le_refl _)
  · have e : cenv.cells.lookup y = some c := e
    rcases mem e with ⟨h1, _⟩ | ⟨h1, _⟩
    · exact I.freeC y c h1
    · exact I.hok.fresh (Nat.le_of_succ_le h1)
  · exact absurd (show p ∈ ([] : List (Addr × Obj)) ++ [] from hp) (by simp)
theorem app_ok {E : Value → Shared → Prop} {D : Addr} {xs : List V} {y : V} {v : Value} {Q : Value → Shared → Prop} (I : Inv X pins σ H s) (hD : H D = some (.lst xs)) (hz : xs.length < sizeLine) (r : RelV y v)
    (h : ∀ s', Inv X pins σ (upd H D (.lst (xs ++ [y]))) s' → Q .none s') : wpAny (model X.prog X.w) X.A (call (.builtin "list.append") [.ref D, v]) Q E s := by
  obtain ⟨hz', its, n, ri, e⟩ := I.hok D _ hD
  have hl := ri.length
  refine append_at (hsz := by rw [List.size_toArray]; omega) e fun h' sb ho' => ?_
  refine h { s with heap := h' } (I.write (t' := s.toks) (by rw [hD]; trivial) (.inl rfl) (fun b u hb q => (sb.2 b hb).trans q) ⟨_, ho'⟩ ⟨by rw [List.length_append]; exact hz, its ++ [v], n + 1, ri.append (.cons r .nil), ?_⟩)
  rw [ho']
  simp
def PTs (X : Cx) (ifs : List Expr) (t : TT) : Prop :=
  ∀ (pins : List (Addr × Obj)) (s : Shared) (σ : St) (H : Hp) (Q : Bool → Hp → Prop), Inv X pins σ H s → t σ H Q →
    wpAny (model X.prog X.w) X.A (forIn ifs true fun c r => if r = true then do let ok ← isTrue c X.env (eval c X.env); pure (ForInStep.yield ok) else pure (ForInStep.yield r)) (TP X pins σ Q) X.xe s
def tYes : TT := fun _ H Q => Q true H
theorem pts_nil : PTs X [] tYes := fun _ _ _ H _ I h => wpAny_tests_nil ⟨H, I, h⟩
theorem pts_one {c : Expr} {t : TT} (h : PT X c t) : PTs X [c] t := fun pins s σ H Q I hw => wpAny_tests_one (h pins s σ H Q I hw)
end
theorem thnF {α : Type} {t : Sem α} {Q Q' : α → Shared → Prop} {M : Model} {A : Around} {E : Value → Shared → Prop} {s : Shared} (h : wpAny M A t Q (fun _ _ => False) s) (hQ : ∀ a s, Q a s → Q' a s) : wpAny M A t Q' E s := wpAny_mono h hQ fun _ _ z => False.elim z
theorem compLoop_any {prog : Program} {w : World} {A : Around} {R : Result → Shared → Prop} {s : Shared} {elt target iter : Expr} {ifs : List Expr} {scope : Scope} {pos : Pos} {it acc : Value} {env : Env} (I : Nat → Shared → Prop)
    (turn : ∀ n s, I n s → wpAny (model prog w) A (pyNext it) (fun r s₁ => match r with
      | none => R (.ok .next) s₁
      | some v => wpAny (model prog w) A (letOwnedTupleGo target it v) (fun _ s₁' => wpAny (model prog w) A (assign target env v) (fun _ s₂ =>
          wpAny (model prog w) A (forIn ifs true fun c r => if r = true then do let ok ← isTrue c env (eval c env); pure (ForInStep.yield ok) else pure (ForInStep.yield r)) (fun ok s₃ =>
            if ok = true then wpAny (model prog w) A (eval elt env) (fun x s₄ =>
              wpAny (model prog w) A (call (.builtin "list.append") [acc, x]) (fun _ s₅ => ∃ m, m < n ∧ I m s₅) (notedBy (model prog w) A env fun e s' => R (.error e) s') s₄) (notedBy (model prog w) A env fun e s' => R (.error e) s') s₃
            else ∃ m, m < n ∧ I m s₃) (notedBy (model prog w) A env fun e s' => R (.error e) s') s₂) (notedBy (model prog w) A env fun e s' => R (.error e) s') s₁') (notedBy (model prog w) A env fun e s' => R (.error e) s') s₁) (notedBy (model prog w) A env fun e s' => R (.error e) s') s)
    (n : Nat) (h : I n s) :
    codeAny (model prog w) A (.compLoop (.ListComp elt [⟨target, iter, ifs, 0⟩] scope pos) 0 it acc env) R s := by
  refine codeAny_loop rfl I (fun n s hI => ?_) n h
  show wpAny _ A ((compTurn (.ListComp elt [⟨target, iter, ifs, 0⟩] scope pos) 0 it acc env).onRaise (fun x => do noteFrame x env; theTreesLotGoes x)) _ _ s
  refine wpAny_noted ?_
  rw [compTurn_list]
  refine wpAny_bind (wpAny_standAt (wpAny_bind (wpAny_mono (turn n s hI) (fun r s₁ h₁ => ?_) fun _ _ h' => h')))
  cases r with
  | none => exact wpAny_pure h₁
  | some v =>
    refine wpAny_bind (wpAny_mono h₁ (fun _ s₁' h₁' => ?_) fun _ _ h' => h')
    refine wpAny_bind (wpAny_mono h₁' (fun _ s₂ h₂ => wpAny_bind (wpAny_mono h₂ (fun ok s₃ h₃ => ?_) fun _ _ h' => h')) fun _ _ h' => h')
    cases ok with
    | false => exact wpAny_pure ⟨rfl, h₃⟩
    | true =>
      exact wpAny_bind (wpAny_bind (wpAny_mono h₃ (fun x s₄ h₄ => wpAny_bind (wpAny_mono h₄ (fun _ s₅ h₅ => wpAny_pure (wpAny_pure ⟨rfl, h₅⟩)) fun _ _ h' => h')) fun _ _ h' => h'))
section
variable {X : Cx}
def tLc (wi : TI) (g : TG) (tt : TT) (te : TE) (vs : List Nat) : TE := fun σ H Q => wi σ H fun J H1 => ∀ D, H1 D = none → ∃ W : Nat → Nat → Hp → Prop, (∃ m, W 0 m (upd H1 D (.lst []))) ∧ ∀ i m H, W i m H →
  (J.stop i H ∧ Q (.ref D) H) ∨ (J.go i H ∧ ∃ Nx : Hp → Prop, (∀ H', Nx H' → ∃ m', m' < m ∧ W (i + 1) m' H') ∧ ∀ x H', J.yld i H x H' → g x (wipe σ vs) H' fun σ2 H2 => wipe σ2 vs = wipe σ vs ∧ tt σ2 H2 fun b H3 =>
    if b = true then te σ2 H3 fun y H4 => ∃ acc, H4 D = some (.lst acc) ∧ acc.length < sizeLine ∧ Nx (upd H4 D (.lst (acc ++ [y]))) else Nx H3)
theorem lc_core {pins : List (Addr × Obj)} {s : Shared} {σ : St} {H : Hp} {Q : VK} {elt tg iter : Expr} {ifs : List Expr} {scope : Scope} {own : List (Str × Nat)} {pos pos' : Pos} {wi : TI} {g : TG} {tt : TT} {te : TE} {use : Option (Value → Sem Unit)} {Qf : Value → Shared → Prop}
    (hc : X.calm = true) (hN : X.N.Nodup) (I : Inv X pins σ H s) (hi : PI X tg iter wi) (ok : BlkOk X.N X.env.scope scope own)
    (hg : ∀ (s : Shared) (H : Hp) (C : Addr) (cl : List (Str × Addr)) (fp : List Addr), PG (X.blk s H scope (compEnvC scope cl C X.env) fp) tg g) (ht : ∀ (s : Shared) (H : Hp) (C : Addr) (cl : List (Str × Addr)) (fp : List Addr), PTs (X.blk s H scope (compEnvC scope cl C X.env) fp) ifs tt)
    (he : ∀ (s : Shared) (H : Hp) (C : Addr) (cl : List (Str × Addr)) (fp : List Addr), PE (X.blk s H scope (compEnvC scope cl C X.env) fp) elt te) (hs : ∀ x, foldedSetIterable iter X.env x = pure x)
    (h : tLc wi g tt te (own.map (·.2)) σ H Q)
    (hRR : ∀ D C s' m H', Inv X pins σ H' s' → Q (.ref D) H' → s'.heap.Ns C m → FpOk X pins H' C → compPost (model X.prog X.w) X.A X.xe use Qf (.ref D) C (.ok .next) s') :
    wpAny (model X.prog X.w) X.A (comprehension (.ListComp elt [⟨tg, iter, ifs, 0⟩] scope pos) scope X.env pos' (newList []) false (eval iter X.env) use) Qf X.xe s := by
  have hfree : ∀ y ∈ scope.names, y.2 = .free → ∃ c, X.env.cells.lookup y.1 = some c := fun y hy e => by
    rcases ok.free y hy e with k | k
    · exact I.ok.has _ (.inl k)
    · exact I.ok.has _ (.inr k)
  refine wpAny_comprehension_free (use := use) rfl hs (closure_ok hfree) ok.kind (fun y hy e => by rw [ok.uniq y hy, e])
    (thn (hi pins s σ H _ I h) fun xv s1 hx => thn hx fun itv s2 h2 => ?_)
  obtain ⟨it, fp, tn, J, H2, e, I2, T, st2, f2, q⟩ := h2
  subst e
  refine wpAny_newObj_type (newEnv_comp ?_) (by show 0 ≤ sizeLine; decide)
  generalize hD : s2.heap.objs.size = D
  have hDn : H2 D = none := I2.hok.fresh (Nat.le_of_eq hD)
  obtain ⟨W, ⟨m0, w0⟩, turn⟩ := q D hDn
  -- the new list
  generalize hs3 : ({ s2 with heap := s2.heap.push { cls := .type "list", data := .seq ([] : List Value).toArray } } : Shared) = s3
  have I3 : Inv X pins σ (upd H2 D (.lst [])) s3 := by
    rw [← hs3]
    refine I2.laid (t' := s2.toks) (fun b o e => Heap.get?_push_of_some _ e) (Nat.le_of_eq hD) ⟨Nat.zero_le _, [], 0, .nil, ?_⟩
    rw [← hD]
    exact Heap.get?_push_size _ rfl
  have h3 : s3.heap = s2.heap.push { cls := .type "list", data := .seq ([] : List Value).toArray } := by rw [← hs3]
  have sz : ∀ b ∈ fp, b < s2.heap.objs.size := fun b hb => by
    obtain ⟨o, e, _⟩ := T.obj _ _ st2 b hb
    exact Heap.lt_size e
  have f3 : ∀ b ∈ fp, FpOk X pins (upd H2 D (.lst [])) b ∧ b < s3.heap.objs.size := fun b hb => by
    have hlt := sz b hb
    refine ⟨⟨?_, (f2 b hb).2⟩, by rw [h3, Heap.size_push]; exact Nat.lt_succ_of_lt hlt⟩
    rw [upd_ne (by rw [← hD]; exact Nat.ne_of_lt hlt)]
    exact (f2 b hb).1
  have st3 : tn 0 s3.heap := T.keep _ _ _ st2 fun b _ o e => by rw [h3]; exact Heap.get?_push_of_some _ e
  have I4 := block_start I3 ok hN f3
  have pg := hg s3 (upd H2 D (.lst [])) s3.heap.objs.size (cellsFrom (s3.heap.objs.size + 1) scope.names (cloFrom X.env.cells scope.names [])) fp
  have pt := ht s3 (upd H2 D (.lst [])) s3.heap.objs.size (cellsFrom (s3.heap.objs.size + 1) scope.names (cloFrom X.env.cells scope.names [])) fp
  have pe := he s3 (upd H2 D (.lst [])) s3.heap.objs.size (cellsFrom (s3.heap.objs.size + 1) scope.names (cloFrom X.env.cells scope.names [])) fp
  show codeAny _ _ (.compStart (.ListComp elt [⟨tg, iter, ifs, 0⟩] scope pos) 0 (.ref it) (.ref D) (compEnvC scope (cellsFrom (s3.heap.objs.size + 1) scope.names (cloFrom X.env.cells scope.names [])) s3.heap.objs.size X.env)) (compPost (model X.prog X.w) X.A X.xe use Qf (.ref D) s3.heap.objs.size) { s3 with heap := pushCells (s3.heap.push { cls := .type "dict", data := .dict #[] }) scope.names }
  have nfp : ∀ b ∈ fp, (upd H2 D (.lst [])) b = none := fun b hb => (f3 b hb).1.1
  generalize hce : compEnvC scope (cellsFrom (s3.heap.objs.size + 1) scope.names (cloFrom X.env.cells scope.names [])) s3.heap.objs.size X.env = ce at I4 pg pt pe ⊢
  have cL : ce.locals = s3.heap.objs.size := by subst hce; rfl
  generalize hH3 : upd H2 D (.lst []) = H3 at I3 I4 pg pt pe w0 nfp f3
  generalize hs4 : ({ s3 with heap := pushCells (s3.heap.push { cls := .type "dict", data := .dict #[] }) scope.names } : Shared) = s4 at I4 ⊢
  have st4 : tn 0 s4.heap := T.keep _ _ _ st3 fun b _ o e => by rw [← hs4]; exact pushCells_keeps _ _ _ _ (Heap.get?_push_of_some _ e)
  have stat : ∀ {σ' : St} {H' : Hp} {s' : Shared}, Inv (X.blk s3 H3 scope ce fp) [] σ' H' s' → (∀ b ∈ fp, H' b = none) → ∀ b ∈ fp, FpOk (X.blk s3 H3 scope ce fp) [] H' b := fun {σ' H' s'} I' hn b hb =>
    ⟨hn b hb, (I'.ok.exf b hb).1, I'.ok.exfs b hb, .inl hb, fun x c e => (I'.ok.exf b hb).2 x c e, fun p hp => absurd (show p ∈ ([] : List (Addr × Obj)) ++ [] from hp) (by simp)⟩
  have loop : codeAny (model X.prog X.w) X.A (.compLoop (.ListComp elt [⟨tg, iter, ifs, 0⟩] scope pos) 0 (.ref it) (.ref D) ce) (compPost (model X.prog X.w) X.A X.xe use Qf (.ref D) s3.heap.objs.size) s4 := by
    refine compLoop_any (fun n s' => ∃ i H', Inv (X.blk s3 H3 scope ce fp) [] (wipe σ (own.map (·.2))) H' s' ∧ tn i s'.heap ∧ (∀ b ∈ fp, H' b = none) ∧ W i n H') ?_ m0 ⟨0, H3, I4, st4, nfp, w0⟩
    rintro n s5 ⟨i, H5, I5, st5, n5, w5⟩
    rcases turn i n H5 w5 with ⟨stop, qq⟩ | ⟨go, Nx, hNx, step⟩
    · have td := T.done (X.blk s3 H3 scope ce fp) rfl rfl rfl hc i [] s5 _ H5 (fun _ _ => False) I5 (stat I5 n5) st5 stop
      refine thnF td fun r s6 ⟨hr, I6⟩ => ?_
      subst hr
      -- back in the def's context
      have I7 : Inv X pins σ H5 s6 := I3.call' (ch := fp) I6.os I6.base I6.hok I6.bare fun b hb => ⟨(f3 b hb).1.2.2.2.1, (f3 b hb).1.2.1, (f3 b hb).1.2.2.2.2.1, (f3 b hb).1.2.2.2.2.2⟩
      have nC : H5 s3.heap.objs.size = none := by
        have z : H5 ce.locals = none := I6.free
        rw [cL] at z
        exact z
      obtain ⟨m, hn, _⟩ := I6.loc
      have hn : s6.heap.Ns ce.locals m := hn
      rw [cL] at hn
      exact hRR D s3.heap.objs.size s6 m H5 I7 qq hn (I3.fpOk (Nat.le_refl _) nC)
    · have ti := T.item (X.blk s3 H3 scope ce fp) rfl rfl rfl hc i [] s5 _ H5 (fun _ _ => False) I5 (stat I5 n5) st5 go
      refine thnF ti fun r s6 ⟨u, hr, h6⟩ => ?_
      subst hr
      refine thnF h6 fun _ s7 ⟨x, H7, I7, r7, y7, st7, n7⟩ => ?_
      have I7' := I7.pinned (stat I7 n7) (T.obj _ _ st7)
      refine thnF (pg _ s7 _ H7 x u _ I7' r7 (step x H7 y7)) fun _ s8 ⟨σ8, H8, I8, hw8, q8⟩ => ?_
      refine thnF (pt _ s8 σ8 H8 _ I8 q8) fun b s9 ⟨H9, I9, q9⟩ => ?_
      -- the turn's end
      have fin : ∀ {s' : Shared} {H' : Hp}, Inv (X.blk s3 H3 scope ce fp) ([] ++ pinsAt fp s7.heap) σ8 H' s' → Nx H' → ∃ m, m < n ∧ ∃ i H', Inv (X.blk s3 H3 scope ce fp) [] (wipe σ (own.map (·.2))) H' s' ∧ tn i s'.heap ∧ (∀ b ∈ fp, H' b = none) ∧ W i m H' := fun {s' H'} I' nx => by
        obtain ⟨m', hm, w'⟩ := hNx H' nx
        have pin' : ∀ b ∈ fp, ∀ o, s7.heap.get? b = some o → s'.heap.get? b = some o ∧ H' b = none := fun b hb o e =>
          let z := I'.pin (b, o) (List.mem_append_right _ (List.mem_append_right _ (mem_pinsAt hb e)))
          ⟨z.1, z.2.1⟩
        have hl : (wipe σ (own.map (·.2))).length = σ8.length := by rw [← hw8, wipe_length]
        refine ⟨m', hm, i + 1, H', (I'.unpinned (pins := [])).weak hl (fun j v e => ?_), T.keep _ _ _ st7 fun b hb o e => (pin' b hb o e).1, fun b hb => ?_, w'⟩
        · rw [← hw8] at e
          exact (wipe_some e).1
        · obtain ⟨o, e, _⟩ := T.obj _ _ st7 b hb
          exact (pin' b hb o e).2
      cases b with
      | false =>
        simp only [Bool.false_eq_true, if_false] at q9 ⊢
        exact fin I9 q9
      | true =>
        simp only [if_true] at q9 ⊢
        refine thnF (pe _ s9 σ8 H9 _ I9 q9) fun z s10 ⟨yv, H10, I10, r10, acc, hD10, hz10, nx⟩ => ?_
        exact app_ok (X := X.blk s3 H3 scope ce fp) I10 hD10 hz10 r10 fun s11 I11 => fin I11 nx
  exact codeAny_compStart_list loop (T.self X.A 0 _ _ _ st4 loop)
theorem pe_lc {elt tg iter : Expr} {ifs : List Expr} {scope : Scope} {own : List (Str × Nat)} {pos : Pos} {wi : TI} {g : TG} {tt : TT} {te : TE} (hc : X.calm = true) (hN : X.N.Nodup) (hi : PI X tg iter wi) (ok : BlkOk X.N X.env.scope scope own)
    (hg : ∀ (s : Shared) (H : Hp) (C : Addr) (cl : List (Str × Addr)) (fp : List Addr), PG (X.blk s H scope (compEnvC scope cl C X.env) fp) tg g) (ht : ∀ (s : Shared) (H : Hp) (C : Addr) (cl : List (Str × Addr)) (fp : List Addr), PTs (X.blk s H scope (compEnvC scope cl C X.env) fp) ifs tt)
    (he : ∀ (s : Shared) (H : Hp) (C : Addr) (cl : List (Str × Addr)) (fp : List Addr), PE (X.blk s H scope (compEnvC scope cl C X.env) fp) elt te) (hs : ∀ x, foldedSetIterable iter X.env x = pure x := by intro _; rfl) :
    PE X (.ListComp elt [⟨tg, iter, ifs, 0⟩] scope pos) (tLc wi g tt te (own.map (·.2))) := by
  intro pins s σ H Q I h
  rw [eval_ListComp]
  refine lc_core hc hN I hi ok hg ht he hs h fun D C s' m H' I' q hn f => ⟨m, hn, fun h'' sb => ?_⟩
  obtain ⟨f0, f1, f2, f3, f4, f5⟩ := f
  exact ⟨.ref D, H', I'.turned (t' := s'.toks) (fun b o hb e => (sb.2 b hb).trans e) f0 f1 f3 f4 f5, rfl, q⟩
end
def blkC (N : List Str) (sc scope : Scope) (own : List (Str × Nat)) : Bool :=
  (match scope.kind with | .function => true | _ => false) && (scope.names.all fun y => decide (scope.names.lookup y.1 = some y.2)) && (own.all fun p => decide (N[p.2]? = some p.1)) &&
    (scope.names.all fun y => match y.2 with
      | .free => (match sc.names.lookup y.1 with | some .cell => true | some .free => true | _ => false)
      | .local => decide (y.1 ∈ own.map (·.1)) || decide (y.1 ∉ N)
      | .cell => decide (y.1 ∈ own.map (·.1)) || decide (y.1 ∉ N)
      | _ => true)
theorem blkOk_by {N : List Str} {sc scope : Scope} {own : List (Str × Nat)} (h : blkC N sc scope own = true) : BlkOk N sc scope own := by
  unfold blkC at h
  simp only [Bool.and_eq_true, List.all_eq_true, decide_eq_true_eq] at h
  obtain ⟨⟨⟨h1, h2⟩, h3⟩, h4⟩ := h
  refine ⟨?_, h2, h3, fun y hy e => ?_, fun y hy e => ?_⟩
  · split at h1
    · assumption
    · cases h1
  · have q := h4 y hy
    simp only [e] at q
    split at q <;> first | exact .inl (by assumption) | exact .inr (by assumption) | cases q
  · have q := h4 y hy
    rcases e with e | e <;> (simp only [e, Bool.or_eq_true, decide_eq_true_eq] at q; exact q)
end L2
namespace L2
open PySem PySem.Spec PyProof.Rows
section
variable {κ : Type} [DecidableEq κ]
def valV (kvs : List (κ × V)) (k : κ) : Option V := (kvs.find? fun kv => decide (kv.1 = k)).map (·.2)
def putK (kvs : List (κ × V)) (k : κ) (v : V) : List (κ × V) :=
  if (kvs.any fun kv => decide (kv.1 = k)) = true then kvs.map (fun kv => if kv.1 = k then (kv.1, v) else kv) else kvs ++ [(k, v)]
def dropK (kvs : List (κ × V)) (k : κ) : List (κ × V) := kvs.filter fun kv => decide (kv.1 ≠ k)
theorem valV_pos {p : κ × V} {r : List (κ × V)} {k : κ} (e : p.1 = k) : valV (p :: r) k = some p.2 := by simp [valV, List.find?_cons, e]
theorem valV_neg {p : κ × V} {r : List (κ × V)} {k : κ} (e : ¬ p.1 = k) : valV (p :: r) k = valV r k := by simp [valV, List.find?_cons, e]
theorem valV_any (k : κ) : ∀ kvs : List (κ × V), (kvs.any fun kv => decide (kv.1 = k)) = (valV kvs k).isSome
  | [] => rfl
  | p :: r => by
    rw [List.any_cons]
    by_cases e : p.1 = k
    · simp only [valV_pos e, decide_eq_true e, Bool.true_or, Option.isSome_some]
    · rw [valV_neg e, decide_eq_false e, Bool.false_or]; exact valV_any k r
theorem RelO.isSome_eq {o : Option V} {u : Option Value} (r : RelO o u) : o.isSome = u.isSome := by
  cases o with
  | none => cases u with
    | none => rfl
    | some _ => exact (show False from r).elim
  | some _ => cases u with
    | none => exact (show False from r).elim
    | some _ => rfl
theorem RelO.getD {o : Option V} {u : Option Value} {d : V} {d' : Value} (r : RelO o u) (rd : RelV d d') : RelV (o.getD d) (u.getD d') := by
  cases o with
  | none => cases u with
    | none => exact rd
    | some _ => exact (show False from r).elim
  | some _ => cases u with
    | none => exact (show False from r).elim
    | some _ => exact r
theorem KV.val {kvs : List (κ × V)} {vs : List (κ × Value)} (r : KV kvs vs) (k : κ) : RelO (valV kvs k) (valueAt vs k) := by
  unfold KV at r
  induction r with
  | nil => exact True.intro
  | @cons p q ps qs h t ih =>
    obtain ⟨h1, h2⟩ := h
    by_cases e : p.1 = k
    · have e' : q.1 = k := h1.symm.trans e
      have b : valueAt (q :: qs) k = some q.2 := by simp [valueAt, List.find?_cons, e']
      rw [valV_pos e, b]; exact h2
    · have e' : ¬ q.1 = k := fun z => e (h1.trans z)
      have b : valueAt (q :: qs) k = valueAt qs k := by simp [valueAt, List.find?_cons, e']
      rw [valV_neg e, b]; exact ih
theorem KV.any {kvs : List (κ × V)} {vs : List (κ × Value)} (r : KV kvs vs) (k : κ) : (kvs.any fun kv => decide (kv.1 = k)) = vs.any fun kv => decide (kv.1 = k) := by
  unfold KV at r
  induction r with
  | nil => rfl
  | cons h t ih => rw [List.any_cons, List.any_cons, ih, h.1]
theorem KV.repl {kvs : List (κ × V)} {vs : List (κ × Value)} (r : KV kvs vs) (k : κ) {y : V} {u : Value} (ry : RelV y u) :
    KV (kvs.map fun kv => if kv.1 = k then (kv.1, y) else kv) (vs.map fun kv => if kv.1 = k then (kv.1, u) else kv) := by
  unfold KV at r ⊢
  induction r with
  | nil => exact .nil
  | @cons p q ps qs h t ih =>
    rw [List.map_cons, List.map_cons]
    refine .cons ?_ ih
    obtain ⟨h1, h2⟩ := h
    by_cases e : p.1 = k
    · rw [if_pos e, if_pos (h1.symm.trans e)]; exact ⟨h1, ry⟩
    · rw [if_neg e, if_neg (fun z => e (h1.trans z))]; exact ⟨h1, h2⟩
theorem KV.put {kvs : List (κ × V)} {vs : List (κ × Value)} (r : KV kvs vs) (k : κ) {y : V} {u : Value} (ry : RelV y u) : KV (putK kvs k y) (stored vs k u) := by
  unfold putK stored
  rw [r.any k]
  by_cases e : (vs.any fun kv => decide (kv.1 = k)) = true
  · rw [if_pos e, if_pos e]; exact r.repl k ry
  · rw [if_neg e, if_neg e]; exact Paired.snoc r ⟨rfl, ry⟩
theorem KV.drop {kvs : List (κ × V)} {vs : List (κ × Value)} (r : KV kvs vs) (k : κ) : KV (dropK kvs k) (without vs k) := by
  unfold KV at r ⊢
  unfold dropK without
  induction r with
  | nil => exact .nil
  | @cons p q ps qs h t ih =>
    obtain ⟨h1, h2⟩ := h
    rw [List.filter_cons, List.filter_cons]
    by_cases e : p.1 = k
    · have a : ¬ decide (p.1 ≠ k) = true := by simp [e]
      have b : ¬ decide (q.1 ≠ k) = true := by simp [h1.symm.trans e]
      rw [if_neg a, if_neg b]; exact ih
    · have e' : ¬ q.1 = k := fun z => e (h1.trans z)
      have a : decide (p.1 ≠ k) = true := by simp [e]
      have b : decide (q.1 ≠ k) = true := by simp [e']
      rw [if_pos a, if_pos b]; exact .cons ⟨h1, h2⟩ ih
theorem KV.keys {kvs : List (κ × V)} {vs : List (κ × Value)} (r : KV kvs vs) : kvs.map (·.1) = vs.map (·.1) := by
  unfold KV at r
  induction r with
  | nil => rfl
  | cons h t ih => rw [List.map_cons, List.map_cons, ih, h.1]
theorem KV.length {kvs : List (κ × V)} {vs : List (κ × Value)} (r : KV kvs vs) : kvs.length = vs.length := Paired.length r
end
theorem kV_is {P : Program} {w : World} {k : Key} {u : Value} (r : RelV (kV k) u) : (mixKind P w).is k u = true := by
  cases k with
  | inl i => obtain ⟨t, e⟩ := (show ∃ t, u = Value.int i t from r); subst e; exact mixKind_int P w i t
  | inr x => obtain ⟨t, e⟩ := (show ∃ t, u = Value.str x t from r); subst e; exact mixKind_str P w x t
theorem items_are {P : Program} {w : World} : ∀ {ks : List Key} {us : List Value}, Vals (ks.map kV) us → ItemsAre (mixKind P w) ks us
  | [], _, r => by rw [List.map_nil] at r; cases r; exact .nil
  | k :: ks, _, r => by
    rw [List.map_cons] at r
    cases r with
    | cons h t => exact .cons (kV_is h) (items_are t)
abbrev KT (H : Hp) : List (List Key × V) → List (List Key × Addr × Value) → Prop := Paired fun p q => p.1 = q.1 ∧ H q.2.1 = some (.tup (p.1.map kV)) ∧ RelV p.2 q.2.2
theorem KT.val {H : Hp} {kvs : List (List Key × V)} {xs : List (List Key × Addr × Value)} (r : KT H kvs xs) (k : List Key) : RelO (valV kvs k) ((atKey xs k).map (·.2)) := by
  induction r with
  | nil => exact True.intro
  | @cons p q ps qs h t ih =>
    obtain ⟨h1, _, h2⟩ := h
    by_cases e : p.1 = k
    · have e' : q.1 = k := h1.symm.trans e
      have b : atKey (q :: qs) k = some q.2 := by simp [atKey, List.find?_cons, e']
      rw [valV_pos e, b]; exact h2
    · have e' : ¬ q.1 = k := fun z => e (h1.trans z)
      have b : atKey (q :: qs) k = atKey qs k := by simp [atKey, List.find?_cons, e']
      rw [valV_neg e, b]; exact ih
theorem KT.repl {H : Hp} {kvs : List (List Key × V)} {xs : List (List Key × Addr × Value)} (r : KT H kvs xs) (k : List Key) {y : V} {u : Value} (ry : RelV y u) :
    KT H (kvs.map fun kv => if kv.1 = k then (kv.1, y) else kv) (xs.map (putAt k u)) := by
  induction r with
  | nil => exact .nil
  | @cons p q ps qs h t ih =>
    rw [List.map_cons, List.map_cons]
    refine .cons ?_ ih
    obtain ⟨h1, h2, h3⟩ := h
    unfold putAt
    by_cases e : p.1 = k
    · rw [if_pos e, if_pos (h1.symm.trans e)]; exact ⟨h1, h2, ry⟩
    · rw [if_neg e, if_neg (fun z => e (h1.trans z))]; exact ⟨h1, h2, h3⟩
theorem KT.put {H : Hp} {kvs : List (List Key × V)} {xs : List (List Key × Addr × Value)} (r : KT H kvs xs) (k : List Key) {b : Addr} {y : V} {u : Value} (hb : H b = some (.tup (k.map kV))) (ry : RelV y u) :
    KT H (putK kvs k y) (storedH xs k b u) := by
  have e : (kvs.any fun kv => decide (kv.1 = k)) = (atKey xs k).isSome := by
    rw [valV_any, (r.val k).isSome_eq, Option.isSome_map]
  unfold putK storedH
  rw [e]
  by_cases q : (atKey xs k).isSome = true
  · rw [if_pos q, if_pos q]; exact r.repl k ry
  · rw [if_neg q, if_neg q]; exact Paired.snoc r ⟨rfl, hb, ry⟩
theorem KT.keeps {H H' : Hp} {kvs : List (List Key × V)} {xs : List (List Key × Addr × Value)} (r : KT H kvs xs) (ht : ∀ b ys, H b = some (.tup ys) → H' b = some (.tup ys)) : KT H' kvs xs :=
  Paired.mapP r fun _ _ z => ⟨z.1, ht _ _ z.2.1, z.2.2⟩
section
variable {P : Program} {w : World} {H : Hp} {h : Heap} {a : Addr}
theorem rd_of {u : HO} (ok : HOk P w H h) (e : Rd H a u) : ObjOk P w H h a u := e.ok ok
theorem key_of {ks : List Key} (ok : HOk P w H h) (e : H a = some (.tup (ks.map kV))) : (tupleKind (mixKind P w)).is h ks a := by
  obtain ⟨_, its, r, o, h1, h2, n, h3⟩ := (show ObjOk P w H h a (.tup (ks.map kV)) from ok a _ e)
  exact ⟨o, its.toArray, n, h1, h2, h3, by simpa using items_are r⟩
theorem dt_rd {kvs : List (List Key × V)} (ok : HOk P w H h) (e : Rd H a (.dT kvs)) : kvs.length ≤ sizeLine ∧ (a == sysModules) = false ∧
    ∃ xs, KT H kvs xs ∧ h.DictOfH (tupleKind (mixKind P w)) a xs := by
  obtain ⟨z, y, xs, r, o, es, ep, h1, h2, h3, h4, h5⟩ := (show ObjOk P w H h a (.dT kvs) from rd_of ok e)
  refine ⟨z, y, xs, r, o, es, ep, h1, h2, h3, h4, fun x hx => ?_, h5⟩
  have all : ∀ {l : List (List Key × V)} {m : List (List Key × Addr × Value)}, KT H l m → ∀ x ∈ m, (tupleKind (mixKind P w)).is h x.1 x.2.1 := by
    intro l m q
    induction q with
    | nil => intro x hx; exact nomatch hx
    | @cons p q ps qs hq t ih =>
      intro x hx
      rcases List.mem_cons.mp hx with e | hx
      · subst e
        exact key_of ok (by rw [← hq.1]; exact hq.2.1)
      · exact ih x hx
  exact all r x hx
end
def DGet (H : Hp) (a : Addr) (y : V) (r : Option V) : Prop :=
  (∃ kvs k, Rd H a (.dK kvs) ∧ y = kV k ∧ r = valV kvs k) ∨ ∃ kvs k b, Rd H a (.dT kvs) ∧ y = .ref b ∧ H b = some (.tup (k.map kV)) ∧ r = valV kvs k
def DPut (H : Hp) (a : Addr) (y v : V) (H' : Hp) : Prop :=
  (∃ kvs k, H a = some (.dK kvs) ∧ y = kV k ∧ kvs.length < sizeLine ∧ H' = upd H a (.dK (putK kvs k v))) ∨
  ∃ kvs k b, H a = some (.dT kvs) ∧ y = .ref b ∧ H b = some (.tup (k.map kV)) ∧ kvs.length < sizeLine ∧ H' = upd H a (.dT (putK kvs k v))
theorem DGet.k {H : Hp} {a : Addr} {kvs : List (Key × V)} {k : Key} (e : H a = some (.dK kvs)) : DGet H a (kV k) (valV kvs k) := .inl ⟨kvs, k, .inl e, rfl, rfl⟩
theorem DGet.t {H : Hp} {a b : Addr} {kvs : List (List Key × V)} {k : List Key} (e : H a = some (.dT kvs)) (eb : H b = some (.tup (k.map kV))) : DGet H a (.ref b) (valV kvs k) := .inr ⟨kvs, k, b, .inl e, rfl, eb, rfl⟩
theorem DPut.k {H : Hp} {a : Addr} {kvs : List (Key × V)} {k : Key} {v : V} (e : H a = some (.dK kvs)) (hl : kvs.length < sizeLine) : DPut H a (kV k) v (upd H a (.dK (putK kvs k v))) := .inl ⟨kvs, k, e, rfl, hl, rfl⟩
theorem DPut.t {H : Hp} {a b : Addr} {kvs : List (List Key × V)} {k : List Key} {v : V} (e : H a = some (.dT kvs)) (eb : H b = some (.tup (k.map kV))) (hl : kvs.length < sizeLine) :
    DPut H a (.ref b) v (upd H a (.dT (putK kvs k v))) := .inr ⟨kvs, k, b, e, rfl, eb, hl, rfl⟩
end L2
namespace L2
open PySem PySem.Spec PyProof.Rows
def RgC (i j c : Int) (n : Nat) : Prop := c ≠ 0 ∧ c.natAbs < 1073741824 ∧ Builtin.Range.small i j c = true ∧ Builtin.Range.rangeSize i j c = n
theorem RgC.neg {i j : Int} (ha : -(2 ^ 62) ≤ i) (ha' : i < 2 ^ 62) (hb : -(2 ^ 62) ≤ j) (hb' : j < 2 ^ 62) : RgC i j (-1) (i - j).toNat :=
  ⟨by decide, by decide, PySem.W.small_down ha ha' hb hb', PySem.W.rangeSize_downNat i j⟩
end L2
section 
namespace TL
open PySem PySem.Builtin PySem.Builtin.Str PySem.StrLaws
abbrev tl (x : Str) : List Nat := x.cps.toList
def pre (S l : List Nat) : Bool := l.take S.length == S
def par (S : List Nat) : List Nat → List Nat → Option (List Nat × List Nat)
  | _, [] => none
  | acc, c :: r => if pre S (c :: r) = true then some (acc, (c :: r).drop S.length) else par S (acc ++ [c]) r
end TL
end 
namespace Att
open PySem PySem.W PySem.Calls PyProof.Rows
theorem ints_of_wellAll {P : Params} {h : Heap} : ∀ (ns : List Int) (vs : List Value), WellAll P h vs (ns.map WData.int) → IntsAre vs ns := by
  intro ns
  induction ns with
  | nil =>
    intro vs w
    rw [List.map_nil] at w
    cases w
    exact .nil
  | cons n ns ih =>
    intro vs w
    rw [List.map_cons] at w
    cases w with
    | cons a b =>
      cases a
      exact .cons _ _ (ih _ b)
theorem script_of {l : OpenLaw} {n : Nat} (hn : l.most = some n) {P : Params} {h : Heap} {args : List WData} {vals : List Value}
    (hpre : l.row.toRowW.claim.pre args = true) (hwl : WellAll P h vals args) :
    ∃ a vs ns, vals = [Value.ref a] ∧ args = [WData.list (ns.map WData.int)] ∧ h.get? a = some { cls := .type "list", data := .seq vs.toArray } ∧ IntsAre vs ns ∧ ns.length ≤ n := by
  have hsh : WShape.hasAll [] args [.list .int] = true := (pre_splitW hpre).1
  have hc : l.pre.holds [] { args := args } = true := (pre_splitW hpre).2
  obtain ⟨d, r, rfl, h1, h2⟩ := hasAllW_cons hsh
  obtain rfl := hasAllW_nil h2
  obtain ⟨xs, rfl, h3⟩ := hasW_list h1
  obtain ⟨ns, rfl⟩ := items_int h3
  have hlen : ns.length ≤ n := by
    unfold OpenLaw.pre at hc
    have h4 : (WTm.not (.lt (.lit (.int (n : Int))) (.len (.arg 0)))).holds [] { args := [.list (ns.map .int)] } = true := by
      have h4 := (holds_andW hc).1
      rw [hn] at h4
      exact h4
    have h5 := condW_of h4 (w_not (w_lt w_lit (w_len_list (w_arg rfl))))
    rw [List.length_map] at h5
    refine Nat.le_of_not_lt fun q => ?_
    have q' : (n : Int) < ((ns.length : Nat) : Int) := by omega
    first
      | (rw [decide_eq_true q'] at h5; exact absurd h5 (by decide))
      | (simp at h5; omega)
  cases hwl with
  | cons w1 w2 =>
    cases w2
    cases w1 with
    | list ho hall => exact ⟨_, _, ns, rfl, rfl, ho, ints_of_wellAll ns _ hall, hlen⟩
theorem post_true (l : OpenLaw) (args : List WData) : l.row.toRowW.claim.post args (.bool true) args = true :=
  postW_of (r := l.row.toRowW) (X := (true == true))
    (show WShape.has [] (.bool true) .bool = true by first | rfl | decide | simp [WShape.has, WShape.arms, WShape.armsAll])
    (show (WTm.eq .res (.lit (.bool true))).value [] { args := args, res := some (.bool true), after := args } = some (.bool (true == true)) from w_eq_bool (w_res rfl) w_lit) rfl
theorem attach_call {l : OpenLaw} {n : Nat} {q : Program} {loose : List Str} {XP : (Str → Option Value) → Heap → Prop} {YP : World → Heap → Prop} {d : DefRec}
    (hn : l.most = some n) (hdf : d.params.defaults = [])
    (call : ∀ (w : World) (s₀ s₁ : Shared) (mg mb : Str → Option Value) (fa : Addr) (o : Obj) (pm cd doc : Value) (a : Addr) (vs : List Value) (ns : List Int),
      Ground q loose [] XP w s₀ mg mb s₁.heap → YP w s₁.heap →
      s₁.heap.get? fa = some o → o.data = .func (docDef d.name d.params d.body d.scope pm cd doc) → s₁.heap.CodeRec cd d.name → mg d.name = some (.ref fa) →
      s₁.heap.get? a = some { cls := .type "list", data := .seq vs.toArray } → IntsAre vs ns → ns.length ≤ n → s₁.gens = #[] →
      codeAny (model l.prog w) callerA (.call (.ref fa) ⟨[.ref a], []⟩) (fun r s' => r = .ok (.ret (.bool true)) ∧ OldK s₁.heap s'.heap ∧ s'.os = s₁.os ∧ AllBare s'.gens) s₁) :
    WalkO q loose XP YP l.row.toRowW d [] (fun f vs => PySem.call f vs) := by
  intro w s₀ s₁ mg mb G Y fa o pm cd doc dV kV ho hd hcd hD hmg hg args vals as hpre hlay hrd hwl hlo
  obtain rfl : dV = .none := Dflts.none hD hdf
  obtain rfl : kV = .none := Dflts.noKw hD
  obtain ⟨a, vs, ns, rfl, rfl, hobj, hints, hlen⟩ := script_of hn hpre hwl
  refine enter_call (codeAny_mono (call w s₀ s₁ mg mb fa o pm cd doc a vs ns G Y ho (fd_plain hd) hcd hmg hobj hints hlen hg) fun r s' hq => ?_)
  obtain ⟨rfl, h2, h3, h4⟩ := hq
  exact ⟨.inl ⟨.bool true, .bool true, [], rfl, fun _ => rfl, .bool true, post_true l _, fun _ => ⟨List.Pairwise.nil, fun _ hm => (nomatch hm)⟩⟩, h2, h3, h4⟩
end Att
namespace L2
open PySem PySem.Spec PyProof.Rows
theorem vals_ints : ∀ {vs : List Value} {ns : List Int}, IntsAre vs ns → Vals (ns.map V.int) vs
  | _, _, .nil => .nil
  | _, _, .cons n t h => .cons ⟨t, rfl⟩ (vals_ints h)
def Only (H : Hp) : Prop := ∀ b, H b = none ∨ (∃ o xs, H b = some (.frz o (.lst xs))) ∨ ∃ q, H b = some (.tbl false q)
theorem law_call {P : Program} {w : World} {K : PySem.W.Frag} {mg mb : Str → Option Value} {CX : CXT} {k : Nat} {fa a : Addr} {fd : FuncData} {x : Str} {sp : Sp} {s₁ : Shared} {vs : List Value} {ns : List Int}
    (KX : K.In s₁.heap) (hns : s₁.heap.Ns mainGlobals mg) (hb : s₁.heap.Ns builtinsNs mb) (hbm : ∃ bm ob, mg "__builtins__" = some (.ref bm) ∧ bm ≠ builtinsNs ∧ s₁.heap.get? bm = some ob ∧ ob.cls = .type "module" ∧ ob.dict = some builtinsNs ∧ ob.data = .plain) (htc : ∀ x ∈ lamDefs, ∀ c P, PySem.W.tabIn K x = some (c, P) → PySem.W.CodeHd s₁.heap c P ∧ s₁.heap.get? P = some (PySem.W.tabObj #[])) (hinj : ∀ x ∈ lamDefs, ∀ y ∈ lamDefs, ∀ c c' P, PySem.W.tabIn K x = some (c, P) → PySem.W.tabIn K y = some (c', P) → x = y) (hnt : ∀ b ps, K.lookup b ≠ some (PySem.W.tabObj ps)) (hbb : ∀ x : Str, x ≠ "__name__" → mb x = bootBuiltins x) (hlim : s₁.heap.NoLimit) (hg : s₁.gens = #[])
    (ha : s₁.heap.get? a = some { cls := .type "list", data := .seq vs.toArray }) (hi : IntsAre vs ns) (hl : ns.length ≤ sizeLine) (hr : Room k callerA)
    (F : ∀ base : Heap, K.In base → base.Ns mainGlobals mg → FnOk P w K mg base CX k fa fd [x] sp) (hbind : ∀ (s : Shared) (u : Value), BindsTo s fd ⟨[u], []⟩ [(x, u)])
    (hsp : ∀ H : Hp, Only H → SqL K H a (ns.map V.int) → sp [.ref a] H (fun v _ => v = .bl true) fun _ _ _ => False)
    (hCX : ∀ H e s', CX [] H s₁ (fun _ _ _ => False) e s' → False) :
    codeAny (model P w) callerA (.call (.ref fa) ⟨[.ref a], []⟩) (fun r s' => r = .ok (.ret (.bool true)) ∧ OldK s₁.heap s'.heap ∧ s'.os = s₁.os ∧ AllBare s'.gens) s₁ := by
  have rv := vals_ints hi
  have lenV := hi.length
  -- from an abstract heap in which nothing but the script may be tracked
  have core : ∀ H : Hp, Only H → SqL K H a (ns.map V.int) → HOk P w H s₁.heap → (∀ b u, H b = some u → (b = a ∧ K.lookup a = none) ∨ s₁.heap.get? b = some (PySem.W.tabObj #[])) → TabH K H → (∀ b q, H b = some (.tbl false q) → ∃ x ∈ lamDefs, ∃ c P, PySem.W.tabIn K x = some (c, P) ∧ b = P) →
      codeAny (model P w) callerA (.call (.ref fa) ⟨[.ref a], []⟩) (fun r s' => r = .ok (.ret (.bool true)) ∧ OldK s₁.heap s'.heap ∧ s'.os = s₁.os ∧ AllBare s'.gens) s₁ := by
    intro H hO hS hok hA hTB hTt
    have base_of : ∀ {b : Addr} {o : Obj}, s₁.heap.get? b = some o → H b = none → (hidT s₁.heap H).get? b = some o := fun e n => hidT_get e n
    have noA : ∀ {b : Addr} {o : Obj} {es : Array DictEntry} {ep : Nat}, s₁.heap.get? b = some o → o.data = .dict es ep → H b = none := fun {b o es ep} e d => by
      cases q : H b with
      | none => rfl
      | some u =>
        rcases hA b u q with ⟨e', _⟩ | e'
        · subst e'
          rw [ha] at e; cases e
          have d' : Data.seq vs.toArray _ = Data.dict es ep := d
          cases d'
        · rw [e'] at e; cases e
          have d' : Data.fields #[] = Data.dict es ep := d
          cases d'
    have nsK : ∀ {b : Addr} {m : Str → Option Value}, s₁.heap.Ns b m → (hidT s₁.heap H).Ns b m := fun {b m} ⟨o, es, ep, e, d, r⟩ => ⟨o, es, ep, base_of e (noA e d), d, r⟩
    have hKb : K.In (hidT s₁.heap H) := fun b o e => base_of (KX b o e) (by
      cases q : H b with
      | none => rfl
      | some u =>
        rcases hA b u q with ⟨e', hK⟩ | e'
        · subst e'
          rw [hK] at e; cases e
        · have z := KX b o e
          rw [e'] at z
          cases z
          exact absurd e (hnt b _))
    have plK : ∀ {b : Addr} {o : Obj}, s₁.heap.get? b = some o → o.cls ≠ .none → o.cls ≠ .type "list" → (hidT s₁.heap H).get? b = some o := fun {b o} e n1 n2 => base_of e (by
      cases q : H b with
      | none => rfl
      | some u =>
        rcases hA b u q with ⟨e', _⟩ | e'
        · subst e'
          rw [ha] at e; cases e
          exact absurd rfl n2
        · rw [e'] at e; cases e
          exact absurd rfl n1)
    have hbm' : ∃ bm ob, mg "__builtins__" = some (.ref bm) ∧ bm ≠ builtinsNs ∧ (hidT s₁.heap H).get? bm = some ob ∧ ob.cls = .type "module" ∧ ob.dict = some builtinsNs ∧ ob.data = .plain := by
      obtain ⟨bm, ob, b1, b2, b3, b4, b5⟩ := hbm
      exact ⟨bm, ob, b1, b2, plK b3 (by rw [b4]; intro z; cases z) (by rw [b4]; intro z; injection z with z; exact absurd z (by decide)), b4, b5⟩
    have htc' : ∀ x ∈ lamDefs, ∀ c P, PySem.W.tabIn K x = some (c, P) → PySem.W.CodeHd (hidT s₁.heap H) c P := fun x hx c P e => by
      obtain ⟨o, vs, file, tf, flags, tg, inF, text, tt, f1, f2, f3⟩ := (htc x hx c P e).1
      exact ⟨o, vs, file, tf, flags, tg, inF, text, tt, plK f1 (by rw [f2]; intro z; cases z) (by rw [f2]; intro z; injection z with z; exact absurd z (by decide)), f2, f3⟩
    have hM : Mod K mg (hidT s₁.heap H) := ⟨hbm', htc', hKb, nsK hns, ⟨mb, nsK hb, hbb⟩, let ⟨mc, h1, h2⟩ := hlim; ⟨mc, nsK h1, h2⟩⟩
    have e0 : Env0 P w K mg (hidT s₁.heap H) callerA [] s₁ H := ⟨rfl, hM, fun b o e => of_hidT e, Nat.le_of_eq (hidT_size _ _), trivial, fun b hb => absurd (show b ∈ ([] : List Addr) from hb) (by simp), hTB, hok, .of_eq hg⟩
    refine codeAny_mono ((F _ hKb (nsK hns)).run callerA [] s₁ H ⟨[.ref a], []⟩ [.ref a] [.ref a] _ _ hr e0 (hbind s₁ (.ref a)) (.cons rfl .nil) (hsp H hO hS)) fun r s' h => ?_
    cases r with
    | error e => exact (hCX H e s' h).elim
    | ok fl =>
      cases fl with
      | next => exact False.elim h
      | brk => exact False.elim h
      | cont => exact False.elim h
      | ret u =>
        obtain ⟨v, H', os, bare, un, hok', r', q⟩ := h
        have q' : v = .bl true := q
        subst q'
        obtain rfl : u = Value.bool true := r'
        refine ⟨rfl, ⟨fun b o e => ?_, fun b o e => un.there b o e (by simp)⟩, os, bare⟩
        cases q : H b with
        | none => exact .inl (un.keep b o e q (by intro z; exact absurd (show b ∈ ([] : List Addr) from z) (by simp)) (by simp))
        | some u =>
          rcases hO b with z | ⟨ob, xs, z⟩ | ⟨qn, z⟩
          · rw [q] at z; cases z
          · have z2 := un.frzs b ob _ z
            obtain ⟨e1, _⟩ := hok b _ z
            obtain ⟨e2, _⟩ := hok' b _ z2
            rw [e] at e1; cases e1
            exact .inl e2
          · have z2 := un.tbls b _ _ z
            obtain ⟨ps, e2, _⟩ := hok' b _ z2
            rw [q] at z
            cases z
            obtain ⟨x, hx, c, P, et, eb⟩ := hTt b qn q
            subst eb
            obtain ⟨C, e3⟩ := htc x hx c b et
            rw [e] at e3
            cases e3
            exact .inr (.inl ⟨(C.tab e).isCodeTable, rfl, #[], ps, rfl, by rw [e2]; simp⟩)
  classical
  let isT : Addr → Prop := fun b => ∃ x ∈ lamDefs, ∃ c P, PySem.W.tabIn K x = some (c, P) ∧ b = P
  let tq : Addr → Str := fun b => if h : isT b then lamQ (Classical.choose h) else ""
  have tqe : ∀ x ∈ lamDefs, ∀ c P, PySem.W.tabIn K x = some (c, P) → tq P = lamQ x := fun x hx c P e => by
    have h : isT P := ⟨x, hx, c, P, e, rfl⟩
    show (if h : isT P then lamQ (Classical.choose h) else "") = _
    rw [dif_pos h]
    obtain ⟨h1, c', P', h2, h3⟩ := Classical.choose_spec h
    subst h3
    rw [hinj _ h1 x hx c' c P h2 e]
  have isTtab : ∀ b, isT b → s₁.heap.get? b = some (PySem.W.tabObj #[]) := fun b ⟨x, hx, c, P, e, eb⟩ => by rw [eb]; exact (htc x hx c P e).2
  have aT : ¬ isT a := fun h => by have := isTtab a h; rw [ha] at this; cases this
  have okT : ∀ (H : Hp) (b : Addr), isT b → ObjOk P w H s₁.heap b (.tbl false (tq b)) := fun H b h => ⟨#[], isTtab b h, trivial, fun pos cv z => by cases z⟩
  cases hk : K.lookup a with
  | some o =>
    have e := KX a o hk
    rw [ha] at e
    cases e
    refine core (fun b => if isT b then some (.tbl false (tq b)) else none) (fun b => ?_) (.inr (.inr ⟨_, vs.toArray, _, hk, rfl, rfl, rfl, by rw [List.size_toArray, lenV]; exact hl, by simpa using rv⟩)) (fun b u z => ?_) (fun b u z => ?_) (fun x hx c P e => ?_) fun b q z => ?_
    · by_cases hb : isT b
      · exact .inr (.inr ⟨_, if_pos hb⟩)
      · exact .inl (if_neg hb)
    · by_cases hb : isT b
      · have z' := (if_pos hb).symm.trans z
        cases z'
        exact okT _ b hb
      · have z' := (if_neg hb).symm.trans z
        cases z'
    · by_cases hb : isT b
      · exact .inr (isTtab b hb)
      · have z' := (if_neg hb).symm.trans z
        cases z'
    · show (if isT P then some (HO.tbl false (tq P)) else none) = _
      rw [if_pos ⟨x, hx, c, P, e, rfl⟩, tqe x hx c P e]
    · by_cases hb : isT b
      · exact hb
      · have z' := (if_neg hb).symm.trans z
        cases z'
  | none =>
    refine core (fun b => if b = a then some (.frz { cls := .type "list", data := .seq vs.toArray } (.lst (ns.map V.int))) else if isT b then some (.tbl false (tq b)) else none) (fun b => ?_) (.inl (.inr ⟨{ cls := .type "list", data := .seq vs.toArray }, if_pos rfl⟩)) (fun b u z => ?_) (fun b u z => ?_) (fun x hx c P e => ?_) fun b q z => ?_
    · by_cases hb : b = a
      · exact .inr (.inl ⟨_, _, if_pos hb⟩)
      · by_cases hc : isT b
        · exact .inr (.inr ⟨_, (if_neg hb).trans (if_pos hc)⟩)
        · exact .inl ((if_neg hb).trans (if_neg hc))
    · by_cases hb : b = a
      · have z' := (if_pos hb).symm.trans z
        cases z'
        subst hb
        exact ⟨ha, by rw [List.length_map]; exact hl, vs, _, rv, ha⟩
      · by_cases hc : isT b
        · have z' := ((if_neg hb).trans (if_pos hc)).symm.trans z
          cases z'
          exact okT _ b hc
        · have z' := ((if_neg hb).trans (if_neg hc)).symm.trans z
          cases z'
    · by_cases hb : b = a
      · exact .inl ⟨hb, hk⟩
      · by_cases hc : isT b
        · exact .inr (isTtab b hc)
        · have z' := ((if_neg hb).trans (if_neg hc)).symm.trans z
          cases z'
    · have hP : isT P := ⟨x, hx, c, P, e, rfl⟩
      show (if P = a then some (HO.frz { cls := .type "list", data := .seq vs.toArray } (.lst (ns.map V.int))) else if isT P then some (HO.tbl false (tq P)) else none) = _
      rw [if_neg (fun z : P = a => aT (by rw [← z]; exact hP)), if_pos hP, tqe x hx c P e]
    · by_cases hb : b = a
      · have z' := (if_pos hb).symm.trans z
        cases z'
      · by_cases hc : isT b
        · exact hc
        · have z' := ((if_neg hb).trans (if_neg hc)).symm.trans z
          cases z'
end L2
namespace L2
open PySem PySem.Spec PyProof.Rows
abbrev KOf {K : PySem.W.Frag} {h : Heap} (_ : K.In h) : PySem.W.Frag := K
theorem walk_of {l : PySem.W.OpenLaw} {n k : Nat} {q : Program} {loose : List Str} {XP : (Str → Option Value) → Heap → Prop} {YP : World → Heap → Prop} {d : DefRec} {K : Params → PySem.W.Frag} {CX : World → CXT} {sp : World → Sp} {x : Str}
    (hn : l.most = some n) (hn2 : n ≤ sizeLine) (hdf : d.params.defaults = []) (hr : Room k callerA)
    (hY : ∀ (w : World) (h : Heap), YP w h → (K w.params).In h) (hnt : ∀ w : World, PySem.W.noTabs (K w.params) = true)
    (htb : ∀ (w : World), ∀ x ∈ lamDefs, (∃ d, (recsOf q).find? (fun e => e.name == x) = some d) ∨ PySem.W.tabIn (K w.params) x = none)
    (hinj : ∀ (w : World), ∀ x ∈ lamDefs, ∀ y ∈ lamDefs, ∀ c c' P, PySem.W.tabIn (K w.params) x = some (c, P) → PySem.W.tabIn (K w.params) y = some (c', P) → x = y)
    (F : ∀ (w : World) (mg : Str → Option Value) (fa : Addr) (h : Heap), (K w.params).In h → h.Ns mainGlobals mg → mg d.name = some (.ref fa) →
      ∃ fd : FuncData, (∀ (s : Shared) (u : Value), BindsTo s fd ⟨[u], []⟩ [(x, u)]) ∧
        ∀ base : Heap, (K w.params).In base → base.Ns mainGlobals mg → FnOk l.prog w (K w.params) mg base (CX w) k fa fd [x] (sp w))
    (hsp : ∀ (w : World) (H : Hp) (a : Addr) (ns : List Int), ns.length ≤ n → Only H → SqL (K w.params) H a (ns.map V.int) → sp w [.ref a] H (fun v _ => v = .bl true) fun _ _ _ => False)
    (hCX : ∀ (w : World) (H : Hp) (s : Shared) (e : Value) (s' : Shared), CX w [] H s (fun _ _ _ => False) e s' → False) :
    PySem.W.WalkO q loose XP YP l.row.toRowW d [] (fun f vs => PySem.call f vs) := by
  refine Att.attach_call hn hdf fun w s₀ s₁ mg mb fa o pm cd doc a vs ns G Y ho hd hcd hmg hobj hints hlen hg => ?_
  have KX := hY w _ Y
  obtain ⟨fd, hb, hF⟩ := F w mg fa _ KX G.T.g hmg
  have htc : ∀ x ∈ lamDefs, ∀ c P, PySem.W.tabIn (K w.params) x = some (c, P) → PySem.W.CodeHd s₁.heap c P ∧ s₁.heap.get? P = some (PySem.W.tabObj #[]) := fun x hx c P e => by
    rcases htb w x hx with ⟨d', hr'⟩ | z
    · exact PySem.W.tab_of G.T KX hr' e
    · rw [z] at e; cases e
  have hnt' : ∀ b ps, (K w.params).lookup b ≠ some (PySem.W.tabObj ps) := fun b ps e => by
    have h2 := List.all_eq_true.mp (hnt w) (b, _) (PySem.W.mem_of_lookupK e)
    exact absurd (show false = true from h2) Bool.false_ne_true
  exact law_call KX G.T.g G.T.b G.T.bmain htc (hinj w) hnt' G.T.builtins G.T.nolimit hg hobj hints (Nat.le_trans hlen hn2) hr hF hb (fun H hO hS => hsp w H a ns hlen hO hS) fun H e s' => hCX w H s₁ e s'
end L2
namespace L2
open PySem PySem.Spec PyProof.Rows
def inClass (s : Stmt) (j : Nat) : Stmt := match s with
  | .ClassDef _ _ _ body _ _ _ _ _ _ _ => body.getD j (.Pass ⟨0, 0, 0, 0⟩)
  | _ => .Pass ⟨0, 0, 0, 0⟩
def defArgs (s : Stmt) : Arguments := match s with
  | .FunctionDef _ a _ _ _ _ _ _ _ _ => a
  | _ => { posonlyargs := [], args := [], vararg := none, kwonlyargs := [], kw_defaults := [], kwarg := none, defaults := [] }
def defBody (s : Stmt) : List Stmt := match s with
  | .FunctionDef _ _ b _ _ _ _ _ _ _ => b
  | _ => []
def defScope (s : Stmt) : Scope := match s with
  | .FunctionDef _ _ _ _ _ _ sc _ _ _ => sc
  | _ => { kind := .function, names := [], isGenerator := false, isCoroutine := false }
abbrev CX0 : CXT := fun _ _ _ _ _ _ => False
abbrev E0 : XK := fun _ _ _ => False
theorem pass0 {X : Cx} : Passes CX0 X E0 := fun _ _ _ _ _ _ _ h => h.elim
structure Fun (K : PySem.W.Frag) (x qual : Str) (st : Stmt) (f : Addr) (fd : FuncData) : Prop where
  ex : ∃ (oc : Value) (od : Option Addr) (kV doc pm : Value) (an : Option Addr) (cdv ct : Value) (osl : Array (Option Value)),
    fd = PySem.W.fnOf x qual (defArgs st) (defBody st) (defScope st) .none kV doc pm an cdv ct ∧ K.lookup f = some ⟨oc, od, .func fd, osl⟩ ∧ PySem.W.codeIn K cdv qual = true
  kp : PySem.W.keepIn K (.ref f) = true
section
variable {P : Program} {w : World} {K : PySem.W.Frag} {mg : Str → Option Value} {base : Heap}
theorem Fun.ok {x qual : Str} {st : Stmt} {f : Addr} {fd : FuncData} {N ps : List Str} {k : Nat} {sp : Sp} (F : Fun K x qual st f fd) (S : FnScope N ps (defScope st)) (len : ∀ vs H Q E, sp vs H Q E → vs.length = ps.length)
    (hbody : ∀ (cdv : Value) (A : Around) (outer : List Env) (s : Shared) (H : Hp) (vs : List V) (Q : VK) (E : XK), Room k (A.deeper (envOfC qual (defScope st) s.heap.objs.size f cdv)) → sp vs H Q E →
      ∃ t, PSs (cxOf CX0 P w K mg base N qual (defScope st) f cdv A outer s H E).nox (defBody st) t ∧ t { nx := fun _ H' => Q .non H', rt := Q } (start N vs) H) : FnOk P w K mg base CX0 (k + 1) f fd ps sp := by
  obtain ⟨oc, od, kV, doc, pm, an, cdv, ct, osl, rfl, lk, hcd⟩ := F.ex
  refine fn_of lk hcd S len fun A outer s H vs Q E hr hsp => ?_
  obtain ⟨t, h, q⟩ := hbody cdv A outer s H vs Q E hr hsp
  exact ⟨t, h.nox, q⟩
theorem Fun.binds {x qual : Str} {st : Stmt} {f : Addr} {fd : FuncData} {ps : List Str} (F : Fun K x qual st f fd)
    (h : ∀ (kV doc pm : Value) (an : Option Addr) (cdv ct : Value) (us : List Value), us.length = ps.length → bindArgs (PySem.W.fnOf x qual (defArgs st) (defBody st) (defScope st) .none kV doc pm an cdv ct) ⟨us, []⟩ = pure (ps.zip us)) : Binds K fd ps [] := by
  obtain ⟨oc, od, kV, doc, pm, an, cdv, ct, osl, rfl, lk, hcd⟩ := F.ex
  exact .all (h kV doc pm an cdv ct)
theorem fun_mk {x qual : Str} {st : Stmt} {f : Addr} {oc : Value} {od an : Option Addr} {osl : Array (Option Value)} {kV doc pm cdv ct : Value} (l : K.lookup f = some ⟨oc, od, .func (PySem.W.fnOf x qual (defArgs st) (defBody st) (defScope st) .none kV doc pm an cdv ct), osl⟩)
    (c : PySem.W.codeIn K cdv qual = true) (k : PySem.W.keepIn K (.ref f) = true) : Fun K x qual st f (PySem.W.fnOf x qual (defArgs st) (defBody st) (defScope st) .none kV doc pm an cdv ct) := ⟨⟨oc, od, kV, doc, pm, an, cdv, ct, osl, rfl, l, c⟩, k⟩
end
section
variable {X : Cx}
theorem pv (i : Nat) {x : Str} {pos : Pos} (hN : X.N[i]? = some x := by rfl) (hv : Vis X.env.scope x := by first | exact Or.inl rfl | exact Or.inr (Or.inl rfl) | exact Or.inr (Or.inr rfl)) (hd : (x == ("__debug__" : Str)) = false := by decide)
    (hcd : (x == ("__classdict__" : Str)) = false := by decide) : PE X (.Name x pos) (tVar i) := pe_var hN hv hd hcd
end
theorem iteF {A B : Prop} (h : B) : if false = true then A else B := by
  rw [if_neg Bool.false_ne_true]
  exact h
theorem iteT {A B : Prop} (h : A) : if true = true then A else B := by
  rw [if_pos rfl]
  exact h
theorem ite2 {c A B : Prop} [Decidable c] (h1 : c → A) (h2 : ¬ c → B) : if c then A else B := by
  by_cases h : c
  · rw [if_pos h]
    exact h1 h
  · rw [if_neg h]
    exact h2 h
def Same (H H' : Hp) : Prop := ∀ b o, H b = some o → H' b = some o
theorem Same.refl (H : Hp) : Same H H := fun _ _ h => h
theorem Same.trans {H H1 H2 : Hp} (a : Same H H1) (b : Same H1 H2) : Same H H2 := fun c o h => b c o (a c o h)
theorem Same.free {H H' : Hp} (e : Same H H') {l : Addr} (h : H' l = Option.none) : H l = Option.none := by
  cases q : H l with
  | none => rfl
  | some o =>
    rw [e l o q] at h
    cases h
theorem Same.seq {K : PySem.W.Frag} {H H' : Hp} {a : Addr} {xs : List V} (e : Same H H') (h : SqL K H a xs) : SqL K H' a xs := by
  rcases h with (h | ⟨o, h⟩) | h
  · exact .inl (.inl (e _ _ h))
  · exact .inl (.inr ⟨o, e _ _ h⟩)
  · rcases h with h | h
    · exact .inr (.inl (e _ _ h))
    · exact .inr (.inr h)
theorem Same.made {H H1 : Hp} {x dx C : Addr} (nx : H x = Option.none) (nd : H dx = Option.none) (k : ∀ b o, (upd (upd H dx (.own x)) x (.ins C dx [])) b = some o → b ≠ x → H1 b = some o) : Same H H1 := fun b o e =>
  k b o (by rw [upd_ne (ne_of_none e nx), upd_ne (ne_of_none e nd)]; exact e) (ne_of_none e nx)
end L2
set_option Elab.async false
set_option linter.all false
set_option maxRecDepth 100000
namespace L2
open PySem PySem.Spec PyProof.Rows
section
variable {X : Cx}
def TyP (K : PySem.W.Frag) (H : Hp) (x : V) (t : Value) : Prop := TyOf K H x t ∨ ∃ a kvs, x = .ref a ∧ Rd H a (.dT kvs) ∧ t = .type "dict"
theorem call_isi : CallR X (.builtin "isinstance") (fun xs H Q => ∃ x T t b, xs = [x, .ty T] ∧ TyP X.K H x t ∧ PySem.W.kitOne X.K t (.type T) = some b ∧ Q (.bl b) H) := by
  intro pins s σ H xs us Q I r h
  obtain ⟨x, T, t, b, rfl, ty, e, q⟩ := h
  obtain ⟨u, w', rfl, rx, rT⟩ := vals2 r
  cases rT
  rcases ty with ty | ⟨a, kvs, rfl, rd, rfl⟩
  · exact isinst_ok I rx ty e fun tk => ⟨.bl b, H, I.tok _, rfl, q⟩
  · cases (show u = Value.ref a from rx)
    obtain ⟨_, _, xs, _, o, es, ep, h1, h2, _⟩ := dt_rd I.hok rd
    exact PySem.W.kia_one PySem.W.kitx_dict I.kIn ⟨o, h1, h2.1⟩ e (fun z => nomatch z) fun tk => ⟨.bl b, H, I.tok _, rfl, q⟩
def rgI (lo : Int) (n : Nat) : List Int := (List.range n).map fun (k : Nat) => lo + (k : Int)
theorem rgI_length (lo : Int) (n : Nat) : (rgI lo n).length = n := by simp [rgI]
theorem vals_of_items : ∀ {ns : List Int} {l : List Value}, l.length = ns.length → (∀ (j : Nat) (v : Value), l[j]? = some v → ∃ t, v = .int (ns.getD j 0) t) → Vals (ns.map V.int) l
  | [], [], _, _ => .nil
  | [], _ :: _, h, _ => by simp at h
  | _ :: _, [], h, _ => by simp at h
  | n :: ns, v :: l, h, f => by
    refine .cons ?_ (vals_of_items (by simpa using h) fun j w e => ?_)
    · exact f 0 v rfl
    · exact f (j + 1) w (by simpa using e)
def CPw (i j : Int) : Prop := 0 ≤ j ∧ j ≤ 1000 ∧ i.natAbs < 2 ^ 200
theorem op_pw : OpR X (binaryOp .Pow) (rI CPw fun i j => .int (i ^ j.toNat)) := opI fun i j _ _ _ _ _ hc q => by
  obtain ⟨h1, h2, h3⟩ := hc
  have hb : Builtin.Int.intBits i ≤ 200 := intBits_le h3
  refine pow_int h1 ?_ q
  have : ((Builtin.Int.intBits i : Nat) : Int) * j ≤ 200 * 1000 := Int.mul_le_mul (by omega) h2 h1 (by decide)
  exact Int.le_trans this (by decide)
end
end L2
namespace L2
open PySem PySem.Spec PyProof.Rows
structure Fn (K : PySem.W.Frag) (mg : Str → Option Value) (x : Str) (st : Stmt) : Prop where
  ex : ∃ f fd, Fun K x x st f fd ∧ mg x = some (.ref f)
structure Dn (P : Program) (w : World) (K : PySem.W.Frag) (mg : Str → Option Value) (base : Heap) (k : Nat) (x : Str) (ps : List Str) (sp : Sp) : Prop where
  ex : ∃ f fd, FnOk P w K mg base CX0 k f fd ps sp ∧ (∀ us : List Value, us.length = ps.length → bindArgs fd ⟨us, []⟩ = pure (ps.zip us)) ∧ PySem.W.keepIn K (.ref f) = true ∧ mg x = some (.ref f) ∧ ∃ o, K.lookup f = some o ∧ o.data = .func fd
section
variable {P : Program} {w : World} {K : PySem.W.Frag} {mg : Str → Option Value} {base : Heap} {x : Str} {st : Stmt} {N ps : List Str} {k : Nat} {sp : Sp}
theorem Fn.dn (F : Fn K mg x st) (S : FnScope N ps (defScope st))
    (hb : ∀ (kV doc pm : Value) (an : Option Addr) (cdv ct : Value) (us : List Value), us.length = ps.length → bindArgs (PySem.W.fnOf x x (defArgs st) (defBody st) (defScope st) .none kV doc pm an cdv ct) ⟨us, []⟩ = pure (ps.zip us))
    (len : ∀ vs H Q E, sp vs H Q E → vs.length = ps.length)
    (hbody : ∀ (f : Addr) (cdv : Value) (A : Around) (outer : List Env) (s : Shared) (H : Hp) (vs : List V) (Q : VK) (E : XK), Room k (A.deeper (envOfC x (defScope st) s.heap.objs.size f cdv)) → sp vs H Q E →
      ∃ t, PSs (cxOf CX0 P w K mg base N x (defScope st) f cdv A outer s H E).nox (defBody st) t ∧ t { nx := fun _ H' => Q .non H', rt := Q } (start N vs) H) : Dn P w K mg base (k + 1) x ps sp := by
  obtain ⟨f, fd, FF, hm⟩ := F.ex
  have ok := FF.ok S len (hbody f)
  have kp := FF.kp
  obtain ⟨oc, od, kV, doc, pm, an, cdv, ct, osl, rfl, lk, hcd⟩ := FF.ex
  exact ⟨f, _, ok, hb kV doc pm an cdv ct, kp, hm, _, lk, rfl⟩
theorem Dn.mono {j : Nat} (D : Dn P w K mg base k x ps sp) (h : k ≤ j) : Dn P w K mg base j x ps sp := by
  obtain ⟨f, fd, G, r⟩ := D.ex
  exact ⟨f, fd, G.mono h, r⟩
theorem Dn.imp {sp' : Sp} (D : Dn P w K mg base k x ps sp) (h : ∀ vs H Q E, sp' vs H Q E → sp vs H Q E) : Dn P w K mg base k x ps sp' := by
  obtain ⟨f, fd, G, r⟩ := D.ex
  exact ⟨f, fd, G.imp h, r⟩
end
section
variable {X : Cx} {x : Str} {p pos : Pos} {e : Expr} {es : List Expr} {t : TA} {k j : Nat} {ps : List Str} {sp : Sp}
theorem pe_dn (D : Dn X.prog X.w X.K X.mg X.base k x ps sp) (hr : Room j X.A) (hg : Gl X x) (ha : PA X (e :: es) t) (hle : k ≤ j := by first | decide | omega) (hd : (x == ("__debug__" : Str)) = false := by decide)
    (he : starEach (e :: es) X.env = (false, eval e X.env) :: starEach es X.env := by rfl) (hpl : (backTo pos (starEach es X.env)).any (·.1) = false := by rfl) : PE X (.Call (.Name x p) (e :: es) [] pos) (tCall sp [] E0 t) := by
  obtain ⟨f, fd, G, b, kp, m, _⟩ := D.ex
  exact pe_call G (hr.mono hle) hg m kp (.all b) .nil pass0 ha hd he hpl
end
def spLaw (K : PySem.W.Frag) : Sp := fun vs H Q _ => ∃ (a : Addr) (ns : List Int), vs = [.ref a] ∧ SqL K H a (ns.map V.int) ∧ ns.length ≤ 63 ∧ ∀ H', Q (.bl true) H'
end L2
namespace L2
open PySem PySem.Spec PyProof.Rows
theorem same_new {H : Hp} {p : Addr} (h : H p = none) (o : HO) : Same H (upd H p o) := fun b u q => by rw [upd_ne (ne_of_none q h)]; exact q
def Keep (u : Addr) (H H' : Hp) : Prop := ∀ b o, b ≠ u → H b = some o → H' b = some o
theorem Keep.refl (u : Addr) (H : Hp) : Keep u H H := fun _ _ _ h => h
theorem Keep.trans {u : Addr} {H H1 H2 : Hp} (a : Keep u H H1) (b : Keep u H1 H2) : Keep u H H2 := fun c o n h => b c o n (a c o n h)
theorem Same.keep {u : Addr} {H H' : Hp} (a : Same H H') : Keep u H H' := fun b o _ h => a b o h
theorem Keep.upd {u : Addr} {H : Hp} (o : HO) : Keep u H (upd H u o) := fun b v n h => by rw [upd_ne n]; exact h
theorem Keep.same {u : Addr} {H0 H H' : Hp} (n : H0 u = none) (s : Same H0 H) (k : Keep u H H') : Same H0 H' := fun b o h => k b o (ne_of_none h n) (s b o h)
theorem Keep.tup {K : PySem.W.Frag} {u a : Addr} {H H' : Hp} {xs ys : List V} (k : Keep u H H') (hu : H u = some (.lst ys)) (h : SqT K H a xs) : SqT K H' a xs := by
  rcases h with (h | ⟨o, h⟩) | h
  · exact .inl (.inl (k _ _ (ne_of h hu (by intro z; cases z)) h))
  · exact .inl (.inr ⟨o, k _ _ (ne_of h hu (by intro z; cases z)) h⟩)
  · exact .inr h
theorem Same.tup {K : PySem.W.Frag} {H H' : Hp} {a : Addr} {xs : List V} (e : Same H H') (h : SqT K H a xs) : SqT K H' a xs := by
  rcases h with (h | ⟨o, h⟩) | h
  · exact .inl (.inl (e _ _ h))
  · exact .inl (.inr ⟨o, e _ _ h⟩)
  · exact .inr h
def UrnAt (H : Hp) (u : Addr) (b : Nat) : Prop := ∃ g c n : Int, H u = some (.lst [.int g, .int c, .int n]) ∧ 0 ≤ g ∧ 0 ≤ c ∧ c ≤ 1152921504606846976 ∧ 0 ≤ n ∧ n ≤ (b : Int)
theorem UrnAt.lst {H : Hp} {u : Addr} {b : Nat} (h : UrnAt H u b) : ∃ xs, H u = some (.lst xs) := by
  obtain ⟨g, c, n, h, _⟩ := h; exact ⟨_, h⟩
theorem UrnAt.same {H H' : Hp} {u : Addr} {b : Nat} (h : UrnAt H u b) (s : Same H H') : UrnAt H' u b := by
  obtain ⟨g, c, n, h, r⟩ := h; exact ⟨g, c, n, s _ _ h, r⟩
def spUrn (K : PySem.W.Frag) : Sp := fun vs H Q _ => ∃ (a : Addr) (ns : List Int) (k : Int), vs = [.ref a, .int k] ∧ SqL K H a (ns.map V.int) ∧ 0 ≤ k ∧ k ≤ 3 ∧
  ∀ (u : Addr) (H' : Hp), Same H H' → H u = none → UrnAt H' u 0 → Q (.ref u) H'
def spDraw : Sp := fun vs H Q _ => ∃ (u : Addr) (b : Nat) (wide : Int), vs = [.ref u, .int wide] ∧ UrnAt H u b ∧ b ≤ 1000000 ∧ 0 < wide ∧ wide < 1073741824 ∧
  ∀ (d : Int) (H' : Hp), Keep u H H' → UrnAt H' u (b + 1) → 0 ≤ d → d < wide → Q (.int d) H'
theorem atI_of {xs : List V} {i : Int} {v : V} (j : Nat) (e : i = (j : Int)) (h : xs[j]? = some v) : atI xs i = some v := by
  subst e; exact atI_nat h
theorem seven {a b c d e f g : Int} {i : Int} {P : Int → Prop} (h0 : 0 ≤ i) (h1 : i < 7) (pa : P a) (pb : P b) (pc : P c) (pd : P d) (pe : P e) (pf : P f) (pg : P g) :
    ∃ p, atI [V.int a, .int b, .int c, .int d, .int e, .int f, .int g] i = some (.int p) ∧ P p := by
  have : i = 0 ∨ i = 1 ∨ i = 2 ∨ i = 3 ∨ i = 4 ∨ i = 5 ∨ i = 6 := by omega
  rcases this with rfl | rfl | rfl | rfl | rfl | rfl | rfl
  · exact ⟨a, rfl, pa⟩
  · exact ⟨b, rfl, pb⟩
  · exact ⟨c, rfl, pc⟩
  · exact ⟨d, rfl, pd⟩
  · exact ⟨e, rfl, pe⟩
  · exact ⟨f, rfl, pf⟩
  · exact ⟨g, rfl, pg⟩
theorem base_small {c h : Int} (c0 : 0 ≤ c) (c1 : c ≤ 1152921504606846976) (h0 : 0 ≤ h) (h1 : h ≤ 1000001) : (c * (2 * h + 1) + 6007 * h * h + 53).natAbs < 2 ^ 200 := by
  have a1 : c * (2 * h + 1) ≤ 1152921504606846976 * 2000003 := Int.mul_le_mul c1 (by omega) (by omega) (by decide)
  have a2 : 0 ≤ c * (2 * h + 1) := Int.mul_nonneg c0 (by omega)
  have a3 : 6007 * h * h ≤ 6007 * 1000001 * 1000001 := Int.mul_le_mul (by omega) h1 h0 (by decide)
  have a4 : 0 ≤ 6007 * h * h := Int.mul_nonneg (by omega) h0
  have : (c * (2 * h + 1) + 6007 * h * h + 53).natAbs < 2 ^ 90 := by omega
  exact Nat.lt_of_lt_of_le this (by decide)
theorem lenOk {xs : List V} (n : Nat) (h : xs.length = n) (hn : n ≤ 1000 := by decide) : xs.length ≤ sizeLine := by
  rw [h]; exact Nat.le_trans hn (by decide)
structure Mk4 (m c h g : Int) : Prop where
  m1 : 1 ≤ m
  m9 : m ≤ 9
  c1 : 1 ≤ c
  c4 : c ≤ 4
  h1 : 1 ≤ h
  hc : h ≤ c
  g1 : 1 ≤ g
  gm : g ≤ m
theorem Keep.none {u p : Addr} {H H' : Hp} (k : Keep u H H') (n : p ≠ u) (h : H' p = Option.none) : H p = Option.none := by
  cases q : H p with
  | none => rfl
  | some o => rw [k p o n q] at h; cases h
def imin (i j : Int) : Int := if j < i then j else i
def imax (i j : Int) : Int := if j > i then j else i
def iabs (i : Int) : Int := if i < 0 then -i else i
def wbLo (m h g : Int) (x : Str) (r : Int) : Int := if x = "climb" then imin (r + h) g else if x = "sink" then -m else if x = "hold" then -(imax (iabs r - h) 0) else -m
def wbHi (m h g : Int) (x : Str) (r : Int) : Int := if x = "climb" then m else if x = "sink" then imax (r - h) (-g) else if x = "hold" then imax (iabs r - h) 0 else m
def nbLo (m c h g : Int) (x : Str) (r : Int) : Int := imax (wbLo m h g x r) (r - c)
def nbHi (m c h g : Int) (x : Str) (r : Int) : Int := imin (wbHi m h g x r) (r + c)
theorem nb_within {m c h g r : Int} {x : Str} (M : Mk4 m c h g) (r0 : -m ≤ r) (r1 : r ≤ m) : -m ≤ nbLo m c h g x r ∧ nbLo m c h g x r ≤ nbHi m c h g x r ∧ nbHi m c h g x r ≤ m := by
  obtain ⟨m1, m9, c1, c4, h1, hc, g1, gm⟩ := M
  unfold nbLo nbHi wbLo wbHi imin imax iabs
  split
  · refine ⟨?_, ?_, ?_⟩ <;> (repeat' split) <;> omega
  · split
    · refine ⟨?_, ?_, ?_⟩ <;> (repeat' split) <;> omega
    · split
      · refine ⟨?_, ?_, ?_⟩ <;> (repeat' split) <;> omega
      · refine ⟨?_, ?_, ?_⟩ <;> (repeat' split) <;> omega
inductive Pl (K : PySem.W.Frag) (H : Hp) : V → Value → Prop where
  | non : Pl K H .non (.type "NoneType")
  | bl (x : Bool) : Pl K H (.bl x) (.type "bool")
  | int (i : Int) : Pl K H (.int i) (.type "int")
  | str (x : Str) : Pl K H (.str x) (.type "str")
  | lst {a : Addr} {xs : List V} (e : H a = some (.lst xs)) : Pl K H (.ref a) (.type "list")
  | tup {a : Addr} {xs : List V} (e : H a = some (.tup xs)) : Pl K H (.ref a) (.type "tuple")
  | dct {a : Addr} {kvs : List (List Key × V)} (e : Rd H a (.dT kvs)) : Pl K H (.ref a) (.type "dict")
theorem Pl.ty {K : PySem.W.Frag} {H : Hp} {y : V} {t : Value} (h : Pl K H y t) : TyP K H y t := by
  cases h with
  | non => exact .inl (.non)
  | bl x => exact .inl (.bl x)
  | int i => exact .inl (.int i)
  | str x => exact .inl (.str x)
  | lst e => exact .inl (.lst e)
  | tup e => exact .inl (.tup e)
  | dct e => exact .inr ⟨_, _, rfl, e, rfl⟩
theorem Pl.same {K : PySem.W.Frag} {H H' : Hp} {y : V} {t : Value} (h : Pl K H y t) (s : Same H H') : Pl K H' y t := by
  cases h with
  | non => exact .non
  | bl x => exact .bl x
  | int i => exact .int i
  | str x => exact .str x
  | lst e => exact .lst (s _ _ e)
  | tup e => exact .tup (s _ _ e)
  | dct e => exact .dct (e.elim (fun q => .inl (s _ _ q)) fun ⟨o, q⟩ => .inr ⟨o, s _ _ q⟩)
def rates (m c h g : Int) (x : Str) (r : Int) : List Int := rgI (nbLo m c h g x r) (nbHi m c h g x r + 1 - nbLo m c h g x r).toNat
theorem Keep.fresh {u : Addr} {H0 H H' : Hp} {b : Nat} (n : H0 u = Option.none) (s : Same H0 H) (k : Keep u H H') : Same H0 H' := Keep.same n s k
mutual
theorem Dp.noDict {K : PySem.W.Frag} {H : Hp} : ∀ (d : PyData) (v : V), Dp K H v d → d.hasDict = false
  | .none, _, _ => rfl
  | .bool _, _, _ => rfl
  | .int _, _, _ => rfl
  | .str _, _, _ => rfl
  | .list ds, _, h => by
    cases h with
    | lst hs ha => exact Dp.noDictAll ds _ ha
  | .tuple ds, _, h => by
    cases h with
    | tup hs ha => exact Dp.noDictAll ds _ ha
  | .dict _, _, h => by cases h
theorem Dp.noDictAll {K : PySem.W.Frag} {H : Hp} : ∀ (ds : List PyData) (vs : List V), DpAll K H vs ds → PyData.hasDictAll ds = false
  | [], _, _ => rfl
  | d :: ds, _, h => by
    cases h with
    | cons h1 h2 =>
      show (PyData.hasDict d || PyData.hasDictAll ds) = false
      rw [Dp.noDict d _ h1, Dp.noDictAll ds _ h2]; rfl
end
def noDc : PyData → Bool
  | .list ds => noDcAll ds
  | .tuple ds => noDcAll ds
  | .dict _ => false
  | _ => true
where noDcAll : List PyData → Bool
  | [] => true
  | d :: ds => noDc d && noDcAll ds
structure Sm (d : PyData) : Prop where
  nd : noDc d = true
  sh : d.showable = true
  ln : d.shown.length ≤ sizeLine
  dp : d.depth ≤ 60
section
variable {X : Cx}
theorem call_repr (hg : X.A.guards = some []) (hu : X.A.units + 64 < cLine) : CallR X (.builtin "repr") (fun xs H Q => ∃ x d, xs = [x] ∧ Dp X.K H x d ∧ Sm d ∧ Q (.str d.shown) H) := by
  intro pins s σ H xs us Q I r h
  obtain ⟨x, d, rfl, hd, ⟨nd, sh, ln, dp⟩, q⟩ := h
  obtain ⟨u, rfl, rx⟩ := vals1 r
  cases hd with
  | non => cases rx; exact P.repr_of_none ⟨.str _, H, I.tok _, ⟨_, rfl⟩, q⟩
  | bl b => cases rx; exact P.repr_of_bool ⟨.str _, H, I.tok _, ⟨_, rfl⟩, q⟩
  | int i => obtain ⟨t, rfl⟩ := rx; exact P.repr_of_int (of_decide_eq_true sh) ⟨.str _, H, I.tok _, ⟨_, rfl⟩, q⟩
  | str x => obtain ⟨t, rfl⟩ := rx; exact P.repr_of_str ⟨.str _, H, I.tok _, ⟨_, rfl⟩, q⟩ ln
  | lst hs ha =>
    cases rx
    obtain ⟨as, rd⟩ := Dp.reads I _ _ _ (Dp.lst hs ha) rfl
    exact repr_of_reads' rd sh (PyData.noDict_hsm (Dp.noDict _ _ (Dp.lst hs ha))) hg (by omega) (fun _ _ e => e) (fun h' u tk kp => ⟨.str _, H, I.kept kp, ⟨_, rfl⟩, q⟩) ln
  | tup hs ha =>
    cases rx
    obtain ⟨as, rd⟩ := Dp.reads I _ _ _ (Dp.tup hs ha) rfl
    exact repr_of_reads' rd sh (PyData.noDict_hsm (Dp.noDict _ _ (Dp.tup hs ha))) hg (by omega) (fun _ _ e => e) (fun h' u tk kp => ⟨.str _, H, I.kept kp, ⟨_, rfl⟩, q⟩) ln
end
def keyD : Key → PyData
  | .inl i => .int i
  | .inr x => .str x
def keysD (k : List Key) : PyData := .tuple (k.map keyD)
mutual
inductive TdX (ex : Addr → Prop) (H : Hp) : V → PyData → Prop
  | non : TdX ex H .non .none
  | bl (b : Bool) : TdX ex H (.bl b) (.bool b)
  | int (i : Int) : TdX ex H (.int i) (.int i)
  | str (x : Str) : TdX ex H (.str x) (.str x)
  | lst {a : Addr} {xs : List V} {ds : List PyData} : ¬ ex a → H a = some (.lst xs) → TdXAll ex H xs ds → TdX ex H (.ref a) (.list ds)
  | tup {a : Addr} {xs : List V} {ds : List PyData} : ¬ ex a → H a = some (.tup xs) → TdXAll ex H xs ds → TdX ex H (.ref a) (.tuple ds)
  | dct {a : Addr} {kvs : List (List Key × V)} {kds : List (PyData × PyData)} : ¬ ex a → Rd H a (.dT kvs) → TdXKv ex H kvs kds → TdX ex H (.ref a) (.dict kds)
inductive TdXKv (ex : Addr → Prop) (H : Hp) : List (List Key × V) → List (PyData × PyData) → Prop
  | nil : TdXKv ex H [] []
  | cons {k : List Key} {v : V} {kvs : List (List Key × V)} {d : PyData} {kds : List (PyData × PyData)} : TdX ex H v d → TdXKv ex H kvs kds → TdXKv ex H ((k, v) :: kvs) ((keysD k, d) :: kds)
inductive TdXAll (ex : Addr → Prop) (H : Hp) : List V → List PyData → Prop
  | nil : TdXAll ex H [] []
  | cons {v : V} {vs : List V} {d : PyData} {ds : List PyData} : TdX ex H v d → TdXAll ex H vs ds → TdXAll ex H (v :: vs) (d :: ds)
end
mutual
theorem TdX.to {ex ex' : Addr → Prop} {H H' : Hp} (k : ∀ b o, ¬ ex b → H b = some o → ¬ ex' b ∧ H' b = some o) : ∀ (d : PyData) (v : V), TdX ex H v d → TdX ex' H' v d
  | .none, _, h => by cases h; exact .non
  | .bool _, _, h => by cases h; exact .bl _
  | .int _, _, h => by cases h; exact .int _
  | .str _, _, h => by cases h; exact .str _
  | .list ds, _, h => by
    cases h with
    | lst n ha hs => exact .lst (k _ _ n ha).1 (k _ _ n ha).2 (TdXAll.to k ds _ hs)
  | .tuple ds, _, h => by
    cases h with
    | tup n ha hs => exact .tup (k _ _ n ha).1 (k _ _ n ha).2 (TdXAll.to k ds _ hs)
  | .dict kds, _, h => by
    cases h with
    | dct n ha hs => exact .dct (ha.elim (fun q => (k _ _ n q).1) fun ⟨o, q⟩ => (k _ _ n q).1) (ha.elim (fun q => .inl (k _ _ n q).2) fun ⟨o, q⟩ => .inr ⟨o, (k _ _ n q).2⟩) (TdXKv.to k kds _ hs)
theorem TdXKv.to {ex ex' : Addr → Prop} {H H' : Hp} (k : ∀ b o, ¬ ex b → H b = some o → ¬ ex' b ∧ H' b = some o) : ∀ (kds : List (PyData × PyData)) (kvs : List (List Key × V)), TdXKv ex H kvs kds → TdXKv ex' H' kvs kds
  | [], _, h => by cases h; exact .nil
  | (_, d) :: kds, _, h => by
    cases h with
    | cons h1 h2 => exact .cons (TdX.to k d _ h1) (TdXKv.to k kds _ h2)
theorem TdXAll.to {ex ex' : Addr → Prop} {H H' : Hp} (k : ∀ b o, ¬ ex b → H b = some o → ¬ ex' b ∧ H' b = some o) : ∀ (ds : List PyData) (vs : List V), TdXAll ex H vs ds → TdXAll ex' H' vs ds
  | [], _, h => by cases h; exact .nil
  | d :: ds, _, h => by
    cases h with
    | cons h1 h2 => exact .cons (TdX.to k d _ h1) (TdXAll.to k ds _ h2)
end
theorem noDc_cons {d : PyData} {ds : List PyData} (h : noDc.noDcAll (d :: ds) = true) : noDc d = true ∧ noDc.noDcAll ds = true := by
  have h' : (noDc d && noDc.noDcAll ds) = true := h
  rwa [Bool.and_eq_true] at h'
mutual
theorem TdX.dp {K : PySem.W.Frag} {ex : Addr → Prop} {H : Hp} : ∀ (d : PyData) (v : V), noDc d = true → TdX ex H v d → Dp K H v d
  | .none, _, _, h => by cases h; exact .non
  | .bool _, _, _, h => by cases h; exact .bl _
  | .int _, _, _, h => by cases h; exact .int _
  | .str _, _, _, h => by cases h; exact .str _
  | .list ds, _, nd, h => by
    cases h with
    | lst n ha hs => exact .lst (SqL.of ha) (TdXAll.dp ds _ nd hs)
  | .tuple ds, _, nd, h => by
    cases h with
    | tup n ha hs => exact .tup (SqT.of ha) (TdXAll.dp ds _ nd hs)
  | .dict _, _, nd, h => by cases nd
theorem TdXAll.dp {K : PySem.W.Frag} {ex : Addr → Prop} {H : Hp} : ∀ (ds : List PyData) (vs : List V), noDc.noDcAll ds = true → TdXAll ex H vs ds → DpAll K H vs ds
  | [], _, _, h => by cases h; exact .nil
  | d :: ds, _, nd, h => by
    cases h with
    | cons h1 h2 => exact .cons (TdX.dp d _ (noDc_cons nd).1 h1) (TdXAll.dp ds _ (noDc_cons nd).2 h2)
end
mutual
theorem noDc_lay : ∀ d : PyData, d.canLay0 = true → noDc d = true
  | .none, _ => rfl
  | .bool _, _ => rfl
  | .int _, _ => rfl
  | .str _, _ => rfl
  | .list ds, h => noDcAll_lay ds h
  | .tuple ds, h => noDcAll_lay ds h
  | .dict _, h => by cases h
theorem noDcAll_lay : ∀ ds : List PyData, PyData.canLayAll0 ds = true → noDc.noDcAll ds = true
  | [], _ => rfl
  | d :: ds, h => by
    have h' : (PyData.canLay0 d && PyData.canLayAll0 ds) = true := h
    rw [Bool.and_eq_true] at h'
    show (noDc d && noDc.noDcAll ds) = true
    rw [noDc_lay d h'.1, noDcAll_lay ds h'.2]; rfl
end
theorem noDc_shaped {d : PyData} (h : SeqAt.shaped d = true) : noDc d = true := noDc_lay d (SeqAt.canLay_of_shaped h)
theorem TdX.pl {K : PySem.W.Frag} {ex : Addr → Prop} {H : Hp} {d : PyData} {v : V} (h : TdX ex H v d) : ∃ t, Pl K H v t := by
  cases h with
  | non => exact ⟨_, .non⟩
  | bl b => exact ⟨_, .bl b⟩
  | int i => exact ⟨_, .int i⟩
  | str x => exact ⟨_, .str x⟩
  | lst n ha hs => exact ⟨_, .lst ha⟩
  | tup n ha hs => exact ⟨_, .tup ha⟩
  | dct n ha hs => exact ⟨_, .dct ha⟩
theorem TdX.same {ex : Addr → Prop} {H H' : Hp} {d : PyData} {v : V} (h : TdX ex H v d) (s : Same H H') : TdX ex H' v d := TdX.to (fun b o n e => ⟨n, s b o e⟩) d v h
theorem TdX.keep {ex : Addr → Prop} {u : Addr} {H H' : Hp} {d : PyData} {v : V} (h : TdX ex H v d) (eu : ex u) (s : Keep u H H') : TdX ex H' v d := TdX.to (fun b o n e => ⟨n, s b o (fun z => n (z ▸ eu)) e⟩) d v h
def notStar : Expr → Bool
  | .Starred _ _ => false
  | _ => true
theorem star_cons {e : Expr} {es : List Expr} {env : Env} (h : notStar e = true) : starEach (e :: es) env = (false, eval e env) :: starEach es env := by
  cases e <;> first | rfl | cases h
theorem star_any {env : Env} {pos : Pos} : ∀ {es : List Expr}, es.all notStar = true → (backTo pos (starEach es env)).any (·.1) = false
  | [], _ => rfl
  | e :: es, h => by
    rw [List.all_cons, Bool.and_eq_true] at h
    rw [star_cons h.1]
    have ih := star_any (env := env) (pos := pos) h.2
    unfold backTo at ih ⊢
    rw [List.map_cons, List.any_cons, ih]
    rfl
section
variable {X : Cx} {x : Str} {p pos : Pos} {e : Expr} {es : List Expr} {te : TE} {t : TA} {id Ty : String} {r : List V → Hp → VK → Prop} {k j : Nat} {ps : List Str} {sp : Sp}
theorem pc (ha : PE X e te) (hr : PA X es t) (h : notStar e = true := by rfl) : PA X (e :: es) (tCons te t) := pa_cons ha hr (star_cons h)
theorem pb (hc : CallR X (.builtin id) r) (hg : Gl X x) (hm : X.mg x = none) (hv : bootBuiltins x = some (.builtin id)) (ha : PA X (e :: es) t) (hp : (e :: es).all notStar = true := by rfl) (hn : x ≠ "__name__" := by decide) (hdb : (x == ("__debug__" : Str)) = false := by decide) :
    PE X (.Call (.Name x p) (e :: es) [] pos) (tCB r t) := by
  rw [List.all_cons, Bool.and_eq_true] at hp
  exact pe_callB hc hg hm hv ha hn hdb (star_cons hp.1) (star_any hp.2)
theorem py (hc : CallR X (.type Ty) r) (hg : Gl X x) (hm : X.mg x = none) (hv : bootBuiltins x = some (.type Ty)) (ha : PA X (e :: es) t) (hp : (e :: es).all notStar = true := by rfl) (hn : x ≠ "__name__" := by decide) (hdb : (x == ("__debug__" : Str)) = false := by decide) :
    PE X (.Call (.Name x p) (e :: es) [] pos) (tCB r t) := by
  rw [List.all_cons, Bool.and_eq_true] at hp
  exact pe_callTy hc hg hm hv ha hn hdb (star_cons hp.1) (star_any hp.2)
theorem pd (D : Dn X.prog X.w X.K X.mg X.base k x ps sp) (hr : Room j X.A) (hg : Gl X x) (ha : PA X (e :: es) t) (hle : k ≤ j := by first | decide | omega) (hd : (x == ("__debug__" : Str)) = false := by decide) (hp : (e :: es).all notStar = true := by rfl) :
    PE X (.Call (.Name x p) (e :: es) [] pos) (tCall sp [] E0 t) := by
  rw [List.all_cons, Bool.and_eq_true] at hp
  exact pe_dn D hr hg ha hle hd (star_cons hp.1) (star_any hp.2)
end
theorem depth_ints : ∀ ns : List Int, PyData.depthAll (ns.map .int) = 0
  | [] => rfl
  | _ :: ns => by
    show max 0 (PyData.depthAll (ns.map .int)) = 0
    rw [depth_ints ns]; rfl
theorem canLay_ints : ∀ ns : List Int, PyData.canLayAll0 (ns.map .int) = true
  | [] => rfl
  | _ :: ns => by
    show (true && PyData.canLayAll0 (ns.map .int)) = true
    rw [canLay_ints ns]; rfl
theorem mem_rgI {a n : Int} {k : Nat} : n ∈ rgI a k ↔ a ≤ n ∧ n < a + k := by
  unfold rgI
  rw [List.mem_map]
  constructor
  · rintro ⟨j, hj, rfl⟩
    have := List.mem_range.mp hj
    omega
  · intro h
    exact ⟨(n - a).toNat, List.mem_range.mpr (by omega), by omega⟩
theorem rates_small {m c h g r : Int} {x : Str} (M : Mk4 m c h g) (r0 : -m ≤ r) (r1 : r ≤ m) : (∀ n ∈ rates m c h g x r, -m ≤ n ∧ n ≤ m) ∧ (rates m c h g x r).length ≤ 19 ∧ rates m c h g x r ≠ [] := by
  obtain ⟨b0, b1, b2⟩ := nb_within (x := x) M r0 r1
  have m9 := M.m9
  refine ⟨fun n hn => ?_, ?_, fun e => ?_⟩
  · have := mem_rgI.mp hn
    omega
  · unfold rates; rw [rgI_length]; omega
  · have := congrArg List.length e
    unfold rates at this
    rw [rgI_length] at this
    simp at this
    omega
theorem rgI_get {lo : Int} {n i : Nat} (h : i < n) : (rgI lo n)[i]? = some (lo + (i : Int)) := by
  unfold rgI
  rw [List.getElem?_map, List.getElem?_range h]; rfl
theorem inV_ints {ns : List Int} {o : Int} : inV (.int o) (ns.map V.int) = decide (o ∈ ns) := by
  unfold inV
  induction ns with
  | nil => simp
  | cons n ns ih =>
    rw [List.map_cons, List.any_cons, ih]
    show ((n == o) || decide (o ∈ ns)) = decide (o ∈ n :: ns)
    by_cases e : n = o
    · subst e; simp
    · have : (n == o) = false := by simpa using e
      rw [this, Bool.false_or]
      simp [List.mem_cons, Ne.symm e]
theorem flat_ints (ns : List Int) : (ns.map V.int).all flatV = true := by
  rw [List.all_map]; simp [flatV, Function.comp_def]
section
variable {X : Cx}
theorem op_isnot_b : OpR X (compareOp .IsNot) (fun x y H Q => ∃ c d, x = .bl c ∧ y = .bl d ∧ Q (.bl (c != d)) H) := by
  intro pins s σ H x y v u Q I rx ry h
  obtain ⟨c, d, rfl, rfl, q⟩ := h
  cases rx
  cases ry
  exact isnot_bool ⟨.bl (c != d), H, I, rfl, q⟩
end
def OkD (B : Nat) : List Nat → PyData → Bool
  | _, .none => true
  | _, .bool _ => true
  | _, .int i => decide (i.natAbs ≤ B)
  | _, .str x => decide ((reprText x).length ≤ 120)
  | [], .list _ => false
  | [], .tuple _ => false
  | L :: Ls, .list ds => decide (ds.length ≤ L) && ds.all (OkD B Ls)
  | L :: Ls, .tuple ds => decide (ds.length ≤ L) && ds.all (OkD B Ls)
  | _, .dict _ => false
def LeL : List Nat → List Nat → Prop
  | [], _ => True
  | _ :: _, [] => False
  | a :: as, b :: bs => a ≤ b ∧ LeL as bs
theorem LeL.refl : ∀ Ls : List Nat, LeL Ls Ls
  | [] => trivial
  | a :: as => ⟨Nat.le_refl a, LeL.refl as⟩
def up (Ls : List Nat) : List Nat := Ls.map (· + 1) ++ [1, 1]
theorem LeL.trans : ∀ {a b c : List Nat}, LeL a b → LeL b c → LeL a c
  | [], _, _, _, _ => trivial
  | _ :: _, [], _, h, _ => h.elim
  | _ :: _, _ :: _, [], _, h => h.elim
  | _ :: _, _ :: _, _ :: _, h1, h2 => ⟨Nat.le_trans h1.1 h2.1, LeL.trans h1.2 h2.2⟩
theorem OkD.mono {B B' : Nat} (hB : B ≤ B') : ∀ {Ls Ls' : List Nat} {d : PyData}, LeL Ls Ls' → OkD B Ls d = true → OkD B' Ls' d = true := by
  intro Ls
  induction Ls with
  | nil =>
    intro Ls' d hn h
    cases d with
    | none => unfold OkD; rfl
    | bool _ => unfold OkD; rfl
    | int i => unfold OkD at h ⊢; have := of_decide_eq_true h; exact decide_eq_true (by omega)
    | str x => unfold OkD at h ⊢; exact h
    | list ds => simp [OkD] at h
    | tuple ds => simp [OkD] at h
    | dict _ => simp [OkD] at h
  | cons L Ls ih =>
    intro Ls' d hn h
    cases Ls' with
    | nil => exact hn.elim
    | cons L' Ls' =>
      cases d with
      | none => unfold OkD; rfl
      | bool _ => unfold OkD; rfl
      | int i => unfold OkD at h ⊢; have := of_decide_eq_true h; exact decide_eq_true (by omega)
      | str x => unfold OkD at h ⊢; exact h
      | list ds =>
        simp only [OkD, Bool.and_eq_true, decide_eq_true_eq, List.all_eq_true] at h ⊢
        exact ⟨Nat.le_trans h.1 hn.1, fun e he => ih hn.2 (h.2 e he)⟩
      | tuple ds =>
        simp only [OkD, Bool.and_eq_true, decide_eq_true_eq, List.all_eq_true] at h ⊢
        exact ⟨Nat.le_trans h.1 hn.1, fun e he => ih hn.2 (h.2 e he)⟩
      | dict _ => simp [OkD] at h
def szB : List Nat → Nat
  | [] => 120
  | L :: Ls => max 120 (L * (szB Ls + 2) + 3)
theorem all_le {α : Type} {f : α → Nat} {c : Nat} : ∀ {l : List α}, (∀ a ∈ l, f a ≤ c) → (l.map f).sum ≤ l.length * c
  | [], _ => by simp
  | a :: l, h => by
    have ih := all_le (l := l) fun b hb => h b (List.mem_cons_of_mem _ hb)
    have h0 := h a List.mem_cons_self
    rw [List.map_cons, List.sum_cons, List.length_cons, Nat.add_mul]
    omega
theorem shownAll_map : ∀ ds : List PyData, PyData.shownAll ds = ds.map PyData.shown
  | [] => rfl
  | d :: ds => by show d.shown :: PyData.shownAll ds = _; rw [shownAll_map ds]; rfl
theorem OkD.facts {B : Nat} (hB : B ≤ 10 ^ 12) : ∀ {Ls : List Nat} {d : PyData}, OkD B Ls d = true → d.showable = true ∧ d.shown.length ≤ szB Ls ∧ d.depth ≤ Ls.length := by
  have intz : ∀ i : Int, i.natAbs ≤ B → PyData.showable (.int i) = true ∧ (PyData.shown (.int i)).length ≤ 120 := fun i h => by
    refine ⟨decide_eq_true ?_, ?_⟩
    · by_cases z : i.natAbs = 0
      · rw [z]; decide
      · exact Nat.lt_trans ((Nat.log2_lt z).mpr (Nat.lt_of_le_of_lt h (Nat.lt_of_le_of_lt hB (by decide : 10 ^ 12 < 2 ^ 60)))) (by decide)
    · have := int_text_length_le10 (a := i) (k := 13) (by decide) (Nat.lt_of_le_of_lt h (Nat.lt_of_le_of_lt hB (by decide)))
      show (Str.ofString (toString i)).length ≤ 120
      rw [PySem.ofString_length]; omega
  have szmono : ∀ Ls, 120 ≤ szB Ls := fun Ls => by
    cases Ls with
    | nil => exact Nat.le_refl _
    | cons L Ls => exact Nat.le_max_left _ _
  have sh : ∀ ds : List PyData, (∀ e ∈ ds, e.showable = true) → PyData.showableAll ds = true := fun ds => by
    induction ds with
    | nil => intro _; rfl
    | cons e ds ih => intro h; show (e.showable && PyData.showableAll ds) = true; rw [h e List.mem_cons_self, ih fun z hz => h z (List.mem_cons_of_mem _ hz)]; rfl
  have dpt : ∀ (n : Nat) (ds : List PyData), (∀ e ∈ ds, e.depth ≤ n) → PyData.depthAll ds ≤ n := fun n ds => by
    induction ds with
    | nil => intro _; exact Nat.zero_le _
    | cons e ds ih => intro h; show max e.depth (PyData.depthAll ds) ≤ n; exact Nat.max_le.mpr ⟨h e List.mem_cons_self, ih fun z hz => h z (List.mem_cons_of_mem _ hz)⟩
  have bn : (PyData.shown .none).length ≤ 120 := by decide
  have bb : ∀ b, (PyData.shown (.bool b)).length ≤ 120 := fun b => by cases b <;> decide
  intro Ls
  induction Ls with
  | nil =>
    intro d h
    cases d with
    | none => exact ⟨rfl, bn, Nat.le_refl _⟩
    | bool b => exact ⟨rfl, bb b, Nat.le_refl _⟩
    | int i => unfold OkD at h; exact ⟨(intz i (of_decide_eq_true h)).1, (intz i (of_decide_eq_true h)).2, Nat.le_refl _⟩
    | str x => unfold OkD at h; exact ⟨rfl, of_decide_eq_true h, Nat.le_refl _⟩
    | list ds => simp [OkD] at h
    | tuple ds => simp [OkD] at h
    | dict _ => simp [OkD] at h
  | cons L Ls ih =>
    intro d h
    have seq : ∀ ds : List PyData, ds.length ≤ L → (∀ e ∈ ds, OkD B Ls e = true) → PyData.showableAll ds = true ∧ ((PyData.shownAll ds).map (·.length)).sum + 2 * (PyData.shownAll ds).length + 3 ≤ szB (L :: Ls) ∧ PyData.depthAll ds + 1 ≤ Ls.length + 1 := fun ds hl hd => by
      refine ⟨sh ds fun e he => (ih (hd e he)).1, ?_, Nat.succ_le_succ (dpt _ ds fun e he => (ih (hd e he)).2.2)⟩
      rw [shownAll_map, List.map_map, List.length_map]
      have a : (ds.map ((fun (x : Str) => x.length) ∘ PyData.shown)).sum ≤ ds.length * szB Ls := all_le (l := ds) (f := fun d => d.shown.length) (c := szB Ls) fun e he => (ih (hd e he)).2.1
      have b : ds.length * szB Ls + 2 * ds.length ≤ L * (szB Ls + 2) := by
        have := Nat.mul_le_mul_right (szB Ls + 2) hl
        rw [Nat.mul_add] at this
        omega
      refine Nat.le_trans ?_ (Nat.le_max_right 120 (L * (szB Ls + 2) + 3))
      omega
    cases d with
    | none => exact ⟨rfl, Nat.le_trans bn (szmono _), Nat.zero_le _⟩
    | bool b => exact ⟨rfl, Nat.le_trans (bb b) (szmono _), Nat.zero_le _⟩
    | int i => unfold OkD at h; exact ⟨(intz i (of_decide_eq_true h)).1, Nat.le_trans (intz i (of_decide_eq_true h)).2 (szmono _), Nat.zero_le _⟩
    | str x => unfold OkD at h; exact ⟨rfl, Nat.le_trans (of_decide_eq_true h) (szmono _), Nat.zero_le _⟩
    | list ds =>
      simp only [OkD, Bool.and_eq_true, decide_eq_true_eq, List.all_eq_true] at h
      obtain ⟨a, b, c⟩ := seq ds h.1 h.2
      exact ⟨a, Nat.le_trans (listText_len_le _) b, c⟩
    | tuple ds =>
      simp only [OkD, Bool.and_eq_true, decide_eq_true_eq, List.all_eq_true] at h
      obtain ⟨a, b, c⟩ := seq ds h.1 h.2
      exact ⟨a, Nat.le_trans (tupleText_len_le _) b, c⟩
    | dict _ => simp [OkD] at h
theorem OkD.nd {B : Nat} : ∀ {Ls : List Nat} {d : PyData}, OkD B Ls d = true → noDc d = true := by
  have all : ∀ (Ls : List Nat) (ds : List PyData), (∀ d, OkD B Ls d = true → noDc d = true) → (∀ d ∈ ds, OkD B Ls d = true) → noDc.noDcAll ds = true := fun Ls ds ih => by
    induction ds with
    | nil => intro _; rfl
    | cons e ds ihs =>
      intro h
      show (noDc e && noDc.noDcAll ds) = true
      rw [ih e (h e List.mem_cons_self), ihs fun z hz => h z (List.mem_cons_of_mem _ hz)]; rfl
  intro Ls
  induction Ls with
  | nil =>
    intro d h
    cases d with
    | list ds => simp [OkD] at h
    | tuple ds => simp [OkD] at h
    | dict _ => simp [OkD] at h
    | _ => rfl
  | cons L Ls ih =>
    intro d h
    cases d with
    | list ds =>
      simp only [OkD, Bool.and_eq_true, decide_eq_true_eq, List.all_eq_true] at h
      exact all Ls ds (fun d => ih) h.2
    | tuple ds =>
      simp only [OkD, Bool.and_eq_true, decide_eq_true_eq, List.all_eq_true] at h
      exact all Ls ds (fun d => ih) h.2
    | dict _ => simp [OkD] at h
    | _ => rfl
theorem OkD.sm {B : Nat} {Ls : List Nat} {d : PyData} (h : OkD B Ls d = true) (hB : B ≤ 10 ^ 12) (hs : szB Ls ≤ 16777216) (hn : Ls.length ≤ 60) : Sm d := by
  obtain ⟨a, c, e⟩ := OkD.facts hB h
  exact ⟨OkD.nd h, a, Nat.le_trans c hs, Nat.le_trans e hn⟩
def Gv (ex : Addr → Prop) (H : Hp) (B : Nat) (Ls : List Nat) (y : V) : Prop := ∃ d, TdX ex H y d ∧ OkD B Ls d = true
theorem Gv.mono {ex : Addr → Prop} {H : Hp} {B B' : Nat} {Ls Ls' : List Nat} {y : V} (h : Gv ex H B Ls y) (hB : B ≤ B') (hL : LeL Ls Ls') : Gv ex H B' Ls' y := by
  obtain ⟨d, t, o⟩ := h; exact ⟨d, t, OkD.mono hB hL o⟩
theorem Gv.to {ex ex' : Addr → Prop} {H H' : Hp} {B : Nat} {Ls : List Nat} {y : V} (h : Gv ex H B Ls y) (k : ∀ b o, ¬ ex b → H b = some o → ¬ ex' b ∧ H' b = some o) : Gv ex' H' B Ls y := by
  obtain ⟨d, t, o⟩ := h; exact ⟨d, TdX.to k d y t, o⟩
theorem Gv.k {ex : Addr → Prop} {u : Addr} {H H' : Hp} {B : Nat} {Ls : List Nat} {y : V} (h : Gv ex H B Ls y) (eu : ex u) (k : Keep u H H') : Gv ex H' B Ls y := by
  obtain ⟨d, t, o⟩ := h; exact ⟨d, t.keep eu k, o⟩
theorem Gv.same {ex : Addr → Prop} {H H' : Hp} {B : Nat} {Ls : List Nat} {y : V} (h : Gv ex H B Ls y) (k : Same H H') : Gv ex H' B Ls y := by
  obtain ⟨d, t, o⟩ := h; exact ⟨d, t.same k, o⟩
theorem Gv.pl {K : PySem.W.Frag} {ex : Addr → Prop} {H : Hp} {B : Nat} {Ls : List Nat} {y : V} (h : Gv ex H B Ls y) : ∃ t, Pl K H y t := by
  obtain ⟨d, t, _⟩ := h; exact t.pl
theorem Gv.all {ex : Addr → Prop} {H : Hp} {B : Nat} {Ls : List Nat} : ∀ {xs : List V}, (∀ x ∈ xs, Gv ex H B Ls x) → ∃ ds, TdXAll ex H xs ds ∧ ds.length = xs.length ∧ ∀ d ∈ ds, OkD B Ls d = true
  | [], _ => ⟨[], .nil, rfl, fun d h => by cases h⟩
  | x :: xs, h => by
    obtain ⟨d, t, o⟩ := h x List.mem_cons_self
    obtain ⟨ds, ts, l, os⟩ := Gv.all fun y hy => h y (List.mem_cons_of_mem _ hy)
    refine ⟨d :: ds, .cons t ts, by rw [List.length_cons, List.length_cons, l], fun e he => ?_⟩
    rcases List.mem_cons.mp he with rfl | he
    · exact o
    · exact os e he
theorem TdXAll.len {ex : Addr → Prop} {H : Hp} : ∀ {xs : List V} {ds : List PyData}, TdXAll ex H xs ds → xs.length = ds.length
  | _, _, .nil => rfl
  | _, _, .cons _ h => congrArg (· + 1) (TdXAll.len h)
theorem TdXAll.mem {ex : Addr → Prop} {H : Hp} {Pr : PyData → Prop} : ∀ {xs : List V} {ds : List PyData}, TdXAll ex H xs ds → (∀ d ∈ ds, Pr d) → ∀ x ∈ xs, ∃ d, TdX ex H x d ∧ Pr d
  | _, _, .nil, _, x, hx => by cases hx
  | _, d :: ds, .cons (v := v) t ts, h, x, hx => by
    rcases List.mem_cons.mp hx with e | hx
    · subst e; exact ⟨d, t, h d List.mem_cons_self⟩
    · exact TdXAll.mem ts (fun e he => h e (List.mem_cons_of_mem _ he)) x hx
theorem Gv.tup {ex : Addr → Prop} {a : Addr} {H : Hp} {B L : Nat} {Ls : List Nat} {xs : List V} (na : ¬ ex a) (ha : H a = some (.tup xs)) (hl : xs.length ≤ L) (h : ∀ x ∈ xs, Gv ex H B Ls x) : Gv ex H B (L :: Ls) (.ref a) := by
  obtain ⟨ds, t, l, o⟩ := Gv.all h
  refine ⟨.tuple ds, .tup na ha t, ?_⟩
  simp only [OkD, Bool.and_eq_true, decide_eq_true_eq, List.all_eq_true]
  exact ⟨by omega, o⟩
theorem Gv.lst {ex : Addr → Prop} {a : Addr} {H : Hp} {B L : Nat} {Ls : List Nat} {xs : List V} (na : ¬ ex a) (ha : H a = some (.lst xs)) (hl : xs.length ≤ L) (h : ∀ x ∈ xs, Gv ex H B Ls x) : Gv ex H B (L :: Ls) (.ref a) := by
  obtain ⟨ds, t, l, o⟩ := Gv.all h
  refine ⟨.list ds, .lst na ha t, ?_⟩
  simp only [OkD, Bool.and_eq_true, decide_eq_true_eq, List.all_eq_true]
  exact ⟨by omega, o⟩
theorem Gv.int {u : Addr → Prop} {H : Hp} {B : Nat} {Ls : List Nat} {i : Int} (h : i.natAbs ≤ B) : Gv u H B Ls (.int i) := ⟨_, .int i, by unfold OkD; exact decide_eq_true h⟩
theorem Gv.bl {u : Addr → Prop} {H : Hp} {B : Nat} {Ls : List Nat} (b : Bool) : Gv u H B Ls (.bl b) := ⟨_, .bl b, by unfold OkD; rfl⟩
theorem Gv.non {u : Addr → Prop} {H : Hp} {B : Nat} {Ls : List Nat} : Gv u H B Ls .non := ⟨_, .non, by unfold OkD; rfl⟩
theorem Gv.str {u : Addr → Prop} {H : Hp} {B : Nat} {Ls : List Nat} {x : Str} (h : (reprText x).length ≤ 120) : Gv u H B Ls (.str x) := ⟨_, .str x, by unfold OkD; exact decide_eq_true h⟩
structure Ex (ex : Addr → Prop) (u : Addr) (H : Hp) : Prop where
  eu : ex u
  tr : ∀ z, ex z → ∃ o, H z = some o
theorem Ex.same {ex : Addr → Prop} {u : Addr} {H H' : Hp} (h : Ex ex u H) (s : Same H H') : Ex ex u H' := ⟨h.eu, fun z hz => let ⟨o, e⟩ := h.tr z hz; ⟨o, s _ _ e⟩⟩
theorem Ex.keep {ex : Addr → Prop} {u : Addr} {b : Nat} {H H' : Hp} (h : Ex ex u H) (k : Keep u H H') (u' : UrnAt H' u b) : Ex ex u H' := ⟨h.eu, fun z hz => by
  by_cases e : z = u
  · subst e; obtain ⟨xs, hx⟩ := u'.lst; exact ⟨_, hx⟩
  · obtain ⟨o, eo⟩ := h.tr z hz; exact ⟨o, k _ _ e eo⟩⟩
theorem Ex.new {ex : Addr → Prop} {u p : Addr} {H : Hp} (h : Ex ex u H) (hp : H p = none) : ¬ ex p := fun z => by
  obtain ⟨o, e⟩ := h.tr p z; rw [hp] at e; cases e
theorem Ex.ne {ex : Addr → Prop} {u p : Addr} {H : Hp} (h : Ex ex u H) (n : ¬ ex p) : p ≠ u := fun e => n (e ▸ h.eu)
theorem Fn.none {P : Program} {w : World} {K : PySem.W.Frag} {mg : Str → Option Value} {base : Heap} {x : Str} {st : Stmt} {ps : List Str} {sp : Sp} (F : Fn K mg x st)
    (hb : ∀ (kV doc pm : Value) (an : Option Addr) (cdv ct : Value) (us : List Value), us.length = ps.length → bindArgs (PySem.W.fnOf x x (defArgs st) (defBody st) (defScope st) .none kV doc pm an cdv ct) ⟨us, []⟩ = pure (ps.zip us))
    (no : ∀ vs H Q E, ¬ sp vs H Q E) : Dn P w K mg base 0 x ps sp := by
  obtain ⟨f, fd, FF, hm⟩ := F.ex
  have kp := FF.kp
  obtain ⟨oc, od, kV, doc, pm, an, cdv, ct, osl, rfl, lk, hcd⟩ := FF.ex
  exact ⟨f, _, ⟨fun vs H Q E h => absurd h (no vs H Q E), fun A outer s H args us vs Q E _ _ _ _ h => absurd h (no vs H Q E)⟩, hb kV doc pm an cdv ct, kp, hm, _, lk, rfl⟩
def mkS (isT : Bool) (xs : List V) : HO := if isT then .tup xs else .lst xs
theorem Gv.seq {u : Addr → Prop} {a : Addr} {H : Hp} {B L : Nat} {Ls : List Nat} {isT : Bool} {xs : List V} (na : ¬ u a) (ha : H a = some (mkS isT xs)) (hl : xs.length ≤ L) (h : ∀ x ∈ xs, Gv u H B Ls x) : Gv u H B (L :: Ls) (.ref a) := by
  cases isT with
  | true => exact Gv.tup na ha hl h
  | false => exact Gv.lst na ha hl h
def words4 : List Str := ["climb", "free", "hold", "sink"]
abbrev Turn1 := Str × Int
def turnD (t : Turn1) : PyData := .tuple [.str t.1, .int t.2]
def turnsD (ts : List Turn1) : PyData := .tuple (ts.map turnD)
def Turns (lo hi : Int) : List Turn1 → Prop
  | [] => True
  | t :: ts => t.1 ∈ words4 ∧ lo ≤ t.2 ∧ t.2 ≤ hi ∧ Turns t.2 hi ts
theorem Turns.snoc {hi : Int} : ∀ {lo : Int} {ts : List Turn1} {w : Str} {l m : Int}, Turns lo hi ts → (∀ t ∈ ts, t.2 ≤ m) → lo ≤ m → m ≤ l → l ≤ hi → w ∈ words4 → Turns lo hi (ts ++ [(w, l)])
  | lo, [], w, l, m, _, _, h1, h2, h3, hw => ⟨hw, by omega, h3, trivial⟩
  | lo, t :: ts, w, l, m, h, hm, h1, h2, h3, hw => ⟨h.1, h.2.1, h.2.2.1, Turns.snoc h.2.2.2 (fun s hs => hm s (List.mem_cons_of_mem _ hs)) (hm t List.mem_cons_self) h2 h3 hw⟩
theorem TdXAll.snoc {ex : Addr → Prop} {H : Hp} {v : V} {d : PyData} : ∀ {xs : List V} {ds : List PyData}, TdXAll ex H xs ds → TdX ex H v d → TdXAll ex H (xs ++ [v]) (ds ++ [d])
  | _, _, .nil, h => .cons h .nil
  | _, _, .cons h1 h2, h => .cons h1 (TdXAll.snoc h2 h)
theorem TdXAll.go {ex ex' : Addr → Prop} {H H' : Hp} {xs : List V} {ds : List PyData} (h : TdXAll ex H xs ds) (k : ∀ b o, ¬ ex b → H b = some o → ¬ ex' b ∧ H' b = some o) : TdXAll ex' H' xs ds := TdXAll.to k ds xs h
theorem TdXAll.four {ex : Addr → Prop} {H : Hp} {xs : List V} {ds : List PyData} (h : TdXAll ex H xs ds) (hl : ds.length = 4) : ∃ x1 x2 x3 x4 d1 d2 d3 d4, xs = [x1, x2, x3, x4] ∧ ds = [d1, d2, d3, d4] ∧ TdX ex H x1 d1 ∧ TdX ex H x2 d2 ∧ TdX ex H x3 d3 ∧ TdX ex H x4 d4 :=
  match ds, hl, h with
  | [d1, d2, d3, d4], _, .cons (v := x1) h1 (.cons (v := x2) h2 (.cons (v := x3) h3 (.cons (v := x4) h4 .nil))) => ⟨x1, x2, x3, x4, d1, d2, d3, d4, rfl, rfl, h1, h2, h3, h4⟩
theorem TdXAll.at {ex : Addr → Prop} {H : Hp} : ∀ {xs : List V} {ds : List PyData} {i : Nat} {x : V}, TdXAll ex H xs ds → xs[i]? = some x → ∃ d, ds[i]? = some d ∧ TdX ex H x d
  | _, _, i, x, .nil, h => by simp at h
  | _, d :: ds, 0, x, .cons h1 h2, h => by cases h; exact ⟨d, rfl, h1⟩
  | _, d :: ds, i + 1, x, .cons h1 h2, h => by
    obtain ⟨e, a, b⟩ := TdXAll.at (i := i) h2 (by simpa using h)
    exact ⟨e, by simpa using a, b⟩
theorem inV_strs {xs : List Str} {x : Str} : inV (.str x) (xs.map V.str) = decide (x ∈ xs) := by
  unfold inV
  induction xs with
  | nil => simp
  | cons n ns ih =>
    rw [List.map_cons, List.any_cons, ih]
    show ((n == x) || decide (x ∈ ns)) = decide (x ∈ n :: ns)
    by_cases e : n = x
    · subst e; simp
    · have : (n == x) = false := by simpa using e
      rw [this, Bool.false_or]
      simp [List.mem_cons, Ne.symm e]
abbrev Crs := Str × List Turn1
def crsD (c : Crs) : PyData := .tuple [.str c.1, turnsD c.2]
def low : List Turn1 → Int → Nat
  | [], _ => 0
  | t :: ts, h => if t.2 < h then low ts h + 1 else 0
theorem TdX.turn {ex : Addr → Prop} {H : Hp} {y : V} {t : Turn1} (h : TdX ex H y (turnD t)) : ∃ a, y = .ref a ∧ ¬ ex a ∧ H a = some (.tup [.str t.1, .int t.2]) := by
  cases h with
  | tup n ha hs =>
    cases hs with
    | cons h1 h2 =>
      cases h2 with
      | cons h3 h4 =>
        cases h4
        cases h1
        cases h3
        exact ⟨_, rfl, n, ha⟩
mutual
def noLs : PyData → Bool
  | .list _ => false
  | .dict _ => false
  | .tuple xs => noLsAll xs
  | .none => true
  | .bool _ => true
  | .int _ => true
  | .str _ => true
def noLsAll : List PyData → Bool
  | [] => true
  | x :: xs => noLs x && noLsAll xs
end
def KeepT (H H' : Hp) : Prop := ∀ b xs, H b = some (.tup xs) → H' b = some (.tup xs)
theorem KeepT.refl (H : Hp) : KeepT H H := fun _ _ h => h
theorem KeepT.trans {H H1 H2 : Hp} (a : KeepT H H1) (b : KeepT H1 H2) : KeepT H H2 := fun c xs h => b c xs (a c xs h)
theorem Same.kt {H H' : Hp} (s : Same H H') : KeepT H H' := fun b xs h => s b _ h
theorem Keep.kt {u : Addr} {H H' : Hp} {b : Nat} (k : Keep u H H') (hu : UrnAt H u b) : KeepT H H' := fun c xs h => by
  obtain ⟨ys, hy⟩ := hu.lst
  exact k c _ (ne_of h hy (by intro z; cases z)) h
theorem KeepT.upd {H : Hp} {l : Addr} {ys : List V} (h : H l = some (.lst ys)) (o : HO) : KeepT H (upd H l o) := fun b xs e => by
  rw [upd_ne (ne_of e h (by intro z; cases z))]; exact e
abbrev Tp (H : Hp) (v : V) (d : PyData) : Prop := TdX (fun _ => False) H v d
abbrev TpAll (H : Hp) (vs : List V) (ds : List PyData) : Prop := TdXAll (fun _ => False) H vs ds
mutual
theorem TdX.tp {ex : Addr → Prop} {H H' : Hp} (k : KeepT H H') : ∀ (d : PyData) (v : V), noLs d = true → TdX ex H v d → Tp H' v d
  | .none, _, _, h => by cases h; exact .non
  | .bool _, _, _, h => by cases h; exact .bl _
  | .int _, _, _, h => by cases h; exact .int _
  | .str _, _, _, h => by cases h; exact .str _
  | .list ds, _, n, _ => by cases n
  | .tuple ds, _, n, h => by
    cases h with
    | tup _ ha hs => exact .tup (fun z => z) (k _ _ ha) (TdXAll.tp k ds _ n hs)
  | .dict _, _, n, _ => by cases n
theorem TdXAll.tp {ex : Addr → Prop} {H H' : Hp} (k : KeepT H H') : ∀ (ds : List PyData) (vs : List V), noLsAll ds = true → TdXAll ex H vs ds → TpAll H' vs ds
  | [], _, _, h => by cases h; exact .nil
  | d :: ds, _, n, h => by
    cases h with
    | cons h1 h2 =>
      have n' : (noLs d && noLsAll ds) = true := n
      rw [Bool.and_eq_true] at n'
      exact .cons (TdX.tp k d _ n'.1 h1) (TdXAll.tp k ds _ n'.2 h2)
end
structure Flt where
  m : Int
  c : Int
  h : Int
  g : Int
  z : Int
  r : Int
  w : Str
  ts : List Turn1
def makeD (m c h g : Int) : PyData := .tuple [.int m, .int c, .int h, .int g]
def fltD (f : Flt) : PyData := .tuple [makeD f.m f.c f.h f.g, .int f.z, .int f.r, crsD (f.w, f.ts)]
structure FOk (many bound : Int) (f : Flt) : Prop where
  M : Mk4 f.m f.c f.h f.g
  r0 : -f.m ≤ f.r
  r1 : f.r ≤ f.m
  wd : f.w ∈ words4
  tr : Turns 0 bound f.ts
  ln : (f.ts.length : Int) ≤ many
theorem TdX.flt {ex : Addr → Prop} {H : Hp} {y : V} {f : Flt} (h : TdX ex H y (fltD f)) : ∃ a am yc, y = .ref a ∧ H a = some (.tup [.ref am, .int f.z, .int f.r, yc]) ∧ H am = some (.tup [.int f.m, .int f.c, .int f.h, .int f.g]) ∧ TdX ex H yc (crsD (f.w, f.ts)) := by
  cases h with
  | tup n ha hs =>
    obtain ⟨x1, x2, x3, x4, d1, d2, d3, d4, rfl, e, t1, t2, t3, t4⟩ := hs.four rfl
    simp only [List.cons.injEq, and_true] at e
    obtain ⟨rfl, rfl, rfl, rfl⟩ := e
    cases t2
    cases t3
    cases t1 with
    | tup n2 ha2 hs2 =>
      obtain ⟨x1, x2, x3, x5, d1, d2, d3, d4, rfl, e, t1, t2, t3, t5⟩ := hs2.four rfl
      simp only [List.cons.injEq, and_true] at e
      obtain ⟨rfl, rfl, rfl, rfl⟩ := e
      cases t1
      cases t2
      cases t3
      cases t5
      exact ⟨_, _, _, rfl, ha, ha2, t4⟩
def wordOf (w : Str) (ts : List Turn1) (mode : Nat) : Str := match mode with
  | 0 => w
  | k + 1 => match ts[k]? with
    | some t => t.1
    | none => w
def waysAt (f : Flt) (rate : Int) (l : Nat) : List (Nat × Int) := (rates f.m f.c f.h f.g (wordOf f.w f.ts l) rate).map fun o => (l, o)
def wayLo (f : Flt) (here : Int) (mode : Nat) : Nat := max mode (low f.ts here)
def ways (f : Flt) (here : Int) (mode : Nat) (rate : Int) : List (Nat × Int) := (List.range' (wayLo f here mode) (f.ts.length + 1 - wayLo f here mode)).flatMap (waysAt f rate)
theorem TdXAll.app {ex : Addr → Prop} {H : Hp} : ∀ {xs ys : List V} {ds es : List PyData}, TdXAll ex H xs ds → TdXAll ex H ys es → TdXAll ex H (xs ++ ys) (ds ++ es)
  | _, _, _, _, .nil, h => h
  | _, _, _, _, .cons h1 h2, h => .cons h1 (TdXAll.app h2 h)
theorem TpAll.k {H H' : Hp} {xs : List V} {ds : List PyData} (h : TpAll H xs ds) (n : noLsAll ds = true) (k : KeepT H H') : TpAll H' xs ds := TdXAll.tp k ds xs n h
theorem Tp.k {H H' : Hp} {x : V} {d : PyData} (h : Tp H x d) (n : noLs d = true) (k : KeepT H H') : Tp H' x d := TdX.tp k d x n h
theorem ways_mem {f : Flt} {here : Int} {mode : Nat} {rate : Int} {p : Nat × Int} (h : p ∈ ways f here mode rate) : wayLo f here mode ≤ p.1 ∧ p.1 ≤ f.ts.length ∧ p.2 ∈ rates f.m f.c f.h f.g (wordOf f.w f.ts p.1) rate := by
  unfold ways at h
  obtain ⟨l, hl, hp⟩ := List.mem_flatMap.mp h
  unfold waysAt at hp
  obtain ⟨o, ho, rfl⟩ := List.mem_map.mp hp
  have := List.mem_range'_1.mp hl
  exact ⟨this.1, by omega, ho⟩
inductive Ran (f : Flt) : Nat → Int → List Int → Prop
  | nil : Ran f 0 f.r []
  | snoc {mode : Nat} {rate : Int} {ns : List Int} {p : Nat × Int} : Ran f mode rate ns → p ∈ ways f ((ns.length : Int) + 1) mode rate → Ran f p.1 p.2 (ns ++ [p.2])
theorem Ran.ok {many bound : Int} {f : Flt} (ok : FOk many bound f) : ∀ {mode : Nat} {rate : Int} {ns : List Int}, Ran f mode rate ns → mode ≤ f.ts.length ∧ -f.m ≤ rate ∧ rate ≤ f.m ∧ ∀ n ∈ ns, -f.m ≤ n ∧ n ≤ f.m := by
  intro mode rate ns h
  induction h with
  | nil => exact ⟨Nat.zero_le _, ok.r0, ok.r1, fun n hn => by cases hn⟩
  | @snoc mode rate ns p _ hp ih =>
    obtain ⟨h1, h2, h3, h4⟩ := ih
    obtain ⟨w1, w2, w3⟩ := ways_mem hp
    have rr := (rates_small (x := wordOf f.w f.ts p.1) ok.M h2 h3).1 _ w3
    refine ⟨w2, rr.1, rr.2, fun n hn => ?_⟩
    rcases List.mem_append.mp hn with z | z
    · exact h4 n z
    · rw [List.mem_singleton.mp z]; exact rr
theorem meets_tuple_mul (l : Addr) (items : Array Value) (k : Int) (t : Tok) (h2 : 2 ≤ k) (hk : k ≤ 1000) (hne : items.isEmpty = false) (hz : items.size ≤ 1000) :
    Meets (Builtin.«tuple.__mul__» { pos := [.ref l, .int k t] }) fun x R s => IsTup s.heap l items ∧
      R (.ok (.ret (.ref s.heap.objs.size))) { s with heap := s.heap.push { cls := .type "tuple", data := .seq (List.foldl (fun x1 x2 => x1 ++ x2) #[] (List.replicate k.toNat items)) } } := by
  refine Meets.of_wp fun prog w A R s h => ?_
  obtain ⟨hl, h⟩ := h
  show wpAny (model prog w) A.in1 (asIndex (.int k t) >>= _) _ _ _
  refine wpAny_bind (wpAny_of_eq (show asIndex (.int k t) = pure k from rfl) ?_)
  refine wpAny_ite_false (by simp; omega) ?_
  refine wpAny_bind (tupleItemsOf_ hl ?_)
  refine wpAny_ite_false (by rw [hne]; simp; omega) ?_
  refine wpAny_ite_false (by rw [hne]; simp; omega) ?_
  have hs : (items.size : Int) * k ≤ 1000 * 1000 := Int.mul_le_mul (by omega) hk (by omega) (by decide)
  refine wpAny_ite_false (by simp; omega) ?_
  have hsl : (1000 * 1000 : Nat) ≤ sizeLine := by decide
  refine wpAny_ite_false (by unfold Builtin.Tuple.tupleTooMany; simp; omega) ?_
  refine wpAny_bind (wpAny_newObj_type (T := "tuple") (dict := none) ?_ ?_)
  · exact wpAny_pure ⟨_, rfl, h⟩
  · show Array.size _ ≤ sizeLine
    have hfl : ∀ (n : Nat) (acc : Array Value), (List.foldl (fun x1 x2 => x1 ++ x2) acc (List.replicate n items)).size = acc.size + n * items.size := fun n => by
      induction n with
      | zero => intro acc; simp
      | succ n ih => intro acc; rw [List.replicate_succ, List.foldl_cons, ih, Array.size_append, Nat.succ_mul]; omega
    rw [hfl]
    have := Nat.mul_le_mul (show k.toNat ≤ 1000 by omega) hz
    simp
    omega
theorem int_rmul_tuple (a : Int) (t : Tok) (l : Addr) (items : Array Value) : Meets (Builtin.«int.__rmul__» { pos := [Value.int a t, Value.ref l] }) fun x R s => IsTup s.heap l items ∧ R (Except.ok (Flow.ret Value.notImplemented)) s := by
  refine Meets.of_wp fun prog w A R s h => ?_
  obtain ⟨hl, h⟩ := h
  obtain ⟨⟨cls, dd, data, sl⟩, ho, hc, n, hd⟩ := hl
  simp only at hc hd
  subst hc hd
  show wpAny _ _ (asInt? (.ref l) >>= _) _ _ _
  refine wpAny_bind (wpAny_bind (wpAny_load' ho ?_))
  exact wpAny_pure (wpAny_bind (wpAny_rule (wpAny_pure ⟨_, rfl, h⟩)))
section
variable {X : Cx}
def rRepT (K : PySem.W.Frag) : R2 := fun x y H Q => ∃ l k xs, x = .ref l ∧ y = .int k ∧ SqT K H l xs ∧ 2 ≤ k ∧ k ≤ 1000 ∧ xs ≠ [] ∧ xs.length ≤ 1000 ∧
  ∀ p, H p = none → Q (.ref p) (upd H p (.tup (List.replicate k.toNat xs).flatten))
theorem op_repT : OpR X (binaryOp .Mult) (rRepT X.K) := by
  intro pins s σ H x y v u Q I rx ry h
  obtain ⟨l, k, xs, rfl, rfl, hH, h2, hk, hne, hz, q⟩ := h
  cases rx
  obtain ⟨t, rfl⟩ := ry
  obtain ⟨its, r, ht, _⟩ := I.tuple hH
  have hlen := r.length
  have he : its.toArray.isEmpty = false := by
    cases its with
    | nil => cases r; exact absurd rfl hne
    | cons a b => rfl
  have hnew : List.foldl (fun x1 x2 => x1 ++ x2) #[] (List.replicate k.toNat its.toArray) = (List.replicate k.toNat its).flatten.toArray := by
    have := foldl_rep its k.toNat []
    rw [List.nil_append] at this
    exact this
  have hty : s.TypeIs (.ref l) "tuple" := ht.typeIs
  refine wpAny_binaryOp_repeat_ref (T := "tuple") (U := "int") (by decide) hty (fun s' => typeIs_int s' k t) (by rfl) F.fills_int_mul F.slot_int_rmul (by rfl) F.slot_int_index.lookup
    (call_meets F.slot_int_rmul (typeIs_int s k t) F.entry_int_rmul (F.args_int_rmul_2 _ _) (int_rmul_tuple k t l its.toArray)
      ⟨ht, rfl, hty, call_meets F.slot_tuple_mul hty F.entry_tuple_mul (F.args_tuple_mul_2 _ _) (meets_tuple_mul l its.toArray k t h2 hk he (by simp; omega)) ⟨ht, ?_⟩⟩)
  rw [hnew]
  refine ⟨.ref s.heap.objs.size, _, I.laid (t' := s.toks) (o := .tup (List.replicate k.toNat xs).flatten) (fun b o e => Heap.get?_push_of_some _ e) (Nat.le_refl _) ⟨?_, _, r.rep k.toNat, IsTup.new _ _⟩, rfl, q _ I.fresh⟩
  rw [len_rep]
  exact Nat.le_trans (Nat.mul_le_mul (show k.toNat ≤ 1000 by omega) hz) (by decide)
end
end L2
namespace L2
namespace QQ
open PySem PySem.Spec PyProof.Rows L2
structure PE (X : Cx) (e : Expr) (t : TE) : Prop where
  r : L2.PE X e t
structure PT (X : Cx) (e : Expr) (t : TT) : Prop where
  r : L2.PT X e t
structure PW (X : Cx) (e : Expr) (t : TT) : Prop where
  r : L2.PW X e t
structure PA (X : Cx) (es : List Expr) (t : TA) : Prop where
  r : L2.PA X es t
structure PS (X : Cx) (st : Stmt) (t : TS) : Prop where
  r : L2.PS X st t
structure PSs (X : Cx) (st : List Stmt) (t : TS) : Prop where
  r : L2.PSs X st t
structure PG (X : Cx) (e : Expr) (t : TG) : Prop where
  r : L2.PG X e t
structure PGs (X : Cx) (e : List Expr) (t : TGs) : Prop where
  r : L2.PGs X e t
structure PI (X : Cx) (tg it : Expr) (wi : TI) : Prop where
  r : L2.PI X tg it wi
structure PTs (X : Cx) (ifs : List Expr) (t : TT) : Prop where
  r : L2.PTs X ifs t
structure PO (X : Cx) (e : Option Expr) (t : TO) : Prop where
  r : L2.PO X e t
structure PSet (X : Cx) (t : TSet) : Prop where
  r : L2.PSet X t
structure OpR (X : Cx) (f : Value → Value → Sem Value) (q : R2) : Prop where
  r : L2.OpR X f q
structure CallR (X : Cx) (f : Value) (q : List V → Hp → VK → Prop) : Prop where
  r : L2.CallR X f q
structure IxR (X : Cx) (q : R2) : Prop where
  r : L2.IxR X q
structure SlR (X : Cx) (q : V → Option Int → Option Int → Hp → VK → Prop) : Prop where
  r : L2.SlR X q
structure MtR (X : Cx) (id : String) (q : V → List V → Hp → VK → Prop) : Prop where
  r : L2.MtR X id q
structure MtM (X : Cx) (id : String) (q : V → List V → Hp → VK → Prop) : Prop where
  r : L2.MtM X id q
theorem PW.pt {X : Cx} {e : Expr} {t : TT} (h : QQ.PW X e t) : QQ.PT X e t := ⟨h.r.pt⟩
section
variable {X : Cx}
theorem pe_var {i : Nat} {x : Str} {pos : Pos} (hN : X.N[i]? = some x) (hv : Vis X.env.scope x) (hd : (x == ("__debug__" : Str)) = false := by decide) (hcd : (x == ("__classdict__" : Str)) = false := by decide) : QQ.PE X (.Name x pos) (tVar i) := ⟨L2.pe_var hN hv hd hcd⟩
end
section
variable {X : Cx}
theorem pv (i : Nat) {x : Str} {pos : Pos} (hN : X.N[i]? = some x := by rfl) (hv : Vis X.env.scope x := by first | exact Or.inl rfl | exact Or.inr (Or.inl rfl) | exact Or.inr (Or.inr rfl)) (hd : (x == ("__debug__" : Str)) = false := by decide)
    (hcd : (x == ("__classdict__" : Str)) = false := by decide) : QQ.PE X (.Name x pos) (tVar i) := ⟨L2.pv i hN hv hd hcd⟩
end
section
variable {X : Cx}
theorem pe_int {i j pos} : QQ.PE X (.Constant (.int i) j pos) (tC (.int i)) := ⟨L2.pe_int ⟩
end
section
variable {X : Cx}
theorem pe_bl {b j pos} : QQ.PE X (.Constant (.bool b) j pos) (tC (.bl b)) := ⟨L2.pe_bl ⟩
end
section
variable {X : Cx}
theorem pe_str {x j pos} : QQ.PE X (.Constant (.str x) j pos) (tC (.str x)) := ⟨L2.pe_str ⟩
end
section
variable {X : Cx}
theorem pe_glob {x : Str} {v : V} {u : Value} {pos : Pos} (hg : Gl X x) (hm : X.mg x = some u) (r : RelV v u) (hd : (x == ("__debug__" : Str)) = false := by decide) : QQ.PE X (.Name x pos) (tC v) := ⟨L2.pe_glob hg hm r hd⟩
end
section
variable {X : Cx}
theorem pe_bltn {x : Str} {v : V} {u : Value} {pos : Pos} (hg : Gl X x) (hm : X.mg x = none) (hv : bootBuiltins x = some u) (r : RelV v u) (hn : x ≠ "__name__" := by decide) (hd : (x == ("__debug__" : Str)) = false := by decide) : QQ.PE X (.Name x pos) (tC v) := ⟨L2.pe_bltn hg hm hv r hn hd⟩
end
section
variable {X : Cx} {a b c : Expr} {ta tb tc : TE} {pos : Pos}
theorem pe_op {op : Operator} {r : R2} (ho : QQ.OpR X (binaryOp op) r) (ha : QQ.PE X a ta) (hb : QQ.PE X b tb) : QQ.PE X (.BinOp a op b pos) (tOp r ta tb) := ⟨L2.pe_op ho.r ha.r hb.r⟩
end
section
variable {X : Cx} {a b : Expr} {ta tb : TE} {pos : Pos} {tA tB' : TT} {rest : List Expr}
theorem pe_and (ha : QQ.PE X a ta) (hb : QQ.PE X (.BoolOp .And (b :: rest) pos) tb) : QQ.PE X (.BoolOp .And (a :: b :: rest) pos) (tAndV ta tb) := ⟨L2.pe_and ha.r hb.r⟩
end
section
variable {X : Cx} {a b : Expr} {ta tb : TE} {pos : Pos} {tA tB' : TT} {rest : List Expr}
theorem pe_one {op} {t : TE} (h : QQ.PE X a t) : QQ.PE X (.BoolOp op [a] pos) t := ⟨L2.pe_one h.r⟩
end
section
variable {X : Cx} {a b c : Expr} {ta tb tc : TE} {pos : Pos}
theorem pe_cmpR {op : CmpOp} {r : R2} (ho : QQ.OpR X (compareOp op) r) (ha : QQ.PE X a ta) (hb : QQ.PE X b tb) (hm : behindInMarks op b = false) : QQ.PE X (.Compare a [op] [b] pos) (tOp r ta tb) := ⟨L2.pe_cmpR ho.r ha.r hb.r hm⟩
end
section
variable {X : Cx} {a b c : Expr} {ta tb tc : TE} {pos : Pos}
theorem pe_chain {op op' : CmpOp} {r r' : R2} (ho : QQ.OpR X (compareOp op) r) (ho' : QQ.OpR X (compareOp op') r') (ha : QQ.PE X a ta) (hb : QQ.PE X b tb) (hc : QQ.PE X c tc)
    (hm : lastMarks [op, op'] [b, c] = false := by with_unfolding_all rfl) : QQ.PE X (.Compare a [op, op'] [b, c] pos) (tChain r r' ta tb tc) := ⟨L2.pe_chain ho.r ho'.r ha.r hb.r hc.r hm⟩
end
section
variable {X : Cx} {a b : Expr} {ta tb : TE} {pos : Pos}
theorem pe_ix {r : R2} (hr : QQ.IxR X r) (ha : QQ.PE X a ta) (hb : QQ.PE X b tb) (hs : PlainIx b) : QQ.PE X (.Subscript a b pos) (tOp r ta tb) := ⟨L2.pe_ix hr.r ha.r hb.r hs⟩
end
section
variable {X : Cx} {e : Expr} {es : List Expr} {te : TE} {t : TA} {pos : Pos}
theorem pe_lst (h : QQ.PA X es t) : QQ.PE X (.List es pos) (tLst t) := ⟨L2.pe_lst h.r⟩
end
section
variable {X : Cx} {e : Expr} {es : List Expr} {te : TE} {t : TA} {pos : Pos}
theorem pe_tup {x1} (h : QQ.PA X es t) : QQ.PE X (.Tuple es x1 pos) (tTup t) := ⟨L2.pe_tup h.r⟩
end
section
variable {X : Cx} {x : Str} {p pos : Pos} {e : Expr} {es : List Expr} {te : TE} {t : TA} {id Ty : String} {r : List V → Hp → VK → Prop} {k j : Nat} {ps : List Str} {sp : Sp}
theorem pc (ha : QQ.PE X e te) (hr : QQ.PA X es t) (h : notStar e = true := by rfl) : QQ.PA X (e :: es) (tCons te t) := ⟨L2.pc ha.r hr.r h⟩
end
section
variable {X : Cx} {e : Expr} {es : List Expr} {te : TE} {t : TA} {pos : Pos}
theorem pa_nil  : QQ.PA X [] tNil := ⟨L2.pa_nil ⟩
end
section
variable {X : Cx} {x : Str} {p pos : Pos} {e : Expr} {es : List Expr} {te : TE} {t : TA} {id Ty : String} {r : List V → Hp → VK → Prop} {k j : Nat} {ps : List Str} {sp : Sp}
theorem pb (hc : QQ.CallR X (.builtin id) r) (hg : Gl X x) (hm : X.mg x = none) (hv : bootBuiltins x = some (.builtin id)) (ha : QQ.PA X (e :: es) t) (hp : (e :: es).all notStar = true := by rfl) (hn : x ≠ "__name__" := by decide) (hdb : (x == ("__debug__" : Str)) = false := by decide) : QQ.PE X (.Call (.Name x p) (e :: es) [] pos) (tCB r t) := ⟨L2.pb hc.r hg hm hv ha.r hp hn hdb⟩
end
section
variable {X : Cx} {x : Str} {p pos : Pos} {e : Expr} {es : List Expr} {te : TE} {t : TA} {id Ty : String} {r : List V → Hp → VK → Prop} {k j : Nat} {ps : List Str} {sp : Sp}
theorem py (hc : QQ.CallR X (.type Ty) r) (hg : Gl X x) (hm : X.mg x = none) (hv : bootBuiltins x = some (.type Ty)) (ha : QQ.PA X (e :: es) t) (hp : (e :: es).all notStar = true := by rfl) (hn : x ≠ "__name__" := by decide) (hdb : (x == ("__debug__" : Str)) = false := by decide) : QQ.PE X (.Call (.Name x p) (e :: es) [] pos) (tCB r t) := ⟨L2.py hc.r hg hm hv ha.r hp hn hdb⟩
end
section
variable {X : Cx} {x : Str} {p pos : Pos} {e : Expr} {es : List Expr} {te : TE} {t : TA} {id Ty : String} {r : List V → Hp → VK → Prop} {k j : Nat} {ps : List Str} {sp : Sp}
theorem pd (D : Dn X.prog X.w X.K X.mg X.base k x ps sp) (hr : Room j X.A) (hg : Gl X x) (ha : QQ.PA X (e :: es) t) (hle : k ≤ j := by first | decide | omega) (hd : (x == ("__debug__" : Str)) = false := by decide) (hp : (e :: es).all notStar = true := by rfl) : QQ.PE X (.Call (.Name x p) (e :: es) [] pos) (tCall sp [] E0 t) := ⟨L2.pd D hr hg ha.r hle hd hp⟩
end
section
variable {X : Cx} {a b c : Expr} {ta tb tc : TE} {pos : Pos}
theorem pt_cmpR {op : CmpOp} {r : R2} (ho : QQ.OpR X (compareOp op) r) (ha : QQ.PE X a ta) (hb : QQ.PE X b tb) (hm : behindInMarks op b = false) : QQ.PT X (.Compare a [op] [b] pos) (tTest (tOp r ta tb)) := ⟨L2.pt_cmpR ho.r ha.r hb.r hm⟩
end
section
variable {X : Cx} {a b c : Expr} {ta tb tc : TE} {pos : Pos}
theorem pt_chain {op op' : CmpOp} {r r' : R2} (ho : QQ.OpR X (compareOp op) r) (ho' : QQ.OpR X (compareOp op') r') (ha : QQ.PE X a ta) (hb : QQ.PE X b tb) (hc : QQ.PE X c tc)
    (hm : lastMarks [op, op'] [b, c] = false := by with_unfolding_all rfl) : QQ.PT X (.Compare a [op, op'] [b, c] pos) (tTest (tChain r r' ta tb tc)) := ⟨L2.pt_chain ho.r ho'.r ha.r hb.r hc.r hm⟩
end
section
variable {X : Cx} {a b : Expr} {ta tb : TE} {pos : Pos} {tA tB' : TT} {rest : List Expr}
theorem pt_not (ha : QQ.PT X a tA) : QQ.PT X (.UnaryOp .Not a pos) (tNot tA) := ⟨L2.pt_not ha.r⟩
end
section
variable {X : Cx} {a b : Expr} {ta tb : TE} {pos : Pos} {tA tB' : TT} {rest : List Expr}
theorem pw_and (ha : QQ.PT X a tA) (hb : QQ.PW X (.BoolOp .And (b :: rest) pos) tB') : QQ.PW X (.BoolOp .And (a :: b :: rest) pos) (tAnd tA tB') := ⟨L2.pw_and ha.r hb.r⟩
end
section
variable {X : Cx} {a b : Expr} {ta tb : TE} {pos : Pos} {tA tB' : TT} {rest : List Expr}
theorem pw_or (ha : QQ.PT X a tA) (hb : QQ.PW X (.BoolOp .Or (b :: rest) pos) tB') : QQ.PW X (.BoolOp .Or (a :: b :: rest) pos) (tOr tA tB') := ⟨L2.pw_or ha.r hb.r⟩
end
section
variable {X : Cx} {a b : Expr} {ta tb : TE} {pos : Pos} {tA tB' : TT} {rest : List Expr}
theorem pw_and1 (ha : QQ.PT X a tA) : QQ.PW X (.BoolOp .And [a] pos) tA := ⟨L2.pw_and1 ha.r⟩
end
section
variable {X : Cx} {a b : Expr} {ta tb : TE} {pos : Pos} {tA tB' : TT} {rest : List Expr}
theorem pw_or1 (ha : QQ.PT X a tA) : QQ.PW X (.BoolOp .Or [a] pos) tA := ⟨L2.pw_or1 ha.r⟩
end
section
variable {X : Cx} {a b c : Expr} {ta tb tc : TE} {pos : Pos}
theorem pt_truth (ha : QQ.PE X a ta) (he : ∀ whole, isTrue a X.env whole = (do let v ← whole; standAt a.pos; holding [v] (truthy v))) : QQ.PT X a (fun σ H Q => ta σ H fun x H' => ∃ k, TruV X.K x H' k ∧ Q k H') := ⟨L2.pt_truth ha.r he⟩
end
section
variable {X : Cx} {a b : Expr} {ta tb : TE} {pos : Pos} {o e : Expr} {es : List Expr} {to : TE} {t : TA} {name : Str} {apos cpos : Pos} {T id : String} {r : V → List V → Hp → VK → Prop}
theorem pe_bm (pa : PlainAttrs T) (slot : Slot T name id) (hty : typeOf (.builtin id) = pure (.type "method_descriptor")) (hm : QQ.MtR X id r) (ho : QQ.PE X o to) (ha : QQ.PA X (e :: es) t)
    (hbase : attributeBase o name X.env (eval o X.env) = eval o X.env := by rfl)
    (hfew : ((backTo cpos (starEach (e :: es) X.env)).all (fun x => !x.1) && (backToKw cpos (keywordEach [] X.env)).all (fun x => x.1.isSome)
      && decide ((e :: es).length + ([] : List Keyword).length + (if ([] : List Keyword).isEmpty then 0 else 1) < 30)) = true := by rfl)
    (hline : (apos.endLine == cpos.line) = true := by rfl) (hs : starEach (e :: es) X.env = (false, eval e X.env) :: starEach es X.env := by rfl) (hplain : (backTo cpos (starEach es X.env)).any (·.1) = false := by rfl) : QQ.PE X (.Call (.Attribute o name apos) (e :: es) [] cpos) (tBM X.K T r to t) := ⟨L2.pe_bm pa slot hty hm.r ho.r ha.r hbase hfew hline hs hplain⟩
end
section
variable {X : Cx} {st : Stmt} {rest : List Stmt} {t u : TS} {e : Expr} {te : TE} {pos : Pos}
theorem pss_nil  : QQ.PSs X [] tNext := ⟨L2.pss_nil ⟩
end
section
variable {X : Cx} {st : Stmt} {rest : List Stmt} {t u : TS} {e : Expr} {te : TE} {pos : Pos}
theorem pss_cons (h1 : QQ.PS X st t) (h2 : QQ.PSs X rest u) : QQ.PSs X (st :: rest) (tSeq t u) := ⟨L2.pss_cons h1.r h2.r⟩
end
section
variable {X : Cx} {st : Stmt} {rest : List Stmt} {t u : TS} {e : Expr} {te : TE} {pos : Pos}
theorem pss_one (h1 : QQ.PS X st t) : QQ.PSs X [st] t := ⟨L2.pss_one h1.r⟩
end
section
variable {X : Cx} {st : Stmt} {rest : List Stmt} {t u : TS} {e : Expr} {te : TE} {pos : Pos}
theorem ps_if {c : Expr} {a b : List Stmt} {tc : TT} (hc : QQ.PT X c tc) (ha : QQ.PSs X a t) (hb : QQ.PSs X b u) : QQ.PS X (.If c a b pos) (tIfS tc t u) := ⟨L2.ps_if hc.r ha.r hb.r⟩
end
section
variable {X : Cx} {st : Stmt} {rest : List Stmt} {t u : TS} {e : Expr} {te : TE} {pos : Pos}
theorem ps_ret (he : QQ.PE X e te) : QQ.PS X (.Return (some e) pos) (tRet te) := ⟨L2.ps_ret he.r⟩
end
section
variable {X : Cx} {st : Stmt} {rest : List Stmt} {t u : TS} {e : Expr} {te : TE} {pos : Pos}
theorem ps_expr (he : QQ.PE X e te) (hs : swapsWith e none pos.line X.env = pure false := by rfl) : QQ.PS X (.Expr e pos) (tDrop te) := ⟨L2.ps_expr he.r hs⟩
end
section
variable {X : Cx} {pos : Pos}
theorem ps_set {i : Nat} {x : Str} {e : Expr} {te : TE} {pos' : Pos} (hN : X.N.Nodup) (hi : X.N[i]? = some x) (hx : Loc X.env.scope x) (he : QQ.PE X e te) (hs : swapsWith e (some (.Name x pos')) pos.line X.env = pure false := by rfl) (hf : X.fn x = true ∨ X.env.scope.names.lookup x = some .local := by first | exact .inl rfl | exact .inr rfl | assumption) : QQ.PS X (.Assign [.Name x pos'] e pos) (tAsg te (gName i)) := ⟨L2.ps_set hN hi hx he.r hs hf⟩
end
section
variable {X : Cx} {pos : Pos}
theorem ps_asg {tg e : Expr} {te : TE} {g : TG} (he : QQ.PE X e te) (hg : QQ.PG X tg g) (hs : swapsWithSole [tg] e pos.line X.env = pure false := by rfl) (hw : swappedStores [tg] e X.env = pure none := by rfl)
    (h1 : (assignEach [tg] X.env).map (·.2) = [assign tg X.env] := by rfl) : QQ.PS X (.Assign [tg] e pos) (tAsg te g) := ⟨L2.ps_asg he.r hg.r hs hw h1⟩
end
section
variable {X : Cx} {pos : Pos}
theorem ps_par {i j : Nat} {x y : Str} {a b : Expr} {ta : TA} {px py pt : Pos} {kt k2 pt2} (hc : X.calm = true) (hN : X.N.Nodup) (hi : X.N[i]? = some x) (hj : X.N[j]? = some y) (hij : i ≠ j)
    (hx : X.env.scope.names.lookup x = some .local) (hy : X.env.scope.names.lookup y = some .local) (ha : QQ.PA X [a, b] ta)
    (hw : swappedStores [.Tuple [.Name x px, .Name y py] kt pt] (.Tuple [a, b] k2 pt2) X.env = pure (some [x, y]))
    (hs : swapsWithSole [.Tuple [.Name x px, .Name y py] kt pt] (.Tuple [a, b] k2 pt2) pos.line X.env = pure false := by rfl) : QQ.PS X (.Assign [.Tuple [.Name x px, .Name y py] kt pt] (.Tuple [a, b] k2 pt2) pos) (tPar i j ta) := ⟨L2.ps_par hc hN hi hj hij hx hy ha.r hw hs⟩
end
section
variable {X : Cx} {tg : Expr}
theorem ps_for {iter : Expr} {body : List Stmt} {wi : TI} {g : TG} {tb : TS} {pos : Pos} (hp : PassesOwn (model X.prog X.w) X.A X.env X.xe) (hc : X.calm = true) (hi : QQ.PI X tg iter wi) (hg : QQ.PG X tg g) (hb : QQ.PSs X body tb)
    (hs : ∀ x, foldedSetIterable iter X.env x = pure x := by intro _; rfl) : QQ.PS X (.For tg iter body [] pos) (tFor wi g tb) := ⟨L2.ps_for hp hc hi.r hg.r hb.r hs⟩
end
section
variable {X : Cx} {pos : Pos}
theorem pg_name {i : Nat} {x : Str} (hN : X.N.Nodup) (hi : X.N[i]? = some x) (hx : Loc X.env.scope x) (hf : X.fn x = true ∨ X.env.scope.names.lookup x = some .local := by first | exact .inl rfl | exact .inr rfl | assumption) : QQ.PG X (.Name x pos) (gName i) := ⟨L2.pg_name hN hi hx hf⟩
end
section
variable {X : Cx} {pos : Pos}
theorem pg_tup {es : List Expr} {k : Nat} {t : TGs} {n : Nat} (hc : X.calm = true) (h : QQ.PGs X es t)
    (hn : (assignEach es X.env).length = n := by rfl) (hst : (assignEach es X.env).findIdx? (·.1) = none := by rfl) : QQ.PG X (.Tuple es k pos) (gTup X.K n t) := ⟨L2.pg_tup hc h.r hn hst⟩
end
section
variable {X : Cx} {pos : Pos}
theorem pg_sub {o i : Expr} {to ti : TE} {t : TSet} (ho : QQ.PE X o to) (hi : QQ.PE X i ti) (hs : QQ.PSet X t)
    (ha : ∀ v, assign (.Subscript o i pos) X.env v = (do
      let ov ← holding [v] (eval o X.env)
      let iv ← holding [v, ov] (eval i X.env)
      standAt pos
      holding [v, ov, iv] (setItem ov iv v)
      release [v, ov, iv] []) := by intro _; rfl) : QQ.PG X (.Subscript o i pos) (gSub to ti t) := ⟨L2.pg_sub ho.r hi.r hs.r ha⟩
end
section
variable {X : Cx} {pos : Pos}
theorem pgs_nil  : QQ.PGs X [] gNil := ⟨L2.pgs_nil ⟩
end
section
variable {X : Cx} {pos : Pos}
theorem pgs_cons {e : Expr} {es : List Expr} {t : TG} {u : TGs} (h1 : QQ.PG X e t) (h2 : QQ.PGs X es u)
    (hs : (assignEach (e :: es) X.env).map (·.2) = assign e X.env :: (assignEach es X.env).map (·.2) := by rfl) : QQ.PGs X (e :: es) (gCons t u) := ⟨L2.pgs_cons h1.r h2.r hs⟩
end
section
variable {X : Cx} {tg : Expr}
theorem pi_list {l : Expr} {tl : TE} (hl : QQ.PE X l tl) : QQ.PI X tg l (iList X.K tl) := ⟨L2.pi_list hl.r⟩
end
section
variable {X : Cx} {tg : Expr}
theorem pi_tup {l : Expr} {tl : TE} (hl : QQ.PE X l tl) : QQ.PI X tg l (iTup X.K tl) := ⟨L2.pi_tup hl.r⟩
end
section
variable {X : Cx} {tg : Expr}
theorem pi_range1 {a : Expr} {ta : TA} {p pos : Pos} (hg : Gl X "range") (hm : X.mg "range" = none) (ha : QQ.PA X [a] ta) (hs : starEach [a] X.env = [(false, eval a X.env)] := by rfl) : QQ.PI X tg (.Call (.Name "range" p) [a] [] pos) (iRng1 ta) := ⟨L2.pi_range1 hg hm ha.r hs⟩
end
section
variable {X : Cx} {tg : Expr}
theorem pi_range2 {a b : Expr} {ta : TA} {p pos : Pos} (hg : Gl X "range") (hm : X.mg "range" = none) (ha : QQ.PA X [a, b] ta) (hs : starEach [a, b] X.env = [(false, eval a X.env), (false, eval b X.env)] := by rfl) (hs2 : starEach [b] X.env = [(false, eval b X.env)] := by rfl) : QQ.PI X tg (.Call (.Name "range" p) [a, b] [] pos) (iRng2 ta) := ⟨L2.pi_range2 hg hm ha.r hs hs2⟩
end
section
variable {X : Cx} {pins : List (Addr × Obj)} {σ : St} {H : Hp} {s : Shared}
theorem pts_nil  : QQ.PTs X [] tYes := ⟨L2.pts_nil ⟩
end
section
variable {X : Cx} {pins : List (Addr × Obj)} {σ : St} {H : Hp} {s : Shared}
theorem pts_one {c : Expr} {t : TT} (h : QQ.PT X c t) : QQ.PTs X [c] t := ⟨L2.pts_one h.r⟩
end
section
variable {X : Cx} {a b c : Expr} {ta tb tc : TE} {pos : Pos}
theorem op_add  : QQ.OpR X (binaryOp .Add) (rI0 fun i j => .int (i + j)) := ⟨L2.op_add ⟩
end
section
variable {X : Cx} {a b c : Expr} {ta tb tc : TE} {pos : Pos}
theorem op_sub  : QQ.OpR X (binaryOp .Sub) (rI0 fun i j => .int (i - j)) := ⟨L2.op_sub ⟩
end
section
variable {X : Cx} {a b c : Expr} {ta tb tc : TE} {pos : Pos}
theorem op_mul  : QQ.OpR X (binaryOp .Mult) (rI CMul fun i j => .int (i * j)) := ⟨L2.op_mul ⟩
end
section
variable {X : Cx} {a b c : Expr} {ta tb tc : TE} {pos : Pos}
theorem op_mod  : QQ.OpR X (binaryOp .Mod) (rI (fun _ j => 0 < j) fun i j => .int (i % j)) := ⟨L2.op_mod ⟩
end
section
variable {X : Cx} {a b c : Expr} {ta tb tc : TE} {pos : Pos}
theorem op_fdiv  : QQ.OpR X (binaryOp .FloorDiv) (rI CDiv fun i j => .int (i / j)) := ⟨L2.op_fdiv ⟩
end
section
variable {X : Cx}
theorem op_pw  : QQ.OpR X (binaryOp .Pow) (rI CPw fun i j => .int (i ^ j.toNat)) := ⟨L2.op_pw ⟩
end
section
variable {X : Cx} {a b c : Expr} {ta tb tc : TE} {pos : Pos}
theorem op_eq  : QQ.OpR X (compareOp .Eq) rEq := ⟨L2.op_eq ⟩
end
section
variable {X : Cx} {a b c : Expr} {ta tb tc : TE} {pos : Pos}
theorem op_ne  : QQ.OpR X (compareOp .NotEq) rNe := ⟨L2.op_ne ⟩
end
section
variable {X : Cx} {a b c : Expr} {ta tb tc : TE} {pos : Pos}
theorem op_lt  : QQ.OpR X (compareOp .Lt) (rI0 fun i j => .bl (decide (i < j))) := ⟨L2.op_lt ⟩
end
section
variable {X : Cx} {a b c : Expr} {ta tb tc : TE} {pos : Pos}
theorem op_le  : QQ.OpR X (compareOp .LtE) (rI0 fun i j => .bl (decide (i ≤ j))) := ⟨L2.op_le ⟩
end
section
variable {X : Cx} {a b c : Expr} {ta tb tc : TE} {pos : Pos}
theorem op_gt  : QQ.OpR X (compareOp .Gt) (rI0 fun i j => .bl (decide (j < i))) := ⟨L2.op_gt ⟩
end
section
variable {X : Cx} {a b : Expr} {ta tb : TE} {pos : Pos}
theorem op_in_seq  : QQ.OpR X (compareOp .In) (rIn X.K false) := ⟨L2.op_in_seq ⟩
end
section
variable {X : Cx} {a b : Expr} {ta tb : TE} {pos : Pos}
theorem op_notIn_seq  : QQ.OpR X (compareOp .NotIn) (rIn X.K true) := ⟨L2.op_notIn_seq ⟩
end
section
variable {X : Cx}
theorem op_eqD (hu : X.A.units + 64 < cLine) : QQ.OpR X (compareOp .Eq) (rEqD X.K) := ⟨L2.op_eqD hu⟩
end
section
variable {X : Cx}
theorem op_neD (hu : X.A.units + 64 < cLine) : QQ.OpR X (compareOp .NotEq) (rNeD X.K) := ⟨L2.op_neD hu⟩
end
section
variable {X : Cx} {a b c : Expr} {ta tb tc : TE} {pos : Pos}
theorem call_abs  : QQ.CallR X (.builtin "abs") (fun xs H Q => ∃ i, xs = [.int i] ∧ Q (.int (if i < 0 then -i else i)) H) := ⟨L2.call_abs ⟩
end
section
variable {X : Cx} {a b c : Expr} {ta tb tc : TE} {pos : Pos}
theorem call_max2 (hc : X.calm = true) : QQ.CallR X (.builtin "max") (fun xs H Q => ∃ i j, xs = [.int i, .int j] ∧ Q (.int (if j > i then j else i)) H) := ⟨L2.call_max2 hc⟩
end
section
variable {X : Cx} {a b c : Expr} {ta tb tc : TE} {pos : Pos}
theorem call_min2 (hc : X.calm = true) : QQ.CallR X (.builtin "min") (fun xs H Q => ∃ i j, xs = [.int i, .int j] ∧ Q (.int (if j < i then j else i)) H) := ⟨L2.call_min2 hc⟩
end
section
variable {X : Cx} {a b : Expr} {ta tb : TE} {pos : Pos}
theorem call_len_seq  : QQ.CallR X (.builtin "len") (fun xs H Q => ∃ p ys, xs = [.ref p] ∧ (SqL X.K H p ys ∨ SqT X.K H p ys) ∧ Q (.int ys.length) H) := ⟨L2.call_len_seq ⟩
end
section
variable {X : Cx}
theorem call_isi  : QQ.CallR X (.builtin "isinstance") (fun xs H Q => ∃ x T t b, xs = [x, .ty T] ∧ TyP X.K H x t ∧ PySem.W.kitOne X.K t (.type T) = some b ∧ Q (.bl b) H) := ⟨L2.call_isi ⟩
end
section
variable {X : Cx}
theorem call_repr (hg : X.A.guards = some []) (hu : X.A.units + 64 < cLine) : QQ.CallR X (.builtin "repr") (fun xs H Q => ∃ x d, xs = [x] ∧ Dp X.K H x d ∧ Sm d ∧ Q (.str d.shown) H) := ⟨L2.call_repr hg hu⟩
end
section
variable {X : Cx} {a b : Expr} {ta tb : TE} {pos : Pos}
theorem call_tuple_of  : QQ.CallR X (.type "tuple") (fun xs H Q => ∃ p ys, xs = [.ref p] ∧ ((SqL X.K H p ys ∧ ∀ l, H l = none → Q (.ref l) (upd H l (.tup ys))) ∨ (SqT X.K H p ys ∧ Q (.ref p) H))) := ⟨L2.call_tuple_of ⟩
end
section
variable {X : Cx}
theorem cr_all (hc : X.calm = true) : QQ.CallR X (.builtin "all") (rAll X.K) := ⟨L2.cr_all hc⟩
end
section
variable {X : Cx} {a b : Expr} {ta tb : TE} {pos : Pos}
theorem ix_list  : QQ.IxR X (rIxL X.K) := ⟨L2.ix_list ⟩
end
section
variable {X : Cx} {a b : Expr} {ta tb : TE} {pos : Pos}
theorem ix_tup  : QQ.IxR X (rIxT X.K) := ⟨L2.ix_tup ⟩
end
section
variable {X : Cx} {a b : Expr} {ta tb : TE} {pos : Pos}
theorem ix_str  : QQ.IxR X rIxS := ⟨L2.ix_str ⟩
end
section
variable {X : Cx} {a b : Expr} {ta tb : TE} {pos : Pos}
theorem set_list  : QQ.PSet X rSetL := ⟨L2.set_list ⟩
end
section
variable {X : Cx}
theorem op_isnot_b  : QQ.OpR X (compareOp .IsNot) (fun x y H Q => ∃ c d, x = .bl c ∧ y = .bl d ∧ Q (.bl (c != d)) H) := ⟨L2.op_isnot_b ⟩
end
section
variable {X : Cx} {a b : Expr} {ta tb : TE} {pos : Pos}
theorem ix_seq  : QQ.IxR X (rIx X.K) := ⟨L2.ix_seq ⟩
end
section
variable {X : Cx}
theorem op_repT  : QQ.OpR X (binaryOp .Mult) (rRepT X.K) := ⟨L2.op_repT ⟩
end
section
variable {X : Cx}
theorem pe_lc {elt tg iter : Expr} {ifs : List Expr} {scope : Scope} {own : List (Str × Nat)} {pos : Pos} {wi : TI} {g : TG} {tt : TT} {te : TE} (hc : X.calm = true) (hN : X.N.Nodup) (hi : QQ.PI X tg iter wi) (ok : BlkOk X.N X.env.scope scope own)
    (hg : ∀ (s : Shared) (H : Hp) (C : Addr) (cl : List (Str × Addr)) (fp : List Addr), QQ.PG (X.blk s H scope (compEnvC scope cl C X.env) fp) tg g) (ht : ∀ (s : Shared) (H : Hp) (C : Addr) (cl : List (Str × Addr)) (fp : List Addr), QQ.PTs (X.blk s H scope (compEnvC scope cl C X.env) fp) ifs tt)
    (he : ∀ (s : Shared) (H : Hp) (C : Addr) (cl : List (Str × Addr)) (fp : List Addr), QQ.PE (X.blk s H scope (compEnvC scope cl C X.env) fp) elt te) (hs : ∀ x, foldedSetIterable iter X.env x = pure x := by intro _; rfl) :
    QQ.PE X (.ListComp elt [⟨tg, iter, ifs, 0⟩] scope pos) (tLc wi g tt te (own.map (·.2))) := ⟨L2.pe_lc hc hN hi.r ok (fun a b c d e => (hg a b c d e).r) (fun a b c d e => (ht a b c d e).r) (fun a b c d e => (he a b c d e).r) hs⟩
end
end QQ
section
open PySem PySem.Spec PyProof.Rows
variable {P : Program} {w : World} {K : PySem.W.Frag} {mg : Str → Option Value} {base : Heap} {x : Str} {st : Stmt} {N ps : List Str} {k : Nat} {sp : Sp}
theorem Fn.dnq (F : Fn K mg x st) (S : FnScope N ps (defScope st))
    (hb : ∀ (kV doc pm : Value) (an : Option Addr) (cdv ct : Value) (us : List Value), us.length = ps.length → bindArgs (PySem.W.fnOf x x (defArgs st) (defBody st) (defScope st) .none kV doc pm an cdv ct) ⟨us, []⟩ = pure (ps.zip us))
    (len : ∀ vs H Q E, sp vs H Q E → vs.length = ps.length)
    (hbody : ∀ (f : Addr) (cdv : Value) (A : Around) (outer : List Env) (s : Shared) (H : Hp) (vs : List V) (Q : VK) (E : XK), Room k (A.deeper (envOfC x (defScope st) s.heap.objs.size f cdv)) → sp vs H Q E →
      ∃ t, L2.QQ.PSs (cxOf CX0 P w K mg base N x (defScope st) f cdv A outer s H E).nox (defBody st) t ∧ t { nx := fun _ H' => Q .non H', rt := Q } (start N vs) H) : Dn P w K mg base (k + 1) x ps sp :=
  F.dn S hb len fun f cdv A outer s H vs Q E hr h => let ⟨t, a, b⟩ := hbody f cdv A outer s H vs Q E hr h; ⟨t, a.r, b⟩
end
end L2
set_option Elab.async false
set_option linter.all false
set_option maxRecDepth 100000
namespace L2
namespace PU
open PySem PySem.Spec PyProof.Rows L2
abbrev D := PyData
abbrev En := List (Option D)
abbrev KE := D → Nat → Prop
abbrev PTE := En → Nat → KE → Prop
abbrev PTT := En → Nat → (Bool → Nat → Prop) → Prop
abbrev PTA := En → Nat → (List D → Nat → Prop) → Prop
structure PEnds where
  nx : En → Nat → Prop
  rt : KE
  bk : En → Nat → Prop := fun _ _ => False
  ct : En → Nat → Prop := fun _ _ => False
abbrev PTS := PEnds → En → Nat → Prop
abbrev PTG := D → En → (En → Prop) → Prop
abbrev PTGs := List D → En → (En → Prop) → Prop
structure C where
  K : PySem.W.Frag
  ur : Option Nat
  own : List Nat
  sc : Option Nat
  n : Nat
structure Fm where
  H0 : Hp
  ex : Addr → Prop
  u0 : Option Addr
abbrev Ow := Nat → Option Addr
def exA (ex : Addr → Prop) (L : Ow) (z : Addr) : Prop := ex z ∨ ∃ i, L i = some z
def isU (c : C) (L : Ow) (z : Addr) : Prop := ∃ i, c.ur = some i ∧ L i = some z
def Plain (c : C) (i : Nat) : Prop := i ∉ c.own ∧ c.ur ≠ some i ∧ c.sc ≠ some i
instance (c : C) (i : Nat) : Decidable (Plain c i) := by unfold Plain; infer_instance
def nT (o : HO) : Prop := ∀ xs, o ≠ .tup xs
theorem nT_lst {xs : List V} : nT (.lst xs) := fun _ e => by cases e
theorem nT_dT {kvs : List (List Key × V)} : nT (.dT kvs) := fun _ e => by cases e
inductive ObD (ex : Addr → Prop) (H : Hp) : HO → D → Prop
  | lst {vs : List V} {ds : List D} : TdXAll ex H vs ds → ObD ex H (.lst vs) (.list ds)
  | dct {kvs : List (List Key × V)} {kds : List (D × D)} : TdXKv ex H kvs kds → ObD ex H (.dT kvs) (.dict kds)
theorem ObD.to {ex ex' : Addr → Prop} {H H' : Hp} (k : ∀ b o, ¬ ex b → H b = some o → ¬ ex' b ∧ H' b = some o) {o : HO} {d : D} (h : ObD ex H o d) : ObD ex' H' o d := by
  cases h with
  | lst h => exact .lst (TdXAll.to k _ _ h)
  | dct h => exact .dct (TdXKv.to k _ _ h)
theorem ObD.nt {ex : Addr → Prop} {H : Hp} {o : HO} {d : D} (h : ObD ex H o d) : nT o := by
  cases h with
  | lst h => exact nT_lst
  | dct h => exact nT_dT
theorem ObD.td {ex : Addr → Prop} {H : Hp} {o : HO} {d : D} {a : Addr} (h : ObD ex H o d) (n : ¬ ex a) (ha : H a = some o) : TdX ex H (.ref a) d := by
  cases h with
  | lst h => exact .lst n ha h
  | dct h => exact .dct n (.inl ha) h
def OwAt (c : C) (F : Fm) (L : Ow) (H : Hp) (ρ : En) (b : Nat) (i : Nat) (a : Addr) : Prop :=
  (c.ur = some i ∧ UrnAt H a b) ∨ (c.ur ≠ some i ∧ (i ∈ c.own ∧ ¬ F.ex a) ∧ ∃ vs ds, ρ[i]? = some (some ds) ∧ H a = some vs ∧ ObD (exA F.ex L) H vs ds)
structure RS (c : C) (F : Fm) (L : Ow) (σ : St) (H : Hp) (ρ : En) (b : Nat) : Prop where
  len : σ.length = ρ.length
  len2 : ρ.length = c.n
  vals : ∀ (i : Nat) (d : D), ρ[i]? = some (some d) → i ∉ c.own → c.ur ≠ some i → ∃ v, σ[i]? = some (some v) ∧ TdX (exA F.ex L) H v d
  ow : ∀ (i : Nat) (a : Addr), L i = some a → σ[i]? = some (some (.ref a)) ∧ (F.H0 a = none ∨ F.u0 = some a) ∧ OwAt c F L H ρ b i a
  ow' : ∀ (i : Nat) (d : D), i ∈ c.own → ρ[i]? = some (some d) → ∃ a, L i = some a
  inj : ∀ (i j : Nat) (a : Addr), L i = some a → L j = some a → i = j
  nur : ∀ i : Nat, c.ur = some i → i ∉ c.own ∧ ∀ d, ρ[i]? = some (some d) → ∃ a, L i = some a
  tr : ∀ z, exA F.ex L z → ∃ o, H z = some o ∧ nT o
  fr : ∀ z o, F.u0 ≠ some z → F.H0 z = some o → H z = some o
  u0 : ∀ u, F.u0 = some u → isU c L u
  scr : ∀ i : Nat, c.sc = some i → F.u0 = none ∧ (∀ d, ρ[i]? ≠ some (some d)) ∧ i ∉ c.own ∧ c.ur ≠ some i ∧ ∃ a ns, σ[i]? = some (some (.ref a)) ∧ SqL c.K F.H0 a (List.map V.int ns) ∧ ns.length ≤ 63
def EvU (c : C) (L : Ow) (H H' : Hp) : Prop := ∀ z o, ¬ isU c L z → H z = some o → H' z = some o
theorem EvU.refl {c : C} {L : Ow} (H : Hp) : EvU c L H H := fun _ _ _ h => h
theorem EvU.trans {c : C} {L : Ow} {H H1 H2 : Hp} (a : EvU c L H H1) (b : EvU c L H1 H2) : EvU c L H H2 := fun z o n h => b z o n (a z o n h)
theorem EvU.same {c : C} {L : Ow} {H H' : Hp} (s : Same H H') : EvU c L H H' := fun z o _ h => s z o h
theorem isU.ex {c : C} {ex : Addr → Prop} {L : Ow} {z : Addr} (h : isU c L z) : exA ex L z := let ⟨i, _, e⟩ := h; .inr ⟨i, e⟩
theorem evu {c : C} {ex : Addr → Prop} {L : Ow} {H H' : Hp} {v : V} {d : D} (h : TdX (exA ex L) H v d) (e : EvU c L H H') : TdX (exA ex L) H' v d :=
  TdX.to (fun b o n q => ⟨n, e b o (fun z => n z.ex) q⟩) d v h
theorem evuAll {c : C} {ex : Addr → Prop} {L : Ow} {H H' : Hp} {vs : List V} {ds : List D} (h : TdXAll (exA ex L) H vs ds) (e : EvU c L H H') : TdXAll (exA ex L) H' vs ds :=
  TdXAll.to (fun b o n q => ⟨n, e b o (fun z => n z.ex) q⟩) ds vs h
theorem RS.go {c : C} {F : Fm} {L : Ow} {σ : St} {H H' : Hp} {ρ : En} {b b' : Nat} (r : RS c F L σ H ρ b) (e : EvU c L H H') (hu : ∀ z, isU c L z → UrnAt H' z b') : RS c F L σ H' ρ b' where
  len := r.len
  len2 := r.len2
  vals := fun i d h n n2 => let ⟨v, a, t⟩ := r.vals i d h n n2; ⟨v, a, evu t e⟩
  ow := fun i a h => by
    obtain ⟨h1, h2, h3⟩ := r.ow i a h
    refine ⟨h1, h2, ?_⟩
    rcases h3 with ⟨hu1, _⟩ | ⟨hu1, ho, vs, ds, hr, hH, ht⟩
    · exact .inl ⟨hu1, hu a ⟨i, hu1, h⟩⟩
    · refine .inr ⟨hu1, ho, vs, ds, hr, e a _ (fun ⟨j, hj, hl⟩ => ?_) hH, ht.to fun b o n q => ⟨n, e b o (fun z => n z.ex) q⟩⟩
      have := r.inj j i a hl h
      subst this
      exact hu1 hj
  ow' := r.ow'
  inj := r.inj
  nur := r.nur
  tr := fun z hz => by
    by_cases q : isU c L z
    · obtain ⟨xs, h⟩ := (hu z q).lst
      exact ⟨_, h, nT_lst⟩
    · obtain ⟨o, h, ht⟩ := r.tr z hz
      exact ⟨o, e z o q h, ht⟩
  fr := fun z o n h => e z o (fun ⟨i, _, hl⟩ => by
    rcases (r.ow i z hl).2.1 with q | q
    · rw [h] at q; cases q
    · exact n q) (r.fr z o n h)
  u0 := r.u0
  scr := r.scr
theorem RS.urn {c : C} {F : Fm} {L : Ow} {σ : St} {H : Hp} {ρ : En} {b : Nat} (r : RS c F L σ H ρ b) {z : Addr} (h : isU c L z) : UrnAt H z b := by
  obtain ⟨i, hi, hl⟩ := h
  rcases (r.ow i z hl).2.2 with ⟨_, q⟩ | ⟨q, _⟩
  · exact q
  · exact absurd hi q
theorem RS.same {c : C} {F : Fm} {L : Ow} {σ : St} {H H' : Hp} {ρ : En} {b : Nat} (r : RS c F L σ H ρ b) (s : Same H H') : RS c F L σ H' ρ b := r.go (.same s) fun z h => (r.urn h).same s
theorem RS.noL {c : C} {F : Fm} {L : Ow} {σ : St} {H : Hp} {ρ : En} {b : Nat} (r : RS c F L σ H ρ b) {i : Nat} (p : Plain c i) : L i = none := by
  cases e : L i with
  | none => rfl
  | some a =>
    rcases (r.ow i a e).2.2 with ⟨q, _⟩ | ⟨_, q, _⟩
    · exact absurd q p.2.1
    · exact absurd q.1 p.1
theorem set_get {α : Type} {l : List (Option α)} {i j : Nat} {x y : Option α} (h : (l.set i x)[j]? = some y) : (i = j ∧ x = y ∧ i < l.length) ∨ (i ≠ j ∧ l[j]? = some y) := by
  by_cases e : i = j
  · subst e
    by_cases hl : i < l.length
    · rw [List.getElem?_set_self hl] at h; exact .inl ⟨rfl, Option.some.inj h, hl⟩
    · rw [List.getElem?_eq_none (by simpa using hl)] at h; cases h
  · rw [List.getElem?_set_ne e] at h; exact .inr ⟨e, h⟩
theorem RS.set {c : C} {F : Fm} {L : Ow} {σ : St} {H : Hp} {ρ : En} {b : Nat} (r : RS c F L σ H ρ b) {i : Nat} (p : Plain c i) {v : V} {d : D} (h : TdX (exA F.ex L) H v d) : RS c F L (σ.set i (some v)) H (ρ.set i (some d)) b where
  len := by rw [List.length_set, List.length_set]; exact r.len
  len2 := by rw [List.length_set]; exact r.len2
  vals := fun j e hj n n2 => by
    rcases set_get hj with ⟨rfl, q, hl⟩ | ⟨ne, q⟩
    · cases q
      exact ⟨v, List.getElem?_set_self (by rw [r.len]; exact hl), h⟩
    · obtain ⟨w, a, t⟩ := r.vals j e q n n2
      exact ⟨w, by rw [List.getElem?_set_ne ne]; exact a, t⟩
  ow := fun j a hj => by
    have ne : i ≠ j := fun z => by subst z; rw [r.noL p] at hj; cases hj
    obtain ⟨h1, h2, h3⟩ := r.ow j a hj
    refine ⟨by rw [List.getElem?_set_ne ne]; exact h1, h2, ?_⟩
    rcases h3 with q | ⟨q1, q2, vs, ds, q3, q4⟩
    · exact .inl q
    · exact .inr ⟨q1, q2, vs, ds, by rw [List.getElem?_set_ne ne]; exact q3, q4⟩
  ow' := fun j e hj he => by
    have ne : i ≠ j := fun z => p.1 (z ▸ hj)
    rw [List.getElem?_set_ne ne] at he
    exact r.ow' j e hj he
  inj := r.inj
  nur := fun j hj => by
    have ne : i ≠ j := fun z => p.2.1 (z ▸ hj)
    refine ⟨(r.nur j hj).1, fun e he => ?_⟩
    rw [List.getElem?_set_ne ne] at he; exact (r.nur j hj).2 e he
  tr := r.tr
  fr := r.fr
  u0 := r.u0
  scr := fun j hj => by
    have ne : i ≠ j := fun z => p.2.2 (z ▸ hj)
    obtain ⟨h1, h2, h3, h4, a, ns, h5, h6⟩ := r.scr j hj
    exact ⟨h1, fun e => by rw [List.getElem?_set_ne ne]; exact h2 e, h3, h4, a, ns, by rw [List.getElem?_set_ne ne]; exact h5, h6⟩
theorem RS.unset {c : C} {F : Fm} {L : Ow} {σ : St} {H : Hp} {ρ : En} {b : Nat} (r : RS c F L σ H ρ b) {i : Nat} (p : Plain c i) : RS c F L (σ.set i none) H (ρ.set i none) b where
  len := by rw [List.length_set, List.length_set]; exact r.len
  len2 := by rw [List.length_set]; exact r.len2
  vals := fun j e hj n n2 => by
    rcases set_get hj with ⟨rfl, q, hl⟩ | ⟨ne, q⟩
    · cases q
    · obtain ⟨w, a, t⟩ := r.vals j e q n n2
      exact ⟨w, by rw [List.getElem?_set_ne ne]; exact a, t⟩
  ow := fun j a hj => by
    have ne : i ≠ j := fun z => by subst z; rw [r.noL p] at hj; cases hj
    obtain ⟨h1, h2, h3⟩ := r.ow j a hj
    refine ⟨by rw [List.getElem?_set_ne ne]; exact h1, h2, ?_⟩
    rcases h3 with q | ⟨q1, q2, vs, ds, q3, q4⟩
    · exact .inl q
    · exact .inr ⟨q1, q2, vs, ds, by rw [List.getElem?_set_ne ne]; exact q3, q4⟩
  ow' := fun j e hj he => by
    have ne : i ≠ j := fun z => p.1 (z ▸ hj)
    rw [List.getElem?_set_ne ne] at he
    exact r.ow' j e hj he
  inj := r.inj
  nur := fun j hj => by
    have ne : i ≠ j := fun z => p.2.1 (z ▸ hj)
    refine ⟨(r.nur j hj).1, fun e he => ?_⟩
    rw [List.getElem?_set_ne ne] at he; exact (r.nur j hj).2 e he
  tr := r.tr
  fr := r.fr
  u0 := r.u0
  scr := fun j hj => by
    have ne : i ≠ j := fun z => p.2.2 (z ▸ hj)
    obtain ⟨h1, h2, h3, h4, a, ns, h5, h6⟩ := r.scr j hj
    exact ⟨h1, fun e => by rw [List.getElem?_set_ne ne]; exact h2 e, h3, h4, a, ns, by rw [List.getElem?_set_ne ne]; exact h5, h6⟩
def pwipe (ρ : En) : List Nat → En
  | [] => ρ
  | v :: vs => (pwipe ρ vs).set v none
theorem RS.wipe {c : C} {F : Fm} {L : Ow} {σ : St} {H : Hp} {ρ : En} {b : Nat} (r : RS c F L σ H ρ b) : ∀ {vs : List Nat}, (∀ i ∈ vs, Plain c i) → RS c F L (L2.wipe σ vs) H (pwipe ρ vs) b
  | [], _ => r
  | v :: vs, h => (RS.wipe r fun i hi => h i (List.mem_cons_of_mem _ hi)).unset (h v List.mem_cons_self)
def isLD : D → Bool
  | .list _ => true
  | .dict _ => true
  | _ => false
def VR (c : C) (F : Fm) (L : Ow) (H : Hp) (ρ : En) (v : V) (d : D) : Prop :=
  TdX (exA F.ex L) H v d ∨ ∃ i a, L i = some a ∧ c.ur ≠ some i ∧ v = .ref a ∧ ρ[i]? = some (some d) ∧ isLD d = true
theorem VR.go {c : C} {F : Fm} {L : Ow} {H H' : Hp} {ρ : En} {v : V} {d : D} (h : VR c F L H ρ v d) (e : EvU c L H H') : VR c F L H' ρ v d := by
  rcases h with h | h
  · exact .inl (evu h e)
  · exact .inr h
theorem VR.seq {c : C} {F : Fm} {L : Ow} {σ : St} {H : Hp} {ρ : En} {b : Nat} {v : V} {d : D} (h : VR c F L H ρ v d) (r : RS c F L σ H ρ b) :
    (∀ ds, d = .list ds → ∃ a vs, v = .ref a ∧ H a = some (.lst vs) ∧ TdXAll (exA F.ex L) H vs ds) ∧ (∀ ds, d = .tuple ds → ∃ a vs, v = .ref a ∧ H a = some (.tup vs) ∧ TdXAll (exA F.ex L) H vs ds ∧ ¬ exA F.ex L a) := by
  constructor
  · rintro ds rfl
    rcases h with h | ⟨i, a, hl, hn, rfl, hr, _⟩
    · cases h with
      | lst n ha hs => exact ⟨_, _, rfl, ha, hs⟩
    · rcases (r.ow i a hl).2.2 with ⟨q, _⟩ | ⟨_, _, vs, ds2, q3, q4, q5⟩
      · exact absurd q hn
      · rw [hr] at q3
        cases q3
        cases q5 with
        | lst q5 => exact ⟨a, _, rfl, q4, q5⟩
  · rintro ds rfl
    rcases h with h | ⟨i, a, hl, hn, rfl, hr, _⟩
    · cases h with
      | tup n ha hs => exact ⟨_, _, rfl, ha, hs, n⟩
    · rcases (r.ow i a hl).2.2 with ⟨q, _⟩ | ⟨_, _, vs, ds2, q3, q4, q5⟩
      · exact absurd q hn
      · rw [hr] at q3
        cases q3
        cases q5
theorem VR.dct {c : C} {F : Fm} {L : Ow} {σ : St} {H : Hp} {ρ : En} {b : Nat} {v : V} {kds : List (D × D)} (h : VR c F L H ρ v (.dict kds)) (r : RS c F L σ H ρ b) : ∃ a kvs, v = .ref a ∧ Rd H a (.dT kvs) ∧ TdXKv (exA F.ex L) H kvs kds := by
  rcases h with h | ⟨i, a, hl, hn, rfl, hr, _⟩
  · cases h with
    | dct n ha hs => exact ⟨_, _, rfl, ha, hs⟩
  · rcases (r.ow i a hl).2.2 with ⟨q, _⟩ | ⟨_, _, vs, ds2, q3, q4, q5⟩
    · exact absurd q hn
    · rw [hr] at q3
      cases q3
      cases q5 with
      | dct q5 => exact ⟨a, _, rfl, .inl q4, q5⟩
theorem VR.clean {c : C} {F : Fm} {L : Ow} {H : Hp} {ρ : En} {v : V} {d : D} (h : VR c F L H ρ v d) (n : isLD d = false) : TdX (exA F.ex L) H v d := by
  rcases h with h | ⟨_, _, _, _, _, _, z⟩
  · exact h
  · rw [n] at z; cases z
def SimE (c : C) (t : L2.TE) (p : PTE) : Prop := ∀ (F : Fm) (L : Ow) (σ : St) (H : Hp) (ρ : En) (b : Nat) (Q : VK) (P : KE), RS c F L σ H ρ b → p ρ b P →
  (∀ v d H' b', EvU c L H H' → RS c F L σ H' ρ b' → TdX (exA F.ex L) H' v d → P d b' → Q v H') → t σ H Q
def SimV (c : C) (t : L2.TE) (p : PTE) : Prop := ∀ (F : Fm) (L : Ow) (σ : St) (H : Hp) (ρ : En) (b : Nat) (Q : VK) (P : KE), RS c F L σ H ρ b → p ρ b P →
  (∀ v d H' b', EvU c L H H' → RS c F L σ H' ρ b' → VR c F L H' ρ v d → P d b' → Q v H') → t σ H Q
def SimF (c : C) (t : L2.TE) (p : PTE) : Prop := ∀ (F : Fm) (L : Ow) (σ : St) (H : Hp) (ρ : En) (b : Nat) (Q : VK) (P : KE), RS c F L σ H ρ b → p ρ b P →
  (∀ a vs ds H' b', EvU c L H H' → RS c F L σ H' ρ b' → H a = none → H' a = some (.lst vs) → TdXAll (fun z => exA F.ex L z ∨ z = a) H' vs ds → P (.list ds) b' → Q (.ref a) H') → t σ H Q
def SimT (c : C) (t : L2.TT) (p : PTT) : Prop := ∀ (F : Fm) (L : Ow) (σ : St) (H : Hp) (ρ : En) (b : Nat) (Q : Bool → Hp → Prop) (P : Bool → Nat → Prop), RS c F L σ H ρ b → p ρ b P →
  (∀ k H' b', EvU c L H H' → RS c F L σ H' ρ b' → P k b' → Q k H') → t σ H Q
def SimA (c : C) (t : L2.TA) (p : PTA) : Prop := ∀ (F : Fm) (L : Ow) (σ : St) (H : Hp) (ρ : En) (b : Nat) (Q : List V → Hp → Prop) (P : List D → Nat → Prop), RS c F L σ H ρ b → p ρ b P →
  (∀ vs ds H' b', EvU c L H H' → RS c F L σ H' ρ b' → TdXAll (exA F.ex L) H' vs ds → P ds b' → Q vs H') → t σ H Q
theorem SimE.v {c : C} {t : L2.TE} {p : PTE} (h : SimE c t p) : SimV c t p := fun F L σ H ρ b Q P r hp k => h F L σ H ρ b Q P r hp fun v d H' b' e r' td q => k v d H' b' e r' (.inl td) q
theorem SimF.e {c : C} {t : L2.TE} {p : PTE} (h : SimF c t p) : SimE c t p := fun F L σ H ρ b Q P r hp k => h F L σ H ρ b Q P r hp fun a vs ds H' b' e r' na ha td q => by
  refine k (.ref a) (.list ds) H' b' e r' (.lst (fun z => ?_) ha (TdXAll.to (fun z o n q => ⟨fun y => n (.inl y), q⟩) ds vs td)) q
  obtain ⟨o, ho, _⟩ := r.tr a z
  rw [na] at ho; cases ho
structure Fam {I : Type} (X : I → Cx) (c : C) (k : Nat) : Prop where
  K : ∀ i, (X i).K = c.K
  calm : ∀ i, (X i).calm = true
  room : ∀ i, Room k (X i).A
structure JE {I : Type} (X : I → Cx) (c : C) (e : Expr) (p : PTE) : Prop where
  ex : ∃ t, (∀ i, L2.PE (X i) e t) ∧ SimE c t p
structure JV {I : Type} (X : I → Cx) (c : C) (e : Expr) (p : PTE) : Prop where
  ex : ∃ t, (∀ i, L2.PE (X i) e t) ∧ SimV c t p
structure JF {I : Type} (X : I → Cx) (c : C) (e : Expr) (p : PTE) : Prop where
  ex : ∃ t, (∀ i, L2.PE (X i) e t) ∧ SimF c t p
structure JT {I : Type} (X : I → Cx) (c : C) (e : Expr) (p : PTT) : Prop where
  ex : ∃ t, (∀ i, L2.PT (X i) e t) ∧ SimT c t p
structure JW {I : Type} (X : I → Cx) (c : C) (e : Expr) (p : PTT) : Prop where
  ex : ∃ t, (∀ i, L2.PW (X i) e t) ∧ SimT c t p
structure JC {I : Type} (X : I → Cx) (c : C) (e : Expr) (p : PTE) : Prop where
  ex : ∃ t, (∀ i, L2.PE (X i) e t) ∧ (∀ i, L2.PT (X i) e (tTest t)) ∧ SimE c t p
structure JA {I : Type} (X : I → Cx) (c : C) (es : List Expr) (p : PTA) : Prop where
  ex : ∃ t, (∀ i, L2.PA (X i) es t) ∧ SimA c t p
section
variable {I : Type} {X : I → Cx} {c : C} {k : Nat}
theorem JE.v {e : Expr} {p : PTE} (h : JE X c e p) : JV X c e p := let ⟨t, a, s⟩ := h.ex; ⟨t, a, s.v⟩
theorem JF.e {e : Expr} {p : PTE} (h : JF X c e p) : JE X c e p := let ⟨t, a, s⟩ := h.ex; ⟨t, a, s.e⟩
def pVar (i : Nat) : PTE := fun ρ b P => ∃ d, ρ[i]? = some (some d) ∧ P d b
theorem je_var (i : Nat) {x : Str} {pos : Pos} (hp : i ∉ c.own ∧ c.ur ≠ some i := by first | decide | (dsimp only [Plain]; decide)) (hN : ∀ j, (X j).N[i]? = some x := by intro _; rfl) (hv : ∀ j, Vis (X j).env.scope x := by intro _; first | exact Or.inl rfl | exact Or.inr (Or.inl rfl) | exact Or.inr (Or.inr rfl))
    (hd : (x == ("__debug__" : Str)) = false := by first | decide | (dsimp only [Plain]; decide)) (hcd : (x == ("__classdict__" : Str)) = false := by first | decide | (dsimp only [Plain]; decide)) : JE X c (.Name x pos) (pVar i) :=
  ⟨tVar i, fun j => pe_var (hN j) (hv j) hd hcd, fun F L σ H ρ b Q P r ⟨d, e, h⟩ q => let ⟨v, a, t⟩ := r.vals i d e hp.1 hp.2; ⟨v, a, q v d H b (.refl H) r t h⟩⟩
def pC (d : D) : PTE := fun _ b P => P d b
theorem je_int {i : Int} {j : Nat} {pos : Pos} : JE X c (.Constant (.int i) j pos) (pC (.int i)) := ⟨tC (.int i), fun _ => pe_int, fun F L σ H ρ b Q P r h q => q _ _ H b (.refl H) r (.int i) h⟩
theorem je_bl {x : Bool} {j : Nat} {pos : Pos} : JE X c (.Constant (.bool x) j pos) (pC (.bool x)) := ⟨tC (.bl x), fun _ => pe_bl, fun F L σ H ρ b Q P r h q => q _ _ H b (.refl H) r (.bl x) h⟩
theorem je_str {x : Str} {j : Nat} {pos : Pos} : JE X c (.Constant (.str x) j pos) (pC (.str x)) := ⟨tC (.str x), fun _ => pe_str, fun F L σ H ρ b Q P r h q => q _ _ H b (.refl H) r (.str x) h⟩
def pI0 (g : Int → Int → D) (pa pb : PTE) : PTE := fun ρ b P => pa ρ b fun x b => pb ρ b fun y b => ∃ i j, x = .int i ∧ y = .int j ∧ P (g i j) b
def vOf : D → V
  | .int i => .int i
  | .bool x => .bl x
  | .str x => .str x
  | _ => .non
theorem sim2 {ta tb : L2.TE} {pa pb : PTE} {r : R2} {R : D → D → Nat → KE → Prop} (sa : SimV c ta pa) (sb : SimV c tb pb)
    (h : ∀ (F : Fm) (L : Ow) (σ : St) (H : Hp) (ρ : En) (b : Nat) (x y : V) (dx dy : D) (Q : VK) (P : KE), RS c F L σ H ρ b → VR c F L H ρ x dx → VR c F L H ρ y dy → R dx dy b P → (∀ v d H', Same H H' → TdX (exA F.ex L) H' v d → P d b → Q v H') → r x y H Q) :
    SimE c (tOp r ta tb) (fun ρ b P => pa ρ b fun x b => pb ρ b fun y b => R x y b P) := by
  intro F L σ H ρ b Q P rs hp k
  refine sa F L σ H ρ b _ _ rs hp fun x dx H1 b1 e1 r1 v1 h1 => sb F L σ H1 ρ b1 _ _ r1 h1 fun y dy H2 b2 e2 r2 v2 h2 => ?_
  exact h F L σ H2 ρ b2 x y dx dy Q P r2 (v1.go e2) v2 h2 fun v d H3 s t q => k v d H3 b2 (e1.trans (e2.trans (.same s))) (r2.same s) t q
theorem VR.int {F : Fm} {L : Ow} {H : Hp} {ρ : En} {v : V} {i : Int} (h : VR c F L H ρ v (.int i)) : v = .int i := by
  have q := h.clean rfl
  cases q; rfl
theorem VR.bl {F : Fm} {L : Ow} {H : Hp} {ρ : En} {v : V} {i : Bool} (h : VR c F L H ρ v (.bool i)) : v = .bl i := by
  have q := h.clean rfl
  cases q; rfl
theorem VR.str {F : Fm} {L : Ow} {H : Hp} {ρ : En} {v : V} {i : Str} (h : VR c F L H ρ v (.str i)) : v = .str i := by
  have q := h.clean rfl
  cases q; rfl
theorem je_op0 {a b : Expr} {op : Operator} {pos : Pos} {pa pb : PTE} {g : Int → Int → V} {g' : Int → Int → D} (ho : ∀ j, OpR (X j) (binaryOp op) (rI0 g)) (hg : ∀ ex H i j, TdX ex H (g i j) (g' i j)) (ha : JE X c a pa) (hb : JE X c b pb) :
    JE X c (.BinOp a op b pos) (pI0 g' pa pb) := by
  obtain ⟨ta, a1, a2⟩ := ha.ex
  obtain ⟨tb, b1, b2⟩ := hb.ex
  refine ⟨_, fun j => pe_op (ho j) (a1 j) (b1 j), sim2 (R := fun x y b P => ∃ i j, x = .int i ∧ y = .int j ∧ P (g' i j) b) a2.v b2.v ?_⟩
  rintro F L σ H ρ b x y dx dy Q P r vx vy ⟨i, j, rfl, rfl, hp⟩ k
  exact ⟨i, j, vx.int, vy.int, k _ _ H (Same.refl H) (hg _ _ _ _) hp⟩
def pEq (neg : Bool) (pa pb : PTE) : PTE := fun ρ b P => pa ρ b fun x b => pb ρ b fun y b => SeqAt.shaped x = true ∧ SeqAt.shaped y = true ∧ P (.bool (if neg then !PyData.eqv x y else PyData.eqv x y)) b
theorem VR.dp {F : Fm} {L : Ow} {σ : St} {H : Hp} {ρ : En} {b : Nat} {v : V} {d : D} (h : VR c F L H ρ v d) (r : RS c F L σ H ρ b) (nd : noDc d = true) : Dp c.K H v d := by
  rcases id h with q | ⟨i, a, hl, hn, rfl, hr, _⟩
  · exact TdX.dp d v nd q
  · rcases (r.ow i a hl).2.2 with ⟨q, _⟩ | ⟨_, _, vs, ds2, q3, q4, q5⟩
    · exact absurd q hn
    · rw [hr] at q3
      cases q3
      cases q5 with
      | lst q5 => exact .lst (SqL.of q4) (TdXAll.dp _ _ nd q5)
      | dct _ => cases nd
theorem jc_eq (fm : Fam X c k) {a b : Expr} {pos : Pos} {pa pb : PTE} (ha : JV X c a pa) (hb : JV X c b pb) (hm : behindInMarks .Eq b = false) : JC X c (.Compare a [.Eq] [b] pos) (pEq false pa pb) := by
  obtain ⟨ta, a1, a2⟩ := ha.ex
  obtain ⟨tb, b1, b2⟩ := hb.ex
  refine ⟨tOp (rEqD c.K) ta tb, fun j => ?_, fun j => ?_, sim2 (R := fun x y b P => SeqAt.shaped x = true ∧ SeqAt.shaped y = true ∧ P (.bool (PyData.eqv x y)) b) a2 b2 ?_⟩
  · have := pe_cmpR (op_eqD (fm.room j).units) (a1 j) (b1 j) (pos := pos) hm
    rw [fm.K j] at this; exact this
  · have := pt_cmpR (op_eqD (fm.room j).units) (a1 j) (b1 j) (pos := pos) hm
    rw [fm.K j] at this; exact this
  · rintro F L σ H ρ b x y dx dy Q P r vx vy ⟨s1, s2, hp⟩ k
    exact ⟨dx, dy, vx.dp r (noDc_shaped s1), vy.dp r (noDc_shaped s2), s1, s2, k _ _ H (Same.refl H) (.bl _) hp⟩
theorem jc_ne (fm : Fam X c k) {a b : Expr} {pos : Pos} {pa pb : PTE} (ha : JV X c a pa) (hb : JV X c b pb) (hm : behindInMarks .NotEq b = false) : JC X c (.Compare a [.NotEq] [b] pos) (pEq true pa pb) := by
  obtain ⟨ta, a1, a2⟩ := ha.ex
  obtain ⟨tb, b1, b2⟩ := hb.ex
  refine ⟨tOp (rNeD c.K) ta tb, fun j => ?_, fun j => ?_, sim2 (R := fun x y b P => SeqAt.shaped x = true ∧ SeqAt.shaped y = true ∧ P (.bool (!PyData.eqv x y)) b) a2 b2 ?_⟩
  · have := pe_cmpR (op_neD (fm.room j).units) (a1 j) (b1 j) (pos := pos) hm
    rw [fm.K j] at this; exact this
  · have := pt_cmpR (op_neD (fm.room j).units) (a1 j) (b1 j) (pos := pos) hm
    rw [fm.K j] at this; exact this
  · rintro F L σ H ρ b x y dx dy Q P r vx vy ⟨s1, s2, hp⟩ k
    exact ⟨dx, dy, vx.dp r (noDc_shaped s1), vy.dp r (noDc_shaped s2), s1, s2, k _ _ H (Same.refl H) (.bl _) hp⟩
def flatD : D → Bool
  | .none => true
  | .bool _ => true
  | .int _ => true
  | .str _ => true
  | _ => false
theorem flat_v {ex : Addr → Prop} {H : Hp} {v : V} {d : D} (h : TdX ex H v d) (f : flatD d = true) : v = vOf d ∧ flatV v = true := by
  cases h with
  | non => exact ⟨rfl, rfl⟩
  | bl _ => exact ⟨rfl, rfl⟩
  | int _ => exact ⟨rfl, rfl⟩
  | str _ => exact ⟨rfl, rfl⟩
  | lst _ _ _ => cases f
  | tup _ _ _ => cases f
  | dct _ _ _ => cases f
theorem flat_vs {ex : Addr → Prop} {H : Hp} : ∀ {vs : List V} {ds : List D}, TdXAll ex H vs ds → ds.all flatD = true → vs = ds.map vOf ∧ vs.all flatV = true
  | _, _, .nil, _ => ⟨rfl, rfl⟩
  | _, d :: ds, .cons h1 h2, f => by
    rw [List.all_cons, Bool.and_eq_true] at f
    obtain ⟨a, b⟩ := flat_v h1 f.1
    obtain ⟨a', b'⟩ := flat_vs h2 f.2
    exact ⟨by rw [List.map_cons, a, a'], by rw [List.all_cons, b, b']; rfl⟩
def inD (x : D) (ds : List D) : Bool := inV (vOf x) (ds.map vOf)
def pIn (neg : Bool) (pa pb : PTE) : PTE := fun ρ b P => pa ρ b fun x b => pb ρ b fun y b => ∃ ds, (y = .list ds ∨ y = .tuple ds) ∧ flatD x = true ∧ ds.all flatD = true ∧ P (.bool (if neg then !inD x ds else inD x ds)) b
theorem VR.flat {F : Fm} {L : Ow} {H : Hp} {ρ : En} {v : V} {d : D} (h : VR c F L H ρ v d) (f : flatD d = true) : v = vOf d ∧ flatV v = true :=
  flat_v (h.clean (by cases d <;> first | rfl | cases f)) f
theorem jc_notIn (fm : Fam X c k) {a b : Expr} {pos : Pos} {pa pb : PTE} (ha : JE X c a pa) (hb : JV X c b pb) (hm : behindInMarks .NotIn b = false) : JC X c (.Compare a [.NotIn] [b] pos) (pIn true pa pb) := by
  obtain ⟨ta, a1, a2⟩ := ha.ex
  obtain ⟨tb, b1, b2⟩ := hb.ex
  refine ⟨tOp (rIn c.K true) ta tb, fun j => ?_, fun j => ?_, sim2 (R := fun x y b P => ∃ ds, (y = .list ds ∨ y = .tuple ds) ∧ flatD x = true ∧ ds.all flatD = true ∧ P (.bool (!inD x ds)) b) a2.v b2 ?_⟩
  · have := pe_cmpR op_notIn_seq (a1 j) (b1 j) (pos := pos) hm
    rw [fm.K j] at this; exact this
  · have := pt_cmpR op_notIn_seq (a1 j) (b1 j) (pos := pos) hm
    rw [fm.K j] at this; exact this
  · rintro F L σ H ρ b x y dx dy Q P r vx vy ⟨ds, hy, f1, f2, hp⟩ k
    obtain ⟨e1, e2⟩ := vx.flat f1
    have fin : ∀ vs, TdXAll (exA F.ex L) H vs ds → flatV x = true ∧ vs.all flatV = true ∧ Q (.bl (if true = true then !inV x vs else inV x vs)) H := fun vs ht => by
      obtain ⟨e3, e4⟩ := flat_vs ht f2
      refine ⟨e2, e4, ?_⟩
      rw [e1, e3]
      exact k _ _ H (Same.refl H) (.bl _) hp
    rcases hy with rfl | rfl
    · obtain ⟨p, vs, rfl, hp', ht⟩ := (vy.seq r).1 ds rfl
      exact ⟨p, vs, rfl, .inl (SqL.of hp'), fin vs ht⟩
    · obtain ⟨p, vs, rfl, hp', ht, _⟩ := (vy.seq r).2 ds rfl
      exact ⟨p, vs, rfl, .inr (SqT.of hp'), fin vs ht⟩
def pTst (p : PTE) : PTT := fun ρ b P => p ρ b fun x b => ∃ k, x = .bool k ∧ P k b
theorem JC.e {e : Expr} {p : PTE} (h : JC X c e p) : JE X c e p := let ⟨t, a, _, s⟩ := h.ex; ⟨t, a, s⟩
theorem JC.t {e : Expr} {p : PTE} (h : JC X c e p) : JT X c e (pTst p) := by
  obtain ⟨t, _, a, s⟩ := h.ex
  refine ⟨_, a, fun F L σ H ρ b Q P r hq q => s F L σ H ρ b _ _ r hq fun v d H' b' e r' td ⟨k, ed, pk⟩ => ?_⟩
  subst ed
  cases td
  exact ⟨k, rfl, q k H' b' e r' pk⟩
def truD : D → Option Bool
  | .none => some false
  | .bool x => some x
  | .int i => some (i != 0)
  | .list ds => some (!ds.isEmpty)
  | .tuple ds => some (!ds.isEmpty)
  | _ => none
def pTru (p : PTE) : PTT := fun ρ b P => p ρ b fun x b => ∃ k, truD x = some k ∧ P k b
theorem isEmpty_all {ex : Addr → Prop} {H : Hp} {vs : List V} {ds : List D} (h : TdXAll ex H vs ds) : (!vs.isEmpty) = !ds.isEmpty := by cases h <;> rfl
theorem jt_tru (fm : Fam X c k) {e : Expr} {p : PTE} (h : JV X c e p) (he : ∀ j whole, isTrue e (X j).env whole = (do let v ← whole; standAt e.pos; holding [v] (truthy v)) := by intro _ _; rfl) : JT X c e (pTru p) := by
  obtain ⟨t, a, s⟩ := h.ex
  refine ⟨fun σ H Q => t σ H fun x H' => ∃ k, TruV c.K x H' k ∧ Q k H', fun j => ?_, fun F L σ H ρ b Q P r hq q => s F L σ H ρ b _ _ r hq fun v d H' b' e r' vr ⟨k, ek, pk⟩ => ?_⟩
  · have := pt_truth (a j) (he j)
    rw [fm.K j] at this; exact this
  · refine ⟨k, ?_, q k H' b' e r' pk⟩
    cases d with
    | none =>
      cases ek
      have td := vr.clean rfl
      cases td; rfl
    | bool x => cases ek; rw [vr.bl]; rfl
    | int i => cases ek; rw [vr.int]; rfl
    | str x => cases ek
    | list ds =>
      cases ek
      obtain ⟨p, vs, rfl, hp, ht⟩ := (vr.seq r').1 ds rfl
      exact .inl ⟨vs, SqL.of hp, (isEmpty_all ht).symm⟩
    | tuple ds =>
      cases ek
      obtain ⟨p, vs, rfl, hp, ht, _⟩ := (vr.seq r').2 ds rfl
      exact .inr (.inl ⟨vs, SqT.of hp, (isEmpty_all ht).symm⟩)
    | dict _ => cases ek
def pTAnd (p q : PTT) : PTT := fun ρ b P => p ρ b fun k b => if k = true then q ρ b P else P false b
def pTOr (p q : PTT) : PTT := fun ρ b P => p ρ b fun k b => if k = true then P true b else q ρ b P
def pTNot (p : PTT) : PTT := fun ρ b P => p ρ b fun k b => P (!k) b
theorem SimT.and {t u : L2.TT} {p q : PTT} (h1 : SimT c t p) (h2 : SimT c u q) : SimT c (tAnd t u) (pTAnd p q) := fun F L σ H ρ b Q P r hp k => h1 F L σ H ρ b _ _ r hp fun x H' b' e r' pk => by
  cases x with
  | true => exact iteT (h2 F L σ H' ρ b' Q P r' pk fun y H2 b2 e2 r2 p2 => k y H2 b2 (e.trans e2) r2 p2)
  | false => exact iteF (k false H' b' e r' pk)
theorem SimT.or {t u : L2.TT} {p q : PTT} (h1 : SimT c t p) (h2 : SimT c u q) : SimT c (tOr t u) (pTOr p q) := fun F L σ H ρ b Q P r hp k => h1 F L σ H ρ b _ _ r hp fun x H' b' e r' pk => by
  cases x with
  | false => exact iteF (h2 F L σ H' ρ b' Q P r' pk fun y H2 b2 e2 r2 p2 => k y H2 b2 (e.trans e2) r2 p2)
  | true => exact iteT (k true H' b' e r' pk)
theorem jw_and1 {a : Expr} {pos : Pos} {p : PTT} (h : JT X c a p) : JW X c (.BoolOp .And [a] pos) p := let ⟨t, x, s⟩ := h.ex; ⟨t, fun j => pw_and1 (x j), s⟩
theorem jw_or1 {a : Expr} {pos : Pos} {p : PTT} (h : JT X c a p) : JW X c (.BoolOp .Or [a] pos) p := let ⟨t, x, s⟩ := h.ex; ⟨t, fun j => pw_or1 (x j), s⟩
theorem jw_and {a b : Expr} {rest : List Expr} {pos : Pos} {p q : PTT} (h : JT X c a p) (h2 : JW X c (.BoolOp .And (b :: rest) pos) q) : JW X c (.BoolOp .And (a :: b :: rest) pos) (pTAnd p q) :=
  let ⟨t, x, s⟩ := h.ex; let ⟨u, y, s2⟩ := h2.ex; ⟨_, fun j => pw_and (x j) (y j), s.and s2⟩
theorem jw_or {a b : Expr} {rest : List Expr} {pos : Pos} {p q : PTT} (h : JT X c a p) (h2 : JW X c (.BoolOp .Or (b :: rest) pos) q) : JW X c (.BoolOp .Or (a :: b :: rest) pos) (pTOr p q) :=
  let ⟨t, x, s⟩ := h.ex; let ⟨u, y, s2⟩ := h2.ex; ⟨_, fun j => pw_or (x j) (y j), s.or s2⟩
theorem JW.t {e : Expr} {p : PTT} (h : JW X c e p) : JT X c e p := let ⟨t, x, s⟩ := h.ex; ⟨t, fun j => (x j).pt, s⟩
theorem jt_not {a : Expr} {pos : Pos} {p : PTT} (h : JT X c a p) : JT X c (.UnaryOp .Not a pos) (pTNot p) :=
  let ⟨t, x, s⟩ := h.ex; ⟨_, fun j => pt_not (x j), fun F L σ H ρ b Q P r hp k => s F L σ H ρ b _ _ r hp fun y H' b' e r' pk => k (!y) H' b' e r' pk⟩
def pAnd (p q : PTE) : PTE := fun ρ b P => p ρ b fun x b => ∃ k, x = .bool k ∧ if k = true then q ρ b P else P (.bool false) b
theorem je_one {op} {a : Expr} {pos : Pos} {p : PTE} (h : JE X c a p) : JE X c (.BoolOp op [a] pos) p := let ⟨t, x, s⟩ := h.ex; ⟨t, fun j => pe_one (x j), s⟩
theorem je_and {a b : Expr} {rest : List Expr} {pos : Pos} {p q : PTE} (h : JE X c a p) (h2 : JE X c (.BoolOp .And (b :: rest) pos) q) : JE X c (.BoolOp .And (a :: b :: rest) pos) (pAnd p q) := by
  obtain ⟨t, x, s⟩ := h.ex
  obtain ⟨u, y, s2⟩ := h2.ex
  refine ⟨_, fun j => pe_and (x j) (y j), fun F L σ H ρ b Q P r hp k => s F L σ H ρ b _ _ r hp fun v d H' b' e r' td ⟨kk, ed, pk⟩ => ?_⟩
  subst ed
  cases td
  refine ⟨kk, rfl, ?_⟩
  cases kk with
  | true => exact iteT (s2 F L σ H' ρ b' Q P r' pk fun v d H2 b2 e2 r2 td p2 => k v d H2 b2 (e.trans e2) r2 td p2)
  | false => exact iteF (k _ _ H' b' e r' (.bl _) pk)
def pChn (g g' : Int → Int → Bool) (pa pb pd : PTE) : PTE := fun ρ b P => pa ρ b fun x b => pb ρ b fun y b => ∃ i j, x = .int i ∧ y = .int j ∧ if g i j = true then pd ρ b fun z b => ∃ l, z = .int l ∧ P (.bool (g' j l)) b else P (.bool false) b
theorem jc_chain {a b d : Expr} {op op' : CmpOp} {pos : Pos} {pa pb pd : PTE} {g g' : Int → Int → Bool} (ho : ∀ j, OpR (X j) (compareOp op) (rI0 fun i j => .bl (g i j))) (ho' : ∀ j, OpR (X j) (compareOp op') (rI0 fun i j => .bl (g' i j)))
    (ha : JE X c a pa) (hb : JE X c b pb) (hd : JE X c d pd) (hm : lastMarks [op, op'] [b, d] = false := by with_unfolding_all rfl) : JC X c (.Compare a [op, op'] [b, d] pos) (pChn g g' pa pb pd) := by
  obtain ⟨ta, a1, a2⟩ := ha.ex
  obtain ⟨tb, b1, b2⟩ := hb.ex
  obtain ⟨td, d1, d2⟩ := hd.ex
  refine ⟨_, fun j => pe_chain (ho j) (ho' j) (a1 j) (b1 j) (d1 j) hm, fun j => pt_chain (ho j) (ho' j) (a1 j) (b1 j) (d1 j) hm, ?_⟩
  intro F L σ H ρ b Q P r hp k
  refine a2 F L σ H ρ b _ _ r hp fun x dx H1 b1 e1 r1 t1 h1 => b2 F L σ H1 ρ b1 _ _ r1 h1 fun y dy H2 b2 e2 r2 t2 ⟨i, j, ex, ey, h2⟩ => ?_
  subst ex ey
  cases t1
  cases t2
  refine ⟨i, j, rfl, rfl, _, rfl, ?_⟩
  cases q : g i j with
  | true =>
    rw [q] at h2
    exact iteT (d2 F L σ H2 ρ b2 _ _ r2 h2 fun z dz H3 b3 e3 r3 t3 ⟨l, ez, h3⟩ => by
      subst ez
      cases t3
      exact ⟨j, l, rfl, rfl, k _ _ H3 b3 (e1.trans (e2.trans e3)) r3 (.bl _) h3⟩)
  | false =>
    rw [q] at h2
    exact iteF (k _ _ H2 b2 (e1.trans e2) r2 (.bl _) h2)
theorem atI_all2 {ex : Addr → Prop} {H : Hp} {vs : List V} {ds : List D} {i : Int} {d : D} (h : TdXAll ex H vs ds) (e : atI ds i = some d) : ∃ v, atI vs i = some v ∧ TdX ex H v d := by
  unfold atI at e ⊢
  rw [h.len]
  cases q : ixN ds.length i with
  | none => rw [q] at e; cases e
  | some j =>
    rw [q] at e
    have e' : ds[j]? = some d := e
    have hj : j < vs.length := by rw [h.len]; exact (List.getElem?_eq_some_iff.mp e').1
    obtain ⟨d', e2, t⟩ := h.at (List.getElem?_eq_getElem hj)
    rw [e'] at e2
    cases e2
    exact ⟨vs[j], List.getElem?_eq_getElem hj, t⟩
def pIx (pa pb : PTE) : PTE := fun ρ b P => pa ρ b fun x b => pb ρ b fun y b => ∃ ds i d, (x = .list ds ∨ x = .tuple ds) ∧ y = .int i ∧ atI ds i = some d ∧ P d b
theorem je_ix (fm : Fam X c k) {a b : Expr} {pos : Pos} {pa pb : PTE} (ha : JV X c a pa) (hb : JE X c b pb) (hs : PlainIx b) : JE X c (.Subscript a b pos) (pIx pa pb) := by
  obtain ⟨ta, a1, a2⟩ := ha.ex
  obtain ⟨tb, b1, b2⟩ := hb.ex
  refine ⟨tOp (rIx c.K) ta tb, fun j => ?_, sim2 (R := fun x y b P => ∃ ds i d, (x = .list ds ∨ x = .tuple ds) ∧ y = .int i ∧ atI ds i = some d ∧ P d b) a2 b2.v ?_⟩
  · have := pe_ix ix_seq (a1 j) (b1 j) (pos := pos) hs
    rw [fm.K j] at this; exact this
  · rintro F L σ H ρ b x y dx dy Q P r vx vy ⟨ds, i, d, hx, rfl, ea, hp⟩ k
    rw [vy.int]
    rcases hx with rfl | rfl
    · obtain ⟨p, vs, rfl, hp', ht⟩ := (vx.seq r).1 ds rfl
      obtain ⟨v, ev, tv⟩ := atI_all2 ht ea
      exact .inl ⟨p, vs, i, v, rfl, rfl, SqL.of hp', ev, k _ _ H (Same.refl H) tv hp⟩
    · obtain ⟨p, vs, rfl, hp', ht, _⟩ := (vx.seq r).2 ds rfl
      obtain ⟨v, ev, tv⟩ := atI_all2 ht ea
      exact .inr (.inl ⟨p, vs, i, v, rfl, rfl, SqT.of hp', ev, k _ _ H (Same.refl H) tv hp⟩)
theorem all_same {ex : Addr → Prop} {H H' : Hp} {vs : List V} {ds : List D} (h : TdXAll ex H vs ds) (s : Same H H') : TdXAll ex H' vs ds := TdXAll.to (fun b o n e => ⟨n, s b o e⟩) ds vs h
theorem newIn {F : Fm} {L : Ow} {σ : St} {H : Hp} {ρ : En} {b : Nat} (r : RS c F L σ H ρ b) {p : Addr} (hp : H p = none) : ¬ exA F.ex L p := fun z => by
  obtain ⟨o, h, _⟩ := r.tr p z; rw [hp] at h; cases h
def pNil : PTA := fun _ b P => P [] b
def pCons (p : PTE) (q : PTA) : PTA := fun ρ b P => p ρ b fun x b => q ρ b fun xs b => P (x :: xs) b
theorem ja_nil : JA X c [] pNil := ⟨tNil, fun _ => pa_nil, fun F L σ H ρ b Q P r h k => k [] [] H b (.refl H) r .nil h⟩
theorem ja_cons {e : Expr} {es : List Expr} {p : PTE} {q : PTA} (h : JE X c e p) (hs : JA X c es q) (hn : notStar e = true := by rfl) : JA X c (e :: es) (pCons p q) := by
  obtain ⟨t, x, s⟩ := h.ex
  obtain ⟨u, y, s1⟩ := hs.ex
  refine ⟨_, fun j => pc (x j) (y j) hn, fun F L σ H ρ b Q P r hp k => s F L σ H ρ b _ _ r hp fun v d H1 b1 e1 r1 t1 h1 => s1 F L σ H1 ρ b1 _ _ r1 h1 fun vs ds H2 b2 e2 r2 t2 h2 => ?_⟩
  exact k _ _ H2 b2 (e1.trans e2) r2 (.cons (evu t1 e2) t2) h2
def pTup (q : PTA) : PTE := fun ρ b P => q ρ b fun ds b => ds.length ≤ 1000 ∧ P (.tuple ds) b
def pLst (q : PTA) : PTE := fun ρ b P => q ρ b fun ds b => ds.length ≤ 1000 ∧ P (.list ds) b
theorem len_sz {ex : Addr → Prop} {H : Hp} {vs : List V} {ds : List D} (h : TdXAll ex H vs ds) {n : Nat} (hl : ds.length ≤ n) (hn : n ≤ 16777216 := by first | decide | (dsimp only [Plain]; decide)) : vs.length ≤ sizeLine := by
  rw [h.len, sizeLine_eq]; omega
theorem je_tup {es : List Expr} {q : PTA} {x1} {pos : Pos} (h : JA X c es q) : JE X c (.Tuple es x1 pos) (pTup q) := by
  obtain ⟨u, y, s1⟩ := h.ex
  refine ⟨_, fun j => pe_tup (y j), fun F L σ H ρ b Q P r hp k => s1 F L σ H ρ b _ _ r hp fun vs ds H2 b2 e2 r2 t2 ⟨hl, h2⟩ => ⟨len_sz t2 hl, fun p hp => ?_⟩⟩
  have sm := same_new hp (.tup vs)
  exact k _ _ _ b2 (e2.trans (.same sm)) (r2.same sm) (.tup (newIn r2 hp) upd_same (all_same t2 sm)) h2
theorem new_all {ex : Addr → Prop} {H : Hp} {p : Addr} {o : HO} {vs : List V} {ds : List D} (h : TdXAll ex H vs ds) (hp : H p = none) : TdXAll (fun z => ex z ∨ z = p) (upd H p o) vs ds :=
  TdXAll.to (fun b u n e => ⟨fun z => z.elim n (ne_of_none e hp), (same_new hp o) b u e⟩) ds vs h
theorem jf_lst {es : List Expr} {q : PTA} {pos : Pos} (h : JA X c es q) : JF X c (.List es pos) (pLst q) := by
  obtain ⟨u, y, s1⟩ := h.ex
  refine ⟨_, fun j => pe_lst (y j), fun F L σ H ρ b Q P r hp k => s1 F L σ H ρ b _ _ r hp fun vs ds H2 b2 e2 r2 t2 ⟨hl, h2⟩ => ⟨len_sz t2 hl, fun p hp => ?_⟩⟩
  have sm := same_new hp (.lst vs)
  have hp0 : H p = none := by
    cases q : H p with
    | none => rfl
    | some o =>
      exfalso
      by_cases hu : isU c L p
      · obtain ⟨xs, hx⟩ := (r2.urn hu).lst
        rw [hp] at hx; cases hx
      · rw [e2 p o hu q] at hp; cases hp
  exact k p vs ds _ b2 (e2.trans (.same sm)) (r2.same sm) hp0 upd_same (new_all t2 hp) h2
def spP (Fd : List D → (D → Prop) → Prop) : Sp := fun vs H Q _ => ∃ (ex : Addr → Prop) (ds : List D) (P : D → Prop), (∀ z, ex z → ∃ o, H z = some o ∧ nT o) ∧ TdXAll ex H vs ds ∧ Fd ds P ∧ ∀ v d H', Same H H' → TdX ex H' v d → P d → Q v H'
def spU (Fd : List D → Nat → KE → Prop) : Sp := fun vs H Q _ => ∃ (u : Addr) (vs' : List V) (ex : Addr → Prop) (ds : List D) (b : Nat) (P : KE), vs = .ref u :: vs' ∧ UrnAt H u b ∧ ex u ∧ (∀ z, ex z → ∃ o, H z = some o ∧ nT o) ∧ TdXAll ex H vs' ds ∧ Fd ds b P ∧
  ∀ v d H' b', Keep u H H' → UrnAt H' u b' → TdX ex H' v d → P d b' → Q v H'
def pCall (Fd : List D → (D → Prop) → Prop) (q : PTA) : PTE := fun ρ b P => q ρ b fun ds b => Fd ds fun d => P d b
theorem je_call (fm : Fam X c k) {x : Str} {e : Expr} {es : List Expr} {q : PTA} {k' : Nat} {ps : List Str} {p pos : Pos} {Fd : List D → (D → Prop) → Prop} (hD : ∀ j, Dn (X j).prog (X j).w (X j).K (X j).mg (X j).base k' x ps (spP Fd)) (ha : JA X c (e :: es) q)
    (hg : ∀ j, Gl (X j) x := by intro _; rfl) (hle : k' ≤ k := by first | decide | omega) (hd : (x == ("__debug__" : Str)) = false := by first | decide | (dsimp only [Plain]; decide)) (hp : (e :: es).all notStar = true := by rfl) : JE X c (.Call (.Name x p) (e :: es) [] pos) (pCall Fd q) := by
  obtain ⟨t, y, s⟩ := ha.ex
  refine ⟨_, fun j => pd (hD j) (fm.room j) (hg j) (y j) hle hd hp, fun F L σ H ρ b Q P r hq k => s F L σ H ρ b _ _ r hq fun vs ds H1 b1 e1 r1 t1 h1 => ?_⟩
  show spP Fd (vs ++ []) H1 Q E0
  rw [List.append_nil]
  exact ⟨_, ds, _, r1.tr, t1, h1, fun v d H2 sm td hd => k v d H2 b1 (e1.trans (.same sm)) (r1.same sm) td hd⟩
def pCallU (iu : Nat) (Fd : List D → Nat → KE → Prop) (q : PTA) : PTE := fun ρ b P => ∃ d, ρ[iu]? = some (some d) ∧ q ρ b fun ds b => Fd ds b P
theorem je_callU (fm : Fam X c k) (iu : Nat) {x xu : Str} {es : List Expr} {q : PTA} {k' : Nat} {ps : List Str} {p pu pos : Pos} {Fd : List D → Nat → KE → Prop} (hD : ∀ j, Dn (X j).prog (X j).w (X j).K (X j).mg (X j).base k' x ps (spU Fd)) (ha : JA X c es q) (hu : c.ur = some iu := by rfl)
    (hN : ∀ j, (X j).N[iu]? = some xu := by intro _; rfl) (hv : ∀ j, Vis (X j).env.scope xu := by intro _; first | exact Or.inl rfl | exact Or.inr (Or.inl rfl) | exact Or.inr (Or.inr rfl)) (hud : (xu == ("__debug__" : Str)) = false := by first | decide | (dsimp only [Plain]; decide)) (hcd : (xu == ("__classdict__" : Str)) = false := by first | decide | (dsimp only [Plain]; decide))
    (hg : ∀ j, Gl (X j) x := by intro _; rfl) (hle : k' ≤ k := by first | decide | omega) (hd : (x == ("__debug__" : Str)) = false := by first | decide | (dsimp only [Plain]; decide)) (hp : (Expr.Name xu pu :: es).all notStar = true := by rfl) : JE X c (.Call (.Name x p) (.Name xu pu :: es) [] pos) (pCallU iu Fd q) := by
  obtain ⟨t, y, s⟩ := ha.ex
  refine ⟨_, fun j => pd (hD j) (fm.room j) (hg j) (pc (pe_var (hN j) (hv j) hud hcd) (y j) rfl) hle hd hp, fun F L σ H ρ b Q P r ⟨du, hdu, hq⟩ k => ?_⟩
  obtain ⟨u, hl⟩ := (r.nur iu hu).2 du hdu
  have isu : isU c L u := ⟨iu, hu, hl⟩
  refine ⟨.ref u, (r.ow iu u hl).1, s F L σ H ρ b _ _ r hq fun vs ds H1 b1 e1 r1 t1 h1 => ?_⟩
  show spU Fd ((.ref u :: vs) ++ []) H1 Q E0
  rw [List.append_nil]
  refine ⟨u, vs, _, ds, b1, P, rfl, r1.urn isu, isu.ex, r1.tr, t1, h1, fun v d H2 b2 kp ur td hd => ?_⟩
  have ev : EvU c L H1 H2 := fun z o n hz => kp z o (fun e => n (e ▸ isu)) hz
  refine k v d H2 b2 (e1.trans ev) (r1.go ev fun z hz => ?_) td hd
  obtain ⟨i, hi, hli⟩ := hz
  rw [hu] at hi
  cases hi
  rw [hl] at hli
  cases hli
  exact ur
theorem ja1 {e : Expr} {t : L2.TE} (h : ∀ j, L2.PE (X j) e t) (hn : notStar e = true) : ∀ j, L2.PA (X j) [e] (tCons t tNil) := fun j => pc (h j) pa_nil hn
theorem je_b1 {x : Str} {id : String} {e : Expr} {pe : PTE} {r : List V → Hp → VK → Prop} {p pos : Pos} {R : D → Nat → KE → Prop} (hc : ∀ j, CallR (X j) (.builtin id) r) (hm : ∀ j, (X j).mg x = none) (hv : bootBuiltins x = some (.builtin id)) (ha : JV X c e pe)
    (h : ∀ (F : Fm) (L : Ow) (σ : St) (H : Hp) (ρ : En) (b : Nat) (v : V) (d : D) (Q : VK) (P : KE), RS c F L σ H ρ b → VR c F L H ρ v d → R d b P → (∀ v' d' H', Same H H' → TdX (exA F.ex L) H' v' d' → P d' b → Q v' H') → r [v] H Q)
    (hg : ∀ j, Gl (X j) x := by intro _; rfl) (hp : [e].all notStar = true := by rfl) (hn : x ≠ "__name__" := by first | decide | (dsimp only [Plain]; decide)) (hdb : (x == ("__debug__" : Str)) = false := by first | decide | (dsimp only [Plain]; decide)) : JE X c (.Call (.Name x p) [e] [] pos) (fun ρ b P => pe ρ b fun d b => R d b P) := by
  obtain ⟨t, y, s⟩ := ha.ex
  have hn1 : notStar e = true := by simpa using hp
  refine ⟨_, fun j => pb (hc j) (hg j) (hm j) hv (ja1 y hn1 j) hp hn hdb, fun F L σ H ρ b Q P rs hq k => s F L σ H ρ b _ _ rs hq fun v d H1 b1 e1 r1 vr h1 => ?_⟩
  exact h F L σ H1 ρ b1 v d Q P r1 vr h1 fun v' d' H2 sm td hd => k v' d' H2 b1 (e1.trans (.same sm)) (r1.same sm) td hd
theorem je_y1 {x : Str} {Ty : String} {e : Expr} {pe : PTE} {r : List V → Hp → VK → Prop} {p pos : Pos} {R : D → Nat → KE → Prop} (hc : ∀ j, CallR (X j) (.type Ty) r) (hm : ∀ j, (X j).mg x = none) (hv : bootBuiltins x = some (.type Ty)) (ha : JV X c e pe)
    (h : ∀ (F : Fm) (L : Ow) (σ : St) (H : Hp) (ρ : En) (b : Nat) (v : V) (d : D) (Q : VK) (P : KE), RS c F L σ H ρ b → VR c F L H ρ v d → R d b P → (∀ v' d' H', Same H H' → TdX (exA F.ex L) H' v' d' → P d' b → Q v' H') → r [v] H Q)
    (hg : ∀ j, Gl (X j) x := by intro _; rfl) (hp : [e].all notStar = true := by rfl) (hn : x ≠ "__name__" := by first | decide | (dsimp only [Plain]; decide)) (hdb : (x == ("__debug__" : Str)) = false := by first | decide | (dsimp only [Plain]; decide)) : JE X c (.Call (.Name x p) [e] [] pos) (fun ρ b P => pe ρ b fun d b => R d b P) := by
  obtain ⟨t, y, s⟩ := ha.ex
  have hn1 : notStar e = true := by simpa using hp
  refine ⟨_, fun j => py (hc j) (hg j) (hm j) hv (ja1 y hn1 j) hp hn hdb, fun F L σ H ρ b Q P rs hq k => s F L σ H ρ b _ _ rs hq fun v d H1 b1 e1 r1 vr h1 => ?_⟩
  exact h F L σ H1 ρ b1 v d Q P r1 vr h1 fun v' d' H2 sm td hd => k v' d' H2 b1 (e1.trans (.same sm)) (r1.same sm) td hd
theorem none_back {F : Fm} {L : Ow} {σ : St} {H H2 : Hp} {ρ : En} {b : Nat} {p : Addr} (r2 : RS c F L σ H2 ρ b) (e2 : EvU c L H H2) (hp : H2 p = none) : H p = none := by
  cases q : H p with
  | none => rfl
  | some o =>
    exfalso
    by_cases hu : isU c L p
    · obtain ⟨xs, hx⟩ := (r2.urn hu).lst
      rw [hp] at hx; cases hx
    · rw [e2 p o hu q] at hp; cases hp
def rLen (d : D) (b : Nat) (P : KE) : Prop := ∃ ds, (d = .list ds ∨ d = .tuple ds) ∧ P (.int ds.length) b
theorem je_len (fm : Fam X c k) {e : Expr} {pe : PTE} {p pos : Pos} (hm : ∀ j, (X j).mg "len" = none) (ha : JV X c e pe) (hg : ∀ j, Gl (X j) "len" := by intro _; rfl) (hp : [e].all notStar = true := by rfl) : JE X c (.Call (.Name "len" p) [e] [] pos) (fun ρ b P => pe ρ b fun d b => rLen d b P) := by
  refine je_b1 (id := "len") (r := fun xs H Q => ∃ p ys, xs = [.ref p] ∧ (SqL c.K H p ys ∨ SqT c.K H p ys) ∧ Q (.int ys.length) H) (fun j => ?_) hm (by decide +kernel) ha ?_ hg hp
  · have := call_len_seq (X := X j); rw [fm.K j] at this; exact this
  · rintro F L σ H ρ b v d Q P r vr ⟨ds, hd, hP⟩ k
    rcases hd with rfl | rfl
    · obtain ⟨p, vs, rfl, hp', ht⟩ := (vr.seq r).1 ds rfl
      exact ⟨p, vs, rfl, .inl (SqL.of hp'), by rw [ht.len]; exact k _ _ H (Same.refl H) (.int _) hP⟩
    · obtain ⟨p, vs, rfl, hp', ht, _⟩ := (vr.seq r).2 ds rfl
      exact ⟨p, vs, rfl, .inr (SqT.of hp'), by rw [ht.len]; exact k _ _ H (Same.refl H) (.int _) hP⟩
def rRepr (d : D) (b : Nat) (P : KE) : Prop := Sm d ∧ P (.str d.shown) b
theorem je_repr (fm : Fam X c k) {e : Expr} {pe : PTE} {p pos : Pos} (hm : ∀ j, (X j).mg "repr" = none) (ha : JV X c e pe) (hg : ∀ j, Gl (X j) "repr" := by intro _; rfl) (hp : [e].all notStar = true := by rfl) : JE X c (.Call (.Name "repr" p) [e] [] pos) (fun ρ b P => pe ρ b fun d b => rRepr d b P) := by
  refine je_b1 (id := "repr") (r := fun xs H Q => ∃ x d, xs = [x] ∧ Dp c.K H x d ∧ Sm d ∧ Q (.str d.shown) H) (fun j => ?_) hm (by decide +kernel) ha ?_ hg hp
  · have := call_repr (X := X j) (fm.room j).gd (fm.room j).units; rw [fm.K j] at this; exact this
  · rintro F L σ H ρ b v d Q P r vr ⟨hs, hP⟩ k
    exact ⟨v, d, rfl, vr.dp r hs.nd, hs, k _ _ H (Same.refl H) (.str _) hP⟩
theorem all_bl {ex : Addr → Prop} {H : Hp} : ∀ {bs : List Bool} {vs : List V}, TdXAll ex H vs (bs.map PyData.bool) → vs = bs.map V.bl
  | [], _, .nil => rfl
  | b :: bs, _, .cons h1 h2 => by cases h1; rw [all_bl h2]; rfl
theorem int_all {ex : Addr → Prop} {H : Hp} : ∀ (bs : List Int), TdXAll ex H (bs.map V.int) (bs.map PyData.int)
  | [] => .nil
  | b :: bs => .cons (.int b) (int_all bs)
def rAllD (d : D) (b : Nat) (P : KE) : Prop := ∃ bs : List Bool, d = .list (bs.map .bool) ∧ P (.bool (bs.all id)) b
theorem je_all (fm : Fam X c k) {e : Expr} {pe : PTE} {p pos : Pos} (hm : ∀ j, (X j).mg "all" = none) (ha : JV X c e pe) (hg : ∀ j, Gl (X j) "all" := by intro _; rfl) (hp : [e].all notStar = true := by rfl) : JE X c (.Call (.Name "all" p) [e] [] pos) (fun ρ b P => pe ρ b fun d b => rAllD d b P) := by
  refine je_b1 (id := "all") (r := rAll c.K) (fun j => ?_) hm (by decide +kernel) ha ?_ hg hp
  · have := cr_all (fm.calm j); rw [fm.K j] at this; exact this
  · rintro F L σ H ρ b v d Q P r vr ⟨bs, rfl, hP⟩ k
    obtain ⟨p, vs, rfl, hp', ht⟩ := (vr.seq r).1 _ rfl
    rw [all_bl ht] at hp'
    exact ⟨p, bs, rfl, SqL.of hp', k _ _ H (Same.refl H) (.bl _) hP⟩
def rTupD (d : D) (b : Nat) (P : KE) : Prop := ∃ ds, (d = .list ds ∨ d = .tuple ds) ∧ P (.tuple ds) b
theorem je_tuple (fm : Fam X c k) {e : Expr} {pe : PTE} {p pos : Pos} (hm : ∀ j, (X j).mg "tuple" = none) (ha : JV X c e pe) (hg : ∀ j, Gl (X j) "tuple" := by intro _; rfl) (hp : [e].all notStar = true := by rfl) : JE X c (.Call (.Name "tuple" p) [e] [] pos) (fun ρ b P => pe ρ b fun d b => rTupD d b P) := by
  refine je_y1 (Ty := "tuple") (r := fun xs H Q => ∃ p ys, xs = [.ref p] ∧ ((SqL c.K H p ys ∧ ∀ l, H l = none → Q (.ref l) (upd H l (.tup ys))) ∨ (SqT c.K H p ys ∧ Q (.ref p) H))) (fun j => ?_) hm (by decide +kernel) ha ?_ hg hp
  · have := call_tuple_of (X := X j); rw [fm.K j] at this; exact this
  · rintro F L σ H ρ b v d Q P r vr ⟨ds, hd, hP⟩ k
    rcases hd with rfl | rfl
    · obtain ⟨p, vs, rfl, hp', ht⟩ := (vr.seq r).1 ds rfl
      refine ⟨p, vs, rfl, .inl ⟨SqL.of hp', fun l hl => ?_⟩⟩
      have sm := same_new hl (.tup vs)
      exact k _ _ _ sm (.tup (newIn r hl) upd_same (all_same ht sm)) hP
    · obtain ⟨p, vs, rfl, hp', ht, np⟩ := (vr.seq r).2 ds rfl
      exact ⟨p, vs, rfl, .inr ⟨SqT.of hp', k _ _ H (Same.refl H) (.tup np hp' ht) hP⟩⟩
theorem je_mm {x : Str} {id : String} {a b : Expr} {pa pb' : PTE} {p pos : Pos} {g : Int → Int → Int} (hc : ∀ j, CallR (X j) (.builtin id) (fun xs H Q => ∃ i j, xs = [.int i, .int j] ∧ Q (.int (g i j)) H)) (hm : ∀ j, (X j).mg x = none) (hv : bootBuiltins x = some (.builtin id)) (ha : JE X c a pa) (hb : JE X c b pb')
    (hg : ∀ j, Gl (X j) x := by intro _; rfl) (hp : [a, b].all notStar = true := by rfl) (hn : x ≠ "__name__" := by first | decide | (dsimp only [Plain]; decide)) (hdb : (x == ("__debug__" : Str)) = false := by first | decide | (dsimp only [Plain]; decide)) : JE X c (.Call (.Name x p) [a, b] [] pos) (pI0 (fun i j => .int (g i j)) pa pb') := by
  obtain ⟨t, y, s⟩ := ha.ex
  obtain ⟨u, z, s2⟩ := hb.ex
  have hp' : notStar a = true ∧ notStar b = true := by simpa using hp
  refine ⟨_, fun j => pb (hc j) (hg j) (hm j) hv (pc (y j) (pc (z j) pa_nil hp'.2) hp'.1) hp hn hdb, fun F L σ H ρ b Q P rs hq k => s F L σ H ρ b _ _ rs hq fun v d H1 b1 e1 r1 td h1 => s2 F L σ H1 ρ b1 _ _ r1 h1 fun v2 d2 H2 b2 e2 r2 td2 ⟨i, j, ed, ed2, h2⟩ => ?_⟩
  subst ed ed2
  cases td
  cases td2
  exact ⟨i, j, rfl, k _ _ H2 b2 (e1.trans e2) r2 (.int _) h2⟩
theorem je_max2 (fm : Fam X c k) {a b : Expr} {pa pb' : PTE} {p pos : Pos} (hm : ∀ j, (X j).mg "max" = none) (ha : JE X c a pa) (hb : JE X c b pb') (hg : ∀ j, Gl (X j) "max" := by intro _; rfl) (hp : [a, b].all notStar = true := by rfl) : JE X c (.Call (.Name "max" p) [a, b] [] pos) (pI0 (fun i j => .int (imax i j)) pa pb') :=
  je_mm (fun j => call_max2 (fm.calm j)) hm (by decide +kernel) ha hb hg hp
theorem je_min2 (fm : Fam X c k) {a b : Expr} {pa pb' : PTE} {p pos : Pos} (hm : ∀ j, (X j).mg "min" = none) (ha : JE X c a pa) (hb : JE X c b pb') (hg : ∀ j, Gl (X j) "min" := by intro _; rfl) (hp : [a, b].all notStar = true := by rfl) : JE X c (.Call (.Name "min" p) [a, b] [] pos) (pI0 (fun i j => .int (imin i j)) pa pb') :=
  je_mm (fun j => call_min2 (fm.calm j)) hm (by decide +kernel) ha hb hg hp
def isiD (T : String) (d : D) : Bool := match d with
  | .int _ => T == "int"
  | .bool _ => T == "bool" || T == "int"
  | .str _ => T == "str"
  | .tuple _ => T == "tuple"
  | .list _ => T == "list"
  | _ => false
def IsiOk (T : String) : Prop := ∀ (K : PySem.W.Frag) (ex : Addr → Prop) (H : Hp) (v : V) (d : D), TdX ex H v d → ∃ t, TyP K H v t ∧ PySem.W.kitOne K t (.type T) = some (isiD T d)
theorem isi_tuple : IsiOk "tuple" := fun K ex H v d h => by
  cases h <;> first | exact ⟨_, .inl (.non), rfl⟩ | exact ⟨_, .inl (.bl _), rfl⟩ | exact ⟨_, .inl (.int _), rfl⟩ | exact ⟨_, .inl (.str _), rfl⟩ | exact ⟨_, .inl (.lst (by assumption)), rfl⟩ | exact ⟨_, .inl (.tup (by assumption)), rfl⟩ | exact ⟨_, .inr ⟨_, _, rfl, by assumption, rfl⟩, rfl⟩
def pIsi (T : String) (p : PTE) : PTE := fun ρ b P => p ρ b fun d b => P (.bool (isiD T d)) b
theorem je_isi (fm : Fam X c k) {e : Expr} {pe : PTE} {p p2 pos : Pos} {x : Str} {T : String} (hT : IsiOk T) (hm : ∀ j, (X j).mg "isinstance" = none) (hx : ∀ j, (X j).mg x = none) (hbx : bootBuiltins x = some (.type T)) (ha : JE X c e pe) (hg : ∀ j, Gl (X j) "isinstance" := by intro _; rfl) (hgx : ∀ j, Gl (X j) x := by intro _; rfl)
    (hp : [e, Expr.Name x p2].all notStar = true := by rfl) (hn : x ≠ "__name__" := by first | decide | (dsimp only [Plain]; decide)) (hd : (x == ("__debug__" : Str)) = false := by first | decide | (dsimp only [Plain]; decide)) : JE X c (.Call (.Name "isinstance" p) [e, .Name x p2] [] pos) (pIsi T pe) := by
  obtain ⟨t, y, s⟩ := ha.ex
  have hp' : notStar e = true := by simpa [notStar] using hp
  refine ⟨tCB (fun xs H Q => ∃ x T t b, xs = [x, .ty T] ∧ TyP c.K H x t ∧ PySem.W.kitOne c.K t (.type T) = some b ∧ Q (.bl b) H) (tCons t (tCons (tC (.ty T)) tNil)), fun j => ?_, fun F L σ H ρ b Q P rs hq k => s F L σ H ρ b _ _ rs hq fun v d H1 b1 e1 r1 td h1 => ?_⟩
  · have := pb (call_isi (X := X j)) (hg j) (hm j) (by decide +kernel) (pc (y j) (pc (pe_bltn (v := .ty T) (hgx j) (hx j) hbx rfl hn hd) pa_nil rfl) hp') hp (p := p) (pos := pos)
    rw [fm.K j] at this; exact this
  · obtain ⟨ty, h2, h3⟩ := hT c.K _ _ _ _ td
    exact ⟨v, T, ty, _, rfl, h2, h3, k _ _ H1 b1 e1 r1 (.bl _) h1⟩
theorem all_flat {ex : Addr → Prop} {H : Hp} {vs : List V} {ds : List D} (h : TdXAll ex H vs ds) : ∀ n : Nat, TdXAll ex H (List.replicate n vs).flatten (List.replicate n ds).flatten
  | 0 => .nil
  | n + 1 => by rw [List.replicate_succ, List.replicate_succ, List.flatten_cons, List.flatten_cons]; exact h.app (all_flat h n)
def pRep (pa pb : PTE) : PTE := fun ρ b P => pa ρ b fun x b => pb ρ b fun y b => ∃ ds n, x = .tuple ds ∧ y = .int n ∧ 2 ≤ n ∧ n ≤ 1000 ∧ ds ≠ [] ∧ ds.length ≤ 1000 ∧ P (.tuple (List.replicate n.toNat ds).flatten) b
theorem je_rep (fm : Fam X c k) {a b : Expr} {pos : Pos} {pa pb : PTE} (ha : JE X c a pa) (hb : JE X c b pb) : JE X c (.BinOp a .Mult b pos) (pRep pa pb) := by
  obtain ⟨ta, a1, a2⟩ := ha.ex
  obtain ⟨tb, b1, b2⟩ := hb.ex
  refine ⟨tOp (rRepT c.K) ta tb, fun j => ?_, sim2 (R := fun x y b P => ∃ ds n, x = .tuple ds ∧ y = .int n ∧ 2 ≤ n ∧ n ≤ 1000 ∧ ds ≠ [] ∧ ds.length ≤ 1000 ∧ P (.tuple (List.replicate n.toNat ds).flatten) b) a2.v b2.v ?_⟩
  · have := pe_op op_repT (a1 j) (b1 j) (pos := pos)
    rw [fm.K j] at this; exact this
  · rintro F L σ H ρ b x y dx dy Q P r vx vy ⟨ds, n, rfl, rfl, h2, h3, hne, hl, hp⟩ k
    obtain ⟨p, vs, rfl, hp', ht, np⟩ := (vx.seq r).2 ds rfl
    rw [vy.int]
    refine ⟨p, n, vs, rfl, rfl, SqT.of hp', h2, h3, fun e => hne (List.length_eq_zero_iff.mp (by rw [← ht.len, e]; rfl)), by rw [ht.len]; exact hl, fun z hz => ?_⟩
    have sm := same_new hz (.tup (List.replicate n.toNat vs).flatten)
    exact k _ _ _ sm (.tup (newIn r hz) upd_same (all_same (all_flat ht _) sm)) hp
def KTup (K : PySem.W.Frag) (a : Addr) (xs : List V) : Prop := ∃ (o : Obj) (its : Array Value) (n : Nat), K.lookup a = some o ∧ o.cls = .type "tuple" ∧ o.data = .seq its n ∧ its.size ≤ sizeLine ∧ Vals xs its.toList
theorem strs_flatV (xs : List Str) : (xs.map V.str).all flatV = true := by
  rw [List.all_map]; simp [flatV, Function.comp_def]
theorem wipe_get (σ : St) (i : Nat) : ∀ vs : List Nat, (L2.wipe σ vs)[i]? = if i ∈ vs ∧ i < σ.length then some none else σ[i]?
  | [] => by simp [L2.wipe]
  | v :: vs => by
    unfold L2.wipe
    by_cases e : v = i
    · subst e
      by_cases hl : v < σ.length
      · rw [List.getElem?_set_self (by rw [wipe_length]; exact hl), if_pos ⟨List.mem_cons_self, hl⟩]
      · rw [List.getElem?_eq_none (by rw [List.length_set, wipe_length]; omega), if_neg (fun h => hl h.2), List.getElem?_eq_none (by omega)]
    · rw [List.getElem?_set_ne e, wipe_get σ i vs]
      have : (i ∈ v :: vs) ↔ i ∈ vs := by simp [List.mem_cons, Ne.symm e]
      simp only [this]
theorem wipe_wipe (σ : St) (vs : List Nat) : L2.wipe (L2.wipe σ vs) vs = L2.wipe σ vs := by
  refine List.ext_getElem? fun i => ?_
  rw [wipe_get, wipe_get, wipe_length]
  by_cases h : i ∈ vs ∧ i < σ.length
  · rw [if_pos h, if_pos h]
  · rw [if_neg h]
theorem wipe_set (σ : St) {vs : List Nat} {i : Nat} (hi : i ∈ vs) (x : Option V) : L2.wipe (σ.set i x) vs = L2.wipe σ vs := by
  refine List.ext_getElem? fun j => ?_
  rw [wipe_get, wipe_get, List.length_set]
  by_cases h : j ∈ vs ∧ j < σ.length
  · rw [if_pos h, if_pos h]
  · rw [if_neg h, if_neg h]
    by_cases e : i = j
    · subst e
      have hl : ¬ i < σ.length := fun z => h ⟨hi, z⟩
      rw [List.getElem?_eq_none (by simpa using hl), List.getElem?_eq_none (by simpa using hl)]
    · rw [List.getElem?_set_ne e]
def SimG (c : C) (ix : List Nat) (g : L2.TG) (pg : PTG) : Prop := ∀ (F : Fm) (L : Ow) (σ : St) (H : Hp) (ρ : En) (b : Nat) (v : V) (d : D) (R : St → Hp → Prop) (P : En → Prop), RS c F L σ H ρ b → TdX (exA F.ex L) H v d → pg d ρ P →
  (∀ σ' ρ', RS c F L σ' H ρ' b → (∀ vs : List Nat, (∀ i ∈ ix, i ∈ vs) → L2.wipe σ' vs = L2.wipe σ vs) → P ρ' → R σ' H) → g v σ H R
def SimGs (c : C) (ix : List Nat) (g : L2.TGs) (pg : PTGs) : Prop := ∀ (F : Fm) (L : Ow) (σ : St) (H : Hp) (ρ : En) (b : Nat) (vs : List V) (ds : List D) (R : St → Hp → Prop) (P : En → Prop), RS c F L σ H ρ b → TdXAll (exA F.ex L) H vs ds → pg ds ρ P →
  (∀ σ' ρ', RS c F L σ' H ρ' b → (∀ vs : List Nat, (∀ i ∈ ix, i ∈ vs) → L2.wipe σ' vs = L2.wipe σ vs) → P ρ' → R σ' H) → g vs σ H R
structure JG (X : I → Cx) (c : C) (e : Expr) (ix : List Nat) (pg : PTG) : Prop where
  ex : ∃ t, (∀ i, L2.PG (X i) e t) ∧ SimG c ix t pg
structure JGs (X : I → Cx) (c : C) (e : List Expr) (ix : List Nat) (pg : PTGs) : Prop where
  ex : ∃ t, (∀ i, L2.PGs (X i) e t) ∧ SimGs c ix t pg
def qName (i : Nat) : PTG := fun d ρ P => P (ρ.set i (some d))
def qNil : PTGs := fun ds ρ P => ds = [] ∧ P ρ
def qCons (p : PTG) (q : PTGs) : PTGs := fun ds ρ P => ∃ d r, ds = d :: r ∧ p d ρ fun ρ' => q r ρ' P
def qTup (n : Nat) (q : PTGs) : PTG := fun d ρ P => ∃ ds, d = .tuple ds ∧ ds.length = n ∧ q ds ρ P
theorem jg_name (i : Nat) {x : Str} {pos : Pos} (hN : ∀ j, (X j).N.Nodup) (hp : Plain c i := by first | decide | (dsimp only [Plain]; decide)) (hi : ∀ j, (X j).N[i]? = some x := by intro _; rfl) (hx : ∀ j, Loc (X j).env.scope x := by intro _; first | exact Or.inl rfl | exact Or.inr rfl)
    (hf : ∀ j, (X j).fn x = true ∨ (X j).env.scope.names.lookup x = some .local := by intro _; first | exact .inl rfl | exact .inr rfl) : JG X c (.Name x pos) [i] (qName i) :=
  ⟨gName i, fun j => pg_name (hN j) (hi j) (hx j) (hf j), fun F L σ H ρ b v d R P r td h k => k _ _ (r.set hp td) (fun vs hv => wipe_set σ (hv i (List.mem_singleton.mpr rfl)) _) h⟩
theorem jgs_nil : JGs X c [] [] qNil := by
  refine ⟨gNil, fun _ => pgs_nil, fun F L σ H ρ b vs ds R P r td ⟨e, h⟩ k => ?_⟩
  subst e
  cases td
  exact ⟨rfl, k σ ρ r (fun _ _ => rfl) h⟩
theorem jgs_cons {e : Expr} {es : List Expr} {ix ix' : List Nat} {p : PTG} {q : PTGs} (h : JG X c e ix p) (hs : JGs X c es ix' q) (ha : ∀ j, (assignEach (e :: es) (X j).env).map (·.2) = assign e (X j).env :: (assignEach es (X j).env).map (·.2) := by intro _; rfl) : JGs X c (e :: es) (ix ++ ix') (qCons p q) := by
  obtain ⟨t, x, s⟩ := h.ex
  obtain ⟨u, y, s2⟩ := hs.ex
  refine ⟨_, fun j => pgs_cons (x j) (y j) (ha j), fun F L σ H ρ b vs ds R P r td ⟨d, rr, e, hp⟩ k => ?_⟩
  subst e
  cases td with
  | cons t1 t2 =>
    refine ⟨_, _, rfl, s F L σ H ρ b _ d _ _ r t1 hp fun σ' ρ' r' w' hp' => s2 F L σ' H ρ' b _ rr _ _ r' t2 hp' fun σ2 ρ2 r2 w2 hp2 => k σ2 ρ2 r2 (fun vs hv => ?_) hp2⟩
    rw [w2 vs fun i hi => hv i (List.mem_append.mpr (.inr hi)), w' vs fun i hi => hv i (List.mem_append.mpr (.inl hi))]
theorem jg_tup (fm : Fam X c k) {es : List Expr} {kk : Nat} {pos : Pos} {ix : List Nat} {q : PTGs} {n : Nat} (h : JGs X c es ix q) (hn : ∀ j, (assignEach es (X j).env).length = n := by intro _; rfl) (hst : ∀ j, (assignEach es (X j).env).findIdx? (·.1) = none := by intro _; rfl) :
    JG X c (.Tuple es kk pos) ix (qTup n q) := by
  obtain ⟨t, x, s⟩ := h.ex
  refine ⟨gTup c.K n t, fun j => ?_, fun F L σ H ρ b v d R P r td ⟨ds, e, hl, hp⟩ k => ?_⟩
  · have := pg_tup (fm.calm j) (x j) (hn j) (hst j) (k := kk) (pos := pos)
    rw [fm.K j] at this; exact this
  · subst e
    cases td with
    | tup n ha hs => exact ⟨_, _, rfl, SqT.of ha, by rw [hs.len]; exact hl, s F L σ H ρ b _ ds _ _ r hs hp fun σ' ρ' r' w' hp' => k σ' ρ' r' w' hp'⟩
def Walks (ex1 kp : Addr → Prop) (J : It) (ds : List D) (H1 : Hp) : Prop := ∀ (ex' : Addr → Prop) (H2 : Hp), (∀ z o, ¬ ex1 z → H1 z = some o → ¬ ex' z ∧ H2 z = some o) → (∀ z o, kp z → H1 z = some o → H2 z = some o) → (∀ z, ex' z → ∃ o, H2 z = some o ∧ nT o) →
  (∀ i d, ds[i]? = some d → J.go i H2 ∧ ∀ v H3, J.yld i H2 v H3 → Same H2 H3 ∧ TdX ex' H3 v d) ∧ J.stop ds.length H2
abbrev PTI := En → Nat → (List D → Nat → Prop) → Prop
def SimI (c : C) (ow : Bool) (t : L2.TI) (p : PTI) : Prop := ∀ (F : Fm) (L : Ow) (σ : St) (H : Hp) (ρ : En) (b : Nat) (R : It → Hp → Prop) (P : List D → Nat → Prop), RS c F L σ H ρ b → p ρ b P →
  (∀ J ds kp H' b', EvU c L H H' → RS c F L σ H' ρ b' → Walks (exA F.ex L) kp J ds H' → (∀ z, kp z → ow = true ∧ ∃ i, L i = some z ∧ c.ur ≠ some i) → P ds b' → R J H') → t σ H R
structure JI (X : I → Cx) (c : C) (ow : Bool) (tg e : Expr) (p : PTI) : Prop where
  ex : ∃ t, (∀ i, L2.PI (X i) tg e t) ∧ SimI c ow t p
def qRng1 (p : PTE) : PTI := fun ρ b P => p ρ b fun x b => ∃ j : Int, x = .int j ∧ j ≤ 1000000 ∧ -1000000 ≤ j ∧ P ((rgI 0 j.toNat).map .int) b
def qRng2 (p q : PTE) : PTI := fun ρ b P => p ρ b fun x b => q ρ b fun y b => ∃ i j : Int, x = .int i ∧ y = .int j ∧ (-1000000 ≤ i ∧ i ≤ 1000000 ∧ -1000000 ≤ j ∧ j ≤ 1000000) ∧ P ((rgI i (j - i).toNat).map .int) b
theorem walks_rng {ex1 kp : Addr → Prop} {lo : Int} {n : Nat} {H : Hp} : Walks ex1 kp (Itr lo n) ((rgI lo n).map .int) H := by
  intro ex' H2 _ _ _
  refine ⟨fun i d e => ?_, ?_⟩
  · rw [List.getElem?_map] at e
    have hi : i < n := by
      by_cases h : i < n
      · exact h
      · rw [List.getElem?_eq_none (by rw [rgI_length]; omega)] at e; cases e
    rw [rgI_get hi] at e
    cases e
    exact ⟨hi, fun v H3 ⟨e1, e2⟩ => by subst e1 e2; exact ⟨Same.refl _, .int _⟩⟩
  · show n ≤ _
    rw [List.length_map, rgI_length]; exact Nat.le_refl _
theorem ji_rng1 {ow : Bool} {tg a : Expr} {p pos : Pos} {pa : PTE} (hm : ∀ j, (X j).mg "range" = none) (ha : JE X c a pa) (hg : ∀ j, Gl (X j) "range" := by intro _; rfl) (hn : notStar a = true := by rfl) : JI X c ow tg (.Call (.Name "range" p) [a] [] pos) (qRng1 pa) := by
  obtain ⟨t, x, s⟩ := ha.ex
  refine ⟨_, fun j => pi_range1 (hg j) (hm j) (pc (x j) pa_nil hn) (by rw [star_cons hn]; rfl), fun F L σ H ρ b R P r hp k => s F L σ H ρ b _ _ r hp fun v d H' b' e r' td ⟨j, ed, h1, h2, h3⟩ => ?_⟩
  subst ed
  cases td
  exact ⟨j, rfl, by omega, by omega, k _ _ (fun _ => False) H' b' e r' walks_rng (fun _ z => z.elim) h3⟩
theorem ji_rng2 {ow : Bool} {tg a b : Expr} {p pos : Pos} {pa pb' : PTE} (hm : ∀ j, (X j).mg "range" = none) (ha : JE X c a pa) (hb : JE X c b pb') (hg : ∀ j, Gl (X j) "range" := by intro _; rfl) (hn : notStar a = true := by rfl) (hn2 : notStar b = true := by rfl) : JI X c ow tg (.Call (.Name "range" p) [a, b] [] pos) (qRng2 pa pb') := by
  obtain ⟨t, x, s⟩ := ha.ex
  obtain ⟨u, y, s2⟩ := hb.ex
  refine ⟨_, fun j => pi_range2 (hg j) (hm j) (pc (x j) (pc (y j) pa_nil hn2) hn) (by rw [star_cons hn, star_cons hn2]; rfl) (by rw [star_cons hn2]; rfl), fun F L σ H ρ b R P r hp k => s F L σ H ρ b _ _ r hp fun v d H1 b1 e1 r1 td h1 => s2 F L σ H1 ρ b1 _ _ r1 h1 fun v2 d2 H2 b2 e2 r2 td2 ⟨i, j, ed, ed2, hb, h2⟩ => ?_⟩
  subst ed ed2
  cases td
  cases td2
  exact ⟨i, j, rfl, by omega, k _ _ (fun _ => False) H2 b2 (e1.trans e2) r2 walks_rng (fun _ z => z.elim) h2⟩
def qLst (p : PTE) : PTI := fun ρ b P => p ρ b fun x b => ∃ ds, x = .list ds ∧ P ds b
def qTpl (p : PTE) : PTI := fun ρ b P => p ρ b fun x b => ∃ ds, x = .tuple ds ∧ P ds b
theorem walks_lst {K : PySem.W.Frag} {ex1 kp : Addr → Prop} {a : Addr} {vs : List V} {ds : List D} {H : Hp} (h : H a = some (.lst vs)) (td : TdXAll ex1 H vs ds) (hk : ¬ ex1 a ∨ kp a) : Walks ex1 kp (Itl K a) ds H := by
  intro ex' H2 h1 h2 h3
  have ha : H2 a = some (.lst vs) := by
    rcases hk with q | q
    · exact (h1 a _ q h).2
    · exact h2 a _ q h
  have td2 : TdXAll ex' H2 vs ds := TdXAll.to (fun b o n e => h1 b o n e) ds vs td
  refine ⟨fun i d e => ?_, ⟨vs, SqL.of ha, by rw [td.len]; exact Nat.le_refl _⟩⟩
  have hi : i < vs.length := by rw [td.len]; exact (List.getElem?_eq_some_iff.mp e).1
  refine ⟨⟨vs, vs[i], SqL.of ha, List.getElem?_eq_getElem hi⟩, fun v H3 ⟨e1, e2⟩ => ?_⟩
  subst e1
  obtain ⟨d', e3, t⟩ := td2.at (e2 vs (SqL.of ha))
  rw [e] at e3
  cases e3
  exact ⟨Same.refl _, t⟩
theorem walks_tup {K : PySem.W.Frag} {ex1 kp : Addr → Prop} {a : Addr} {vs : List V} {ds : List D} {H : Hp} (h : H a = some (.tup vs)) (td : TdXAll ex1 H vs ds) (hk : ¬ ex1 a) : Walks ex1 kp (Itt K a) ds H := by
  intro ex' H2 h1 h2 h3
  have ha : H2 a = some (.tup vs) := (h1 a _ hk h).2
  have td2 : TdXAll ex' H2 vs ds := TdXAll.to (fun b o n e => h1 b o n e) ds vs td
  refine ⟨fun i d e => ?_, ⟨vs, SqT.of ha, by rw [td.len]; exact Nat.le_refl _⟩⟩
  have hi : i < vs.length := by rw [td.len]; exact (List.getElem?_eq_some_iff.mp e).1
  refine ⟨⟨vs, vs[i], SqT.of ha, List.getElem?_eq_getElem hi⟩, fun v H3 ⟨e1, e2⟩ => ?_⟩
  subst e1
  obtain ⟨d', e3, t⟩ := td2.at (e2 vs (SqT.of ha))
  rw [e] at e3
  cases e3
  exact ⟨Same.refl _, t⟩
theorem ji_lst (fm : Fam X c k) {ow : Bool} {tg e : Expr} {p : PTE} (h : JE X c e p) : JI X c ow tg e (qLst p) := by
  obtain ⟨t, x, s⟩ := h.ex
  refine ⟨iList c.K t, fun j => ?_, fun F L σ H ρ b R P r hp k => s F L σ H ρ b _ _ r hp fun v d H' b' e r' td ⟨ds, ed, h1⟩ => ?_⟩
  · have := pi_list (tg := tg) (x j); rw [fm.K j] at this; exact this
  · subst ed
    cases td with
    | lst n ha hs => exact ⟨_, rfl, ⟨_, SqL.of ha⟩, k _ ds (fun _ => False) H' b' e r' (walks_lst ha hs (.inl n)) (fun _ z => z.elim) h1⟩
theorem ji_tup (fm : Fam X c k) {ow : Bool} {tg e : Expr} {p : PTE} (h : JE X c e p) : JI X c ow tg e (qTpl p) := by
  obtain ⟨t, x, s⟩ := h.ex
  refine ⟨iTup c.K t, fun j => ?_, fun F L σ H ρ b R P r hp k => s F L σ H ρ b _ _ r hp fun v d H' b' e r' td ⟨ds, ed, h1⟩ => ?_⟩
  · have := pi_tup (tg := tg) (x j); rw [fm.K j] at this; exact this
  · subst ed
    cases td with
    | tup n ha hs => exact ⟨_, rfl, ⟨_, SqT.of ha⟩, k _ ds (fun _ => False) H' b' e r' (walks_tup ha hs n) (fun _ z => z.elim) h1⟩
theorem RS.withD {F : Fm} {L : Ow} {σ : St} {H : Hp} {ρ : En} {b : Nat} (r : RS c F L σ H ρ b) {p : Addr} (hp : H p = none) (o : HO) (hno : nT o) : RS c { F with ex := fun z => F.ex z ∨ z = p } L σ (upd H p o) ρ b := by
  have sm := same_new hp o
  have up : ∀ z, exA (fun z => F.ex z ∨ z = p) L z → exA F.ex L z ∨ z = p := fun z h => by
    rcases h with (h | h) | h
    · exact .inl (.inl h)
    · exact .inr h
    · exact .inl (.inr h)
  have kk : ∀ b o', ¬ exA F.ex L b → H b = some o' → ¬ exA (fun z => F.ex z ∨ z = p) L b ∧ upd H p o b = some o' := fun b o' n e => ⟨fun z => (up b z).elim n (ne_of_none e hp), sm b o' e⟩
  exact {
    len := r.len
    len2 := r.len2
    vals := fun i d h n n2 => let ⟨v, a, t⟩ := r.vals i d h n n2; ⟨v, a, TdX.to kk d v t⟩
    ow := fun i a h => by
      obtain ⟨h1, h2, h3⟩ := r.ow i a h
      refine ⟨h1, h2, ?_⟩
      rcases h3 with ⟨q, u⟩ | ⟨q, ⟨ho, hne⟩, vs, ds, hr, hH, ht⟩
      · exact .inl ⟨q, u.same sm⟩
      · exact .inr ⟨q, ⟨ho, fun z => z.elim hne (ne_of_none hH hp)⟩, vs, ds, hr, sm a _ hH, ht.to kk⟩
    ow' := r.ow'
    inj := r.inj
    nur := r.nur
    tr := fun z hz => by
      rcases up z hz with q | q
      · obtain ⟨o', h, ht⟩ := r.tr z q
        exact ⟨o', sm z o' h, ht⟩
      · subst q; exact ⟨o, upd_same, hno⟩
    fr := fun z o' n h => sm z o' (r.fr z o' n h)
    u0 := r.u0
    scr := r.scr }
theorem RS.updD {F : Fm} {L : Ow} {σ : St} {H : Hp} {ρ : En} {b : Nat} (r : RS c F L σ H ρ b) {p : Addr} (he : F.ex p) (hn : ∀ i, L i ≠ some p) (h0 : F.H0 p = none) (o : HO) (hno : nT o) : RS c F L σ (upd H p o) ρ b := by
  have kk : ∀ b o', ¬ exA F.ex L b → H b = some o' → ¬ exA F.ex L b ∧ upd H p o b = some o' := fun b o' n e => ⟨n, by rw [upd_ne (fun (z : b = p) => n (.inl (by rw [z]; exact he)))]; exact e⟩
  exact {
    len := r.len
    len2 := r.len2
    vals := fun i d h n n2 => let ⟨v, a, t⟩ := r.vals i d h n n2; ⟨v, a, TdX.to kk d v t⟩
    ow := fun i a h => by
      obtain ⟨h1, h2, h3⟩ := r.ow i a h
      have nap : a ≠ p := fun z => hn i (z ▸ h)
      refine ⟨h1, h2, ?_⟩
      rcases h3 with ⟨q, u⟩ | ⟨q, ho, vs, ds, hr, hH, ht⟩
      · obtain ⟨g', c', n', e', rest⟩ := u
        exact .inl ⟨q, g', c', n', by rw [upd_ne nap]; exact e', rest⟩
      · exact .inr ⟨q, ho, vs, ds, hr, by rw [upd_ne nap]; exact hH, ht.to kk⟩
    ow' := r.ow'
    inj := r.inj
    nur := r.nur
    tr := fun z hz => by
      by_cases e : z = p
      · subst e; exact ⟨o, upd_same, hno⟩
      · obtain ⟨o', h, ht⟩ := r.tr z hz
        exact ⟨o', by rw [upd_ne e]; exact h, ht⟩
    fr := fun z o' n h => by rw [upd_ne fun e => by subst e; rw [h0] at h; cases h]; exact r.fr z o' n h
    u0 := r.u0
    scr := r.scr }
def qYes : PTT := fun _ b P => P true b
structure JTs (X : I → Cx) (c : C) (es : List Expr) (p : PTT) : Prop where
  ex : ∃ t, (∀ i, L2.PTs (X i) es t) ∧ SimT c t p
theorem jts_nil : JTs X c [] qYes := ⟨tYes, fun _ => pts_nil, fun F L σ H ρ b Q P r h k => k true H b (.refl H) r h⟩
theorem jts_one {e : Expr} {p : PTT} (h : JT X c e p) : JTs X c [e] p := let ⟨t, x, s⟩ := h.ex; ⟨t, fun j => pts_one (x j), s⟩
abbrev blkF (X : I → Cx) (scope : Scope) : I × Shared × Hp × Addr × List (Str × Addr) × List Addr → Cx := fun j => (X j.1).blk j.2.1 j.2.2.1 scope (compEnvC scope j.2.2.2.2.1 j.2.2.2.1 (X j.1).env) j.2.2.2.2.2
theorem Fam.blk {scope : Scope} (fm : Fam X c k) : Fam (blkF X scope) c k := ⟨fun j => fm.K j.1, fun j => fm.calm j.1, fun j => fm.room j.1⟩
def LcG (g : PTG) (tt : PTT) (te : PTE) (vs : List Nat) (ρ : En) (P : KE) (ds : List D) (b : Nat) : Prop := ds.length ≤ 1000000 ∧ ∃ Inv : Nat → List D → Nat → Prop, Inv 0 [] b ∧
  (∀ i x acc b, ds[i]? = some x → Inv i acc b → g x (pwipe ρ vs) fun ρ2 => tt ρ2 b fun kk b => if kk = true then te ρ2 b fun y b => Inv (i + 1) (acc ++ [y]) b else Inv (i + 1) acc b) ∧ ∀ acc b, Inv ds.length acc b → P (.list acc) b
def pLc (wi : PTI) (g : PTG) (tt : PTT) (te : PTE) (vs : List Nat) : PTE := fun ρ b P => wi ρ b (LcG g tt te vs ρ P)
def SimIat (c : C) (ow : Bool) (t : L2.TI) (p : PTI) (F : Fm) (L : Ow) (σ : St) (H : Hp) (ρ : En) (b : Nat) : Prop := ∀ (R : It → Hp → Prop) (P : List D → Nat → Prop), p ρ b P →
  (∀ J ds kp H' b', EvU c L H H' → RS c F L σ H' ρ b' → Walks (exA F.ex L) kp J ds H' → (∀ z, kp z → ow = true ∧ ∃ i, L i = some z ∧ c.ur ≠ some i) → P ds b' → R J H') → t σ H R
theorem simF_lc_at {ow : Bool} {wi : L2.TI} {g : L2.TG} {tt : L2.TT} {te : L2.TE} {vs ix : List Nat} {pwi : PTI} {pg : PTG} {ptt : PTT} {pte : PTE} {F : Fm} {L : Ow} {σ : St} {H : Hp} {ρ : En} {b : Nat} (s1 : SimIat c ow wi pwi F L σ H ρ b) (s2 : SimG c ix g pg) (s3 : SimT c tt ptt) (s4 : SimE c te pte) (hvs : ∀ i ∈ vs, Plain c i) (hix : ∀ i ∈ ix, i ∈ vs)
    (Q : VK) (P : KE) (r : RS c F L σ H ρ b) (hp : pLc pwi pg ptt pte vs ρ b P) (k : ∀ a vs ds H' b', EvU c L H H' → RS c F L σ H' ρ b' → H a = none → H' a = some (.lst vs) → TdXAll (fun z => exA F.ex L z ∨ z = a) H' vs ds → P (.list ds) b' → Q (.ref a) H') : tLc wi g tt te vs σ H Q := by
  refine s1 _ _ hp fun J ds kp H1 b1 e1 r1 wk hkp ⟨hlen, Iv, i0, istep, iend⟩ => ?_
  intro Da nD
  have rD := r1.withD nD (.lst []) nT_lst
  have nUL : ∀ i, L i ≠ some Da := fun i hi => by
    obtain ⟨o, ho, _⟩ := r1.tr Da (.inr ⟨i, hi⟩)
    rw [nD] at ho; cases ho
  have nU : ¬ isU c L Da := fun ⟨i, _, hi⟩ => nUL i hi
  have n0 : F.H0 Da = none := by
    cases q : F.H0 Da with
    | none => rfl
    | some o =>
      by_cases hu : F.u0 = some Da
      · exact absurd (r1.u0 Da hu) nU
      · have := r1.fr Da o hu q
        rw [nD] at this; cases this
  let F' : Fm := { F with ex := fun z => F.ex z ∨ z = Da }
  refine ⟨fun i m H2 => m = ds.length - i ∧ i ≤ ds.length ∧ ∃ acc accd b2, H2 Da = some (.lst acc) ∧ TdXAll (exA F'.ex L) H2 acc accd ∧ acc.length ≤ i ∧ RS c F' L σ H2 ρ b2 ∧ Iv i accd b2 ∧ EvU c L H1 H2,
    ⟨ds.length, by simp, Nat.zero_le _, [], [], b1, upd_same, .nil, Nat.le_refl _, rD, i0, .same (same_new nD _)⟩, ?_⟩
  rintro i m H2 ⟨rfl, hi, acc, accd, b2, hD, tda, hal, r2, iv, ev⟩
  obtain ⟨w1, w2⟩ := wk (exA F'.ex L) H2 (fun z o n e => ⟨fun z' => by
      rcases z' with (q | q) | q
      · exact n (.inl q)
      · exact ne_of_none e nD q
      · exact n (.inr q), ev z o (fun q => n q.ex) e⟩)
    (fun z o hz e => ev z o (fun ⟨j, hj, hl⟩ => by
      obtain ⟨_, i', hl', hn'⟩ := hkp z hz
      have := r1.inj j i' z hl hl'
      subst this
      exact hn' hj) e) r2.tr
  by_cases hlt : i < ds.length
  · have hx := List.getElem?_eq_getElem hlt
    obtain ⟨go, yl⟩ := w1 i _ hx
    refine .inr ⟨go, fun H3 => ∃ acc accd b2, H3 Da = some (.lst acc) ∧ TdXAll (exA F'.ex L) H3 acc accd ∧ acc.length ≤ i + 1 ∧ RS c F' L σ H3 ρ b2 ∧ Iv (i + 1) accd b2 ∧ EvU c L H1 H3, fun H3 ⟨a1, a2, a3, a4⟩ => ⟨ds.length - (i + 1), by omega, rfl, hlt, a1, a2, a3, a4⟩, fun v H3 hy => ?_⟩
    obtain ⟨s23, tv⟩ := yl v H3 hy
    have r3 := r2.same s23
    refine s2 F' L _ H3 (pwipe ρ vs) b2 v _ _ _ (r3.wipe hvs) tv (istep i _ accd b2 hx iv) fun σ2 ρ2 r4 hw hp4 => ⟨?_, ?_⟩
    · rw [hw vs hix, wipe_wipe]
    refine s3 F' L σ2 H3 ρ2 b2 _ _ r4 hp4 fun kk H5 b5 e5 r5 hp5 => ?_
    have D3 : H3 Da = some (.lst acc) := s23 _ _ hD
    have D5 : H5 Da = some (.lst acc) := e5 _ _ nU D3
    have rs5 : RS c F' L σ H5 ρ b5 := r3.go e5 fun z hz => r5.urn hz
    have ta5 : TdXAll (exA F'.ex L) H5 acc accd := evuAll (all_same tda s23) e5
    cases kk with
    | false => exact iteF ⟨acc, accd, b5, D5, ta5, by omega, rs5, hp5, ev.trans ((EvU.same s23).trans e5)⟩
    | true =>
      refine iteT (s4 F' L σ2 H5 ρ2 b5 _ _ r5 hp5 fun y dy H6 b6 e6 r6 ty hp6 => ?_)
      have D6 : H6 Da = some (.lst acc) := e6 _ _ nU D5
      have rs6 : RS c F' L σ H6 ρ b6 := rs5.go e6 fun z hz => r6.urn hz
      refine ⟨acc, D6, by rw [sizeLine_eq]; omega, acc ++ [y], accd ++ [dy], b6, upd_same, ?_, by rw [List.length_append]; exact Nat.succ_le_succ hal, rs6.updD (.inr rfl) nUL n0 _ nT_lst, hp6, fun z o n e => ?_⟩
      · have kk2 : ∀ b o', ¬ exA F'.ex L b → H6 b = some o' → ¬ exA F'.ex L b ∧ upd H6 Da (.lst (acc ++ [y])) b = some o' := fun b o' n e => ⟨n, by rw [upd_ne fun z => n (.inl (.inr z))]; exact e⟩
        exact ((evuAll ta5 e6).snoc ty).go kk2
      · rw [upd_ne (ne_of_none e nD)]
        exact e6 z o n (e5 z o n (s23 z o (ev z o n e)))
  · have e : i = ds.length := by omega
    subst e
    refine .inl ⟨w2, k Da acc accd H2 b2 (e1.trans ev) ?_ (none_back r1 e1 nD) hD ?_ (iend accd b2 iv)⟩
    · exact r1.go ev fun z hz => r2.urn hz
    · exact TdXAll.to (fun z o n e => ⟨fun q => n (by
        rcases q with (q | q) | q
        · exact .inl (.inl q)
        · exact .inr q
        · exact .inl (.inr q)), e⟩) accd acc tda
theorem simF_lc {ow : Bool} {wi : L2.TI} {g : L2.TG} {tt : L2.TT} {te : L2.TE} {vs ix : List Nat} {pwi : PTI} {pg : PTG} {ptt : PTT} {pte : PTE} (s1 : SimI c ow wi pwi) (s2 : SimG c ix g pg) (s3 : SimT c tt ptt) (s4 : SimE c te pte) (hvs : ∀ i ∈ vs, Plain c i) (hix : ∀ i ∈ ix, i ∈ vs) :
    SimF c (tLc wi g tt te vs) (pLc pwi pg ptt pte vs) := fun F L σ H ρ b Q P r hp k => simF_lc_at (fun R P' hp' k' => s1 F L σ H ρ b R P' r hp' k') s2 s3 s4 hvs hix Q P r hp k
theorem jf_lc (fm : Fam X c k) {elt tg iter : Expr} {ifs : List Expr} {scope : Scope} {own : List (Str × Nat)} {pos : Pos} {ow : Bool} {ix : List Nat} {pwi : PTI} {pg : PTG} {ptt : PTT} {pte : PTE} (hN : ∀ j, (X j).N.Nodup) (hi : JI X c ow tg iter pwi) (ok : ∀ j, BlkOk (X j).N (X j).env.scope scope own)
    (hg : Fam (blkF X scope) c k → JG (blkF X scope) c tg ix pg) (ht : Fam (blkF X scope) c k → JTs (blkF X scope) c ifs ptt) (he : Fam (blkF X scope) c k → JE (blkF X scope) c elt pte) (hvs : ∀ i ∈ own.map (·.2), Plain c i := by first | decide | (dsimp only [Plain]; decide)) (hix : ∀ i ∈ ix, i ∈ own.map (·.2) := by first | decide | (dsimp only [Plain]; decide))
    (hs : ∀ j x, foldedSetIterable iter (X j).env x = pure x := by intro _ _; rfl) : JF X c (.ListComp elt [⟨tg, iter, ifs, 0⟩] scope pos) (pLc pwi pg ptt pte (own.map (·.2))) := by
  obtain ⟨wi, w1, w2⟩ := hi.ex
  obtain ⟨g, g1, g2⟩ := (hg fm.blk).ex
  obtain ⟨tt, t1, t2⟩ := (ht fm.blk).ex
  obtain ⟨te, e1, e2⟩ := (he fm.blk).ex
  exact ⟨_, fun j => pe_lc (fm.calm j) (hN j) (w1 j) (ok j) (fun s H C cl fp => g1 (j, s, H, C, cl, fp)) (fun s H C cl fp => t1 (j, s, H, C, cl, fp)) (fun s H C cl fp => e1 (j, s, H, C, cl, fp)) (hs j), simF_lc w2 g2 t2 e2 hvs hix⟩
def Evo (F : Fm) (L : Ow) (H : Hp) (L' : Ow) (H' : Hp) : Prop := (∀ z o, ¬ exA F.ex L z → H z = some o → H' z = some o) ∧ ∀ z, exA F.ex L' z → exA F.ex L z ∨ H z = none
theorem Evo.refl {F : Fm} {L : Ow} {H : Hp} : Evo F L H L H := ⟨fun _ _ _ h => h, fun _ h => .inl h⟩
theorem Evo.trans {F : Fm} {L L1 L2 : Ow} {H H1 H2 : Hp} (a : Evo F L H L1 H1) (b : Evo F L1 H1 L2 H2) : Evo F L H L2 H2 := by
  refine ⟨fun z o n h => b.1 z o (fun q => ?_) (a.1 z o n h), fun z hz => ?_⟩
  · rcases a.2 z q with q | q
    · exact n q
    · rw [h] at q; cases q
  · rcases b.2 z hz with q | q
    · exact a.2 z q
    · by_cases y : exA F.ex L z
      · exact .inl y
      · cases e : H z with
        | none => exact .inr rfl
        | some o => rw [a.1 z o y e] at q; cases q
theorem Evo.u {F : Fm} {L : Ow} {H H' : Hp} (e : EvU c L H H') : Evo F L H L H' := ⟨fun z o n h => e z o (fun q => n q.ex) h, fun _ h => .inl h⟩
def Rt (F : Fm) (v : V) (d : D) (H' : Hp) (b' : Nat) : Prop := (∀ z o, F.u0 ≠ some z → F.H0 z = some o → H' z = some o) ∧ (∀ u, F.u0 = some u → UrnAt H' u b') ∧ TdX F.ex H' v d
structure Okk (c : C) (F : Fm) (L : Ow) (H : Hp) (E : L2.Ends) (Pn : PEnds) : Prop where
  nx : ∀ L' σ' H' ρ' b', Evo F L H L' H' → RS c F L' σ' H' ρ' b' → Pn.nx ρ' b' → E.nx σ' H'
  bk : ∀ L' σ' H' ρ' b', Evo F L H L' H' → RS c F L' σ' H' ρ' b' → Pn.bk ρ' b' → E.bk σ' H'
  ct : ∀ L' σ' H' ρ' b', Evo F L H L' H' → RS c F L' σ' H' ρ' b' → Pn.ct ρ' b' → E.ct σ' H'
  rt : ∀ v d H' b', Rt F v d H' b' → Pn.rt d b' → E.rt v H'
theorem Okk.go {F : Fm} {L L1 : Ow} {H H1 : Hp} {E : L2.Ends} {Pn : PEnds} (o : Okk c F L H E Pn) (e : Evo F L H L1 H1) : Okk c F L1 H1 E Pn :=
  ⟨fun L' σ' H' ρ' b' e' => o.nx L' σ' H' ρ' b' (e.trans e'), fun L' σ' H' ρ' b' e' => o.bk L' σ' H' ρ' b' (e.trans e'), fun L' σ' H' ρ' b' e' => o.ct L' σ' H' ρ' b' (e.trans e'), o.rt⟩
def SimS (c : C) (t : L2.TS) (p : PTS) : Prop := ∀ (F : Fm) (L : Ow) (σ : St) (H : Hp) (ρ : En) (b : Nat) (E : L2.Ends) (Pn : PEnds), RS c F L σ H ρ b → p Pn ρ b → Okk c F L H E Pn → t E σ H
structure JS (X : I → Cx) (c : C) (st : Stmt) (p : PTS) : Prop where
  ex : ∃ t, (∀ i, L2.PS (X i) st t) ∧ SimS c t p
structure JSs (X : I → Cx) (c : C) (st : List Stmt) (p : PTS) : Prop where
  ex : ∃ t, (∀ i, L2.PSs (X i) st t) ∧ SimS c t p
def sNext : PTS := fun E ρ b => E.nx ρ b
def sSeq (p q : PTS) : PTS := fun E ρ b => p { E with nx := q E } ρ b
theorem jss_nil : JSs X c [] sNext := ⟨tNext, fun _ => pss_nil, fun F L σ H ρ b E Pn r h o => o.nx L σ H ρ b .refl r h⟩
theorem jss_one {st : Stmt} {p : PTS} (h : JS X c st p) : JSs X c [st] p := let ⟨t, x, s⟩ := h.ex; ⟨t, fun j => pss_one (x j), s⟩
theorem jss_cons {st : Stmt} {rest : List Stmt} {p q : PTS} (h : JS X c st p) (hs : JSs X c rest q) : JSs X c (st :: rest) (sSeq p q) := by
  obtain ⟨t, x, s⟩ := h.ex
  obtain ⟨u, y, s2⟩ := hs.ex
  refine ⟨_, fun j => pss_cons (x j) (y j), fun F L σ H ρ b E Pn r h o => s F L σ H ρ b _ _ r h ⟨fun L' σ' H' ρ' b' e r' h' => s2 F L' σ' H' ρ' b' E Pn r' h' (o.go e), o.bk, o.ct, o.rt⟩⟩
def sIf (pt : PTT) (p q : PTS) : PTS := fun E ρ b => pt ρ b fun kk b => if kk = true then p E ρ b else q E ρ b
theorem js_if {e : Expr} {a b : List Stmt} {pos : Pos} {pt : PTT} {p q : PTS} (h : JT X c e pt) (h1 : JSs X c a p) (h2 : JSs X c b q) : JS X c (.If e a b pos) (sIf pt p q) := by
  obtain ⟨t, x, s⟩ := h.ex
  obtain ⟨u, y, s1⟩ := h1.ex
  obtain ⟨w, z, s2⟩ := h2.ex
  refine ⟨_, fun j => ps_if (x j) (y j) (z j), fun F L σ H ρ b E Pn r hp o => s F L σ H ρ b _ _ r hp fun kk H' b' e r' pk => ?_⟩
  cases kk with
  | true => exact iteT (s1 F L σ H' ρ b' E Pn r' pk (o.go (.u e)))
  | false => exact iteF (s2 F L σ H' ρ b' E Pn r' pk (o.go (.u e)))
theorem VR.out {F : Fm} {L : Ow} {σ : St} {H : Hp} {ρ : En} {b : Nat} {v : V} {d : D} (h : VR c F L H ρ v d) (r : RS c F L σ H ρ b) : TdX F.ex H v d := by
  rcases id h with h' | ⟨i, a, hl, hn, rfl, hr, _⟩
  · exact TdX.to (fun z o n e => ⟨fun q => n (.inl q), e⟩) d v h'
  · rcases (r.ow i a hl).2.2 with ⟨q, _⟩ | ⟨_, ⟨_, hne⟩, vs, ds2, q3, q4, q5⟩
    · exact absurd q hn
    · rw [hr] at q3
      cases q3
      exact (q5.to fun z o n e => ⟨fun q => n (.inl q), e⟩).td hne q4
def sRet (p : PTE) : PTS := fun E ρ b => p ρ b E.rt
theorem js_ret {e : Expr} {pos : Pos} {p : PTE} (h : JV X c e p) : JS X c (.Return (some e) pos) (sRet p) := by
  obtain ⟨t, x, s⟩ := h.ex
  refine ⟨_, fun j => ps_ret (x j), fun F L σ H ρ b E Pn r hp o => s F L σ H ρ b _ _ r hp fun v d H' b' e r' vr pk => o.rt v d H' b' ⟨r'.fr, fun u hu => r'.urn (r'.u0 u hu), vr.out r'⟩ pk⟩
def sDrop (p : PTE) : PTS := fun E ρ b => p ρ b fun _ b => E.nx ρ b
theorem js_expr {e : Expr} {pos : Pos} {p : PTE} (h : JE X c e p) (hs : ∀ j, swapsWith e none pos.line (X j).env = pure false := by intro _; rfl) : JS X c (.Expr e pos) (sDrop p) := by
  obtain ⟨t, x, s⟩ := h.ex
  refine ⟨_, fun j => ps_expr (x j) (hs j), fun F L σ H ρ b E Pn r hp o => s F L σ H ρ b _ _ r hp fun v d H' b' e r' vr pk => o.nx L σ H' ρ b' (.u e) r' pk⟩
def sAsg (p : PTE) (g : PTG) : PTS := fun E ρ b => p ρ b fun d b => g d ρ fun ρ' => E.nx ρ' b
theorem SimS.asg {t : L2.TE} {g : L2.TG} {p : PTE} {q : PTG} {ix : List Nat} (s : SimE c t p) (s2 : SimG c ix g q) : SimS c (tAsg t g) (sAsg p q) :=
  fun F L σ H ρ b E Pn r hp o => s F L σ H ρ b _ _ r hp fun v d H' b' e r' td pk => s2 F L σ H' ρ b' v d _ _ r' td pk fun σ' ρ' r2 _ h2 => o.nx L σ' H' ρ' b' (.u e) r2 h2
theorem js_asg {e tg : Expr} {pos : Pos} {p : PTE} {q : PTG} {ix : List Nat} (h : JE X c e p) (hg : JG X c tg ix q) (hs : ∀ j, swapsWithSole [tg] e pos.line (X j).env = pure false := by intro _; rfl) (hw : ∀ j, swappedStores [tg] e (X j).env = pure none := by intro _; rfl)
    (h1 : ∀ j, (assignEach [tg] (X j).env).map (·.2) = [assign tg (X j).env] := by intro _; rfl) : JS X c (.Assign [tg] e pos) (sAsg p q) := by
  obtain ⟨t, x, s⟩ := h.ex
  obtain ⟨u, y, s2⟩ := hg.ex
  exact ⟨_, fun j => ps_asg (x j) (y j) (hs j) (hw j) (h1 j), SimS.asg s s2⟩
def setL (L : Ow) (i : Nat) (a : Addr) : Ow := fun j => if j = i then some a else L j
theorem RS.newOwn {F : Fm} {L : Ow} {σ : St} {H H' : Hp} {ρ : En} {b b' : Nat} {a : Addr} {vs : HO} {ds : D} {i : Nat} (r : RS c F L σ H ρ b) (r' : RS c F L σ H' ρ b') (e : EvU c L H H') (na : H a = none) (ha : H' a = some vs)
    (td : ObD (fun z => exA F.ex L z ∨ z = a) H' vs ds) (hi : i ∈ c.own) (hu : c.ur ≠ some i) (hsc : c.sc ≠ some i) (hn : i < c.n) : RS c F (setL L i a) (σ.set i (some (.ref a))) H' (ρ.set i (some ds)) b' := by
  have nex : ¬ exA F.ex L a := newIn r na
  have up : ∀ z, exA F.ex (setL L i a) z → exA F.ex L z ∨ z = a := fun z h => by
    rcases h with h | ⟨j, h⟩
    · exact .inl (.inl h)
    · unfold setL at h
      by_cases q : j = i
      · rw [if_pos q] at h; cases h; exact .inr rfl
      · rw [if_neg q] at h; exact .inl (.inr ⟨j, h⟩)
  have kk : ∀ z o, ¬ exA F.ex L z → H z = some o → ¬ exA F.ex (setL L i a) z ∧ H' z = some o := fun z o n q => ⟨fun y => (up z y).elim n (ne_of_none q na), e z o (fun y => n y.ex) q⟩
  have lσ : i < σ.length := by rw [r.len, r.len2]; exact hn
  have lρ : i < ρ.length := by rw [r.len2]; exact hn
  have old : ∀ j x, j ≠ i → setL L i a j = some x → L j = some x := fun j x n h => by unfold setL at h; rw [if_neg n] at h; exact h
  have h0 : F.H0 a = none := by
    cases q : F.H0 a with
    | none => rfl
    | some o =>
      by_cases y : F.u0 = some a
      · exact absurd (r.u0 a y).ex nex
      · rw [r.fr a o y q] at na; cases na
  exact {
    len := by rw [List.length_set, List.length_set]; exact r.len
    len2 := by rw [List.length_set]; exact r.len2
    vals := fun j d hj n n2 => by
      have ne : i ≠ j := fun z => n (z ▸ hi)
      rw [List.getElem?_set_ne ne] at hj
      obtain ⟨v, h1, h2⟩ := r.vals j d hj n n2
      exact ⟨v, by rw [List.getElem?_set_ne ne]; exact h1, TdX.to kk d v h2⟩
    ow := fun j x hj => by
      by_cases q : j = i
      · subst q
        unfold setL at hj
        rw [if_pos rfl] at hj
        cases hj
        exact ⟨List.getElem?_set_self lσ, .inl h0, .inr ⟨hu, ⟨hi, fun z => nex (.inl z)⟩, vs, ds, List.getElem?_set_self lρ, ha, td.to fun z o n q => ⟨fun y => n (up z y), q⟩⟩⟩
      · have hj' := old j x q hj
        obtain ⟨h1, h2, h3⟩ := r.ow j x hj'
        obtain ⟨_, _, h3'⟩ := r'.ow j x hj'
        refine ⟨by rw [List.getElem?_set_ne (Ne.symm q)]; exact h1, h2, ?_⟩
        rcases h3 with ⟨q1, u⟩ | ⟨q1, ho, vs', ds', hr, hH, ht⟩
        · rcases h3' with ⟨_, u'⟩ | ⟨z, _⟩
          · exact .inl ⟨q1, u'⟩
          · exact absurd q1 z
        · refine .inr ⟨q1, ho, vs', ds', by rw [List.getElem?_set_ne (Ne.symm q)]; exact hr, e x _ (fun ⟨l, hl1, hl2⟩ => ?_) hH, ht.to kk⟩
          have := r.inj l j x hl2 hj'
          subst this
          exact q1 hl1
    ow' := fun j d hj he => by
      by_cases q : j = i
      · exact ⟨a, by unfold setL; rw [if_pos q]⟩
      · rw [List.getElem?_set_ne (Ne.symm q)] at he
        obtain ⟨x, hx⟩ := r.ow' j d hj he
        exact ⟨x, by unfold setL; rw [if_neg q]; exact hx⟩
    inj := fun j l x hj hl => by
      by_cases q : j = i
      · by_cases q2 : l = i
        · rw [q, q2]
        · subst q
          have hl' := old l x q2 hl
          unfold setL at hj
          rw [if_pos rfl] at hj
          cases hj
          exact absurd (.inr ⟨l, hl'⟩) nex
      · by_cases q2 : l = i
        · subst q2
          have hj' := old j x q hj
          unfold setL at hl
          rw [if_pos rfl] at hl
          cases hl
          exact absurd (.inr ⟨j, hj'⟩) nex
        · exact r.inj j l x (old j x q hj) (old l x q2 hl)
    nur := fun j hj => by
      have ne : j ≠ i := fun z => hu (z ▸ hj)
      refine ⟨(r.nur j hj).1, fun d hd => ?_⟩
      rw [List.getElem?_set_ne (Ne.symm ne)] at hd
      obtain ⟨x, hx⟩ := (r.nur j hj).2 d hd
      exact ⟨x, by unfold setL; rw [if_neg ne]; exact hx⟩
    tr := fun z hz => by
      rcases up z hz with q | q
      · exact r'.tr z q
      · subst q; exact ⟨_, ha, td.nt⟩
    fr := r'.fr
    u0 := fun u hu0 => by
      obtain ⟨j, hj, hl⟩ := r.u0 u hu0
      exact ⟨j, hj, by unfold setL; rw [if_neg (fun (z : j = i) => hu (z ▸ hj))]; exact hl⟩
    scr := fun j hj => by
      have ne : i ≠ j := fun z => hsc (z ▸ hj)
      obtain ⟨h1, h2, h3, h4, a', ns, h5, h6⟩ := r.scr j hj
      exact ⟨h1, fun e => by rw [List.getElem?_set_ne ne]; exact h2 e, h3, h4, a', ns, by rw [List.getElem?_set_ne ne]; exact h5, h6⟩ }
theorem RS.evo {F : Fm} {L : Ow} {σ : St} {H H' : Hp} {ρ : En} {b : Nat} {a : Addr} {i : Nat} (r : RS c F L σ H ρ b) (e : EvU c L H H') (na : H a = none) : Evo F L H (setL L i a) H' := by
  refine ⟨fun z o n h => e z o (fun q => n q.ex) h, fun z hz => ?_⟩
  rcases hz with h | ⟨j, h⟩
  · exact .inl (.inl h)
  · unfold setL at h
    by_cases q : j = i
    · rw [if_pos q] at h; cases h; exact .inr na
    · rw [if_neg q] at h; exact .inl (.inr ⟨j, h⟩)
theorem SimS.own {t : L2.TE} {p : PTE} {i : Nat} (s : SimF c t p) (hi : i ∈ c.own ∧ c.ur ≠ some i ∧ c.sc ≠ some i ∧ i < c.n) : SimS c (tAsg t (gName i)) (sAsg p (qName i)) :=
  fun F L σ H ρ b E Pn r hp o => s F L σ H ρ b _ _ r hp fun a vs ds H' b' e r' na ha td pk => o.nx _ _ H' _ b' (r.evo e na) (r.newOwn r' e na ha (.lst td) hi.1 hi.2.1 hi.2.2.1 hi.2.2.2) pk
theorem js_set (i : Nat) {x : Str} {e : Expr} {pos pos' : Pos} {p : PTE} (hN : ∀ j, (X j).N.Nodup) (h : JE X c e p) (hp : Plain c i := by first | decide | (dsimp only [Plain]; decide)) (hi : ∀ j, (X j).N[i]? = some x := by intro _; rfl) (hx : ∀ j, Loc (X j).env.scope x := by intro _; first | exact Or.inl rfl | exact Or.inr rfl)
    (hf : ∀ j, (X j).fn x = true ∨ (X j).env.scope.names.lookup x = some .local := by intro _; first | exact .inl rfl | exact .inr rfl)
    (hs : ∀ j, swapsWithSole [.Name x pos'] e pos.line (X j).env = pure false := by intro _; rfl) (hw : ∀ j, swappedStores [.Name x pos'] e (X j).env = pure none := by intro _; rfl) : JS X c (.Assign [.Name x pos'] e pos) (sAsg p (qName i)) :=
  js_asg h (jg_name i hN hp hi hx hf) hs hw
def ForG (pg : PTG) (pb : PTS) (E : PEnds) (ρ : En) (ds : List D) (b : Nat) : Prop := ∃ Inv : Nat → En → Nat → Prop, Inv 0 ρ b ∧
  (∀ i x ρ b, ds[i]? = some x → Inv i ρ b → pg x ρ fun ρ2 => pb { E with nx := Inv (i + 1), ct := Inv (i + 1), bk := E.nx } ρ2 b) ∧ ∀ ρ b, Inv ds.length ρ b → E.nx ρ b
def sFor (pi : PTI) (pg : PTG) (pb : PTS) : PTS := fun E ρ b => pi ρ b (ForG pg pb E ρ)
theorem js_for (fm : Fam X c k) {tg iter : Expr} {body : List Stmt} {pos : Pos} {ix : List Nat} {pi : PTI} {pg : PTG} {pb' : PTS} (hp : ∀ j, PassesOwn (model (X j).prog (X j).w) (X j).A (X j).env (X j).xe) (hi : JI X c false tg iter pi) (hg : JG X c tg ix pg) (hb : JSs X c body pb')
    (hs : ∀ j x, foldedSetIterable iter (X j).env x = pure x := by intro _ _; rfl) : JS X c (.For tg iter body [] pos) (sFor pi pg pb') := by
  obtain ⟨wi, w1, w2⟩ := hi.ex
  obtain ⟨g, g1, g2⟩ := hg.ex
  obtain ⟨tb, b1, b2⟩ := hb.ex
  refine ⟨_, fun j => ps_for (hp j) (fm.calm j) (w1 j) (g1 j) (b1 j) (hs j), fun F L σ H ρ b E Pn r hq o => w2 F L σ H ρ b _ _ r hq fun J ds kp H1 b1 e1 r1 wk hkp ⟨Iv, i0, istep, iend⟩ => ?_⟩
  refine ⟨fun i m σ2 H2 => m = ds.length - i ∧ i ≤ ds.length ∧ ∃ L' ρ' b', Evo F L H1 L' H2 ∧ RS c F L' σ2 H2 ρ' b' ∧ Iv i ρ' b', ⟨ds.length, by simp, Nat.zero_le _, L, ρ, b1, .refl, r1, i0⟩, ?_⟩
  rintro i m σ2 H2 ⟨rfl, hi, L', ρ', b', ev, r2, iv⟩
  obtain ⟨w1, w2⟩ := wk (exA F.ex L') H2 (fun z o n e => ⟨fun q => (ev.2 z q).elim n fun q => (by rw [e] at q; cases q), ev.1 z o n e⟩) (fun z o hz _ => by have := (hkp z hz).1; cases this) r2.tr
  by_cases hlt : i < ds.length
  · have hx := List.getElem?_eq_getElem hlt
    obtain ⟨go, yl⟩ := w1 i _ hx
    refine .inr ⟨go, fun σ3 H3 => ∃ L' ρ' b', Evo F L H1 L' H3 ∧ RS c F L' σ3 H3 ρ' b' ∧ Iv (i + 1) ρ' b', fun σ3 H3 q => ⟨ds.length - (i + 1), by omega, rfl, hlt, q⟩, fun v H3 hy => ?_⟩
    obtain ⟨s23, tv⟩ := yl v H3 hy
    have ev3 : Evo F L H1 L' H3 := ev.trans (Evo.u (c := c) (.same s23))
    refine g2 F L' σ2 H3 ρ' b' v _ _ _ (r2.same s23) tv (istep i _ ρ' b' hx iv) fun σ3 ρ3 r4 _ hp4 => ?_
    refine b2 F L' σ3 H3 ρ3 b' _ _ r4 hp4 ⟨fun L4 σ4 H4 ρ4 b4 e4 r5 h5 => ⟨L4, ρ4, b4, ev3.trans e4, r5, h5⟩, fun L4 σ4 H4 ρ4 b4 e4 r5 h5 => ?_, fun L4 σ4 H4 ρ4 b4 e4 r5 h5 => ⟨L4, ρ4, b4, ev3.trans e4, r5, h5⟩, o.rt⟩
    exact o.nx L4 σ4 H4 ρ4 b4 ((Evo.u e1).trans (ev3.trans e4)) r5 h5
  · have e : i = ds.length := by omega
    subst e
    exact .inl ⟨w2, o.nx L' σ2 H2 ρ' b' ((Evo.u e1).trans ev) r2 (iend ρ' b' iv)⟩
def pLenS : PTE := fun _ b P => ∀ n : Nat, n ≤ 63 → P (.int n) b
theorem je_lenS (fm : Fam X c k) (i : Nat) {x : Str} {px p pos : Pos} (hm : ∀ j, (X j).mg "len" = none) (hsc : c.sc = some i := by rfl) (hN : ∀ j, (X j).N[i]? = some x := by intro _; rfl) (hv : ∀ j, Vis (X j).env.scope x := by intro _; first | exact Or.inl rfl | exact Or.inr (Or.inl rfl) | exact Or.inr (Or.inr rfl))
    (hd : (x == ("__debug__" : Str)) = false := by first | decide | (dsimp only [Plain]; decide)) (hcd : (x == ("__classdict__" : Str)) = false := by first | decide | (dsimp only [Plain]; decide)) (hg : ∀ j, Gl (X j) "len" := by intro _; rfl) : JE X c (.Call (.Name "len" p) [.Name x px] [] pos) pLenS := by
  refine ⟨tCB (fun xs H Q => ∃ p ys, xs = [.ref p] ∧ (SqL c.K H p ys ∨ SqT c.K H p ys) ∧ Q (.int ys.length) H) (tCons (tVar i) tNil), fun j => ?_, fun F L σ H ρ b Q P r h k => ?_⟩
  · have := pb (call_len_seq (X := X j)) (hg j) (hm j) (by decide +kernel) (pc (pe_var (hN j) (hv j) hd hcd (pos := px)) pa_nil rfl) rfl (p := p) (pos := pos)
    rw [fm.K j] at this; exact this
  · obtain ⟨hu0, _, _, _, a, ns, hσ, hS, hl⟩ := r.scr i hsc
    have sm : Same F.H0 H := fun z o e => r.fr z o (by rw [hu0]; intro z; cases z) e
    refine ⟨.ref a, hσ, a, _, rfl, .inl (sm.seq hS), ?_⟩
    rw [List.length_map]
    exact k _ _ H b (.refl H) r (.int _) (h ns.length hl)
theorem RS.newUrn {F : Fm} {L : Ow} {σ : St} {H H' : Hp} {ρ : En} {b b' : Nat} {a : Addr} {i : Nat} (r : RS c F L σ H ρ b) (s : Same H H') (na : H a = none) (ha : UrnAt H' a b') (hu : c.ur = some i) (h0 : F.u0 = none) (hsc : c.sc ≠ some i) (hn : i < c.n) :
    RS c F (setL L i a) (σ.set i (some (.ref a))) H' (ρ.set i (some .none)) b' := by
  have nex : ¬ exA F.ex L a := newIn r na
  have up : ∀ z, exA F.ex (setL L i a) z → exA F.ex L z ∨ z = a := fun z h => by
    rcases h with h | ⟨j, h⟩
    · exact .inl (.inl h)
    · unfold setL at h
      by_cases q : j = i
      · rw [if_pos q] at h; cases h; exact .inr rfl
      · rw [if_neg q] at h; exact .inl (.inr ⟨j, h⟩)
  have kk : ∀ z o, ¬ exA F.ex L z → H z = some o → ¬ exA F.ex (setL L i a) z ∧ H' z = some o := fun z o n q => ⟨fun y => (up z y).elim n (ne_of_none q na), s z o q⟩
  have lσ : i < σ.length := by rw [r.len, r.len2]; exact hn
  have old : ∀ j x, j ≠ i → setL L i a j = some x → L j = some x := fun j x n h => by unfold setL at h; rw [if_neg n] at h; exact h
  have hH0 : F.H0 a = none := by
    cases q : F.H0 a with
    | none => rfl
    | some o => rw [r.fr a o (by rw [h0]; intro z; cases z) q] at na; cases na
  exact {
    len := by rw [List.length_set, List.length_set]; exact r.len
    len2 := by rw [List.length_set]; exact r.len2
    vals := fun j d hj n n2 => by
      have ne : i ≠ j := fun z => n2 (z ▸ hu)
      rw [List.getElem?_set_ne ne] at hj
      obtain ⟨v, h1, h2⟩ := r.vals j d hj n n2
      exact ⟨v, by rw [List.getElem?_set_ne ne]; exact h1, TdX.to kk d v h2⟩
    ow := fun j x hj => by
      by_cases q : j = i
      · subst q
        unfold setL at hj
        rw [if_pos rfl] at hj
        cases hj
        exact ⟨List.getElem?_set_self lσ, .inl hH0, .inl ⟨hu, ha⟩⟩
      · have hj' := old j x q hj
        obtain ⟨h1, h2, h3⟩ := r.ow j x hj'
        refine ⟨by rw [List.getElem?_set_ne (Ne.symm q)]; exact h1, h2, ?_⟩
        rcases h3 with ⟨q1, u⟩ | ⟨q1, ho, vs', ds', hr, hH, ht⟩
        · rw [hu] at q1; cases q1; exact absurd rfl q
        · exact .inr ⟨q1, ho, vs', ds', by rw [List.getElem?_set_ne (Ne.symm q)]; exact hr, s x _ hH, ht.to kk⟩
    ow' := fun j d hj he => by
      have ne : j ≠ i := fun z => (r.nur i hu).1 (z ▸ hj)
      rw [List.getElem?_set_ne (Ne.symm ne)] at he
      obtain ⟨x, hx⟩ := r.ow' j d hj he
      exact ⟨x, by unfold setL; rw [if_neg ne]; exact hx⟩
    inj := fun j l x hj hl => by
      by_cases q : j = i
      · by_cases q2 : l = i
        · rw [q, q2]
        · subst q
          have hl' := old l x q2 hl
          unfold setL at hj
          rw [if_pos rfl] at hj
          cases hj
          exact absurd (.inr ⟨l, hl'⟩) nex
      · by_cases q2 : l = i
        · subst q2
          have hj' := old j x q hj
          unfold setL at hl
          rw [if_pos rfl] at hl
          cases hl
          exact absurd (.inr ⟨j, hj'⟩) nex
        · exact r.inj j l x (old j x q hj) (old l x q2 hl)
    nur := fun j hj => by
      rw [hu] at hj
      cases hj
      exact ⟨(r.nur i hu).1, fun _ _ => ⟨a, by unfold setL; rw [if_pos rfl]⟩⟩
    tr := fun z hz => by
      rcases up z hz with q | q
      · obtain ⟨o, h, ht⟩ := r.tr z q; exact ⟨o, s z o h, ht⟩
      · subst q; obtain ⟨xs, h⟩ := ha.lst; exact ⟨_, h, nT_lst⟩
    fr := fun z o n h => s z o (r.fr z o n h)
    u0 := fun u hu0 => by rw [h0] at hu0; cases hu0
    scr := fun j hj => by
      have ne : i ≠ j := fun z => hsc (z ▸ hj)
      obtain ⟨h1, h2, h3, h4, a', ns, h5, h6⟩ := r.scr j hj
      exact ⟨h1, fun e => by rw [List.getElem?_set_ne ne]; exact h2 e, h3, h4, a', ns, by rw [List.getElem?_set_ne ne]; exact h5, h6⟩ }
def sUrn (iu : Nat) (p : PTE) : PTS := fun E ρ b => p ρ b fun x _ => ∃ n, x = .int n ∧ 0 ≤ n ∧ n ≤ 3 ∧ E.nx (ρ.set iu (some .none)) 0
theorem js_urn (fm : Fam X c k) (iu isc : Nat) {y x xs : Str} {e : Expr} {p : PTE} {k' : Nat} {ps : List Str} {py px pf pos cpos : Pos} (hN : ∀ j, (X j).N.Nodup) (hD : ∀ j, Dn (X j).prog (X j).w (X j).K (X j).mg (X j).base k' x ps (spUrn c.K)) (he : JE X c e p) (hu : c.ur = some iu := by rfl) (hsc : c.sc = some isc := by rfl) (hn : iu ≠ isc ∧ iu < c.n := by first | decide | (dsimp only [Plain]; decide))
    (hy : ∀ j, (X j).N[iu]? = some y := by intro _; rfl) (hyl : ∀ j, Loc (X j).env.scope y := by intro _; first | exact Or.inl rfl | exact Or.inr rfl) (hf : ∀ j, (X j).fn y = true ∨ (X j).env.scope.names.lookup y = some .local := by intro _; first | exact .inl rfl | exact .inr rfl)
    (hNs : ∀ j, (X j).N[isc]? = some xs := by intro _; rfl) (hv : ∀ j, Vis (X j).env.scope xs := by intro _; first | exact Or.inl rfl | exact Or.inr (Or.inl rfl) | exact Or.inr (Or.inr rfl)) (hd : (xs == ("__debug__" : Str)) = false := by first | decide | (dsimp only [Plain]; decide)) (hcd : (xs == ("__classdict__" : Str)) = false := by first | decide | (dsimp only [Plain]; decide))
    (hg : ∀ j, Gl (X j) x := by intro _; rfl) (hle : k' ≤ k := by first | decide | omega) (hdx : (x == ("__debug__" : Str)) = false := by first | decide | (dsimp only [Plain]; decide)) (hne : notStar e = true := by rfl)
    (hs : ∀ j, swapsWithSole [.Name y py] (.Call (.Name x pf) [.Name xs px, e] [] cpos) pos.line (X j).env = pure false := by intro _; rfl) (hw : ∀ j, swappedStores [.Name y py] (.Call (.Name x pf) [.Name xs px, e] [] cpos) (X j).env = pure none := by intro _; rfl) :
    JS X c (.Assign [.Name y py] (.Call (.Name x pf) [.Name xs px, e] [] cpos) pos) (sUrn iu p) := by
  obtain ⟨t, z, s⟩ := he.ex
  refine ⟨tAsg (tCall (spUrn c.K) [] E0 (tCons (tVar isc) (tCons t tNil))) (gName iu), fun j => ps_asg (pd (hD j) (fm.room j) (hg j) (pc (pe_var (hNs j) (hv j) hd hcd) (pc (z j) pa_nil hne) rfl) hle hdx (by rw [List.all_cons, List.all_cons, hne]; rfl)) (pg_name (hN j) (hy j) (hyl j) (hf j)) (hs j) (hw j) rfl, fun F L σ H ρ b E Pn r hq o => ?_⟩
  obtain ⟨hu0, _, _, _, a, ns, hσ, hS, hl⟩ := r.scr isc hsc
  refine ⟨.ref a, hσ, s F L σ H ρ b _ _ r hq fun v d H1 b1 e1 r1 td ⟨n, ed, n0, n3, pk⟩ => ?_⟩
  subst ed
  cases td
  have sm : Same F.H0 H1 := fun z o e => r1.fr z o (by rw [hu0]; intro z; cases z) e
  refine ⟨a, ns, n, rfl, sm.seq hS, n0, n3, fun u H2 s2 nu ur => ?_⟩
  refine o.nx _ _ H2 _ 0 ((Evo.u e1).trans ?_) (r1.newUrn s2 nu ur hu hu0 (fun q => hn.1 (by rw [hsc] at q; exact (Option.some.inj q).symm)) hn.2) pk
  exact r1.evo (.same s2) nu
end
abbrev fam0 (P : Program) (w : World) (K : PySem.W.Frag) (mg : Str → Option Value) (base : Heap) (N : List Str) (x : Str) (scope : Scope) (f : Addr) (cdv : Value) (A : Around) (outer : List Env) (s : Shared) (H : Hp) (E : XK) : Unit → Cx := fun _ => (cxOf CX0 P w K mg base N x scope f cdv A outer s H E).nox
def startD (N : List Str) (ds : List D) : En := ds.map some ++ List.replicate (N.length - ds.length) none
theorem startD_get {N : List Str} {ds : List D} {i : Nat} {d : D} (h : (startD N ds)[i]? = some (some d)) : ds[i]? = some d := by
  unfold startD at h
  by_cases hi : i < ds.length
  · rw [List.getElem?_append_left (by rw [List.length_map]; exact hi), List.getElem?_map] at h
    cases e : ds[i]? with
    | none => rw [e] at h; cases h
    | some y => rw [e] at h; cases h; rfl
  · rw [List.getElem?_append_right (by rw [List.length_map]; omega), List.getElem?_replicate] at h
    split at h <;> cases h
theorem start_get {N : List Str} {vs : List V} {i : Nat} {v : V} (h : vs[i]? = some v) : (start N vs)[i]? = some (some v) := by
  unfold start
  rw [List.getElem?_append_left (by rw [List.length_map]; exact (List.getElem?_eq_some_iff.mp h).1), List.getElem?_map, h]; rfl
theorem all_at {ex : Addr → Prop} {H : Hp} {vs : List V} {ds : List D} {i : Nat} {d : D} (h : TdXAll ex H vs ds) (e : ds[i]? = some d) : ∃ v, vs[i]? = some v ∧ TdX ex H v d := by
  have hi : i < vs.length := by rw [h.len]; exact (List.getElem?_eq_some_iff.mp e).1
  obtain ⟨d', e2, t⟩ := h.at (List.getElem?_eq_getElem hi)
  rw [e] at e2
  cases e2
  exact ⟨vs[i], List.getElem?_eq_getElem hi, t⟩
theorem exA_none {ex : Addr → Prop} {z : Addr} : exA ex (fun _ => none) z ↔ ex z := ⟨fun h => h.elim id fun ⟨_, q⟩ => (by cases q), Or.inl⟩
section
variable {P : Program} {w : World} {K : PySem.W.Frag} {mg : Str → Option Value} {base : Heap} {x : Str} {st : Stmt} {N ps : List Str} {k : Nat}
theorem dnP_core {Fd : List D → (D → Prop) → Prop} {p : PTS} (own : List Nat)
    (hbody : ∀ (f : Addr) (cdv : Value) (A : Around) (outer : List Env) (s : Shared) (H : Hp) (E : XK), Fam (fam0 P w K mg base N x (defScope st) f cdv A outer s H E) ⟨K, none, own, none, N.length⟩ k → JSs (fam0 P w K mg base N x (defScope st) f cdv A outer s H E) ⟨K, none, own, none, N.length⟩ (defBody st) p)
    (h : ∀ (ds : List D) (R : D → Prop), Fd ds R → ds.length = ps.length ∧ p { nx := fun _ _ => R .none, rt := fun d _ => R d } (startD N ds) 0)
    (hown : ∀ i ∈ own, ps.length ≤ i := by first | decide | (dsimp only [Plain]; decide)) (hps : ps.length ≤ N.length := by first | decide | (dsimp only [Plain]; decide)) : (∀ vs H Q E, spP Fd vs H Q E → vs.length = ps.length) ∧
    ∀ (f : Addr) (cdv : Value) (A : Around) (outer : List Env) (s : Shared) (H : Hp) (vs : List V) (Q : VK) (E : XK), Room k (A.deeper (envOfC x (defScope st) s.heap.objs.size f cdv)) → spP Fd vs H Q E →
      ∃ t, PSs (cxOf CX0 P w K mg base N x (defScope st) f cdv A outer s H E).nox (defBody st) t ∧ t { nx := fun _ H' => Q .non H', rt := Q } (start N vs) H := by
  refine ⟨fun vs H Q E hq => ?_, fun f cdv A outer s H vs Q E hr hq => ?_⟩
  · obtain ⟨ex, ds, R, _, td, hf, _⟩ := hq
    rw [td.len]; exact (h ds R hf).1
  obtain ⟨ex, ds, R, tr, td, hf, q⟩ := hq
  obtain ⟨hl, hp⟩ := h ds R hf
  obtain ⟨t, a, b⟩ := (hbody f cdv A outer s H E ⟨fun _ => rfl, fun _ => rfl, fun _ => hr⟩).ex
  refine ⟨t, a (), b ⟨H, ex, none⟩ (fun _ => none) (start N vs) H (startD N ds) 0 _ _ ?_ hp ⟨fun L' σ' H' ρ' b' _ r' hn => ?_, fun _ _ _ _ _ _ _ hn => hn.elim, fun _ _ _ _ _ _ _ hn => hn.elim, fun v d H' b' ⟨h1, _, h3⟩ hn => ?_⟩⟩
  · exact {
      len := by unfold start startD; simp only [List.length_append, List.length_map, List.length_replicate]; rw [td.len]
      len2 := by unfold startD; simp only [List.length_append, List.length_map, List.length_replicate]; omega
      vals := fun i d hd _ _ => by
        obtain ⟨v, hv, tv⟩ := all_at td (startD_get hd)
        exact ⟨v, start_get hv, TdX.to (fun z o n e => ⟨fun q => n (exA_none.1 q), e⟩) d v tv⟩
      ow := fun i a hi => by cases hi
      ow' := fun i d hi hd => by
        have := (List.getElem?_eq_some_iff.mp (startD_get hd)).1
        have := hown i hi
        omega
      inj := fun i j a hi _ => by cases hi
      nur := fun i hi => by cases hi
      tr := fun z hz => tr z (exA_none.1 hz)
      fr := fun z o _ e => e
      u0 := fun u hu => by cases hu
      scr := fun i hi => by cases hi }
  · exact q .non .none H' (fun z o e => r'.fr z o (by intro z; cases z) e) .non hn
  · exact q v d H' (fun z o e => h1 z o (by intro z; cases z) e) h3 hn
theorem dnP {Fd : List D → (D → Prop) → Prop} {p : PTS} (F : Fn K mg x st) (S : FnScope N ps (defScope st)) (own : List Nat)
    (hb : ∀ (kV doc pm : Value) (an : Option Addr) (cdv ct : Value) (us : List Value), us.length = ps.length → bindArgs (PySem.W.fnOf x x (defArgs st) (defBody st) (defScope st) .none kV doc pm an cdv ct) ⟨us, []⟩ = pure (ps.zip us))
    (hbody : ∀ (f : Addr) (cdv : Value) (A : Around) (outer : List Env) (s : Shared) (H : Hp) (E : XK), Fam (fam0 P w K mg base N x (defScope st) f cdv A outer s H E) ⟨K, none, own, none, N.length⟩ k → JSs (fam0 P w K mg base N x (defScope st) f cdv A outer s H E) ⟨K, none, own, none, N.length⟩ (defBody st) p)
    (h : ∀ (ds : List D) (R : D → Prop), Fd ds R → ds.length = ps.length ∧ p { nx := fun _ _ => R .none, rt := fun d _ => R d } (startD N ds) 0)
    (hown : ∀ i ∈ own, ps.length ≤ i := by first | decide | (dsimp only [Plain]; decide)) (hps : ps.length ≤ N.length := by first | decide | (dsimp only [Plain]; decide)) : Dn P w K mg base (k + 1) x ps (spP Fd) := 
  F.dn S hb (dnP_core own hbody h hown hps).1 (dnP_core own hbody h hown hps).2
theorem dnU {Fd : List D → Nat → KE → Prop} {p : PTS} (F : Fn K mg x st) (S : FnScope N ps (defScope st)) (own : List Nat)
    (hb : ∀ (kV doc pm : Value) (an : Option Addr) (cdv ct : Value) (us : List Value), us.length = ps.length → bindArgs (PySem.W.fnOf x x (defArgs st) (defBody st) (defScope st) .none kV doc pm an cdv ct) ⟨us, []⟩ = pure (ps.zip us))
    (hbody : ∀ (f : Addr) (cdv : Value) (A : Around) (outer : List Env) (s : Shared) (H : Hp) (E : XK), Fam (fam0 P w K mg base N x (defScope st) f cdv A outer s H E) ⟨K, some 0, own, none, N.length⟩ k → JSs (fam0 P w K mg base N x (defScope st) f cdv A outer s H E) ⟨K, some 0, own, none, N.length⟩ (defBody st) p)
    (h : ∀ (ds : List D) (b : Nat) (R : KE), Fd ds b R → ds.length + 1 = ps.length ∧ p { nx := fun _ b => R .none b, rt := R } (startD N (.none :: ds)) b)
    (hown : ∀ i ∈ own, ps.length ≤ i ∧ 0 < i := by first | decide | (dsimp only [Plain]; decide)) (hps : ps.length ≤ N.length := by first | decide | (dsimp only [Plain]; decide)) : Dn P w K mg base (k + 1) x ps (spU Fd) := by
  refine F.dn S hb (fun vs H Q E hq => ?_) fun f cdv A outer s H vs Q E hr hq => ?_
  · obtain ⟨u, vs', ex, ds, b, R, rfl, _, _, _, td, hf, _⟩ := hq
    rw [List.length_cons, td.len]; exact (h ds b R hf).1
  obtain ⟨u, vs', ex, ds, b, R, rfl, hu, exu, tr, td, hf, q⟩ := hq
  obtain ⟨hl, hp⟩ := h ds b R hf
  obtain ⟨t, a, sm⟩ := (hbody f cdv A outer s H E ⟨fun _ => rfl, fun _ => rfl, fun _ => hr⟩).ex
  have L0 : ∀ i z, (fun i : Nat => if i = 0 then some u else none) i = some z → i = 0 ∧ z = u := fun i z e => by
    by_cases q : i = 0
    · subst q; cases e; exact ⟨rfl, rfl⟩
    · have e' : (if i = 0 then some u else none) = some z := e
      rw [if_neg q] at e'; cases e'
  have ea : ∀ z, exA ex (fun i : Nat => if i = 0 then some u else none) z → ex z := fun z e => by
    rcases e with e | ⟨i, e⟩
    · exact e
    · rw [(L0 i z e).2]; exact exu
  refine ⟨t, a (), sm ⟨H, ex, some u⟩ (fun i => if i = 0 then some u else none) (start N (.ref u :: vs')) H (startD N (.none :: ds)) b _ _ ?_ hp ⟨fun L' σ' H' ρ' b' _ r' hn => ?_, fun _ _ _ _ _ _ _ hn => hn.elim, fun _ _ _ _ _ _ _ hn => hn.elim, fun v d H' b' ⟨h1, h2, h3⟩ hn => ?_⟩⟩
  · exact {
      len := by unfold start startD; simp only [List.length_append, List.length_map, List.length_replicate, List.length_cons]; rw [td.len]
      len2 := by unfold startD; simp only [List.length_append, List.length_map, List.length_replicate, List.length_cons]; omega
      vals := fun i d hd _ n2 => by
        cases i with
        | zero => exact absurd rfl n2
        | succ i =>
          have hd' : ds[i]? = some d := by simpa using startD_get hd
          obtain ⟨v, hv, tv⟩ := all_at td hd'
          exact ⟨v, start_get (by simpa using hv), TdX.to (fun z o n e => ⟨fun q => n (ea z q), e⟩) d v tv⟩
      ow := fun i a hi => by
        obtain ⟨rfl, rfl⟩ := L0 i a hi
        exact ⟨rfl, .inr rfl, .inl ⟨rfl, hu⟩⟩
      ow' := fun i d hi hd => by
        have := (List.getElem?_eq_some_iff.mp (startD_get hd)).1
        have := (hown i hi).1
        rw [List.length_cons] at *
        omega
      inj := fun i j a hi hj => by rw [(L0 i a hi).1, (L0 j a hj).1]
      nur := fun i hi => by
        cases hi
        exact ⟨fun z => Nat.lt_irrefl 0 (hown 0 z).2, fun d _ => ⟨u, rfl⟩⟩
      tr := fun z hz => tr z (ea z hz)
      fr := fun z o _ e => e
      u0 := fun z hz => by cases hz; exact ⟨0, rfl, rfl⟩
      scr := fun i hi => by cases hi }
  · refine q .non .none H' b' (fun z o n e => r'.fr z o (fun q => n (Option.some.inj q).symm) e) (r'.urn (r'.u0 u rfl)) .non hn
  · exact q v d H' b' (fun z o n e => h1 z o (fun q => n (Option.some.inj q).symm) e) (h2 u rfl) h3 hn
theorem dnL {p : PTS} (F : Fn K mg x st) (S : FnScope N ps (defScope st)) (iu : Nat) (own : List Nat)
    (hb : ∀ (kV doc pm : Value) (an : Option Addr) (cdv ct : Value) (us : List Value), us.length = ps.length → bindArgs (PySem.W.fnOf x x (defArgs st) (defBody st) (defScope st) .none kV doc pm an cdv ct) ⟨us, []⟩ = pure (ps.zip us))
    (hbody : ∀ (f : Addr) (cdv : Value) (A : Around) (outer : List Env) (s : Shared) (H : Hp) (E : XK), Fam (fam0 P w K mg base N x (defScope st) f cdv A outer s H E) ⟨K, some iu, own, some 0, N.length⟩ k → JSs (fam0 P w K mg base N x (defScope st) f cdv A outer s H E) ⟨K, some iu, own, some 0, N.length⟩ (defBody st) p)
    (h : p { nx := fun _ _ => False, rt := fun d _ => d = .bool true } (List.replicate N.length none) 0)
    (hps : ps.length = 1 := by rfl) (hn : 0 < N.length := by first | decide | (dsimp only [Plain]; decide)) (hiu : 0 < iu ∧ iu ∉ own ∧ 0 ∉ own := by first | decide | (dsimp only [Plain]; decide)) : Dn P w K mg base (k + 1) x ps (spLaw K) := by
  refine F.dn S hb (fun vs H Q E hq => ?_) fun f cdv A outer s H vs Q E hr hq => ?_
  · obtain ⟨a, ns, rfl, _⟩ := hq; exact hps.symm
  obtain ⟨a, ns, rfl, hS, h63, q⟩ := hq
  obtain ⟨t, a1, sm⟩ := (hbody f cdv A outer s H E ⟨fun _ => rfl, fun _ => rfl, fun _ => hr⟩).ex
  have nn : ∀ (i : Nat) (d : D), (List.replicate N.length (none : Option D))[i]? ≠ some (some d) := fun i d e => by
    rw [List.getElem?_replicate] at e
    split at e <;> cases e
  refine ⟨t, a1 (), sm ⟨H, fun _ => False, none⟩ (fun _ => none) (start N [.ref a]) H _ 0 _ _ ?_ h ⟨fun L' σ' H' ρ' b' _ r' hn => hn.elim, fun _ _ _ _ _ _ _ hn => hn.elim, fun _ _ _ _ _ _ _ hn => hn.elim, fun v d H' b' ⟨h1, h2, h3⟩ hn => ?_⟩⟩
  · exact {
      len := by unfold start; simp only [List.length_append, List.length_map, List.length_replicate, List.length_cons, List.length_nil]; omega
      len2 := by rw [List.length_replicate]
      vals := fun i d hd _ n2 => absurd hd (nn i d)
      ow := fun i a hi => by cases hi
      ow' := fun i d hi hd => absurd hd (nn i d)
      inj := fun i j a hi hj => by cases hi
      nur := fun i hi => by
        cases hi
        exact ⟨hiu.2.1, fun d hd => absurd hd (nn _ d)⟩
      tr := fun z hz => (exA_none.1 hz).elim
      fr := fun z o _ e => e
      u0 := fun z hz => by cases hz
      scr := fun i hi => by
        cases hi
        exact ⟨rfl, nn 0, hiu.2.2, (fun e => by cases e; exact Nat.lt_irrefl 0 hiu.1), a, ns, start_get rfl, hS, h63⟩ }
  · have e : d = .bool true := hn
    subst e
    cases h3
    exact q H'
end
end PU
end L2
set_option Elab.async false
set_option linter.all false
set_option maxRecDepth 100000
namespace L2
open PySem PySem.Spec PyProof.Rows
theorem sub_dict_strQ : isSubtype (.type "dict") (.type "str") = pure false := by rw [isSubtype_type]; kernel_rfl
theorem sub_str_dictQ : isSubtype (.type "str") (.type "dict") = pure false := by rw [isSubtype_type]; kernel_rfl
theorem args_dict_eqQ (a b : Value) : argsOk "dict.__eq__" ⟨[a, b], []⟩ := by
  unfold argsOk
  kernel_rfl
theorem dict_no_str (l : Addr) (es : Array DictEntry) (ep : Nat) (dd : Option Addr) (sl : Array (Option Value)) (b : Str) (u : Tok) :
    Meets (Builtin.«dict.__eq__» ⟨[.ref l, .str b u], []⟩) (fun _ R s => s.heap.get? l = some { cls := .type "dict", dict := dd, data := .dict es ep, slots := sl } ∧ R (.ok (.ret .notImplemented)) s) :=
  .of_wp fun prog w A R s h => by
    obtain ⟨hp, g, d, tk, os⟩ := s
    obtain ⟨hl, h⟩ := h
    have f1 := sub_str_dictQ
    wp_walk using wpAny_loadPart' hl, wpAny_load hl
    exact ⟨_, rfl, h⟩
theorem str_no_dict (b : Str) (u : Tok) (l : Addr) (es : Array DictEntry) (ep : Nat) (dd : Option Addr) (sl : Array (Option Value)) :
    Meets (Builtin.«str.__eq__» ⟨[.str b u, .ref l], []⟩) (fun _ R s => s.heap.get? l = some { cls := .type "dict", dict := dd, data := .dict es ep, slots := sl } ∧ R (.ok (.ret .notImplemented)) s) :=
  .of_wp fun prog w A R s h => by
    obtain ⟨hp, g, d, tk, os⟩ := s
    obtain ⟨hl, h⟩ := h
    wp_walk using wpAny_loadPart' hl, wpAny_load hl
    exact ⟨_, rfl, h⟩
section
variable {A : Around} {s : Shared}
theorem eq_str_dict {l : Addr} {o : Obj} {es : Array DictEntry} {ep : Nat} (b : Str) (u : Tok) (ho : s.heap.get? l = some o) (hc : o.cls = .type "dict") (hd : o.data = .dict es ep) (hu : A.units < cLine) : SeqAt.EqAt A s (.str b u) (.ref l) false := fun prog w E Q h => by
  obtain ⟨cls, dd, data, sl⟩ := o
  simp only at hc hd
  subst hc hd
  unfold eqBool
  refine wpAny_holding (wpAny_ite_split (fun hab => absurd (eq_of_beq hab) nofun) fun _ => wpAny_bind ?_)
  exact SeqAt.rc_eq_decline_or (k := false) (typeIs_str s b u) ⟨_, ho, rfl⟩ (by decide) sub_dict_strQ F.slot_str_eq F.slot_dict_eq_refl
    (fun _ hq => call_meets F.slot_str_eq (typeIs_str s b u) F.entry_str_eq (F.args_str_eq_2 _ _) (str_no_dict b u l es ep dd sl) ⟨ho, hq⟩)
    (fun _ hq => call_meets F.slot_dict_eq_refl ⟨_, ho, rfl⟩ F.entry_dict_eq (args_dict_eqQ _ _) (dict_no_str l es ep dd sl b u) ⟨ho, hq⟩)
    (fun _ hq => wpAny_of_eq (rfl : isSame (.str b u) (.ref l) = pure false) hq) (.inr hu) (wpAny_truthy_bool h)
end
def rInS (K : PySem.W.Frag) (neg : Bool) (xs : List Str) : R2 := fun x y H Q => ∃ p, y = .ref p ∧ (SqL K H p (xs.map V.str) ∨ SqT K H p (xs.map V.str)) ∧
  ((flatV x = true ∧ Q (.bl (if neg then !inV x (xs.map V.str) else inV x (xs.map V.str))) H) ∨ (∃ a, x = .ref a ∧ ((∃ zs, H a = some (.lst zs)) ∨ (∃ zs, H a = some (.tup zs)) ∨ ∃ kvs, Rd H a (.dT kvs)) ∧ Q (.bl neg) H))
section
variable {X : Cx}
theorem strs_eqAt {A : Around} {s : Shared} {a : Addr} (hu : A.units < cLine) (h : (∃ items, s.heap.IsList a items) ∨ (∃ items, s.heap.IsTuple a items) ∨ ∃ o es ep, s.heap.get? a = some o ∧ o.cls = .type "dict" ∧ o.data = .dict es ep) : ∀ {xs : List Str} {us : List Value}, Vals (xs.map V.str) us → ∀ u ∈ us, SeqAt.EqAt A s u (.ref a) false
  | [], _, .nil => fun u hu => by cases hu
  | x :: xs, u :: us, .cons r t => fun u' hm => by
    rcases List.mem_cons.mp hm with rfl | hm
    · obtain ⟨tk, rfl⟩ := r
      rcases h with ⟨its, h⟩ | ⟨its, h⟩ | ⟨o, es, ep, h1, h2, h3⟩
      · exact SeqAt.EqAt.str_list x tk h hu
      · exact SeqAt.EqAt.str_tuple x tk h hu
      · exact eq_str_dict x tk h1 h2 h3 hu
    · exact strs_eqAt hu h t u' hm
theorem op_inS {xs : List Str} (hu : X.A.units + 64 < cLine) : OpR X (compareOp .In) (rInS X.K false xs) := by
  intro pins s σ H x y v u Q I rx ry h
  obtain ⟨p, rfl, hq, h⟩ := h
  rcases h with ⟨fx, q⟩ | ⟨a, rfl, ha, q⟩
  · exact op_in_seq pins s σ H x _ v u Q I rx ry ⟨p, _, rfl, hq, fx, PU.strs_flatV xs, q⟩
  · cases rx
    cases ry
    have hx : (∃ items, s.heap.IsList a items) ∨ (∃ items, s.heap.IsTuple a items) ∨ ∃ o es ep, s.heap.get? a = some o ∧ o.cls = .type "dict" ∧ o.data = .dict es ep := by
      rcases ha with ⟨zs, ha⟩ | ⟨zs, ha⟩ | ⟨kvs, ha⟩
      · obtain ⟨its, r, pl, hz⟩ := I.list (SqL.of ha); exact .inl ⟨_, pl.isList⟩
      · obtain ⟨its, r, pl, hz⟩ := I.tuple (SqT.of ha); exact .inr (.inl ⟨_, pl⟩)
      · obtain ⟨_, _, xs, _, o, es, ep, h1, h2, h3, _⟩ := dt_rd I.hok ha
        exact .inr (.inr ⟨o, es, ep, h1, h2.1, h3⟩)
    have hu1 : X.A.in1.units < cLine := by show X.A.units + 1 < cLine; omega
    rcases hq with hq | hq
    · obtain ⟨its, r, pl, hz⟩ := I.list hq
      refine SeqAt.in_listAt (fun _ => false) pl.isList (fun w hw => strs_eqAt hu1 hx r w (by simpa using hw)) ⟨.bl _, H, I, rfl, ?_⟩
      rw [show its.toArray.any (fun _ => false) = false by simp]; exact q
    · obtain ⟨its, r, pl, hz⟩ := I.tuple hq
      refine SeqAt.in_tupleAt (fun _ => false) pl (fun w hw => strs_eqAt hu1 hx r w (by simpa using hw)) ⟨.bl _, H, I, rfl, ?_⟩
      rw [show its.toArray.any (fun _ => false) = false by simp]; exact q
end
namespace PU
open PySem PySem.Spec PyProof.Rows L2
section
variable {I : Type} {X : I → Cx} {c : C} {k : Nat}
def inSD (d : D) (xs : List Str) : Bool := match d with
  | .str x => decide (x ∈ xs)
  | _ => false
theorem inV_non {v : V} (h : ∀ x : Str, eqV (.str x) v = false) : ∀ xs : List Str, inV v (xs.map V.str) = false
  | [] => rfl
  | x :: xs => by
    have ih := inV_non h xs
    unfold inV at ih ⊢
    rw [List.map_cons, List.any_cons, h x, ih]; rfl
def pInS (neg : Bool) (xs : List Str) (pa : PTE) : PTE := fun ρ b P => pa ρ b fun x b => P (.bool (if neg then !inSD x xs else inSD x xs)) b
theorem jc_inS (fm : Fam X c k) {x : Str} {xs : List Str} (hm : ∃ a, (∀ j, (X j).mg x = some (.ref a)) ∧ KTup c.K a (xs.map V.str)) {a : Expr} {pos p2 : Pos} {pa : PTE} (ha : JE X c a pa) (hg : ∀ j, Gl (X j) x := by intro _; rfl) (hd : (x == ("__debug__" : Str)) = false := by first | decide | (dsimp only [Plain]; decide))
    (hmk : behindInMarks .In (.Name x p2) = false := by with_unfolding_all rfl) : JC X c (.Compare a [.In] [.Name x p2] pos) (pInS false xs pa) := by
  obtain ⟨ta, a1, a2⟩ := ha.ex
  obtain ⟨g, hm, hk⟩ := hm
  have hb : ∀ j, L2.PE (X j) (.Name x p2) (tC (.ref g)) := fun j => pe_glob (hg j) (hm j) rfl hd
  refine ⟨tOp (rInS c.K false xs) ta (tC (.ref g)), fun j => ?_, fun j => ?_, ?_⟩
  · have := pe_cmpR (op_inS (xs := xs) (fm.room j).units) (a1 j) (hb j) (pos := pos) hmk
    rw [fm.K j] at this; exact this
  · have := pt_cmpR (op_inS (xs := xs) (fm.room j).units) (a1 j) (hb j) (pos := pos) hmk
    rw [fm.K j] at this; exact this
  · intro F L σ H ρ b Q P r hp k
    refine a2 F L σ H ρ b _ _ r hp fun v d H1 b1 e1 r1 td h1 => ?_
    refine ⟨g, rfl, .inr (.inr hk), ?_⟩
    have fl : flatD d = true → inV (vOf d) (xs.map V.str) = inSD d xs := fun hf => by
      cases d with
      | str x => exact inV_strs
      | none => exact inV_non (fun _ => rfl) xs
      | bool x => exact inV_non (fun _ => rfl) xs
      | int i => exact inV_non (fun _ => rfl) xs
      | _ => cases hf
    cases hf : flatD d with
    | true =>
      obtain ⟨e2, e3⟩ := flat_v td hf
      refine .inl ⟨e3, ?_⟩
      have h1' : P (.bool (inSD d xs)) b1 := h1
      rw [← fl hf] at h1'
      rw [e2]
      exact k _ _ H1 b1 e1 r1 (.bl _) h1'
    | false =>
      cases td with
      | lst n ha hs => exact .inr ⟨_, rfl, .inl ⟨_, ha⟩, k _ _ H1 b1 e1 r1 (.bl _) h1⟩
      | tup n ha hs => exact .inr ⟨_, rfl, .inr (.inl ⟨_, ha⟩), k _ _ H1 b1 e1 r1 (.bl _) h1⟩
      | dct n ha hs => exact .inr ⟨_, rfl, .inr (.inr ⟨_, ha⟩), k _ _ H1 b1 e1 r1 (.bl _) h1⟩
      | _ => cases hf
def pEqS (neg : Bool) (pa pb : PTE) : PTE := fun ρ b P => pa ρ b fun x b => pb ρ b fun y b => ∃ i j, x = .str i ∧ y = .str j ∧ P (.bool (if neg then !decide (i = j) else decide (i = j))) b
theorem dec_strV {i j : Str} : decide (V.str i = V.str j) = decide (i = j) := by
  by_cases h : i = j
  · subst h; simp
  · rw [decide_eq_false h, decide_eq_false fun e => h (by cases e; rfl)]
theorem jc_eqS {a b : Expr} {pos : Pos} {pa pb : PTE} (ha : JE X c a pa) (hb : JE X c b pb) (hm : behindInMarks .Eq b = false) : JC X c (.Compare a [.Eq] [b] pos) (pEqS false pa pb) := by
  obtain ⟨ta, a1, a2⟩ := ha.ex
  obtain ⟨tb, b1, b2⟩ := hb.ex
  refine ⟨_, fun j => pe_cmpR op_eq (a1 j) (b1 j) hm, fun j => pt_cmpR op_eq (a1 j) (b1 j) hm, sim2 (R := fun x y b P => ∃ i j, x = .str i ∧ y = .str j ∧ P (.bool (decide (i = j))) b) a2.v b2.v ?_⟩
  rintro F L σ H ρ b x y dx dy Q P r vx vy ⟨i, j, rfl, rfl, hp⟩ k
  rw [vx.str, vy.str]
  exact ⟨rfl, by rw [dec_strV]; exact k _ _ H (Same.refl H) (.bl _) hp⟩
theorem jc_neS {a b : Expr} {pos : Pos} {pa pb : PTE} (ha : JE X c a pa) (hb : JE X c b pb) (hm : behindInMarks .NotEq b = false) : JC X c (.Compare a [.NotEq] [b] pos) (pEqS true pa pb) := by
  obtain ⟨ta, a1, a2⟩ := ha.ex
  obtain ⟨tb, b1, b2⟩ := hb.ex
  refine ⟨_, fun j => pe_cmpR op_ne (a1 j) (b1 j) hm, fun j => pt_cmpR op_ne (a1 j) (b1 j) hm, sim2 (R := fun x y b P => ∃ i j, x = .str i ∧ y = .str j ∧ P (.bool (!decide (i = j))) b) a2.v b2.v ?_⟩
  rintro F L σ H ρ b x y dx dy Q P r vx vy ⟨i, j, rfl, rfl, hp⟩ k
  rw [vx.str, vy.str]
  exact ⟨rfl, by rw [dec_strV]; exact k _ _ H (Same.refl H) (.bl _) hp⟩
def pIsB (neg : Bool) (pa pb : PTE) : PTE := fun ρ b P => pa ρ b fun x b => pb ρ b fun y b => ∃ i j, x = .bool i ∧ y = .bool j ∧ P (.bool (if neg then i != j else i == j)) b
theorem jc_isnotB {a b : Expr} {pos : Pos} {pa pb : PTE} (ha : JE X c a pa) (hb : JE X c b pb) (hm : behindInMarks .IsNot b = false := by with_unfolding_all rfl) : JC X c (.Compare a [.IsNot] [b] pos) (pIsB true pa pb) := by
  obtain ⟨ta, a1, a2⟩ := ha.ex
  obtain ⟨tb, b1, b2⟩ := hb.ex
  refine ⟨_, fun j => pe_cmpR op_isnot_b (a1 j) (b1 j) hm, fun j => pt_cmpR op_isnot_b (a1 j) (b1 j) hm, sim2 (R := fun x y b P => ∃ i j, x = .bool i ∧ y = .bool j ∧ P (.bool (i != j)) b) a2.v b2.v ?_⟩
  rintro F L σ H ρ b x y dx dy Q P r vx vy ⟨i, j, rfl, rfl, hp⟩ k
  exact ⟨i, j, vx.bl, vy.bl, k _ _ H (Same.refl H) (.bl _) hp⟩
end
theorem rg_at {lo : Int} {n i : Nat} {x : D} (h : ((rgI lo n).map PyData.int)[i]? = some x) : x = .int (lo + (i : Int)) ∧ i < n := by
  rw [List.getElem?_map] at h
  have hi : i < n := by
    by_cases q : i < n
    · exact q
    · rw [List.getElem?_eq_none (by rw [rgI_length]; omega)] at h; cases h
  rw [rgI_get hi] at h
  cases h
  exact ⟨rfl, hi⟩
theorem rg_len {lo : Int} {n : Nat} : ((rgI lo n).map PyData.int).length = n := by rw [List.length_map, rgI_length]
theorem iteP {c p q : Prop} [Decidable c] (h : c) (hp : p) : if c then p else q := by rw [if_pos h]; exact hp
theorem iteN {c p q : Prop} [Decidable c] (h : ¬ c) (hp : q) : if c then p else q := by rw [if_neg h]; exact hp
theorem atI_some {α : Type} {xs : List α} {i : Int} (h0 : 0 ≤ i) (h1 : i < (xs.length : Int)) : ∃ x, x ∈ xs ∧ atI xs i = some x := by
  have hd : i.toNat < xs.length := by omega
  refine ⟨xs[i.toNat], List.getElem_mem hd, ?_⟩
  unfold atI ixN
  rw [if_pos h0, if_pos h1]
  exact List.getElem?_eq_getElem hd
theorem lc_of {g : PTG} {tt : PTT} {te : PTE} {vs : List Nat} {ρ : En} {b : Nat} {P : KE} {ds : List D} (f : D → Option D) (hl : ds.length ≤ 1000000)
    (hs : ∀ x ∈ ds, ∀ (K1 : KE) (K0 : Nat → Prop), (∀ y, f x = some y → K1 y b) → (f x = none → K0 b) → g x (pwipe ρ vs) fun ρ2 => tt ρ2 b fun kk b => if kk = true then te ρ2 b K1 else K0 b)
    (hP : P (.list (ds.filterMap f)) b) : LcG g tt te vs ρ P ds b := by
  refine ⟨hl, fun i acc b' => b' = b ∧ acc = (ds.take i).filterMap f, ⟨rfl, rfl⟩, ?_, ?_⟩
  · rintro i x acc b' hx ⟨rfl, rfl⟩
    have ht : ds.take (i + 1) = ds.take i ++ [x] := by
      rw [List.take_succ, hx]; rfl
    refine hs x (List.mem_of_getElem? hx) _ _ (fun y hy => ⟨rfl, ?_⟩) (fun hn => ⟨rfl, ?_⟩)
    · rw [ht, List.filterMap_append]; simp [hy]
    · rw [ht, List.filterMap_append]; simp [hn]
  · rintro acc b' ⟨rfl, rfl⟩
    rw [List.take_length]; exact hP
theorem lc_map {g : PTG} {tt : PTT} {te : PTE} {vs : List Nat} {ρ : En} {b : Nat} {P : KE} {ds : List D} (f : D → D) (hl : ds.length ≤ 1000000)
    (hs : ∀ x ∈ ds, ∀ (K1 : KE) (K0 : Nat → Prop), K1 (f x) b → g x (pwipe ρ vs) fun ρ2 => tt ρ2 b fun kk b => if kk = true then te ρ2 b K1 else K0 b)
    (hP : P (.list (ds.map f)) b) : LcG g tt te vs ρ P ds b :=
  lc_of (fun x => some (f x)) hl (fun x hx K1 K0 h1 _ => hs x hx K1 K0 (h1 _ rfl)) (by rw [List.filterMap_eq_map']; exact hP)
theorem for_of {pg : PTG} {pb : PTS} {E : PEnds} {ρ : En} {ds : List D} {b : Nat} (Inv : Nat → En → Nat → Prop) (h0 : Inv 0 ρ b)
    (hs : ∀ i x ρ b, ds[i]? = some x → Inv i ρ b → pg x ρ fun ρ2 => pb { E with nx := Inv (i + 1), ct := Inv (i + 1), bk := E.nx } ρ2 b) (he : ∀ ρ b, Inv ds.length ρ b → E.nx ρ b) : ForG pg pb E ρ ds b := ⟨Inv, h0, hs, he⟩
theorem eqv_int (i j : Int) : PyData.eqv (.int i) (.int j) = decide (i = j) := by
  show (i == j) = _
  rfl
end PU
end L2
set_option Elab.async false
set_option linter.all false
set_option maxRecDepth 100000
set_option Elab.async false
set_option linter.all false
set_option maxRecDepth 100000
namespace L2
open PySem PySem.Spec PyProof.Rows
def rgC (i c : Int) (n : Nat) : List Int := (List.range n).map fun (k : Nat) => i + (k : Int) * c
section
variable {X : Cx}
theorem boot_listR : bootBuiltins "list" = some (.type "list") := by decide +kernel
theorem list_rng {pins : List (Addr × Obj)} {σ : St} {H : Hp} {s : Shared} {i j c : Int} {n tk : Nat} {t u v : Tok} {Q : VK} (hc : X.calm = true) (I : Inv X pins σ H s) (g : RgC i j c n) (hn : n ≤ 1000000)
    (q : ∀ l, H l = none → Q (.ref l) (upd H l (.lst ((rgC i c n).map V.int)))) :
    wpAny (model X.prog X.w) X.A (call (.type "list") [.ref s.heap.objs.size]) (EP X pins σ Q) X.xe { s with heap := s.heap.push { cls := .type "range", data := .fields #[.int i t, .int j u, .int c v] }, toks := tk } := by
  obtain ⟨c0, c1, c2, c3⟩ := g
  have I1 : Inv X pins σ H { s with heap := s.heap.push { cls := .type "range", data := .fields #[.int i t, .int j u, .int c v] }, toks := tk } := I.kept (t' := tk) fun b o e => Heap.get?_push_of_some _ e
  refine call_list_range (n := n) (I1.ok.hd hc) (IsRange.new ..) c2 c3 (by omega) fun h' tk2 acc' c' kp e it => ?_
  have hlen : acc'.toList.length = (rgC i c n).length := by unfold rgC; rw [List.length_map, List.length_range]; simpa using it.1
  have hv : Vals ((rgC i c n).map V.int) acc'.toList := vals_of_items hlen fun k v e => by
    have e' : acc'[k]? = some v := by simpa using e
    obtain ⟨t, rfl⟩ := it.2 k v e'
    have hk : k < n := by
      have := (Array.getElem?_eq_some_iff.mp e').1
      rw [it.1] at this; exact this
    refine ⟨t, ?_⟩
    have : (rgC i c n).getD k 0 = i + (k : Int) * c := by
      unfold rgC
      rw [List.getD_eq_getElem?_getD, List.getElem?_map, List.getElem?_range hk]; rfl
    rw [this]
  have hl : ((rgC i c n).map V.int).length ≤ sizeLine := by
    unfold rgC
    rw [List.length_map, List.length_map, List.length_range, sizeLine_eq]; omega
  exact ⟨.ref _, _, I1.laid kp (Nat.le_refl _) (show ObjOk X.prog X.w _ h' _ (.lst _) from ⟨hl, acc'.toList, c', hv, by rw [e]⟩), rfl, q _ (I1.hok.fresh (Nat.le_refl _))⟩
def tLrng (f : List V → Option (Int × Int × Int)) (ta : TA) : TE := fun σ H Q => ta σ H fun vs H1 => ∃ (i j c : Int) (n : Nat), f vs = some (i, j, c) ∧ RgC i j c n ∧ n ≤ 1000000 ∧ ∀ l, H1 l = none → Q (.ref l) (upd H1 l (.lst ((rgC i c n).map V.int)))
def f1 : List V → Option (Int × Int × Int)
  | [.int j] => some (0, j, 1)
  | _ => none
def f2 : List V → Option (Int × Int × Int)
  | [.int i, .int j] => some (i, j, 1)
  | _ => none
def f3 : List V → Option (Int × Int × Int)
  | [.int i, .int j, .int c] => some (i, j, c)
  | _ => none
theorem pe_lrng2 {a b : Expr} {ta : TA} {p p1 p2 pos : Pos} (hc : X.calm = true) (hgl : Gl X "list") (hml : X.mg "list" = none) (hg : Gl X "range") (hm : X.mg "range" = none) (ha : PA X [a, b] ta) (hs : notStar a = true) (hs2 : notStar b = true) :
    PE X (.Call (.Name "list" p) [.Call (.Name "range" p1) [a, b] [] p2] [] pos) (tLrng f2 ta) := by
  intro pins s σ H Q I h
  have hst : starEach [a, b] X.env = (false, eval a X.env) :: starEach [b] X.env := star_cons hs
  have hst2 : starEach [b] X.env = (false, eval b X.env) :: starEach [] X.env := star_cons hs2
  refine wpAny_Call_Name_kw (ld_blt I hgl hml boot_listR ?_)
  refine PyProof.Rows.callWith_type1 ?_ rfl rfl
  show wpAny _ _ (spliced ((false, eval (.Call (.Name "range" p1) [a, b] [] p2) X.env) :: [])) _ _ s
  refine Calls.spliced_cons ?_
  refine Call_ (ld_blt I hg hm boot_range (PyProof.Rows.callWith_type1 (thn (ha p2 pins s σ H _ I h) fun us s1 ⟨vs, H1, I1, r1, q1⟩ => ?_) hst (by rw [hst2]; rfl)))
  obtain ⟨i, j, c, n, e, g, hn, q⟩ := q1
  unfold f2 at e
  split at e
  · cases e
    cases r1 with
    | cons r rr =>
      cases rr with
      | cons r' rr =>
        cases rr
        obtain ⟨t, rfl⟩ := r
        obtain ⟨t', rfl⟩ := r'
        exact call_range_2 (Calls.spliced_nil (list_rng hc I1 g hn q))
  · cases e
end
theorem RgC.one {i j : Int} (h1 : -1000000 ≤ i) (h2 : i ≤ 1000000) (h3 : -1000000 ≤ j) (h4 : j ≤ 1000000) : RgC i j 1 (j - i).toNat :=
  ⟨by decide, by decide, small_one (by omega) (by omega) (by omega) (by omega), by rw [rangeSize_one]; split <;> omega⟩
theorem rgC_one (i : Int) (n : Nat) : rgC i 1 n = rgI i n := by
  unfold rgC rgI
  refine List.map_congr_left fun k _ => ?_
  omega
namespace PU
open PySem PySem.Spec PyProof.Rows L2
section
variable {I : Type} {X : I → Cx} {c : C} {k : Nat}
def g1 : List D → Option (Int × Int × Int)
  | [.int j] => some (0, j, 1)
  | _ => none
def g2 : List D → Option (Int × Int × Int)
  | [.int i, .int j] => some (i, j, 1)
  | _ => none
theorem g2_f {ex : Addr → Prop} {H : Hp} {vs : List V} {ds : List D} {r : Int × Int × Int} (td : TdXAll ex H vs ds) (h : g2 ds = some r) : f2 vs = some r := by
  unfold g2 at h
  split at h
  · cases td with
    | cons a b =>
      cases a
      cases b with
      | cons a b => cases a; cases b; exact h
  · cases h
def pLr (g : List D → Option (Int × Int × Int)) (pa : PTA) : PTE := fun ρ b P => pa ρ b fun ds b => ∃ (i j cc : Int) (n : Nat), g ds = some (i, j, cc) ∧ RgC i j cc n ∧ n ≤ 1000000 ∧ P (.list ((rgC i cc n).map .int)) b
theorem simF_lrng {f : List V → Option (Int × Int × Int)} {g : List D → Option (Int × Int × Int)} {ta : L2.TA} {pa : PTA} (s : SimA c ta pa) (hf : ∀ (ex : Addr → Prop) H vs ds r, TdXAll ex H vs ds → g ds = some r → f vs = some r) : SimF c (tLrng f ta) (pLr g pa) := by
  intro F L σ H ρ b Q P r hp k
  refine s F L σ H ρ b _ _ r hp fun vs ds H1 b1 e1 r1 td ⟨i, j, cc, n, hg, gg, hn, hP⟩ => ⟨i, j, cc, n, hf _ _ _ _ _ td hg, gg, hn, fun l hl => ?_⟩
  have sm := same_new hl (.lst ((rgC i cc n).map V.int))
  exact k l _ _ _ b1 (e1.trans (.same sm)) (r1.same sm) (none_back r1 e1 hl) upd_same (int_all _) hP
theorem jf_lrng2 (fm : Fam X c k) {a b : Expr} {p p1 p2 pos : Pos} {pa pb : PTE} (hml : ∀ j, (X j).mg "list" = none) (hm : ∀ j, (X j).mg "range" = none) (ha : JE X c a pa) (hb : JE X c b pb) (hgl : ∀ j, Gl (X j) "list" := by intro _; rfl) (hg : ∀ j, Gl (X j) "range" := by intro _; rfl) (hs : notStar a = true := by rfl) (hs2 : notStar b = true := by rfl) :
    JF X c (.Call (.Name "list" p) [.Call (.Name "range" p1) [a, b] [] p2] [] pos) (pLr g2 (pCons pa (pCons pb pNil))) := by
  obtain ⟨ta, y, s2⟩ := (ja_cons ha (ja_cons hb ja_nil hs2) hs).ex
  exact ⟨tLrng f2 ta, fun j => pe_lrng2 (fm.calm j) (hgl j) (hml j) (hg j) (hm j) (y j) hs hs2, simF_lrng s2 fun _ _ _ _ _ => g2_f⟩
end
end PU
end L2
set_option Elab.async false
set_option linter.all false
set_option maxRecDepth 100000
namespace L2
namespace PU
open PySem PySem.Spec PyProof.Rows L2
section
variable {I : Type} {X : I → Cx} {c : C} {k : Nat}
def sPar2 (i j : Nat) (q : PTA) : PTS := fun E ρ b => q ρ b fun ds b => ∃ x y, ds = [x, y] ∧ E.nx ((ρ.set i (some x)).set j (some y)) b
theorem js_par2 (fm : Fam X c k) (i j : Nat) {x y : Str} {a b : Expr} {q : PTA} {px py pt pos : Pos} {kt k2 pt2} (hN : ∀ j, (X j).N.Nodup) (ha : JA X c [a, b] q) (hp : Plain c i ∧ Plain c j ∧ i ≠ j := by first | decide | (dsimp only [Plain]; decide))
    (hi : ∀ l, (X l).N[i]? = some x := by intro _; rfl) (hj : ∀ l, (X l).N[j]? = some y := by intro _; rfl) (hx : ∀ l, (X l).env.scope.names.lookup x = some .local := by intro _; rfl) (hy : ∀ l, (X l).env.scope.names.lookup y = some .local := by intro _; rfl)
    (hw : ∀ l, swappedStores [.Tuple [.Name x px, .Name y py] kt pt] (.Tuple [a, b] k2 pt2) (X l).env = pure (some [x, y]) := by intro _; rfl)
    (hs : ∀ l, swapsWithSole [.Tuple [.Name x px, .Name y py] kt pt] (.Tuple [a, b] k2 pt2) pos.line (X l).env = pure false := by intro _; rfl) :
    JS X c (.Assign [.Tuple [.Name x px, .Name y py] kt pt] (.Tuple [a, b] k2 pt2) pos) (sPar2 i j q) := by
  obtain ⟨t, z, s⟩ := ha.ex
  refine ⟨tPar i j t, fun l => ps_par (fm.calm l) (hN l) (hi l) (hj l) hp.2.2 (hx l) (hy l) (z l) (hw l) (hs l), fun F L σ H ρ b E Pn r hq o => s F L σ H ρ b _ _ r hq fun vs ds H1 b1 e1 r1 td ⟨d1, d2, ed, h1⟩ => ?_⟩
  subst ed
  cases td with
  | cons t1 t2 =>
    cases t2 with
    | cons t2 t3 =>
      cases t3
      exact ⟨_, _, rfl, o.nx L _ H1 _ b1 (.u e1) ((r1.set hp.1 t1).set hp.2.1 t2) h1⟩
end
end PU
end L2
set_option Elab.async false
set_option linter.all false
set_option maxRecDepth 100000
namespace L2
namespace PO
open PySem PySem.Spec PyProof.Rows L2
abbrev D := PyData
def ownK : HO → Prop
  | .ins _ _ _ => True
  | .lsw _ => True
  | .dK _ => True
  | _ => False
def oD (a : Addr) : PyData := .dict [(.list [], .int (a : Nat))]
mutual
inductive TdO (ex : Addr → Prop) (H : Hp) : V → PyData → Prop
  | non : TdO ex H .non .none
  | bl (b : Bool) : TdO ex H (.bl b) (.bool b)
  | int (i : Int) : TdO ex H (.int i) (.int i)
  | str (x : Str) : TdO ex H (.str x) (.str x)
  | lst {a : Addr} {xs : List V} {ds : List PyData} : ¬ ex a → H a = some (.lst xs) → TdOAll ex H xs ds → TdO ex H (.ref a) (.list ds)
  | tup {a : Addr} {xs : List V} {ds : List PyData} : ¬ ex a → H a = some (.tup xs) → TdOAll ex H xs ds → TdO ex H (.ref a) (.tuple ds)
  | dct {a : Addr} {kvs : List (List Key × V)} {kds : List (PyData × PyData)} : ¬ ex a → Rd H a (.dT kvs) → TdOKv ex H kvs kds → TdO ex H (.ref a) (.dict kds)
  | obj (a : Addr) : TdO ex H (.ref a) (.dict [(.list [], .int (a : Nat))])
inductive TdOKv (ex : Addr → Prop) (H : Hp) : List (List Key × V) → List (PyData × PyData) → Prop
  | nil : TdOKv ex H [] []
  | cons {k : List Key} {v : V} {kvs : List (List Key × V)} {d : PyData} {kds : List (PyData × PyData)} : TdO ex H v d → TdOKv ex H kvs kds → TdOKv ex H ((k, v) :: kvs) ((keysD k, d) :: kds)
inductive TdOAll (ex : Addr → Prop) (H : Hp) : List V → List PyData → Prop
  | nil : TdOAll ex H [] []
  | cons {v : V} {vs : List V} {d : PyData} {ds : List PyData} : TdO ex H v d → TdOAll ex H vs ds → TdOAll ex H (v :: vs) (d :: ds)
end
mutual
theorem TdO.to {ex ex' : Addr → Prop} {H H' : Hp} (k : ∀ b o, ¬ ex b → H b = some o → ¬ ownK o → ¬ ex' b ∧ H' b = some o) : ∀ (d : PyData) (v : V), TdO ex H v d → TdO ex' H' v d
  | .none, _, h => by cases h; exact .non
  | .bool _, _, h => by cases h; exact .bl _
  | .int _, _, h => by cases h; exact .int _
  | .str _, _, h => by cases h; exact .str _
  | .list ds, _, h => by
    cases h with
    | lst n ha hs => exact .lst (k _ _ n ha id).1 (k _ _ n ha id).2 (TdOAll.to k ds _ hs)
  | .tuple ds, _, h => by
    cases h with
    | tup n ha hs => exact .tup (k _ _ n ha id).1 (k _ _ n ha id).2 (TdOAll.to k ds _ hs)
  | .dict kds, _, h => by
    cases h with
    | dct n ha hs => exact .dct (ha.elim (fun q => (k _ _ n q id).1) fun ⟨o, q⟩ => (k _ _ n q id).1) (ha.elim (fun q => .inl (k _ _ n q id).2) fun ⟨o, q⟩ => .inr ⟨o, (k _ _ n q id).2⟩) (TdOKv.to k kds _ hs)
    | obj a => exact .obj a
theorem TdOKv.to {ex ex' : Addr → Prop} {H H' : Hp} (k : ∀ b o, ¬ ex b → H b = some o → ¬ ownK o → ¬ ex' b ∧ H' b = some o) : ∀ (kds : List (PyData × PyData)) (kvs : List (List Key × V)), TdOKv ex H kvs kds → TdOKv ex' H' kvs kds
  | [], _, h => by cases h; exact .nil
  | (_, d) :: kds, _, h => by
    cases h with
    | cons h1 h2 => exact .cons (TdO.to k d _ h1) (TdOKv.to k kds _ h2)
theorem TdOAll.to {ex ex' : Addr → Prop} {H H' : Hp} (k : ∀ b o, ¬ ex b → H b = some o → ¬ ownK o → ¬ ex' b ∧ H' b = some o) : ∀ (ds : List PyData) (vs : List V), TdOAll ex H vs ds → TdOAll ex' H' vs ds
  | [], _, h => by cases h; exact .nil
  | d :: ds, _, h => by
    cases h with
    | cons h1 h2 => exact .cons (TdO.to k d _ h1) (TdOAll.to k ds _ h2)
end
mutual
theorem TdO.dp {K : PySem.W.Frag} {ex : Addr → Prop} {H : Hp} : ∀ (d : PyData) (v : V), noDc d = true → TdO ex H v d → Dp K H v d
  | .none, _, _, h => by cases h; exact .non
  | .bool _, _, _, h => by cases h; exact .bl _
  | .int _, _, _, h => by cases h; exact .int _
  | .str _, _, _, h => by cases h; exact .str _
  | .list ds, _, nd, h => by
    cases h with
    | lst n ha hs => exact .lst (SqL.of ha) (TdOAll.dp ds _ nd hs)
  | .tuple ds, _, nd, h => by
    cases h with
    | tup n ha hs => exact .tup (SqT.of ha) (TdOAll.dp ds _ nd hs)
  | .dict _, _, nd, h => by cases nd
theorem TdOAll.dp {K : PySem.W.Frag} {ex : Addr → Prop} {H : Hp} : ∀ (ds : List PyData) (vs : List V), noDc.noDcAll ds = true → TdOAll ex H vs ds → DpAll K H vs ds
  | [], _, _, h => by cases h; exact .nil
  | d :: ds, _, nd, h => by
    cases h with
    | cons h1 h2 => exact .cons (TdO.dp d _ (noDc_cons nd).1 h1) (TdOAll.dp ds _ (noDc_cons nd).2 h2)
end
mutual
def noOb : PyData → Bool
  | .list ds => noObL ds
  | .tuple ds => noObL ds
  | .dict kds => noObK kds
  | _ => true
def noObL : List PyData → Bool
  | [] => true
  | d :: ds => noOb d && noObL ds
def noObK : List (PyData × PyData) → Bool
  | [] => true
  | (k, d) :: kds => (match k with | .tuple _ => true | _ => false) && noOb d && noObK kds
end
mutual
theorem TdO.x {ex : Addr → Prop} {H : Hp} : ∀ (d : PyData) (v : V), noOb d = true → TdO ex H v d → TdX ex H v d
  | .none, _, _, h => by cases h; exact .non
  | .bool _, _, _, h => by cases h; exact .bl _
  | .int _, _, _, h => by cases h; exact .int _
  | .str _, _, _, h => by cases h; exact .str _
  | .list ds, _, nd, h => by
    cases h with
    | lst n ha hs => exact .lst n ha (TdOAll.x ds _ nd hs)
  | .tuple ds, _, nd, h => by
    cases h with
    | tup n ha hs => exact .tup n ha (TdOAll.x ds _ nd hs)
  | .dict kds, _, nd, h => by
    cases h with
    | dct n ha hs => exact .dct n ha (TdOKv.x kds _ nd hs)
    | obj a => cases nd
theorem TdOKv.x {ex : Addr → Prop} {H : Hp} : ∀ (kds : List (PyData × PyData)) (kvs : List (List Key × V)), noObK kds = true → TdOKv ex H kvs kds → TdXKv ex H kvs kds
  | [], _, _, h => by cases h; exact .nil
  | (k, d) :: kds, _, nd, h => by
    cases h with
    | cons h1 h2 =>
      unfold noObK at nd
      rw [Bool.and_eq_true, Bool.and_eq_true] at nd
      exact .cons (TdO.x d _ nd.1.2 h1) (TdOKv.x kds _ nd.2 h2)
theorem TdOAll.x {ex : Addr → Prop} {H : Hp} : ∀ (ds : List PyData) (vs : List V), noObL ds = true → TdOAll ex H vs ds → TdXAll ex H vs ds
  | [], _, _, h => by cases h; exact .nil
  | d :: ds, _, nd, h => by
    cases h with
    | cons h1 h2 =>
      unfold noObL at nd
      rw [Bool.and_eq_true] at nd
      exact .cons (TdO.x d _ nd.1 h1) (TdOAll.x ds _ nd.2 h2)
end
mutual
theorem TdO.ofX {ex : Addr → Prop} {H : Hp} : ∀ (d : PyData) (v : V), TdX ex H v d → TdO ex H v d
  | .none, _, h => by cases h; exact .non
  | .bool _, _, h => by cases h; exact .bl _
  | .int _, _, h => by cases h; exact .int _
  | .str _, _, h => by cases h; exact .str _
  | .list ds, _, h => by
    cases h with
    | lst n ha hs => exact .lst n ha (TdOAll.ofX ds _ hs)
  | .tuple ds, _, h => by
    cases h with
    | tup n ha hs => exact .tup n ha (TdOAll.ofX ds _ hs)
  | .dict kds, _, h => by
    cases h with
    | dct n ha hs => exact .dct n ha (TdOKv.ofX kds _ hs)
theorem TdOKv.ofX {ex : Addr → Prop} {H : Hp} : ∀ (kds : List (PyData × PyData)) (kvs : List (List Key × V)), TdXKv ex H kvs kds → TdOKv ex H kvs kds
  | [], _, h => by cases h; exact .nil
  | (_, d) :: kds, _, h => by
    cases h with
    | cons h1 h2 => exact .cons (TdO.ofX d _ h1) (TdOKv.ofX kds _ h2)
theorem TdOAll.ofX {ex : Addr → Prop} {H : Hp} : ∀ (ds : List PyData) (vs : List V), TdXAll ex H vs ds → TdOAll ex H vs ds
  | [], _, h => by cases h; exact .nil
  | d :: ds, _, h => by
    cases h with
    | cons h1 h2 => exact .cons (TdO.ofX d _ h1) (TdOAll.ofX ds _ h2)
end
theorem TdO.same {ex : Addr → Prop} {H H' : Hp} {d : PyData} {v : V} (h : TdO ex H v d) (s : Same H H') : TdO ex H' v d := TdO.to (fun b o n e _ => ⟨n, s b o e⟩) d v h
theorem TdOAll.len {ex : Addr → Prop} {H : Hp} : ∀ {xs : List V} {ds : List PyData}, TdOAll ex H xs ds → xs.length = ds.length
  | _, _, .nil => rfl
  | _, _, .cons _ h => congrArg (· + 1) (TdOAll.len h)
theorem TdOAll.snoc {ex : Addr → Prop} {H : Hp} {v : V} {d : PyData} : ∀ {xs : List V} {ds : List PyData}, TdOAll ex H xs ds → TdO ex H v d → TdOAll ex H (xs ++ [v]) (ds ++ [d])
  | _, _, .nil, h => .cons h .nil
  | _, _, .cons h1 h2, h => .cons h1 (TdOAll.snoc h2 h)
theorem TdOAll.go {ex ex' : Addr → Prop} {H H' : Hp} {xs : List V} {ds : List PyData} (h : TdOAll ex H xs ds) (k : ∀ b o, ¬ ex b → H b = some o → ¬ ownK o → ¬ ex' b ∧ H' b = some o) : TdOAll ex' H' xs ds := TdOAll.to k ds xs h
theorem TdOAll.app {ex : Addr → Prop} {H : Hp} : ∀ {xs ys : List V} {ds es : List PyData}, TdOAll ex H xs ds → TdOAll ex H ys es → TdOAll ex H (xs ++ ys) (ds ++ es)
  | _, _, _, _, .nil, h => h
  | _, _, _, _, .cons h1 h2, h => .cons h1 (TdOAll.app h2 h)
theorem TdOAll.at {ex : Addr → Prop} {H : Hp} : ∀ {xs : List V} {ds : List PyData} {i : Nat} {v : V}, TdOAll ex H xs ds → xs[i]? = some v → ∃ d, ds[i]? = some d ∧ TdO ex H v d
  | _, _, 0, _, .cons h1 _, e => by cases e; exact ⟨_, rfl, h1⟩
  | _, _, i + 1, _, .cons _ h2, e => TdOAll.at (i := i) h2 (by simpa using e)
inductive Ob where
  | ins (C : Str) (fs : List (Str × D))
  | lst (ds : List D)
  | dct (kds : List (Key × D))
structure Sb where
  n : Nat
  o : Addr → Option Ob
def Sb.put (b : Sb) (a : Addr) (x : Ob) : Sb := ⟨b.n, fun z => if z = a then some x else b.o z⟩
def Sb.to (b : Sb) (n : Nat) : Sb := ⟨n, b.o⟩
theorem Sb.put_same {b : Sb} {a : Addr} {x : Ob} : (b.put a x).o a = some x := if_pos rfl
theorem Sb.put_ne {b : Sb} {a z : Addr} {x : Ob} (h : z ≠ a) : (b.put a x).o z = b.o z := if_neg h
theorem Sb.put_put {b : Sb} {a : Addr} {x y : Ob} : (b.put a x).put a y = b.put a y := by
  unfold Sb.put
  congr 1
  funext z
  show (if z = a then some y else if z = a then some x else b.o z) = (if z = a then some y else b.o z)
  by_cases h : z = a
  · rw [if_pos h, if_pos h]
  · rw [if_neg h, if_neg h, if_neg h]
def clA (mg : Str → Option Value) (x : Str) : Addr := match mg x with
  | some (.ref a) => a
  | _ => 0
def FsR (ex : Addr → Prop) (H : Hp) : List (Str × V) → List (Str × D) → Prop := Paired fun p q => p.1 = q.1 ∧ TdO ex H p.2 q.2
def KvR (ex : Addr → Prop) (H : Hp) : List (Key × V) → List (Key × D) → Prop := Paired fun p q => p.1 = q.1 ∧ TdO ex H p.2 q.2
def ObS (mg : Str → Option Value) (ex : Addr → Prop) (H : Hp) (a : Addr) : Ob → Prop
  | .ins C fds => ∃ dx fs, H a = some (.ins (clA mg C) dx fs) ∧ FsR ex H fs fds
  | .lst ds => ∃ vs, H a = some (.lsw vs) ∧ TdOAll ex H vs ds
  | .dct kds => ∃ kvs, H a = some (.dK kvs) ∧ KvR ex H kvs kds
def Sto (mg : Str → Option Value) (ex : Addr → Prop) (H : Hp) (b : Sb) : Prop := ∀ a x, b.o a = some x → ObS mg ex H a x
theorem ObS.to {mg : Str → Option Value} {ex ex' : Addr → Prop} {H H' : Hp} {a : Addr} {x : Ob} (h : ObS mg ex H a x) (k : ∀ b o, ¬ ex b → H b = some o → ¬ ownK o → ¬ ex' b ∧ H' b = some o) (ko : ∀ o, H a = some o → ownK o → H' a = some o) : ObS mg ex' H' a x := by
  cases x with
  | ins C fds =>
    obtain ⟨dx, fs, h1, h2⟩ := h
    exact ⟨dx, fs, ko _ h1 trivial, Paired.mapP h2 fun p q z => ⟨z.1, TdO.to k _ _ z.2⟩⟩
  | lst ds =>
    obtain ⟨vs, h1, h2⟩ := h
    exact ⟨vs, ko _ h1 trivial, h2.go k⟩
  | dct kds =>
    obtain ⟨kvs, h1, h2⟩ := h
    exact ⟨kvs, ko _ h1 trivial, Paired.mapP h2 fun p q z => ⟨z.1, TdO.to k _ _ z.2⟩⟩
theorem Sto.go {mg : Str → Option Value} {ex ex' : Addr → Prop} {H H' : Hp} {b : Sb} (h : Sto mg ex H b) (k : ∀ b o, ¬ ex b → H b = some o → ¬ ownK o → ¬ ex' b ∧ H' b = some o) (ko : ∀ z o, H z = some o → ownK o → H' z = some o) : Sto mg ex' H' b :=
  fun a x e => (h a x e).to k (ko a)
theorem Sto.same {mg : Str → Option Value} {ex : Addr → Prop} {H H' : Hp} {b : Sb} (h : Sto mg ex H b) (s : Same H H') : Sto mg ex H' b := h.go (fun z o n e _ => ⟨n, s z o e⟩) fun z o e _ => s z o e
theorem Sto.some {mg : Str → Option Value} {ex : Addr → Prop} {H : Hp} {b : Sb} (h : Sto mg ex H b) {a : Addr} {x : Ob} (e : b.o a = some x) : ∃ o, H a = some o ∧ ownK o := by
  have := h a x e
  cases x with
  | ins C fds => obtain ⟨dx, fs, h1, _⟩ := this; exact ⟨_, h1, trivial⟩
  | lst ds => obtain ⟨vs, h1, _⟩ := this; exact ⟨_, h1, trivial⟩
  | dct kds => obtain ⟨kvs, h1, _⟩ := this; exact ⟨_, h1, trivial⟩
theorem Sto.none {mg : Str → Option Value} {ex : Addr → Prop} {H : Hp} {b : Sb} (h : Sto mg ex H b) {a : Addr} (e : H a = none) : b.o a = none := by
  cases q : b.o a with
  | none => rfl
  | some x => obtain ⟨o, h1, _⟩ := h.some q; rw [e] at h1; cases h1
end PO
end L2
set_option Elab.async false
set_option linter.all false
set_option maxRecDepth 100000
namespace L2
namespace PO
open PySem PySem.Spec PyProof.Rows L2 L2.PU
abbrev KE := D → Sb → Prop
abbrev PTE := En → Sb → KE → Prop
abbrev PTT := En → Sb → (Bool → Sb → Prop) → Prop
abbrev PTA := En → Sb → (List D → Sb → Prop) → Prop
structure PEnds where
  nx : En → Sb → Prop
  rt : KE
  bk : En → Sb → Prop := fun _ _ => False
  ct : En → Sb → Prop := fun _ _ => False
abbrev PTS := PEnds → En → Sb → Prop
structure C where
  K : PySem.W.Frag
  ur : Option Nat
  own : List Nat
  sc : Option Nat
  n : Nat
  mg : Str → Option Value
def isU (c : C) (L : Ow) (z : Addr) : Prop := ∃ i, c.ur = some i ∧ L i = some z
def Plain (c : C) (i : Nat) : Prop := i ∉ c.own ∧ c.ur ≠ some i ∧ c.sc ≠ some i
instance (c : C) (i : Nat) : Decidable (Plain c i) := by unfold Plain; infer_instance
def nT (o : HO) : Prop := (∀ xs, o ≠ .tup xs) ∧ ¬ ownK o
theorem nT_lst {xs : List V} : nT (.lst xs) := ⟨fun _ e => (nomatch e), id⟩
theorem nT_dT {kvs : List (List Key × V)} : nT (.dT kvs) := ⟨fun _ e => (nomatch e), id⟩
inductive ObD (ex : Addr → Prop) (H : Hp) : HO → D → Prop
  | lst {vs : List V} {ds : List D} : TdOAll ex H vs ds → ObD ex H (.lst vs) (.list ds)
  | dct {kvs : List (List Key × V)} {kds : List (D × D)} : TdOKv ex H kvs kds → ObD ex H (.dT kvs) (.dict kds)
theorem ObD.to {ex ex' : Addr → Prop} {H H' : Hp} (k : ∀ b o, ¬ ex b → H b = some o → ¬ ownK o → ¬ ex' b ∧ H' b = some o) {o : HO} {d : D} (h : ObD ex H o d) : ObD ex' H' o d := by
  cases h with
  | lst h => exact .lst (TdOAll.to k _ _ h)
  | dct h => exact .dct (TdOKv.to k _ _ h)
theorem ObD.no {ex : Addr → Prop} {H : Hp} {o : HO} {d : D} (h : ObD ex H o d) : ¬ ownK o := by
  cases h with
  | lst h => exact id
  | dct h => exact id
theorem ObD.nt {ex : Addr → Prop} {H : Hp} {o : HO} {d : D} (h : ObD ex H o d) : nT o := by
  cases h with
  | lst h => exact nT_lst
  | dct h => exact nT_dT
theorem ObD.td {ex : Addr → Prop} {H : Hp} {o : HO} {d : D} {a : Addr} (h : ObD ex H o d) (n : ¬ ex a) (ha : H a = some o) : TdO ex H (.ref a) d := by
  cases h with
  | lst h => exact .lst n ha h
  | dct h => exact .dct n (.inl ha) h
def Kp (o : HO) (H' : Hp) (z : Addr) : Prop := (ownK o → ∃ o', H' z = some o' ∧ ownK o') ∧ (¬ ownK o → H' z = some o)
theorem Kp.of {o : HO} {H' : Hp} {z : Addr} (h : H' z = some o) : Kp o H' z := ⟨fun w => ⟨o, h, w⟩, fun _ => h⟩
theorem Kp.there {o : HO} {H' : Hp} {z : Addr} (h : Kp o H' z) : ∃ o', H' z = some o' := by
  by_cases w : ownK o
  · obtain ⟨o', q, _⟩ := h.1 w; exact ⟨o', q⟩
  · exact ⟨o, h.2 w⟩
theorem Kp.nn {o : HO} {H' : Hp} {z : Addr} (h : Kp o H' z) : H' z ≠ none := by obtain ⟨o', q⟩ := h.there; rw [q]; exact nofun
theorem Kp.trans {o : HO} {H1 H2 : Hp} {z : Addr} (h : Kp o H1 z) (k : ∀ o', H1 z = some o' → Kp o' H2 z) : Kp o H2 z := by
  refine ⟨fun w => ?_, fun w => (k o (h.2 w)).2 w⟩
  obtain ⟨o', q, w'⟩ := h.1 w
  exact (k o' q).1 w'
def OwAt (c : C) (F : Fm) (L : Ow) (H : Hp) (ρ : En) (b : Sb) (i : Nat) (a : Addr) : Prop :=
  (c.ur = some i ∧ UrnAt H a b.n) ∨ (c.ur ≠ some i ∧ (i ∈ c.own ∧ ¬ F.ex a) ∧ ∃ vs ds, ρ[i]? = some (some ds) ∧ H a = some vs ∧ ObD (exA F.ex L) H vs ds)
structure RS (c : C) (F : Fm) (L : Ow) (σ : St) (H : Hp) (ρ : En) (b : Sb) : Prop where
  len : σ.length = ρ.length
  len2 : ρ.length = c.n
  vals : ∀ (i : Nat) (d : D), ρ[i]? = some (some d) → i ∉ c.own → c.ur ≠ some i → ∃ v, σ[i]? = some (some v) ∧ TdO (exA F.ex L) H v d
  ow : ∀ (i : Nat) (a : Addr), L i = some a → σ[i]? = some (some (.ref a)) ∧ (F.H0 a = none ∨ F.u0 = some a) ∧ OwAt c F L H ρ b i a
  ow' : ∀ (i : Nat) (d : D), i ∈ c.own → ρ[i]? = some (some d) → ∃ a, L i = some a
  inj : ∀ (i j : Nat) (a : Addr), L i = some a → L j = some a → i = j
  nur : ∀ i : Nat, c.ur = some i → i ∉ c.own ∧ ∀ d, ρ[i]? = some (some d) → ∃ a, L i = some a
  tr : ∀ z, exA F.ex L z → ∃ o, H z = some o ∧ nT o
  fr : ∀ z o, F.u0 ≠ some z → F.H0 z = some o → Kp o H z
  u0 : ∀ u, F.u0 = some u → isU c L u
  scr : ∀ i : Nat, c.sc = some i → F.u0 = none ∧ (∀ d, ρ[i]? ≠ some (some d)) ∧ i ∉ c.own ∧ c.ur ≠ some i ∧ ∃ a ns, σ[i]? = some (some (.ref a)) ∧ (SqL c.K F.H0 a (List.map V.int ns) ∧ ∀ o, F.H0 a = some o → ¬ ownK o) ∧ ns.length ≤ 63
  st : Sto c.mg (exA F.ex L) H b
def EvU (c : C) (L : Ow) (H H' : Hp) : Prop := ∀ z o, ¬ isU c L z → H z = some o → Kp o H' z
theorem EvU.refl {c : C} {L : Ow} (H : Hp) : EvU c L H H := fun _ _ _ h => .of h
theorem EvU.trans {c : C} {L : Ow} {H H1 H2 : Hp} (a : EvU c L H H1) (b : EvU c L H1 H2) : EvU c L H H2 := fun z o n h => (a z o n h).trans fun o' q => b z o' n q
theorem EvU.same {c : C} {L : Ow} {H H' : Hp} (s : Same H H') : EvU c L H H' := fun z o _ h => .of (s z o h)
theorem isU.ex {c : C} {ex : Addr → Prop} {L : Ow} {z : Addr} (h : isU c L z) : exA ex L z := let ⟨i, _, e⟩ := h; .inr ⟨i, e⟩
theorem evu {c : C} {ex : Addr → Prop} {L : Ow} {H H' : Hp} {v : V} {d : D} (h : TdO (exA ex L) H v d) (e : EvU c L H H') : TdO (exA ex L) H' v d :=
  TdO.to (fun b o n q w => ⟨n, (e b o (fun z => n z.ex) q).2 w⟩) d v h
theorem evuAll {c : C} {ex : Addr → Prop} {L : Ow} {H H' : Hp} {vs : List V} {ds : List D} (h : TdOAll (exA ex L) H vs ds) (e : EvU c L H H') : TdOAll (exA ex L) H' vs ds :=
  TdOAll.to (fun b o n q w => ⟨n, (e b o (fun z => n z.ex) q).2 w⟩) ds vs h
theorem RS.go {c : C} {F : Fm} {L : Ow} {σ : St} {H H' : Hp} {ρ : En} {b b' : Sb} (r : RS c F L σ H ρ b) (e : EvU c L H H') (hu : ∀ z, isU c L z → UrnAt H' z b'.n) (hs : Sto c.mg (exA F.ex L) H' b') : RS c F L σ H' ρ b' where
  len := r.len
  len2 := r.len2
  vals := fun i d h n n2 => let ⟨v, a, t⟩ := r.vals i d h n n2; ⟨v, a, evu t e⟩
  ow := fun i a h => by
    obtain ⟨h1, h2, h3⟩ := r.ow i a h
    refine ⟨h1, h2, ?_⟩
    rcases h3 with ⟨hu1, _⟩ | ⟨hu1, ho, vs, ds, hr, hH, ht⟩
    · exact .inl ⟨hu1, hu a ⟨i, hu1, h⟩⟩
    · refine .inr ⟨hu1, ho, vs, ds, hr, (e a _ (fun ⟨j, hj, hl⟩ => ?_) hH).2 ht.no, ht.to fun b o n q w => ⟨n, (e b o (fun z => n z.ex) q).2 w⟩⟩
      have := r.inj j i a hl h
      subst this
      exact hu1 hj
  ow' := r.ow'
  inj := r.inj
  nur := r.nur
  tr := fun z hz => by
    by_cases q : isU c L z
    · obtain ⟨xs, h⟩ := (hu z q).lst
      exact ⟨_, h, nT_lst⟩
    · obtain ⟨o, h, ht⟩ := r.tr z hz
      exact ⟨o, (e z o q h).2 ht.2, ht⟩
  fr := fun z o n h => (r.fr z o n h).trans fun o' q => e z o' (fun ⟨i, _, hl⟩ => by
    rcases (r.ow i z hl).2.1 with q | q
    · rw [h] at q; cases q
    · exact n q) q
  u0 := r.u0
  scr := r.scr
  st := hs
theorem RS.urn {c : C} {F : Fm} {L : Ow} {σ : St} {H : Hp} {ρ : En} {b : Sb} (r : RS c F L σ H ρ b) {z : Addr} (h : isU c L z) : UrnAt H z b.n := by
  obtain ⟨i, hi, hl⟩ := h
  rcases (r.ow i z hl).2.2 with ⟨_, q⟩ | ⟨q, _⟩
  · exact q
  · exact absurd hi q
theorem RS.same {c : C} {F : Fm} {L : Ow} {σ : St} {H H' : Hp} {ρ : En} {b : Sb} (r : RS c F L σ H ρ b) (s : Same H H') : RS c F L σ H' ρ b := r.go (.same s) (fun z h => (r.urn h).same s) (r.st.same s)
theorem RS.noL {c : C} {F : Fm} {L : Ow} {σ : St} {H : Hp} {ρ : En} {b : Sb} (r : RS c F L σ H ρ b) {i : Nat} (p : Plain c i) : L i = none := by
  cases e : L i with
  | none => rfl
  | some a =>
    rcases (r.ow i a e).2.2 with ⟨q, _⟩ | ⟨_, q, _⟩
    · exact absurd q p.2.1
    · exact absurd q.1 p.1
theorem RS.set {c : C} {F : Fm} {L : Ow} {σ : St} {H : Hp} {ρ : En} {b : Sb} (r : RS c F L σ H ρ b) {i : Nat} (p : Plain c i) {v : V} {d : D} (h : TdO (exA F.ex L) H v d) : RS c F L (σ.set i (some v)) H (ρ.set i (some d)) b where
  len := by rw [List.length_set, List.length_set]; exact r.len
  len2 := by rw [List.length_set]; exact r.len2
  vals := fun j e hj n n2 => by
    rcases set_get hj with ⟨rfl, q, hl⟩ | ⟨ne, q⟩
    · cases q
      exact ⟨v, List.getElem?_set_self (by rw [r.len]; exact hl), h⟩
    · obtain ⟨w, a, t⟩ := r.vals j e q n n2
      exact ⟨w, by rw [List.getElem?_set_ne ne]; exact a, t⟩
  ow := fun j a hj => by
    have ne : i ≠ j := fun z => by subst z; rw [r.noL p] at hj; cases hj
    obtain ⟨h1, h2, h3⟩ := r.ow j a hj
    refine ⟨by rw [List.getElem?_set_ne ne]; exact h1, h2, ?_⟩
    rcases h3 with q | ⟨q1, q2, vs, ds, q3, q4⟩
    · exact .inl q
    · exact .inr ⟨q1, q2, vs, ds, by rw [List.getElem?_set_ne ne]; exact q3, q4⟩
  ow' := fun j e hj he => by
    have ne : i ≠ j := fun z => p.1 (z ▸ hj)
    rw [List.getElem?_set_ne ne] at he
    exact r.ow' j e hj he
  inj := r.inj
  nur := fun j hj => by
    have ne : i ≠ j := fun z => p.2.1 (z ▸ hj)
    refine ⟨(r.nur j hj).1, fun e he => ?_⟩
    rw [List.getElem?_set_ne ne] at he; exact (r.nur j hj).2 e he
  tr := r.tr
  fr := r.fr
  u0 := r.u0
  scr := fun j hj => by
    have ne : i ≠ j := fun z => p.2.2 (z ▸ hj)
    obtain ⟨h1, h2, h3, h4, a, ns, h5, h6⟩ := r.scr j hj
    exact ⟨h1, fun e => by rw [List.getElem?_set_ne ne]; exact h2 e, h3, h4, a, ns, by rw [List.getElem?_set_ne ne]; exact h5, h6⟩
  st := r.st
theorem RS.unset {c : C} {F : Fm} {L : Ow} {σ : St} {H : Hp} {ρ : En} {b : Sb} (r : RS c F L σ H ρ b) {i : Nat} (p : Plain c i) : RS c F L (σ.set i none) H (ρ.set i none) b where
  len := by rw [List.length_set, List.length_set]; exact r.len
  len2 := by rw [List.length_set]; exact r.len2
  vals := fun j e hj n n2 => by
    rcases set_get hj with ⟨rfl, q, hl⟩ | ⟨ne, q⟩
    · cases q
    · obtain ⟨w, a, t⟩ := r.vals j e q n n2
      exact ⟨w, by rw [List.getElem?_set_ne ne]; exact a, t⟩
  ow := fun j a hj => by
    have ne : i ≠ j := fun z => by subst z; rw [r.noL p] at hj; cases hj
    obtain ⟨h1, h2, h3⟩ := r.ow j a hj
    refine ⟨by rw [List.getElem?_set_ne ne]; exact h1, h2, ?_⟩
    rcases h3 with q | ⟨q1, q2, vs, ds, q3, q4⟩
    · exact .inl q
    · exact .inr ⟨q1, q2, vs, ds, by rw [List.getElem?_set_ne ne]; exact q3, q4⟩
  ow' := fun j e hj he => by
    have ne : i ≠ j := fun z => p.1 (z ▸ hj)
    rw [List.getElem?_set_ne ne] at he
    exact r.ow' j e hj he
  inj := r.inj
  nur := fun j hj => by
    have ne : i ≠ j := fun z => p.2.1 (z ▸ hj)
    refine ⟨(r.nur j hj).1, fun e he => ?_⟩
    rw [List.getElem?_set_ne ne] at he; exact (r.nur j hj).2 e he
  tr := r.tr
  fr := r.fr
  u0 := r.u0
  scr := fun j hj => by
    have ne : i ≠ j := fun z => p.2.2 (z ▸ hj)
    obtain ⟨h1, h2, h3, h4, a, ns, h5, h6⟩ := r.scr j hj
    exact ⟨h1, fun e => by rw [List.getElem?_set_ne ne]; exact h2 e, h3, h4, a, ns, by rw [List.getElem?_set_ne ne]; exact h5, h6⟩
  st := r.st
theorem RS.wipe {c : C} {F : Fm} {L : Ow} {σ : St} {H : Hp} {ρ : En} {b : Sb} (r : RS c F L σ H ρ b) : ∀ {vs : List Nat}, (∀ i ∈ vs, Plain c i) → RS c F L (L2.wipe σ vs) H (pwipe ρ vs) b
  | [], _ => r
  | v :: vs, h => (RS.wipe r fun i hi => h i (List.mem_cons_of_mem _ hi)).unset (h v List.mem_cons_self)
def VR (c : C) (F : Fm) (L : Ow) (H : Hp) (ρ : En) (v : V) (d : D) : Prop :=
  TdO (exA F.ex L) H v d ∨ ∃ i a, L i = some a ∧ c.ur ≠ some i ∧ v = .ref a ∧ ρ[i]? = some (some d) ∧ isLD d = true
theorem VR.go {c : C} {F : Fm} {L : Ow} {H H' : Hp} {ρ : En} {v : V} {d : D} (h : VR c F L H ρ v d) (e : EvU c L H H') : VR c F L H' ρ v d := by
  rcases h with h | h
  · exact .inl (evu h e)
  · exact .inr h
theorem VR.seq {c : C} {F : Fm} {L : Ow} {σ : St} {H : Hp} {ρ : En} {b : Sb} {v : V} {d : D} (h : VR c F L H ρ v d) (r : RS c F L σ H ρ b) :
    (∀ ds, d = .list ds → ∃ a vs, v = .ref a ∧ H a = some (.lst vs) ∧ TdOAll (exA F.ex L) H vs ds) ∧ (∀ ds, d = .tuple ds → ∃ a vs, v = .ref a ∧ H a = some (.tup vs) ∧ TdOAll (exA F.ex L) H vs ds ∧ ¬ exA F.ex L a) := by
  constructor
  · rintro ds rfl
    rcases h with h | ⟨i, a, hl, hn, rfl, hr, _⟩
    · cases h with
      | lst n ha hs => exact ⟨_, _, rfl, ha, hs⟩
    · rcases (r.ow i a hl).2.2 with ⟨q, _⟩ | ⟨_, _, vs, ds2, q3, q4, q5⟩
      · exact absurd q hn
      · rw [hr] at q3
        cases q3
        cases q5 with
        | lst q5 => exact ⟨a, _, rfl, q4, q5⟩
  · rintro ds rfl
    rcases h with h | ⟨i, a, hl, hn, rfl, hr, _⟩
    · cases h with
      | tup n ha hs => exact ⟨_, _, rfl, ha, hs, n⟩
    · rcases (r.ow i a hl).2.2 with ⟨q, _⟩ | ⟨_, _, vs, ds2, q3, q4, q5⟩
      · exact absurd q hn
      · rw [hr] at q3
        cases q3
        cases q5
theorem VR.dct {c : C} {F : Fm} {L : Ow} {σ : St} {H : Hp} {ρ : En} {b : Sb} {v : V} {kds : List (D × D)} (h : VR c F L H ρ v (.dict kds)) (nk : ∀ p ∈ kds, p.1 ≠ .list []) (r : RS c F L σ H ρ b) : ∃ a kvs, v = .ref a ∧ Rd H a (.dT kvs) ∧ TdOKv (exA F.ex L) H kvs kds := by
  rcases h with h | ⟨i, a, hl, hn, rfl, hr, _⟩
  · cases h with
    | dct n ha hs => exact ⟨_, _, rfl, ha, hs⟩
    | obj a => exact absurd rfl (nk _ List.mem_cons_self)
  · rcases (r.ow i a hl).2.2 with ⟨q, _⟩ | ⟨_, _, vs, ds2, q3, q4, q5⟩
    · exact absurd q hn
    · rw [hr] at q3
      cases q3
      cases q5 with
      | dct q5 => exact ⟨a, _, rfl, .inl q4, q5⟩
theorem VR.clean {c : C} {F : Fm} {L : Ow} {H : Hp} {ρ : En} {v : V} {d : D} (h : VR c F L H ρ v d) (n : isLD d = false) : TdO (exA F.ex L) H v d := by
  rcases h with h | ⟨_, _, _, _, _, _, z⟩
  · exact h
  · rw [n] at z; cases z
def SimE (c : C) (t : L2.TE) (p : PTE) : Prop := ∀ (F : Fm) (L : Ow) (σ : St) (H : Hp) (ρ : En) (b : Sb) (Q : VK) (P : KE), RS c F L σ H ρ b → p ρ b P →
  (∀ v d H' b', EvU c L H H' → RS c F L σ H' ρ b' → TdO (exA F.ex L) H' v d → P d b' → Q v H') → t σ H Q
def SimV (c : C) (t : L2.TE) (p : PTE) : Prop := ∀ (F : Fm) (L : Ow) (σ : St) (H : Hp) (ρ : En) (b : Sb) (Q : VK) (P : KE), RS c F L σ H ρ b → p ρ b P →
  (∀ v d H' b', EvU c L H H' → RS c F L σ H' ρ b' → VR c F L H' ρ v d → P d b' → Q v H') → t σ H Q
def SimF (c : C) (t : L2.TE) (p : PTE) : Prop := ∀ (F : Fm) (L : Ow) (σ : St) (H : Hp) (ρ : En) (b : Sb) (Q : VK) (P : KE), RS c F L σ H ρ b → p ρ b P →
  (∀ a vs ds H' b', EvU c L H H' → RS c F L σ H' ρ b' → H a = none → H' a = some (.lst vs) → TdOAll (fun z => exA F.ex L z ∨ z = a) H' vs ds → Sto c.mg (fun z => exA F.ex L z ∨ z = a) H' b' → P (.list ds) b' → Q (.ref a) H') → t σ H Q
def SimT (c : C) (t : L2.TT) (p : PTT) : Prop := ∀ (F : Fm) (L : Ow) (σ : St) (H : Hp) (ρ : En) (b : Sb) (Q : Bool → Hp → Prop) (P : Bool → Sb → Prop), RS c F L σ H ρ b → p ρ b P →
  (∀ k H' b', EvU c L H H' → RS c F L σ H' ρ b' → P k b' → Q k H') → t σ H Q
def SimA (c : C) (t : L2.TA) (p : PTA) : Prop := ∀ (F : Fm) (L : Ow) (σ : St) (H : Hp) (ρ : En) (b : Sb) (Q : List V → Hp → Prop) (P : List D → Sb → Prop), RS c F L σ H ρ b → p ρ b P →
  (∀ vs ds H' b', EvU c L H H' → RS c F L σ H' ρ b' → TdOAll (exA F.ex L) H' vs ds → P ds b' → Q vs H') → t σ H Q
theorem SimE.v {c : C} {t : L2.TE} {p : PTE} (h : SimE c t p) : SimV c t p := fun F L σ H ρ b Q P r hp k => h F L σ H ρ b Q P r hp fun v d H' b' e r' td q => k v d H' b' e r' (.inl td) q
theorem SimF.e {c : C} {t : L2.TE} {p : PTE} (h : SimF c t p) : SimE c t p := fun F L σ H ρ b Q P r hp k => h F L σ H ρ b Q P r hp fun a vs ds H' b' e r' na ha td _ q => by
  refine k (.ref a) (.list ds) H' b' e r' (.lst (fun z => ?_) ha (TdOAll.to (fun z o n q _ => ⟨fun y => n (.inl y), q⟩) ds vs td)) q
  obtain ⟨o, ho, _⟩ := r.tr a z
  rw [na] at ho; cases ho
structure Fam {I : Type} (X : I → Cx) (c : C) (k : Nat) : Prop where
  K : ∀ i, (X i).K = c.K
  calm : ∀ i, (X i).calm = true
  room : ∀ i, Room k (X i).A
  mg : ∀ i, (X i).mg = c.mg
structure JE {I : Type} (X : I → Cx) (c : C) (e : Expr) (p : PTE) : Prop where
  ex : ∃ t, (∀ i, L2.PE (X i) e t) ∧ SimE c t p
structure JV {I : Type} (X : I → Cx) (c : C) (e : Expr) (p : PTE) : Prop where
  ex : ∃ t, (∀ i, L2.PE (X i) e t) ∧ SimV c t p
structure JF {I : Type} (X : I → Cx) (c : C) (e : Expr) (p : PTE) : Prop where
  ex : ∃ t, (∀ i, L2.PE (X i) e t) ∧ SimF c t p
structure JT {I : Type} (X : I → Cx) (c : C) (e : Expr) (p : PTT) : Prop where
  ex : ∃ t, (∀ i, L2.PT (X i) e t) ∧ SimT c t p
structure JW {I : Type} (X : I → Cx) (c : C) (e : Expr) (p : PTT) : Prop where
  ex : ∃ t, (∀ i, L2.PW (X i) e t) ∧ SimT c t p
structure JC {I : Type} (X : I → Cx) (c : C) (e : Expr) (p : PTE) : Prop where
  ex : ∃ t, (∀ i, L2.PE (X i) e t) ∧ (∀ i, L2.PT (X i) e (tTest t)) ∧ SimE c t p
structure JA {I : Type} (X : I → Cx) (c : C) (es : List Expr) (p : PTA) : Prop where
  ex : ∃ t, (∀ i, L2.PA (X i) es t) ∧ SimA c t p
section
variable {I : Type} {X : I → Cx} {c : C} {k : Nat}
theorem JE.v {e : Expr} {p : PTE} (h : JE X c e p) : JV X c e p := let ⟨t, a, s⟩ := h.ex; ⟨t, a, s.v⟩
theorem JF.e {e : Expr} {p : PTE} (h : JF X c e p) : JE X c e p := let ⟨t, a, s⟩ := h.ex; ⟨t, a, s.e⟩
def pVar (i : Nat) : PTE := fun ρ b P => ∃ d, ρ[i]? = some (some d) ∧ P d b
theorem je_var (i : Nat) {x : Str} {pos : Pos} (hp : i ∉ c.own ∧ c.ur ≠ some i := by first | decide | (dsimp only [Plain]; decide)) (hN : ∀ j, (X j).N[i]? = some x := by intro _; rfl) (hv : ∀ j, Vis (X j).env.scope x := by intro _; first | exact Or.inl rfl | exact Or.inr (Or.inl rfl) | exact Or.inr (Or.inr rfl))
    (hd : (x == ("__debug__" : Str)) = false := by first | decide | (dsimp only [Plain]; decide)) (hcd : (x == ("__classdict__" : Str)) = false := by first | decide | (dsimp only [Plain]; decide)) : JE X c (.Name x pos) (pVar i) :=
  ⟨tVar i, fun j => pe_var (hN j) (hv j) hd hcd, fun F L σ H ρ b Q P r ⟨d, e, h⟩ q => let ⟨v, a, t⟩ := r.vals i d e hp.1 hp.2; ⟨v, a, q v d H b (.refl H) r t h⟩⟩
def pC (d : D) : PTE := fun _ b P => P d b
theorem je_int {i : Int} {j : Nat} {pos : Pos} : JE X c (.Constant (.int i) j pos) (pC (.int i)) := ⟨tC (.int i), fun _ => pe_int, fun F L σ H ρ b Q P r h q => q _ _ H b (.refl H) r (.int i) h⟩
theorem je_bl {x : Bool} {j : Nat} {pos : Pos} : JE X c (.Constant (.bool x) j pos) (pC (.bool x)) := ⟨tC (.bl x), fun _ => pe_bl, fun F L σ H ρ b Q P r h q => q _ _ H b (.refl H) r (.bl x) h⟩
theorem je_str {x : Str} {j : Nat} {pos : Pos} : JE X c (.Constant (.str x) j pos) (pC (.str x)) := ⟨tC (.str x), fun _ => pe_str, fun F L σ H ρ b Q P r h q => q _ _ H b (.refl H) r (.str x) h⟩
def pI0 (g : Int → Int → D) (pa pb : PTE) : PTE := fun ρ b P => pa ρ b fun x b => pb ρ b fun y b => ∃ i j, x = .int i ∧ y = .int j ∧ P (g i j) b
theorem sim2 {ta tb : L2.TE} {pa pb : PTE} {r : R2} {R : D → D → Sb → KE → Prop} (sa : SimV c ta pa) (sb : SimV c tb pb)
    (h : ∀ (F : Fm) (L : Ow) (σ : St) (H : Hp) (ρ : En) (b : Sb) (x y : V) (dx dy : D) (Q : VK) (P : KE), RS c F L σ H ρ b → VR c F L H ρ x dx → VR c F L H ρ y dy → R dx dy b P → (∀ v d H', Same H H' → TdO (exA F.ex L) H' v d → P d b → Q v H') → r x y H Q) :
    SimE c (tOp r ta tb) (fun ρ b P => pa ρ b fun x b => pb ρ b fun y b => R x y b P) := by
  intro F L σ H ρ b Q P rs hp k
  refine sa F L σ H ρ b _ _ rs hp fun x dx H1 b1 e1 r1 v1 h1 => sb F L σ H1 ρ b1 _ _ r1 h1 fun y dy H2 b2 e2 r2 v2 h2 => ?_
  exact h F L σ H2 ρ b2 x y dx dy Q P r2 (v1.go e2) v2 h2 fun v d H3 s t q => k v d H3 b2 (e1.trans (e2.trans (.same s))) (r2.same s) t q
theorem VR.int {F : Fm} {L : Ow} {H : Hp} {ρ : En} {v : V} {i : Int} (h : VR c F L H ρ v (.int i)) : v = .int i := by
  have q := h.clean rfl
  cases q; rfl
theorem VR.bl {F : Fm} {L : Ow} {H : Hp} {ρ : En} {v : V} {i : Bool} (h : VR c F L H ρ v (.bool i)) : v = .bl i := by
  have q := h.clean rfl
  cases q; rfl
theorem VR.str {F : Fm} {L : Ow} {H : Hp} {ρ : En} {v : V} {i : Str} (h : VR c F L H ρ v (.str i)) : v = .str i := by
  have q := h.clean rfl
  cases q; rfl
theorem je_op0 {a b : Expr} {op : Operator} {pos : Pos} {pa pb : PTE} {g : Int → Int → V} {g' : Int → Int → D} (ho : ∀ j, OpR (X j) (binaryOp op) (rI0 g)) (hg : ∀ ex H i j, TdO ex H (g i j) (g' i j)) (ha : JE X c a pa) (hb : JE X c b pb) :
    JE X c (.BinOp a op b pos) (pI0 g' pa pb) := by
  obtain ⟨ta, a1, a2⟩ := ha.ex
  obtain ⟨tb, b1, b2⟩ := hb.ex
  refine ⟨_, fun j => pe_op (ho j) (a1 j) (b1 j), sim2 (R := fun x y b P => ∃ i j, x = .int i ∧ y = .int j ∧ P (g' i j) b) a2.v b2.v ?_⟩
  rintro F L σ H ρ b x y dx dy Q P r vx vy ⟨i, j, rfl, rfl, hp⟩ k
  exact ⟨i, j, vx.int, vy.int, k _ _ H (Same.refl H) (hg _ _ _ _) hp⟩
def pEq (neg : Bool) (pa pb : PTE) : PTE := fun ρ b P => pa ρ b fun x b => pb ρ b fun y b => SeqAt.shaped x = true ∧ SeqAt.shaped y = true ∧ P (.bool (if neg then !PyData.eqv x y else PyData.eqv x y)) b
theorem VR.dp {F : Fm} {L : Ow} {σ : St} {H : Hp} {ρ : En} {b : Sb} {v : V} {d : D} (h : VR c F L H ρ v d) (r : RS c F L σ H ρ b) (nd : noDc d = true) : Dp c.K H v d := by
  rcases id h with q | ⟨i, a, hl, hn, rfl, hr, _⟩
  · exact TdO.dp d v nd q
  · rcases (r.ow i a hl).2.2 with ⟨q, _⟩ | ⟨_, _, vs, ds2, q3, q4, q5⟩
    · exact absurd q hn
    · rw [hr] at q3
      cases q3
      cases q5 with
      | lst q5 => exact .lst (SqL.of q4) (TdOAll.dp _ _ nd q5)
      | dct _ => cases nd
theorem jc_eq (fm : Fam X c k) {a b : Expr} {pos : Pos} {pa pb : PTE} (ha : JV X c a pa) (hb : JV X c b pb) (hm : behindInMarks .Eq b = false) : JC X c (.Compare a [.Eq] [b] pos) (pEq false pa pb) := by
  obtain ⟨ta, a1, a2⟩ := ha.ex
  obtain ⟨tb, b1, b2⟩ := hb.ex
  refine ⟨tOp (rEqD c.K) ta tb, fun j => ?_, fun j => ?_, sim2 (R := fun x y b P => SeqAt.shaped x = true ∧ SeqAt.shaped y = true ∧ P (.bool (PyData.eqv x y)) b) a2 b2 ?_⟩
  · have := pe_cmpR (op_eqD (fm.room j).units) (a1 j) (b1 j) (pos := pos) hm
    rw [fm.K j] at this; exact this
  · have := pt_cmpR (op_eqD (fm.room j).units) (a1 j) (b1 j) (pos := pos) hm
    rw [fm.K j] at this; exact this
  · rintro F L σ H ρ b x y dx dy Q P r vx vy ⟨s1, s2, hp⟩ k
    exact ⟨dx, dy, vx.dp r (noDc_shaped s1), vy.dp r (noDc_shaped s2), s1, s2, k _ _ H (Same.refl H) (.bl _) hp⟩
theorem jc_ne (fm : Fam X c k) {a b : Expr} {pos : Pos} {pa pb : PTE} (ha : JV X c a pa) (hb : JV X c b pb) (hm : behindInMarks .NotEq b = false) : JC X c (.Compare a [.NotEq] [b] pos) (pEq true pa pb) := by
  obtain ⟨ta, a1, a2⟩ := ha.ex
  obtain ⟨tb, b1, b2⟩ := hb.ex
  refine ⟨tOp (rNeD c.K) ta tb, fun j => ?_, fun j => ?_, sim2 (R := fun x y b P => SeqAt.shaped x = true ∧ SeqAt.shaped y = true ∧ P (.bool (!PyData.eqv x y)) b) a2 b2 ?_⟩
  · have := pe_cmpR (op_neD (fm.room j).units) (a1 j) (b1 j) (pos := pos) hm
    rw [fm.K j] at this; exact this
  · have := pt_cmpR (op_neD (fm.room j).units) (a1 j) (b1 j) (pos := pos) hm
    rw [fm.K j] at this; exact this
  · rintro F L σ H ρ b x y dx dy Q P r vx vy ⟨s1, s2, hp⟩ k
    exact ⟨dx, dy, vx.dp r (noDc_shaped s1), vy.dp r (noDc_shaped s2), s1, s2, k _ _ H (Same.refl H) (.bl _) hp⟩
theorem flat_v {ex : Addr → Prop} {H : Hp} {v : V} {d : D} (h : TdO ex H v d) (f : flatD d = true) : v = vOf d ∧ flatV v = true := by
  cases h with
  | non => exact ⟨rfl, rfl⟩
  | bl _ => exact ⟨rfl, rfl⟩
  | int _ => exact ⟨rfl, rfl⟩
  | str _ => exact ⟨rfl, rfl⟩
  | lst _ _ _ => cases f
  | tup _ _ _ => cases f
  | dct _ _ _ => cases f
  | obj _ => cases f
theorem flat_vs {ex : Addr → Prop} {H : Hp} : ∀ {vs : List V} {ds : List D}, TdOAll ex H vs ds → ds.all flatD = true → vs = ds.map vOf ∧ vs.all flatV = true
  | _, _, .nil, _ => ⟨rfl, rfl⟩
  | _, d :: ds, .cons h1 h2, f => by
    rw [List.all_cons, Bool.and_eq_true] at f
    obtain ⟨a, b⟩ := flat_v h1 f.1
    obtain ⟨a', b'⟩ := flat_vs h2 f.2
    exact ⟨by rw [List.map_cons, a, a'], by rw [List.all_cons, b, b']; rfl⟩
def pIn (neg : Bool) (pa pb : PTE) : PTE := fun ρ b P => pa ρ b fun x b => pb ρ b fun y b => ∃ ds, (y = .list ds ∨ y = .tuple ds) ∧ flatD x = true ∧ ds.all flatD = true ∧ P (.bool (if neg then !inD x ds else inD x ds)) b
theorem VR.flat {F : Fm} {L : Ow} {H : Hp} {ρ : En} {v : V} {d : D} (h : VR c F L H ρ v d) (f : flatD d = true) : v = vOf d ∧ flatV v = true :=
  flat_v (h.clean (by cases d <;> first | rfl | cases f)) f
theorem jc_notIn (fm : Fam X c k) {a b : Expr} {pos : Pos} {pa pb : PTE} (ha : JE X c a pa) (hb : JV X c b pb) (hm : behindInMarks .NotIn b = false) : JC X c (.Compare a [.NotIn] [b] pos) (pIn true pa pb) := by
  obtain ⟨ta, a1, a2⟩ := ha.ex
  obtain ⟨tb, b1, b2⟩ := hb.ex
  refine ⟨tOp (rIn c.K true) ta tb, fun j => ?_, fun j => ?_, sim2 (R := fun x y b P => ∃ ds, (y = .list ds ∨ y = .tuple ds) ∧ flatD x = true ∧ ds.all flatD = true ∧ P (.bool (!inD x ds)) b) a2.v b2 ?_⟩
  · have := pe_cmpR op_notIn_seq (a1 j) (b1 j) (pos := pos) hm
    rw [fm.K j] at this; exact this
  · have := pt_cmpR op_notIn_seq (a1 j) (b1 j) (pos := pos) hm
    rw [fm.K j] at this; exact this
  · rintro F L σ H ρ b x y dx dy Q P r vx vy ⟨ds, hy, f1, f2, hp⟩ k
    obtain ⟨e1, e2⟩ := vx.flat f1
    have fin : ∀ vs, TdOAll (exA F.ex L) H vs ds → flatV x = true ∧ vs.all flatV = true ∧ Q (.bl (if true = true then !inV x vs else inV x vs)) H := fun vs ht => by
      obtain ⟨e3, e4⟩ := flat_vs ht f2
      refine ⟨e2, e4, ?_⟩
      rw [e1, e3]
      exact k _ _ H (Same.refl H) (.bl _) hp
    rcases hy with rfl | rfl
    · obtain ⟨p, vs, rfl, hp', ht⟩ := (vy.seq r).1 ds rfl
      exact ⟨p, vs, rfl, .inl (SqL.of hp'), fin vs ht⟩
    · obtain ⟨p, vs, rfl, hp', ht, _⟩ := (vy.seq r).2 ds rfl
      exact ⟨p, vs, rfl, .inr (SqT.of hp'), fin vs ht⟩
def pTst (p : PTE) : PTT := fun ρ b P => p ρ b fun x b => ∃ k, x = .bool k ∧ P k b
theorem JC.e {e : Expr} {p : PTE} (h : JC X c e p) : JE X c e p := let ⟨t, a, _, s⟩ := h.ex; ⟨t, a, s⟩
theorem JC.t {e : Expr} {p : PTE} (h : JC X c e p) : JT X c e (pTst p) := by
  obtain ⟨t, _, a, s⟩ := h.ex
  refine ⟨_, a, fun F L σ H ρ b Q P r hq q => s F L σ H ρ b _ _ r hq fun v d H' b' e r' td ⟨k, ed, pk⟩ => ?_⟩
  subst ed
  cases td
  exact ⟨k, rfl, q k H' b' e r' pk⟩
def pTru (p : PTE) : PTT := fun ρ b P => p ρ b fun x b => ∃ k, truD x = some k ∧ P k b
theorem isEmpty_all {ex : Addr → Prop} {H : Hp} {vs : List V} {ds : List D} (h : TdOAll ex H vs ds) : (!vs.isEmpty) = !ds.isEmpty := by cases h <;> rfl
theorem jt_tru (fm : Fam X c k) {e : Expr} {p : PTE} (h : JV X c e p) (he : ∀ j whole, isTrue e (X j).env whole = (do let v ← whole; standAt e.pos; holding [v] (truthy v)) := by intro _ _; rfl) : JT X c e (pTru p) := by
  obtain ⟨t, a, s⟩ := h.ex
  refine ⟨fun σ H Q => t σ H fun x H' => ∃ k, TruV c.K x H' k ∧ Q k H', fun j => ?_, fun F L σ H ρ b Q P r hq q => s F L σ H ρ b _ _ r hq fun v d H' b' e r' vr ⟨k, ek, pk⟩ => ?_⟩
  · have := pt_truth (a j) (he j)
    rw [fm.K j] at this; exact this
  · refine ⟨k, ?_, q k H' b' e r' pk⟩
    cases d with
    | none =>
      cases ek
      have td := vr.clean rfl
      cases td; rfl
    | bool x => cases ek; rw [vr.bl]; rfl
    | int i => cases ek; rw [vr.int]; rfl
    | str x => cases ek
    | list ds =>
      cases ek
      obtain ⟨p, vs, rfl, hp, ht⟩ := (vr.seq r').1 ds rfl
      exact .inl ⟨vs, SqL.of hp, (isEmpty_all ht).symm⟩
    | tuple ds =>
      cases ek
      obtain ⟨p, vs, rfl, hp, ht, _⟩ := (vr.seq r').2 ds rfl
      exact .inr (.inl ⟨vs, SqT.of hp, (isEmpty_all ht).symm⟩)
    | dict _ => cases ek
def pTAnd (p q : PTT) : PTT := fun ρ b P => p ρ b fun k b => if k = true then q ρ b P else P false b
def pTOr (p q : PTT) : PTT := fun ρ b P => p ρ b fun k b => if k = true then P true b else q ρ b P
def pTNot (p : PTT) : PTT := fun ρ b P => p ρ b fun k b => P (!k) b
theorem SimT.and {t u : L2.TT} {p q : PTT} (h1 : SimT c t p) (h2 : SimT c u q) : SimT c (tAnd t u) (pTAnd p q) := fun F L σ H ρ b Q P r hp k => h1 F L σ H ρ b _ _ r hp fun x H' b' e r' pk => by
  cases x with
  | true => exact iteT (h2 F L σ H' ρ b' Q P r' pk fun y H2 b2 e2 r2 p2 => k y H2 b2 (e.trans e2) r2 p2)
  | false => exact iteF (k false H' b' e r' pk)
theorem SimT.or {t u : L2.TT} {p q : PTT} (h1 : SimT c t p) (h2 : SimT c u q) : SimT c (tOr t u) (pTOr p q) := fun F L σ H ρ b Q P r hp k => h1 F L σ H ρ b _ _ r hp fun x H' b' e r' pk => by
  cases x with
  | false => exact iteF (h2 F L σ H' ρ b' Q P r' pk fun y H2 b2 e2 r2 p2 => k y H2 b2 (e.trans e2) r2 p2)
  | true => exact iteT (k true H' b' e r' pk)
theorem jw_and1 {a : Expr} {pos : Pos} {p : PTT} (h : JT X c a p) : JW X c (.BoolOp .And [a] pos) p := let ⟨t, x, s⟩ := h.ex; ⟨t, fun j => pw_and1 (x j), s⟩
theorem jw_or1 {a : Expr} {pos : Pos} {p : PTT} (h : JT X c a p) : JW X c (.BoolOp .Or [a] pos) p := let ⟨t, x, s⟩ := h.ex; ⟨t, fun j => pw_or1 (x j), s⟩
theorem jw_and {a b : Expr} {rest : List Expr} {pos : Pos} {p q : PTT} (h : JT X c a p) (h2 : JW X c (.BoolOp .And (b :: rest) pos) q) : JW X c (.BoolOp .And (a :: b :: rest) pos) (pTAnd p q) :=
  let ⟨t, x, s⟩ := h.ex; let ⟨u, y, s2⟩ := h2.ex; ⟨_, fun j => pw_and (x j) (y j), s.and s2⟩
theorem jw_or {a b : Expr} {rest : List Expr} {pos : Pos} {p q : PTT} (h : JT X c a p) (h2 : JW X c (.BoolOp .Or (b :: rest) pos) q) : JW X c (.BoolOp .Or (a :: b :: rest) pos) (pTOr p q) :=
  let ⟨t, x, s⟩ := h.ex; let ⟨u, y, s2⟩ := h2.ex; ⟨_, fun j => pw_or (x j) (y j), s.or s2⟩
theorem JW.t {e : Expr} {p : PTT} (h : JW X c e p) : JT X c e p := let ⟨t, x, s⟩ := h.ex; ⟨t, fun j => (x j).pt, s⟩
theorem jt_not {a : Expr} {pos : Pos} {p : PTT} (h : JT X c a p) : JT X c (.UnaryOp .Not a pos) (pTNot p) :=
  let ⟨t, x, s⟩ := h.ex; ⟨_, fun j => pt_not (x j), fun F L σ H ρ b Q P r hp k => s F L σ H ρ b _ _ r hp fun y H' b' e r' pk => k (!y) H' b' e r' pk⟩
def pAnd (p q : PTE) : PTE := fun ρ b P => p ρ b fun x b => ∃ k, x = .bool k ∧ if k = true then q ρ b P else P (.bool false) b
theorem je_one {op} {a : Expr} {pos : Pos} {p : PTE} (h : JE X c a p) : JE X c (.BoolOp op [a] pos) p := let ⟨t, x, s⟩ := h.ex; ⟨t, fun j => pe_one (x j), s⟩
theorem je_and {a b : Expr} {rest : List Expr} {pos : Pos} {p q : PTE} (h : JE X c a p) (h2 : JE X c (.BoolOp .And (b :: rest) pos) q) : JE X c (.BoolOp .And (a :: b :: rest) pos) (pAnd p q) := by
  obtain ⟨t, x, s⟩ := h.ex
  obtain ⟨u, y, s2⟩ := h2.ex
  refine ⟨_, fun j => pe_and (x j) (y j), fun F L σ H ρ b Q P r hp k => s F L σ H ρ b _ _ r hp fun v d H' b' e r' td ⟨kk, ed, pk⟩ => ?_⟩
  subst ed
  cases td
  refine ⟨kk, rfl, ?_⟩
  cases kk with
  | true => exact iteT (s2 F L σ H' ρ b' Q P r' pk fun v d H2 b2 e2 r2 td p2 => k v d H2 b2 (e.trans e2) r2 td p2)
  | false => exact iteF (k _ _ H' b' e r' (.bl _) pk)
def pChn (g g' : Int → Int → Bool) (pa pb pd : PTE) : PTE := fun ρ b P => pa ρ b fun x b => pb ρ b fun y b => ∃ i j, x = .int i ∧ y = .int j ∧ if g i j = true then pd ρ b fun z b => ∃ l, z = .int l ∧ P (.bool (g' j l)) b else P (.bool false) b
theorem jc_chain {a b d : Expr} {op op' : CmpOp} {pos : Pos} {pa pb pd : PTE} {g g' : Int → Int → Bool} (ho : ∀ j, OpR (X j) (compareOp op) (rI0 fun i j => .bl (g i j))) (ho' : ∀ j, OpR (X j) (compareOp op') (rI0 fun i j => .bl (g' i j)))
    (ha : JE X c a pa) (hb : JE X c b pb) (hd : JE X c d pd) (hm : lastMarks [op, op'] [b, d] = false := by with_unfolding_all rfl) : JC X c (.Compare a [op, op'] [b, d] pos) (pChn g g' pa pb pd) := by
  obtain ⟨ta, a1, a2⟩ := ha.ex
  obtain ⟨tb, b1, b2⟩ := hb.ex
  obtain ⟨td, d1, d2⟩ := hd.ex
  refine ⟨_, fun j => pe_chain (ho j) (ho' j) (a1 j) (b1 j) (d1 j) hm, fun j => pt_chain (ho j) (ho' j) (a1 j) (b1 j) (d1 j) hm, ?_⟩
  intro F L σ H ρ b Q P r hp k
  refine a2 F L σ H ρ b _ _ r hp fun x dx H1 b1 e1 r1 t1 h1 => b2 F L σ H1 ρ b1 _ _ r1 h1 fun y dy H2 b2 e2 r2 t2 ⟨i, j, ex, ey, h2⟩ => ?_
  subst ex ey
  cases t1
  cases t2
  refine ⟨i, j, rfl, rfl, _, rfl, ?_⟩
  cases q : g i j with
  | true =>
    rw [q] at h2
    exact iteT (d2 F L σ H2 ρ b2 _ _ r2 h2 fun z dz H3 b3 e3 r3 t3 ⟨l, ez, h3⟩ => by
      subst ez
      cases t3
      exact ⟨j, l, rfl, rfl, k _ _ H3 b3 (e1.trans (e2.trans e3)) r3 (.bl _) h3⟩)
  | false =>
    rw [q] at h2
    exact iteF (k _ _ H2 b2 (e1.trans e2) r2 (.bl _) h2)
theorem atI_all2 {ex : Addr → Prop} {H : Hp} {vs : List V} {ds : List D} {i : Int} {d : D} (h : TdOAll ex H vs ds) (e : atI ds i = some d) : ∃ v, atI vs i = some v ∧ TdO ex H v d := by
  unfold atI at e ⊢
  rw [h.len]
  cases q : ixN ds.length i with
  | none => rw [q] at e; cases e
  | some j =>
    rw [q] at e
    have e' : ds[j]? = some d := e
    have hj : j < vs.length := by rw [h.len]; exact (List.getElem?_eq_some_iff.mp e').1
    obtain ⟨d', e2, t⟩ := h.at (List.getElem?_eq_getElem hj)
    rw [e'] at e2
    cases e2
    exact ⟨vs[j], List.getElem?_eq_getElem hj, t⟩
def pIx (pa pb : PTE) : PTE := fun ρ b P => pa ρ b fun x b => pb ρ b fun y b => ∃ ds i d, (x = .list ds ∨ x = .tuple ds) ∧ y = .int i ∧ atI ds i = some d ∧ P d b
theorem je_ix (fm : Fam X c k) {a b : Expr} {pos : Pos} {pa pb : PTE} (ha : JV X c a pa) (hb : JE X c b pb) (hs : PlainIx b) : JE X c (.Subscript a b pos) (pIx pa pb) := by
  obtain ⟨ta, a1, a2⟩ := ha.ex
  obtain ⟨tb, b1, b2⟩ := hb.ex
  refine ⟨tOp (rIx c.K) ta tb, fun j => ?_, sim2 (R := fun x y b P => ∃ ds i d, (x = .list ds ∨ x = .tuple ds) ∧ y = .int i ∧ atI ds i = some d ∧ P d b) a2 b2.v ?_⟩
  · have := pe_ix ix_seq (a1 j) (b1 j) (pos := pos) hs
    rw [fm.K j] at this; exact this
  · rintro F L σ H ρ b x y dx dy Q P r vx vy ⟨ds, i, d, hx, rfl, ea, hp⟩ k
    rw [vy.int]
    rcases hx with rfl | rfl
    · obtain ⟨p, vs, rfl, hp', ht⟩ := (vx.seq r).1 ds rfl
      obtain ⟨v, ev, tv⟩ := atI_all2 ht ea
      exact .inl ⟨p, vs, i, v, rfl, rfl, SqL.of hp', ev, k _ _ H (Same.refl H) tv hp⟩
    · obtain ⟨p, vs, rfl, hp', ht, _⟩ := (vx.seq r).2 ds rfl
      obtain ⟨v, ev, tv⟩ := atI_all2 ht ea
      exact .inr (.inl ⟨p, vs, i, v, rfl, rfl, SqT.of hp', ev, k _ _ H (Same.refl H) tv hp⟩)
theorem all_same {ex : Addr → Prop} {H H' : Hp} {vs : List V} {ds : List D} (h : TdOAll ex H vs ds) (s : Same H H') : TdOAll ex H' vs ds := TdOAll.to (fun b o n e _ => ⟨n, s b o e⟩) ds vs h
theorem newIn {F : Fm} {L : Ow} {σ : St} {H : Hp} {ρ : En} {b : Sb} (r : RS c F L σ H ρ b) {p : Addr} (hp : H p = none) : ¬ exA F.ex L p := fun z => by
  obtain ⟨o, h, _⟩ := r.tr p z; rw [hp] at h; cases h
def pNil : PTA := fun _ b P => P [] b
def pCons (p : PTE) (q : PTA) : PTA := fun ρ b P => p ρ b fun x b => q ρ b fun xs b => P (x :: xs) b
theorem ja_nil : JA X c [] pNil := ⟨tNil, fun _ => pa_nil, fun F L σ H ρ b Q P r h k => k [] [] H b (.refl H) r .nil h⟩
theorem ja_cons {e : Expr} {es : List Expr} {p : PTE} {q : PTA} (h : JE X c e p) (hs : JA X c es q) (hn : notStar e = true := by rfl) : JA X c (e :: es) (pCons p q) := by
  obtain ⟨t, x, s⟩ := h.ex
  obtain ⟨u, y, s1⟩ := hs.ex
  refine ⟨_, fun j => pc (x j) (y j) hn, fun F L σ H ρ b Q P r hp k => s F L σ H ρ b _ _ r hp fun v d H1 b1 e1 r1 t1 h1 => s1 F L σ H1 ρ b1 _ _ r1 h1 fun vs ds H2 b2 e2 r2 t2 h2 => ?_⟩
  exact k _ _ H2 b2 (e1.trans e2) r2 (.cons (evu t1 e2) t2) h2
def pTup (q : PTA) : PTE := fun ρ b P => q ρ b fun ds b => ds.length ≤ 1000 ∧ P (.tuple ds) b
def pLst (q : PTA) : PTE := fun ρ b P => q ρ b fun ds b => ds.length ≤ 1000 ∧ P (.list ds) b
theorem len_sz {ex : Addr → Prop} {H : Hp} {vs : List V} {ds : List D} (h : TdOAll ex H vs ds) {n : Nat} (hl : ds.length ≤ n) (hn : n ≤ 16777216 := by first | decide | (dsimp only [Plain]; decide)) : vs.length ≤ sizeLine := by
  rw [h.len, sizeLine_eq]; omega
theorem je_tup {es : List Expr} {q : PTA} {x1} {pos : Pos} (h : JA X c es q) : JE X c (.Tuple es x1 pos) (pTup q) := by
  obtain ⟨u, y, s1⟩ := h.ex
  refine ⟨_, fun j => pe_tup (y j), fun F L σ H ρ b Q P r hp k => s1 F L σ H ρ b _ _ r hp fun vs ds H2 b2 e2 r2 t2 ⟨hl, h2⟩ => ⟨len_sz t2 hl, fun p hp => ?_⟩⟩
  have sm := same_new hp (.tup vs)
  exact k _ _ _ b2 (e2.trans (.same sm)) (r2.same sm) (.tup (newIn r2 hp) upd_same (all_same t2 sm)) h2
theorem new_all {ex : Addr → Prop} {H : Hp} {p : Addr} {o : HO} {vs : List V} {ds : List D} (h : TdOAll ex H vs ds) (hp : H p = none) : TdOAll (fun z => ex z ∨ z = p) (upd H p o) vs ds :=
  TdOAll.to (fun b u n e _ => ⟨fun z => z.elim n (ne_of_none e hp), (same_new hp o) b u e⟩) ds vs h
theorem new_sto {mg : Str → Option Value} {ex : Addr → Prop} {H : Hp} {b : Sb} {p : Addr} {o : HO} (h : Sto mg ex H b) (hp : H p = none) : Sto mg (fun z => ex z ∨ z = p) (upd H p o) b :=
  h.go (fun z u n e _ => ⟨fun q => q.elim n (ne_of_none e hp), (same_new hp o) z u e⟩) fun z u e _ => (same_new hp o) z u e
theorem jf_lst {es : List Expr} {q : PTA} {pos : Pos} (h : JA X c es q) : JF X c (.List es pos) (pLst q) := by
  obtain ⟨u, y, s1⟩ := h.ex
  refine ⟨_, fun j => pe_lst (y j), fun F L σ H ρ b Q P r hp k => s1 F L σ H ρ b _ _ r hp fun vs ds H2 b2 e2 r2 t2 ⟨hl, h2⟩ => ⟨len_sz t2 hl, fun p hp => ?_⟩⟩
  have sm := same_new hp (.lst vs)
  have hp0 : H p = none := by
    cases q : H p with
    | none => rfl
    | some o =>
      exfalso
      by_cases hu : isU c L p
      · obtain ⟨xs, hx⟩ := (r2.urn hu).lst
        rw [hp] at hx; cases hx
      · exact (e2 p o hu q).nn hp
  exact k p vs ds _ b2 (e2.trans (.same sm)) (r2.same sm) hp0 upd_same (new_all t2 hp) (new_sto r2.st hp) h2
def spP (Fd : List D → (D → Prop) → Prop) : Sp := fun vs H Q _ => ∃ (ex : Addr → Prop) (ds : List D) (P : D → Prop), (∀ z, ex z → ∃ o, H z = some o ∧ nT o) ∧ TdOAll ex H vs ds ∧ Fd ds P ∧ ∀ v d H', Same H H' → TdO ex H' v d → P d → Q v H'
def KpU (u : Addr) (H H' : Hp) : Prop := ∀ z o, z ≠ u → H z = some o → Kp o H' z
def spS (mg : Str → Option Value) (Fd : List D → Sb → KE → Prop) : Sp := fun vs H Q _ => ∃ (ex : Addr → Prop) (ds : List D) (b : Sb) (P : KE), (∀ z, ex z → ∃ o, H z = some o ∧ nT o) ∧ Sto mg ex H b ∧ TdOAll ex H vs ds ∧ Fd ds b P ∧
  ∀ v d H' b', b'.n = b.n → (∀ z o, H z = some o → Kp o H' z) → Sto mg ex H' b' → TdO ex H' v d → P d b' → Q v H'
def spU (mg : Str → Option Value) (Fd : List D → Sb → KE → Prop) : Sp := fun vs H Q _ => ∃ (u : Addr) (vs' : List V) (ex : Addr → Prop) (ds : List D) (b : Sb) (P : KE), vs = .ref u :: vs' ∧ UrnAt H u b.n ∧ ex u ∧ (∀ z, ex z → ∃ o, H z = some o ∧ nT o) ∧ Sto mg ex H b ∧ TdOAll ex H vs' ds ∧ Fd ds b P ∧
  ∀ v d H' b', KpU u H H' → UrnAt H' u b'.n → Sto mg ex H' b' → TdO ex H' v d → P d b' → Q v H'
def pCall (Fd : List D → (D → Prop) → Prop) (q : PTA) : PTE := fun ρ b P => q ρ b fun ds b => Fd ds fun d => P d b
theorem je_call (fm : Fam X c k) {x : Str} {e : Expr} {es : List Expr} {q : PTA} {k' : Nat} {ps : List Str} {p pos : Pos} {Fd : List D → (D → Prop) → Prop} (hD : ∀ j, Dn (X j).prog (X j).w (X j).K (X j).mg (X j).base k' x ps (spP Fd)) (ha : JA X c (e :: es) q)
    (hg : ∀ j, Gl (X j) x := by intro _; rfl) (hle : k' ≤ k := by first | decide | omega) (hd : (x == ("__debug__" : Str)) = false := by first | decide | (dsimp only [Plain]; decide)) (hp : (e :: es).all notStar = true := by rfl) : JE X c (.Call (.Name x p) (e :: es) [] pos) (pCall Fd q) := by
  obtain ⟨t, y, s⟩ := ha.ex
  refine ⟨_, fun j => pd (hD j) (fm.room j) (hg j) (y j) hle hd hp, fun F L σ H ρ b Q P r hq k => s F L σ H ρ b _ _ r hq fun vs ds H1 b1 e1 r1 t1 h1 => ?_⟩
  show spP Fd (vs ++ []) H1 Q E0
  rw [List.append_nil]
  exact ⟨_, ds, _, r1.tr, t1, h1, fun v d H2 sm td hd => k v d H2 b1 (e1.trans (.same sm)) (r1.same sm) td hd⟩
def pCallU (iu : Nat) (Fd : List D → Sb → KE → Prop) (q : PTA) : PTE := fun ρ b P => ∃ d, ρ[iu]? = some (some d) ∧ q ρ b fun ds b => Fd ds b P
theorem je_callU (fm : Fam X c k) (iu : Nat) {x xu : Str} {es : List Expr} {q : PTA} {k' : Nat} {ps : List Str} {p pu pos : Pos} {Fd : List D → Sb → KE → Prop} (hD : ∀ j, Dn (X j).prog (X j).w (X j).K (X j).mg (X j).base k' x ps (spU c.mg Fd)) (ha : JA X c es q) (hu : c.ur = some iu := by rfl)
    (hN : ∀ j, (X j).N[iu]? = some xu := by intro _; rfl) (hv : ∀ j, Vis (X j).env.scope xu := by intro _; first | exact Or.inl rfl | exact Or.inr (Or.inl rfl) | exact Or.inr (Or.inr rfl)) (hud : (xu == ("__debug__" : Str)) = false := by first | decide | (dsimp only [Plain]; decide)) (hcd : (xu == ("__classdict__" : Str)) = false := by first | decide | (dsimp only [Plain]; decide))
    (hg : ∀ j, Gl (X j) x := by intro _; rfl) (hle : k' ≤ k := by first | decide | omega) (hd : (x == ("__debug__" : Str)) = false := by first | decide | (dsimp only [Plain]; decide)) (hp : (Expr.Name xu pu :: es).all notStar = true := by rfl) : JE X c (.Call (.Name x p) (.Name xu pu :: es) [] pos) (pCallU iu Fd q) := by
  obtain ⟨t, y, s⟩ := ha.ex
  refine ⟨_, fun j => pd (hD j) (fm.room j) (hg j) (pc (pe_var (hN j) (hv j) hud hcd) (y j) rfl) hle hd hp, fun F L σ H ρ b Q P r ⟨du, hdu, hq⟩ k => ?_⟩
  obtain ⟨u, hl⟩ := (r.nur iu hu).2 du hdu
  have isu : isU c L u := ⟨iu, hu, hl⟩
  refine ⟨.ref u, (r.ow iu u hl).1, s F L σ H ρ b _ _ r hq fun vs ds H1 b1 e1 r1 t1 h1 => ?_⟩
  show spU c.mg Fd ((.ref u :: vs) ++ []) H1 Q E0
  rw [List.append_nil]
  refine ⟨u, vs, _, ds, b1, P, rfl, r1.urn isu, isu.ex, r1.tr, r1.st, t1, h1, fun v d H2 b2 kp ur st td hd => ?_⟩
  have ev : EvU c L H1 H2 := fun z o n hz => kp z o (fun e => n (e ▸ isu)) hz
  refine k v d H2 b2 (e1.trans ev) (r1.go ev (fun z hz => ?_) st) td hd
  obtain ⟨i, hi, hli⟩ := hz
  rw [hu] at hi
  cases hi
  rw [hl] at hli
  cases hli
  exact ur
def pCallUN (iu : Nat) (Fd : List D → Nat → (D → Nat → Prop) → Prop) (q : PTA) : PTE := fun ρ b P => ∃ d, ρ[iu]? = some (some d) ∧ q ρ b fun ds b => noObL ds = true ∧ Fd ds b.n fun d n => P d (b.to n)
theorem je_callUN (fm : Fam X c k) (iu : Nat) {x xu : Str} {es : List Expr} {q : PTA} {k' : Nat} {ps : List Str} {p pu pos : Pos} {Fd : List D → Nat → (D → Nat → Prop) → Prop} (hD : ∀ j, Dn (X j).prog (X j).w (X j).K (X j).mg (X j).base k' x ps (PU.spU Fd)) (ha : JA X c es q) (hu : c.ur = some iu := by rfl)
    (hN : ∀ j, (X j).N[iu]? = some xu := by intro _; rfl) (hv : ∀ j, Vis (X j).env.scope xu := by intro _; first | exact Or.inl rfl | exact Or.inr (Or.inl rfl) | exact Or.inr (Or.inr rfl)) (hud : (xu == ("__debug__" : Str)) = false := by first | decide | (dsimp only [Plain]; decide)) (hcd : (xu == ("__classdict__" : Str)) = false := by first | decide | (dsimp only [Plain]; decide))
    (hg : ∀ j, Gl (X j) x := by intro _; rfl) (hle : k' ≤ k := by first | decide | omega) (hd : (x == ("__debug__" : Str)) = false := by first | decide | (dsimp only [Plain]; decide)) (hp : (Expr.Name xu pu :: es).all notStar = true := by rfl) : JE X c (.Call (.Name x p) (.Name xu pu :: es) [] pos) (pCallUN iu Fd q) := by
  obtain ⟨t, y, s⟩ := ha.ex
  refine ⟨_, fun j => pd (hD j) (fm.room j) (hg j) (pc (pe_var (hN j) (hv j) hud hcd) (y j) rfl) hle hd hp, fun F L σ H ρ b Q P r ⟨du, hdu, hq⟩ k => ?_⟩
  obtain ⟨u, hl⟩ := (r.nur iu hu).2 du hdu
  have isu : isU c L u := ⟨iu, hu, hl⟩
  refine ⟨.ref u, (r.ow iu u hl).1, s F L σ H ρ b _ _ r hq fun vs ds H1 b1 e1 r1 t1 ⟨hno, h1⟩ => ?_⟩
  show PU.spU Fd ((.ref u :: vs) ++ []) H1 Q E0
  rw [List.append_nil]
  refine ⟨u, vs, _, ds, b1.n, _, rfl, r1.urn isu, isu.ex, fun z hz => let ⟨o, a, b⟩ := r1.tr z hz; ⟨o, a, b.1⟩, TdOAll.x _ _ hno t1, h1, fun v d H2 n2 kp ur td hd => ?_⟩
  have ev : EvU c L H1 H2 := fun z o n hz => .of (kp z o (fun e => n (e ▸ isu)) hz)
  have nu : ∀ z o, H1 z = some o → ownK o → z ≠ u := fun z o e w q => by
    obtain ⟨o', h2, h3⟩ := r1.tr u isu.ex
    rw [q, h2] at e; cases e; exact h3.2 w
  refine k v d H2 (b1.to n2) (e1.trans ev) (r1.go ev (fun z hz => ?_) (r1.st.go (fun z o n e _ => ⟨n, kp z o (fun q => n (q ▸ isu.ex)) e⟩) fun z o e w => kp z o (nu z o e w) e)) (TdO.ofX _ _ td) hd
  obtain ⟨i, hi, hli⟩ := hz
  rw [hu] at hi
  cases hi
  rw [hl] at hli
  cases hli
  exact ur
def pCallN (Fd : List D → (D → Prop) → Prop) (q : PTA) : PTE := fun ρ b P => q ρ b fun ds b => noObL ds = true ∧ Fd ds fun d => P d b
theorem je_callN (fm : Fam X c k) {x : Str} {e : Expr} {es : List Expr} {q : PTA} {k' : Nat} {ps : List Str} {p pos : Pos} {Fd : List D → (D → Prop) → Prop} (hD : ∀ j, Dn (X j).prog (X j).w (X j).K (X j).mg (X j).base k' x ps (PU.spP Fd)) (ha : JA X c (e :: es) q)
    (hg : ∀ j, Gl (X j) x := by intro _; rfl) (hle : k' ≤ k := by first | decide | omega) (hd : (x == ("__debug__" : Str)) = false := by first | decide | (dsimp only [Plain]; decide)) (hp : (e :: es).all notStar = true := by rfl) : JE X c (.Call (.Name x p) (e :: es) [] pos) (pCallN Fd q) := by
  obtain ⟨t, y, s⟩ := ha.ex
  refine ⟨_, fun j => pd (hD j) (fm.room j) (hg j) (y j) hle hd hp, fun F L σ H ρ b Q P r hq k => s F L σ H ρ b _ _ r hq fun vs ds H1 b1 e1 r1 t1 ⟨hno, h1⟩ => ?_⟩
  show PU.spP Fd (vs ++ []) H1 Q E0
  rw [List.append_nil]
  exact ⟨_, ds, _, fun z hz => let ⟨o, a, b⟩ := r1.tr z hz; ⟨o, a, b.1⟩, TdOAll.x _ _ hno t1, h1, fun v d H2 sm td hd => k v d H2 b1 (e1.trans (.same sm)) (r1.same sm) (TdO.ofX _ _ td) hd⟩
theorem je_b1 {x : Str} {id : String} {e : Expr} {pe : PTE} {r : List V → Hp → VK → Prop} {p pos : Pos} {R : D → Sb → KE → Prop} (hc : ∀ j, CallR (X j) (.builtin id) r) (hm : ∀ j, (X j).mg x = none) (hv : bootBuiltins x = some (.builtin id)) (ha : JV X c e pe)
    (h : ∀ (F : Fm) (L : Ow) (σ : St) (H : Hp) (ρ : En) (b : Sb) (v : V) (d : D) (Q : VK) (P : KE), RS c F L σ H ρ b → VR c F L H ρ v d → R d b P → (∀ v' d' H', Same H H' → TdO (exA F.ex L) H' v' d' → P d' b → Q v' H') → r [v] H Q)
    (hg : ∀ j, Gl (X j) x := by intro _; rfl) (hp : [e].all notStar = true := by rfl) (hn : x ≠ "__name__" := by first | decide | (dsimp only [Plain]; decide)) (hdb : (x == ("__debug__" : Str)) = false := by first | decide | (dsimp only [Plain]; decide)) : JE X c (.Call (.Name x p) [e] [] pos) (fun ρ b P => pe ρ b fun d b => R d b P) := by
  obtain ⟨t, y, s⟩ := ha.ex
  have hn1 : notStar e = true := by simpa using hp
  refine ⟨_, fun j => pb (hc j) (hg j) (hm j) hv (ja1 y hn1 j) hp hn hdb, fun F L σ H ρ b Q P rs hq k => s F L σ H ρ b _ _ rs hq fun v d H1 b1 e1 r1 vr h1 => ?_⟩
  exact h F L σ H1 ρ b1 v d Q P r1 vr h1 fun v' d' H2 sm td hd => k v' d' H2 b1 (e1.trans (.same sm)) (r1.same sm) td hd
theorem je_y1 {x : Str} {Ty : String} {e : Expr} {pe : PTE} {r : List V → Hp → VK → Prop} {p pos : Pos} {R : D → Sb → KE → Prop} (hc : ∀ j, CallR (X j) (.type Ty) r) (hm : ∀ j, (X j).mg x = none) (hv : bootBuiltins x = some (.type Ty)) (ha : JV X c e pe)
    (h : ∀ (F : Fm) (L : Ow) (σ : St) (H : Hp) (ρ : En) (b : Sb) (v : V) (d : D) (Q : VK) (P : KE), RS c F L σ H ρ b → VR c F L H ρ v d → R d b P → (∀ v' d' H', Same H H' → TdO (exA F.ex L) H' v' d' → P d' b → Q v' H') → r [v] H Q)
    (hg : ∀ j, Gl (X j) x := by intro _; rfl) (hp : [e].all notStar = true := by rfl) (hn : x ≠ "__name__" := by first | decide | (dsimp only [Plain]; decide)) (hdb : (x == ("__debug__" : Str)) = false := by first | decide | (dsimp only [Plain]; decide)) : JE X c (.Call (.Name x p) [e] [] pos) (fun ρ b P => pe ρ b fun d b => R d b P) := by
  obtain ⟨t, y, s⟩ := ha.ex
  have hn1 : notStar e = true := by simpa using hp
  refine ⟨_, fun j => py (hc j) (hg j) (hm j) hv (ja1 y hn1 j) hp hn hdb, fun F L σ H ρ b Q P rs hq k => s F L σ H ρ b _ _ rs hq fun v d H1 b1 e1 r1 vr h1 => ?_⟩
  exact h F L σ H1 ρ b1 v d Q P r1 vr h1 fun v' d' H2 sm td hd => k v' d' H2 b1 (e1.trans (.same sm)) (r1.same sm) td hd
theorem none_back {F : Fm} {L : Ow} {σ : St} {H H2 : Hp} {ρ : En} {b : Sb} {p : Addr} (r2 : RS c F L σ H2 ρ b) (e2 : EvU c L H H2) (hp : H2 p = none) : H p = none := by
  cases q : H p with
  | none => rfl
  | some o =>
    exfalso
    by_cases hu : isU c L p
    · obtain ⟨xs, hx⟩ := (r2.urn hu).lst
      rw [hp] at hx; cases hx
    · exact (e2 p o hu q).nn hp
def rLen (d : D) (b : Sb) (P : KE) : Prop := ∃ ds, (d = .list ds ∨ d = .tuple ds) ∧ P (.int ds.length) b
theorem je_len (fm : Fam X c k) {e : Expr} {pe : PTE} {p pos : Pos} (hm : ∀ j, (X j).mg "len" = none) (ha : JV X c e pe) (hg : ∀ j, Gl (X j) "len" := by intro _; rfl) (hp : [e].all notStar = true := by rfl) : JE X c (.Call (.Name "len" p) [e] [] pos) (fun ρ b P => pe ρ b fun d b => rLen d b P) := by
  refine je_b1 (id := "len") (r := fun xs H Q => ∃ p ys, xs = [.ref p] ∧ (SqL c.K H p ys ∨ SqT c.K H p ys) ∧ Q (.int ys.length) H) (fun j => ?_) hm (by decide +kernel) ha ?_ hg hp
  · have := call_len_seq (X := X j); rw [fm.K j] at this; exact this
  · rintro F L σ H ρ b v d Q P r vr ⟨ds, hd, hP⟩ k
    rcases hd with rfl | rfl
    · obtain ⟨p, vs, rfl, hp', ht⟩ := (vr.seq r).1 ds rfl
      exact ⟨p, vs, rfl, .inl (SqL.of hp'), by rw [ht.len]; exact k _ _ H (Same.refl H) (.int _) hP⟩
    · obtain ⟨p, vs, rfl, hp', ht, _⟩ := (vr.seq r).2 ds rfl
      exact ⟨p, vs, rfl, .inr (SqT.of hp'), by rw [ht.len]; exact k _ _ H (Same.refl H) (.int _) hP⟩
def rRepr (d : D) (b : Sb) (P : KE) : Prop := Sm d ∧ P (.str d.shown) b
theorem je_repr (fm : Fam X c k) {e : Expr} {pe : PTE} {p pos : Pos} (hm : ∀ j, (X j).mg "repr" = none) (ha : JV X c e pe) (hg : ∀ j, Gl (X j) "repr" := by intro _; rfl) (hp : [e].all notStar = true := by rfl) : JE X c (.Call (.Name "repr" p) [e] [] pos) (fun ρ b P => pe ρ b fun d b => rRepr d b P) := by
  refine je_b1 (id := "repr") (r := fun xs H Q => ∃ x d, xs = [x] ∧ Dp c.K H x d ∧ Sm d ∧ Q (.str d.shown) H) (fun j => ?_) hm (by decide +kernel) ha ?_ hg hp
  · have := call_repr (X := X j) (fm.room j).gd (fm.room j).units; rw [fm.K j] at this; exact this
  · rintro F L σ H ρ b v d Q P r vr ⟨hs, hP⟩ k
    exact ⟨v, d, rfl, vr.dp r hs.nd, hs, k _ _ H (Same.refl H) (.str _) hP⟩
theorem all_bl {ex : Addr → Prop} {H : Hp} : ∀ {bs : List Bool} {vs : List V}, TdOAll ex H vs (bs.map PyData.bool) → vs = bs.map V.bl
  | [], _, .nil => rfl
  | b :: bs, _, .cons h1 h2 => by cases h1; rw [all_bl h2]; rfl
theorem int_all {ex : Addr → Prop} {H : Hp} : ∀ (bs : List Int), TdOAll ex H (bs.map V.int) (bs.map PyData.int)
  | [] => .nil
  | b :: bs => .cons (.int b) (int_all bs)
def rAllD (d : D) (b : Sb) (P : KE) : Prop := ∃ bs : List Bool, d = .list (bs.map .bool) ∧ P (.bool (bs.all id)) b
theorem je_all (fm : Fam X c k) {e : Expr} {pe : PTE} {p pos : Pos} (hm : ∀ j, (X j).mg "all" = none) (ha : JV X c e pe) (hg : ∀ j, Gl (X j) "all" := by intro _; rfl) (hp : [e].all notStar = true := by rfl) : JE X c (.Call (.Name "all" p) [e] [] pos) (fun ρ b P => pe ρ b fun d b => rAllD d b P) := by
  refine je_b1 (id := "all") (r := rAll c.K) (fun j => ?_) hm (by decide +kernel) ha ?_ hg hp
  · have := cr_all (fm.calm j); rw [fm.K j] at this; exact this
  · rintro F L σ H ρ b v d Q P r vr ⟨bs, rfl, hP⟩ k
    obtain ⟨p, vs, rfl, hp', ht⟩ := (vr.seq r).1 _ rfl
    rw [all_bl ht] at hp'
    exact ⟨p, bs, rfl, SqL.of hp', k _ _ H (Same.refl H) (.bl _) hP⟩
def rTupD (d : D) (b : Sb) (P : KE) : Prop := ∃ ds, (d = .list ds ∨ d = .tuple ds) ∧ P (.tuple ds) b
theorem je_tuple (fm : Fam X c k) {e : Expr} {pe : PTE} {p pos : Pos} (hm : ∀ j, (X j).mg "tuple" = none) (ha : JV X c e pe) (hg : ∀ j, Gl (X j) "tuple" := by intro _; rfl) (hp : [e].all notStar = true := by rfl) : JE X c (.Call (.Name "tuple" p) [e] [] pos) (fun ρ b P => pe ρ b fun d b => rTupD d b P) := by
  refine je_y1 (Ty := "tuple") (r := fun xs H Q => ∃ p ys, xs = [.ref p] ∧ ((SqL c.K H p ys ∧ ∀ l, H l = none → Q (.ref l) (upd H l (.tup ys))) ∨ (SqT c.K H p ys ∧ Q (.ref p) H))) (fun j => ?_) hm (by decide +kernel) ha ?_ hg hp
  · have := call_tuple_of (X := X j); rw [fm.K j] at this; exact this
  · rintro F L σ H ρ b v d Q P r vr ⟨ds, hd, hP⟩ k
    rcases hd with rfl | rfl
    · obtain ⟨p, vs, rfl, hp', ht⟩ := (vr.seq r).1 ds rfl
      refine ⟨p, vs, rfl, .inl ⟨SqL.of hp', fun l hl => ?_⟩⟩
      have sm := same_new hl (.tup vs)
      exact k _ _ _ sm (.tup (newIn r hl) upd_same (all_same ht sm)) hP
    · obtain ⟨p, vs, rfl, hp', ht, np⟩ := (vr.seq r).2 ds rfl
      exact ⟨p, vs, rfl, .inr ⟨SqT.of hp', k _ _ H (Same.refl H) (.tup np hp' ht) hP⟩⟩
theorem je_mm {x : Str} {id : String} {a b : Expr} {pa pb' : PTE} {p pos : Pos} {g : Int → Int → Int} (hc : ∀ j, CallR (X j) (.builtin id) (fun xs H Q => ∃ i j, xs = [.int i, .int j] ∧ Q (.int (g i j)) H)) (hm : ∀ j, (X j).mg x = none) (hv : bootBuiltins x = some (.builtin id)) (ha : JE X c a pa) (hb : JE X c b pb')
    (hg : ∀ j, Gl (X j) x := by intro _; rfl) (hp : [a, b].all notStar = true := by rfl) (hn : x ≠ "__name__" := by first | decide | (dsimp only [Plain]; decide)) (hdb : (x == ("__debug__" : Str)) = false := by first | decide | (dsimp only [Plain]; decide)) : JE X c (.Call (.Name x p) [a, b] [] pos) (pI0 (fun i j => .int (g i j)) pa pb') := by
  obtain ⟨t, y, s⟩ := ha.ex
  obtain ⟨u, z, s2⟩ := hb.ex
  have hp' : notStar a = true ∧ notStar b = true := by simpa using hp
  refine ⟨_, fun j => pb (hc j) (hg j) (hm j) hv (pc (y j) (pc (z j) pa_nil hp'.2) hp'.1) hp hn hdb, fun F L σ H ρ b Q P rs hq k => s F L σ H ρ b _ _ rs hq fun v d H1 b1 e1 r1 td h1 => s2 F L σ H1 ρ b1 _ _ r1 h1 fun v2 d2 H2 b2 e2 r2 td2 ⟨i, j, ed, ed2, h2⟩ => ?_⟩
  subst ed ed2
  cases td
  cases td2
  exact ⟨i, j, rfl, k _ _ H2 b2 (e1.trans e2) r2 (.int _) h2⟩
theorem je_max2 (fm : Fam X c k) {a b : Expr} {pa pb' : PTE} {p pos : Pos} (hm : ∀ j, (X j).mg "max" = none) (ha : JE X c a pa) (hb : JE X c b pb') (hg : ∀ j, Gl (X j) "max" := by intro _; rfl) (hp : [a, b].all notStar = true := by rfl) : JE X c (.Call (.Name "max" p) [a, b] [] pos) (pI0 (fun i j => .int (imax i j)) pa pb') :=
  je_mm (fun j => call_max2 (fm.calm j)) hm (by decide +kernel) ha hb hg hp
theorem je_min2 (fm : Fam X c k) {a b : Expr} {pa pb' : PTE} {p pos : Pos} (hm : ∀ j, (X j).mg "min" = none) (ha : JE X c a pa) (hb : JE X c b pb') (hg : ∀ j, Gl (X j) "min" := by intro _; rfl) (hp : [a, b].all notStar = true := by rfl) : JE X c (.Call (.Name "min" p) [a, b] [] pos) (pI0 (fun i j => .int (imin i j)) pa pb') :=
  je_mm (fun j => call_min2 (fm.calm j)) hm (by decide +kernel) ha hb hg hp
def isOb (d : D) : Bool := match d with
  | .dict [(.list [], .int _)] => true
  | _ => false
def IsiOk (T : String) : Prop := ∀ (K : PySem.W.Frag) (ex : Addr → Prop) (H : Hp) (v : V) (d : D), TdO ex H v d → isOb d = false → ∃ t, TyP K H v t ∧ PySem.W.kitOne K t (.type T) = some (isiD T d)
theorem isi_tuple : IsiOk "tuple" := fun K ex H v d h nob => by
  cases h <;> first | exact Bool.noConfusion (show true = false from nob) | exact ⟨_, .inl (.non), rfl⟩ | exact ⟨_, .inl (.bl _), rfl⟩ | exact ⟨_, .inl (.int _), rfl⟩ | exact ⟨_, .inl (.str _), rfl⟩ | exact ⟨_, .inl (.lst (by assumption)), rfl⟩ | exact ⟨_, .inl (.tup (by assumption)), rfl⟩ | exact ⟨_, .inr ⟨_, _, rfl, by assumption, rfl⟩, rfl⟩
def pIsi (T : String) (p : PTE) : PTE := fun ρ b P => p ρ b fun d b => isOb d = false ∧ P (.bool (isiD T d)) b
theorem je_isi (fm : Fam X c k) {e : Expr} {pe : PTE} {p p2 pos : Pos} {x : Str} {T : String} (hT : IsiOk T) (hm : ∀ j, (X j).mg "isinstance" = none) (hx : ∀ j, (X j).mg x = none) (hbx : bootBuiltins x = some (.type T)) (ha : JE X c e pe) (hg : ∀ j, Gl (X j) "isinstance" := by intro _; rfl) (hgx : ∀ j, Gl (X j) x := by intro _; rfl)
    (hp : [e, Expr.Name x p2].all notStar = true := by rfl) (hn : x ≠ "__name__" := by first | decide | (dsimp only [Plain]; decide)) (hd : (x == ("__debug__" : Str)) = false := by first | decide | (dsimp only [Plain]; decide)) : JE X c (.Call (.Name "isinstance" p) [e, .Name x p2] [] pos) (pIsi T pe) := by
  obtain ⟨t, y, s⟩ := ha.ex
  have hp' : notStar e = true := by simpa [notStar] using hp
  refine ⟨tCB (fun xs H Q => ∃ x T t b, xs = [x, .ty T] ∧ TyP c.K H x t ∧ PySem.W.kitOne c.K t (.type T) = some b ∧ Q (.bl b) H) (tCons t (tCons (tC (.ty T)) tNil)), fun j => ?_, fun F L σ H ρ b Q P rs hq k => s F L σ H ρ b _ _ rs hq fun v d H1 b1 e1 r1 td ⟨nob, h1⟩ => ?_⟩
  · have := pb (call_isi (X := X j)) (hg j) (hm j) (by decide +kernel) (pc (y j) (pc (pe_bltn (v := .ty T) (hgx j) (hx j) hbx rfl hn hd) pa_nil rfl) hp') hp (p := p) (pos := pos)
    rw [fm.K j] at this; exact this
  · obtain ⟨ty, h2, h3⟩ := hT c.K _ _ _ _ td nob
    exact ⟨v, T, ty, _, rfl, h2, h3, k _ _ H1 b1 e1 r1 (.bl _) h1⟩
theorem all_flat {ex : Addr → Prop} {H : Hp} {vs : List V} {ds : List D} (h : TdOAll ex H vs ds) : ∀ n : Nat, TdOAll ex H (List.replicate n vs).flatten (List.replicate n ds).flatten
  | 0 => .nil
  | n + 1 => by rw [List.replicate_succ, List.replicate_succ, List.flatten_cons, List.flatten_cons]; exact h.app (all_flat h n)
def pRep (pa pb : PTE) : PTE := fun ρ b P => pa ρ b fun x b => pb ρ b fun y b => ∃ ds n, x = .tuple ds ∧ y = .int n ∧ 2 ≤ n ∧ n ≤ 1000 ∧ ds ≠ [] ∧ ds.length ≤ 1000 ∧ P (.tuple (List.replicate n.toNat ds).flatten) b
theorem je_rep (fm : Fam X c k) {a b : Expr} {pos : Pos} {pa pb : PTE} (ha : JE X c a pa) (hb : JE X c b pb) : JE X c (.BinOp a .Mult b pos) (pRep pa pb) := by
  obtain ⟨ta, a1, a2⟩ := ha.ex
  obtain ⟨tb, b1, b2⟩ := hb.ex
  refine ⟨tOp (rRepT c.K) ta tb, fun j => ?_, sim2 (R := fun x y b P => ∃ ds n, x = .tuple ds ∧ y = .int n ∧ 2 ≤ n ∧ n ≤ 1000 ∧ ds ≠ [] ∧ ds.length ≤ 1000 ∧ P (.tuple (List.replicate n.toNat ds).flatten) b) a2.v b2.v ?_⟩
  · have := pe_op op_repT (a1 j) (b1 j) (pos := pos)
    rw [fm.K j] at this; exact this
  · rintro F L σ H ρ b x y dx dy Q P r vx vy ⟨ds, n, rfl, rfl, h2, h3, hne, hl, hp⟩ k
    obtain ⟨p, vs, rfl, hp', ht, np⟩ := (vx.seq r).2 ds rfl
    rw [vy.int]
    refine ⟨p, n, vs, rfl, rfl, SqT.of hp', h2, h3, fun e => hne (List.length_eq_zero_iff.mp (by rw [← ht.len, e]; rfl)), by rw [ht.len]; exact hl, fun z hz => ?_⟩
    have sm := same_new hz (.tup (List.replicate n.toNat vs).flatten)
    exact k _ _ _ sm (.tup (newIn r hz) upd_same (all_same (all_flat ht _) sm)) hp
def SimG (c : C) (ix : List Nat) (g : L2.TG) (pg : PTG) : Prop := ∀ (F : Fm) (L : Ow) (σ : St) (H : Hp) (ρ : En) (b : Sb) (v : V) (d : D) (R : St → Hp → Prop) (P : En → Prop), RS c F L σ H ρ b → TdO (exA F.ex L) H v d → pg d ρ P →
  (∀ σ' ρ', RS c F L σ' H ρ' b → (∀ vs : List Nat, (∀ i ∈ ix, i ∈ vs) → L2.wipe σ' vs = L2.wipe σ vs) → P ρ' → R σ' H) → g v σ H R
def SimGs (c : C) (ix : List Nat) (g : L2.TGs) (pg : PTGs) : Prop := ∀ (F : Fm) (L : Ow) (σ : St) (H : Hp) (ρ : En) (b : Sb) (vs : List V) (ds : List D) (R : St → Hp → Prop) (P : En → Prop), RS c F L σ H ρ b → TdOAll (exA F.ex L) H vs ds → pg ds ρ P →
  (∀ σ' ρ', RS c F L σ' H ρ' b → (∀ vs : List Nat, (∀ i ∈ ix, i ∈ vs) → L2.wipe σ' vs = L2.wipe σ vs) → P ρ' → R σ' H) → g vs σ H R
structure JG (X : I → Cx) (c : C) (e : Expr) (ix : List Nat) (pg : PTG) : Prop where
  ex : ∃ t, (∀ i, L2.PG (X i) e t) ∧ SimG c ix t pg
structure JGs (X : I → Cx) (c : C) (e : List Expr) (ix : List Nat) (pg : PTGs) : Prop where
  ex : ∃ t, (∀ i, L2.PGs (X i) e t) ∧ SimGs c ix t pg
theorem jg_name (i : Nat) {x : Str} {pos : Pos} (hN : ∀ j, (X j).N.Nodup) (hp : Plain c i := by first | decide | (dsimp only [Plain]; decide)) (hi : ∀ j, (X j).N[i]? = some x := by intro _; rfl) (hx : ∀ j, Loc (X j).env.scope x := by intro _; first | exact Or.inl rfl | exact Or.inr rfl)
    (hf : ∀ j, (X j).fn x = true ∨ (X j).env.scope.names.lookup x = some .local := by intro _; first | exact .inl rfl | exact .inr rfl) : JG X c (.Name x pos) [i] (qName i) :=
  ⟨gName i, fun j => pg_name (hN j) (hi j) (hx j) (hf j), fun F L σ H ρ b v d R P r td h k => k _ _ (r.set hp td) (fun vs hv => wipe_set σ (hv i (List.mem_singleton.mpr rfl)) _) h⟩
theorem jgs_nil : JGs X c [] [] qNil := by
  refine ⟨gNil, fun _ => pgs_nil, fun F L σ H ρ b vs ds R P r td ⟨e, h⟩ k => ?_⟩
  subst e
  cases td
  exact ⟨rfl, k σ ρ r (fun _ _ => rfl) h⟩
theorem jgs_cons {e : Expr} {es : List Expr} {ix ix' : List Nat} {p : PTG} {q : PTGs} (h : JG X c e ix p) (hs : JGs X c es ix' q) (ha : ∀ j, (assignEach (e :: es) (X j).env).map (·.2) = assign e (X j).env :: (assignEach es (X j).env).map (·.2) := by intro _; rfl) : JGs X c (e :: es) (ix ++ ix') (qCons p q) := by
  obtain ⟨t, x, s⟩ := h.ex
  obtain ⟨u, y, s2⟩ := hs.ex
  refine ⟨_, fun j => pgs_cons (x j) (y j) (ha j), fun F L σ H ρ b vs ds R P r td ⟨d, rr, e, hp⟩ k => ?_⟩
  subst e
  cases td with
  | cons t1 t2 =>
    refine ⟨_, _, rfl, s F L σ H ρ b _ d _ _ r t1 hp fun σ' ρ' r' w' hp' => s2 F L σ' H ρ' b _ rr _ _ r' t2 hp' fun σ2 ρ2 r2 w2 hp2 => k σ2 ρ2 r2 (fun vs hv => ?_) hp2⟩
    rw [w2 vs fun i hi => hv i (List.mem_append.mpr (.inr hi)), w' vs fun i hi => hv i (List.mem_append.mpr (.inl hi))]
theorem jg_tup (fm : Fam X c k) {es : List Expr} {kk : Nat} {pos : Pos} {ix : List Nat} {q : PTGs} {n : Nat} (h : JGs X c es ix q) (hn : ∀ j, (assignEach es (X j).env).length = n := by intro _; rfl) (hst : ∀ j, (assignEach es (X j).env).findIdx? (·.1) = none := by intro _; rfl) :
    JG X c (.Tuple es kk pos) ix (qTup n q) := by
  obtain ⟨t, x, s⟩ := h.ex
  refine ⟨gTup c.K n t, fun j => ?_, fun F L σ H ρ b v d R P r td ⟨ds, e, hl, hp⟩ k => ?_⟩
  · have := pg_tup (fm.calm j) (x j) (hn j) (hst j) (k := kk) (pos := pos)
    rw [fm.K j] at this; exact this
  · subst e
    cases td with
    | tup n ha hs => exact ⟨_, _, rfl, SqT.of ha, by rw [hs.len]; exact hl, s F L σ H ρ b _ ds _ _ r hs hp fun σ' ρ' r' w' hp' => k σ' ρ' r' w' hp'⟩
def Walks (ex1 kp : Addr → Prop) (J : It) (ds : List D) (H1 : Hp) : Prop := ∀ (ex' : Addr → Prop) (H2 : Hp), (∀ z o, ¬ ex1 z → H1 z = some o → ¬ ownK o → ¬ ex' z ∧ H2 z = some o) → (∀ z o, kp z → H1 z = some o → ¬ ownK o → H2 z = some o) → (∀ z, ex' z → ∃ o, H2 z = some o ∧ nT o) →
  (∀ i d, ds[i]? = some d → J.go i H2 ∧ ∀ v H3, J.yld i H2 v H3 → Same H2 H3 ∧ TdO ex' H3 v d) ∧ J.stop ds.length H2
abbrev PTI := En → Sb → (List D → Sb → Prop) → Prop
def SimI (c : C) (ow : Bool) (t : L2.TI) (p : PTI) : Prop := ∀ (F : Fm) (L : Ow) (σ : St) (H : Hp) (ρ : En) (b : Sb) (R : It → Hp → Prop) (P : List D → Sb → Prop), RS c F L σ H ρ b → p ρ b P →
  (∀ J ds kp H' b', EvU c L H H' → RS c F L σ H' ρ b' → Walks (exA F.ex L) kp J ds H' → (∀ z, kp z → ow = true ∧ ∃ i, L i = some z ∧ c.ur ≠ some i) → P ds b' → R J H') → t σ H R
structure JI (X : I → Cx) (c : C) (ow : Bool) (tg e : Expr) (p : PTI) : Prop where
  ex : ∃ t, (∀ i, L2.PI (X i) tg e t) ∧ SimI c ow t p
def qRng1 (p : PTE) : PTI := fun ρ b P => p ρ b fun x b => ∃ j : Int, x = .int j ∧ j ≤ 1000000 ∧ -1000000 ≤ j ∧ P ((rgI 0 j.toNat).map .int) b
def qRng2 (p q : PTE) : PTI := fun ρ b P => p ρ b fun x b => q ρ b fun y b => ∃ i j : Int, x = .int i ∧ y = .int j ∧ (-1000000 ≤ i ∧ i ≤ 1000000 ∧ -1000000 ≤ j ∧ j ≤ 1000000) ∧ P ((rgI i (j - i).toNat).map .int) b
theorem walks_rng {ex1 kp : Addr → Prop} {lo : Int} {n : Nat} {H : Hp} : Walks ex1 kp (Itr lo n) ((rgI lo n).map .int) H := by
  intro ex' H2 _ _ _
  refine ⟨fun i d e => ?_, ?_⟩
  · rw [List.getElem?_map] at e
    have hi : i < n := by
      by_cases h : i < n
      · exact h
      · rw [List.getElem?_eq_none (by rw [rgI_length]; omega)] at e; cases e
    rw [rgI_get hi] at e
    cases e
    exact ⟨hi, fun v H3 ⟨e1, e2⟩ => by subst e1 e2; exact ⟨Same.refl _, .int _⟩⟩
  · show n ≤ _
    rw [List.length_map, rgI_length]; exact Nat.le_refl _
theorem ji_rng1 {ow : Bool} {tg a : Expr} {p pos : Pos} {pa : PTE} (hm : ∀ j, (X j).mg "range" = none) (ha : JE X c a pa) (hg : ∀ j, Gl (X j) "range" := by intro _; rfl) (hn : notStar a = true := by rfl) : JI X c ow tg (.Call (.Name "range" p) [a] [] pos) (qRng1 pa) := by
  obtain ⟨t, x, s⟩ := ha.ex
  refine ⟨_, fun j => pi_range1 (hg j) (hm j) (pc (x j) pa_nil hn) (by rw [star_cons hn]; rfl), fun F L σ H ρ b R P r hp k => s F L σ H ρ b _ _ r hp fun v d H' b' e r' td ⟨j, ed, h1, h2, h3⟩ => ?_⟩
  subst ed
  cases td
  exact ⟨j, rfl, by omega, by omega, k _ _ (fun _ => False) H' b' e r' walks_rng (fun _ z => z.elim) h3⟩
theorem ji_rng2 {ow : Bool} {tg a b : Expr} {p pos : Pos} {pa pb' : PTE} (hm : ∀ j, (X j).mg "range" = none) (ha : JE X c a pa) (hb : JE X c b pb') (hg : ∀ j, Gl (X j) "range" := by intro _; rfl) (hn : notStar a = true := by rfl) (hn2 : notStar b = true := by rfl) : JI X c ow tg (.Call (.Name "range" p) [a, b] [] pos) (qRng2 pa pb') := by
  obtain ⟨t, x, s⟩ := ha.ex
  obtain ⟨u, y, s2⟩ := hb.ex
  refine ⟨_, fun j => pi_range2 (hg j) (hm j) (pc (x j) (pc (y j) pa_nil hn2) hn) (by rw [star_cons hn, star_cons hn2]; rfl) (by rw [star_cons hn2]; rfl), fun F L σ H ρ b R P r hp k => s F L σ H ρ b _ _ r hp fun v d H1 b1 e1 r1 td h1 => s2 F L σ H1 ρ b1 _ _ r1 h1 fun v2 d2 H2 b2 e2 r2 td2 ⟨i, j, ed, ed2, hb, h2⟩ => ?_⟩
  subst ed ed2
  cases td
  cases td2
  exact ⟨i, j, rfl, by omega, k _ _ (fun _ => False) H2 b2 (e1.trans e2) r2 walks_rng (fun _ z => z.elim) h2⟩
def qLst (p : PTE) : PTI := fun ρ b P => p ρ b fun x b => ∃ ds, x = .list ds ∧ P ds b
def qTpl (p : PTE) : PTI := fun ρ b P => p ρ b fun x b => ∃ ds, x = .tuple ds ∧ P ds b
theorem walks_lst {K : PySem.W.Frag} {ex1 kp : Addr → Prop} {a : Addr} {vs : List V} {ds : List D} {H : Hp} (h : H a = some (.lst vs)) (td : TdOAll ex1 H vs ds) (hk : ¬ ex1 a ∨ kp a) : Walks ex1 kp (Itl K a) ds H := by
  intro ex' H2 h1 h2 h3
  have ha : H2 a = some (.lst vs) := by
    rcases hk with q | q
    · exact (h1 a _ q h id).2
    · exact h2 a _ q h id
  have td2 : TdOAll ex' H2 vs ds := TdOAll.to (fun b o n e w => h1 b o n e w) ds vs td
  refine ⟨fun i d e => ?_, ⟨vs, SqL.of ha, by rw [td.len]; exact Nat.le_refl _⟩⟩
  have hi : i < vs.length := by rw [td.len]; exact (List.getElem?_eq_some_iff.mp e).1
  refine ⟨⟨vs, vs[i], SqL.of ha, List.getElem?_eq_getElem hi⟩, fun v H3 ⟨e1, e2⟩ => ?_⟩
  subst e1
  obtain ⟨d', e3, t⟩ := td2.at (e2 vs (SqL.of ha))
  rw [e] at e3
  cases e3
  exact ⟨Same.refl _, t⟩
theorem walks_tup {K : PySem.W.Frag} {ex1 kp : Addr → Prop} {a : Addr} {vs : List V} {ds : List D} {H : Hp} (h : H a = some (.tup vs)) (td : TdOAll ex1 H vs ds) (hk : ¬ ex1 a) : Walks ex1 kp (Itt K a) ds H := by
  intro ex' H2 h1 h2 h3
  have ha : H2 a = some (.tup vs) := (h1 a _ hk h id).2
  have td2 : TdOAll ex' H2 vs ds := TdOAll.to (fun b o n e w => h1 b o n e w) ds vs td
  refine ⟨fun i d e => ?_, ⟨vs, SqT.of ha, by rw [td.len]; exact Nat.le_refl _⟩⟩
  have hi : i < vs.length := by rw [td.len]; exact (List.getElem?_eq_some_iff.mp e).1
  refine ⟨⟨vs, vs[i], SqT.of ha, List.getElem?_eq_getElem hi⟩, fun v H3 ⟨e1, e2⟩ => ?_⟩
  subst e1
  obtain ⟨d', e3, t⟩ := td2.at (e2 vs (SqT.of ha))
  rw [e] at e3
  cases e3
  exact ⟨Same.refl _, t⟩
theorem ji_lst (fm : Fam X c k) {ow : Bool} {tg e : Expr} {p : PTE} (h : JE X c e p) : JI X c ow tg e (qLst p) := by
  obtain ⟨t, x, s⟩ := h.ex
  refine ⟨iList c.K t, fun j => ?_, fun F L σ H ρ b R P r hp k => s F L σ H ρ b _ _ r hp fun v d H' b' e r' td ⟨ds, ed, h1⟩ => ?_⟩
  · have := pi_list (tg := tg) (x j); rw [fm.K j] at this; exact this
  · subst ed
    cases td with
    | lst n ha hs => exact ⟨_, rfl, ⟨_, SqL.of ha⟩, k _ ds (fun _ => False) H' b' e r' (walks_lst ha hs (.inl n)) (fun _ z => z.elim) h1⟩
theorem ji_tup (fm : Fam X c k) {ow : Bool} {tg e : Expr} {p : PTE} (h : JE X c e p) : JI X c ow tg e (qTpl p) := by
  obtain ⟨t, x, s⟩ := h.ex
  refine ⟨iTup c.K t, fun j => ?_, fun F L σ H ρ b R P r hp k => s F L σ H ρ b _ _ r hp fun v d H' b' e r' td ⟨ds, ed, h1⟩ => ?_⟩
  · have := pi_tup (tg := tg) (x j); rw [fm.K j] at this; exact this
  · subst ed
    cases td with
    | tup n ha hs => exact ⟨_, rfl, ⟨_, SqT.of ha⟩, k _ ds (fun _ => False) H' b' e r' (walks_tup ha hs n) (fun _ z => z.elim) h1⟩
theorem RS.withD {F : Fm} {L : Ow} {σ : St} {H : Hp} {ρ : En} {b : Sb} (r : RS c F L σ H ρ b) {p : Addr} (hp : H p = none) (o : HO) (hno : nT o) : RS c { F with ex := fun z => F.ex z ∨ z = p } L σ (upd H p o) ρ b := by
  have sm := same_new hp o
  have up : ∀ z, exA (fun z => F.ex z ∨ z = p) L z → exA F.ex L z ∨ z = p := fun z h => by
    rcases h with (h | h) | h
    · exact .inl (.inl h)
    · exact .inr h
    · exact .inl (.inr h)
  have kk : ∀ b o', ¬ exA F.ex L b → H b = some o' → ¬ ownK o' → ¬ exA (fun z => F.ex z ∨ z = p) L b ∧ upd H p o b = some o' := fun b o' n e _ => ⟨fun z => (up b z).elim n (ne_of_none e hp), sm b o' e⟩
  exact {
    len := r.len
    len2 := r.len2
    vals := fun i d h n n2 => let ⟨v, a, t⟩ := r.vals i d h n n2; ⟨v, a, TdO.to kk d v t⟩
    ow := fun i a h => by
      obtain ⟨h1, h2, h3⟩ := r.ow i a h
      refine ⟨h1, h2, ?_⟩
      rcases h3 with ⟨q, u⟩ | ⟨q, ⟨ho, hne⟩, vs, ds, hr, hH, ht⟩
      · exact .inl ⟨q, u.same sm⟩
      · exact .inr ⟨q, ⟨ho, fun z => z.elim hne (ne_of_none hH hp)⟩, vs, ds, hr, sm a _ hH, ht.to kk⟩
    ow' := r.ow'
    inj := r.inj
    nur := r.nur
    tr := fun z hz => by
      rcases up z hz with q | q
      · obtain ⟨o', h, ht⟩ := r.tr z q
        exact ⟨o', sm z o' h, ht⟩
      · subst q; exact ⟨o, upd_same, hno⟩
    fr := fun z o' n h => (r.fr z o' n h).trans fun o2 q => .of (sm z o2 q)
    u0 := r.u0
    scr := r.scr
    st := r.st.go kk fun z o' e _ => sm z o' e }
theorem RS.updD {F : Fm} {L : Ow} {σ : St} {H : Hp} {ρ : En} {b : Sb} (r : RS c F L σ H ρ b) {p : Addr} (he : F.ex p) (hn : ∀ i, L i ≠ some p) (h0 : F.H0 p = none) (o : HO) (hno : nT o) : RS c F L σ (upd H p o) ρ b := by
  have kk : ∀ b o', ¬ exA F.ex L b → H b = some o' → ¬ ownK o' → ¬ exA F.ex L b ∧ upd H p o b = some o' := fun b o' n e _ => ⟨n, by rw [upd_ne (fun (z : b = p) => n (.inl (by rw [z]; exact he)))]; exact e⟩
  exact {
    len := r.len
    len2 := r.len2
    vals := fun i d h n n2 => let ⟨v, a, t⟩ := r.vals i d h n n2; ⟨v, a, TdO.to kk d v t⟩
    ow := fun i a h => by
      obtain ⟨h1, h2, h3⟩ := r.ow i a h
      have nap : a ≠ p := fun z => hn i (z ▸ h)
      refine ⟨h1, h2, ?_⟩
      rcases h3 with ⟨q, u⟩ | ⟨q, ho, vs, ds, hr, hH, ht⟩
      · obtain ⟨g', c', n', e', rest⟩ := u
        exact .inl ⟨q, g', c', n', by rw [upd_ne nap]; exact e', rest⟩
      · exact .inr ⟨q, ho, vs, ds, hr, by rw [upd_ne nap]; exact hH, ht.to kk⟩
    ow' := r.ow'
    inj := r.inj
    nur := r.nur
    tr := fun z hz => by
      by_cases e : z = p
      · subst e; exact ⟨o, upd_same, hno⟩
      · obtain ⟨o', h, ht⟩ := r.tr z hz
        exact ⟨o', by rw [upd_ne e]; exact h, ht⟩
    fr := fun z o' n h => (r.fr z o' n h).trans fun o2 q => .of (by rw [upd_ne fun e => by subst e; rw [h0] at h; cases h]; exact q)
    u0 := r.u0
    scr := r.scr
    st := r.st.go kk fun z o' e w => by rw [upd_ne fun q => by subst q; obtain ⟨o2, h2, h3⟩ := r.tr z (.inl he); rw [e] at h2; cases h2; exact h3.2 w]; exact e }
def qYes : PTT := fun _ b P => P true b
structure JTs (X : I → Cx) (c : C) (es : List Expr) (p : PTT) : Prop where
  ex : ∃ t, (∀ i, L2.PTs (X i) es t) ∧ SimT c t p
theorem jts_nil : JTs X c [] qYes := ⟨tYes, fun _ => pts_nil, fun F L σ H ρ b Q P r h k => k true H b (.refl H) r h⟩
theorem jts_one {e : Expr} {p : PTT} (h : JT X c e p) : JTs X c [e] p := let ⟨t, x, s⟩ := h.ex; ⟨t, fun j => pts_one (x j), s⟩
theorem Fam.blk {scope : Scope} (fm : Fam X c k) : Fam (blkF X scope) c k := ⟨fun j => fm.K j.1, fun j => fm.calm j.1, fun j => fm.room j.1, fun j => fm.mg j.1⟩
def LcG (g : PTG) (tt : PTT) (te : PTE) (vs : List Nat) (ρ : En) (P : KE) (ds : List D) (b : Sb) : Prop := ds.length ≤ 1000000 ∧ ∃ Inv : Nat → List D → Sb → Prop, Inv 0 [] b ∧
  (∀ i x acc b, ds[i]? = some x → Inv i acc b → g x (pwipe ρ vs) fun ρ2 => tt ρ2 b fun kk b => if kk = true then te ρ2 b fun y b => Inv (i + 1) (acc ++ [y]) b else Inv (i + 1) acc b) ∧ ∀ acc b, Inv ds.length acc b → P (.list acc) b
def pLc (wi : PTI) (g : PTG) (tt : PTT) (te : PTE) (vs : List Nat) : PTE := fun ρ b P => wi ρ b (LcG g tt te vs ρ P)
def SimIat (c : C) (ow : Bool) (t : L2.TI) (p : PTI) (F : Fm) (L : Ow) (σ : St) (H : Hp) (ρ : En) (b : Sb) : Prop := ∀ (R : It → Hp → Prop) (P : List D → Sb → Prop), p ρ b P →
  (∀ J ds kp H' b', EvU c L H H' → RS c F L σ H' ρ b' → Walks (exA F.ex L) kp J ds H' → (∀ z, kp z → ow = true ∧ ∃ i, L i = some z ∧ c.ur ≠ some i) → P ds b' → R J H') → t σ H R
theorem simF_lc_at {ow : Bool} {wi : L2.TI} {g : L2.TG} {tt : L2.TT} {te : L2.TE} {vs ix : List Nat} {pwi : PTI} {pg : PTG} {ptt : PTT} {pte : PTE} {F : Fm} {L : Ow} {σ : St} {H : Hp} {ρ : En} {b : Sb} (s1 : SimIat c ow wi pwi F L σ H ρ b) (s2 : SimG c ix g pg) (s3 : SimT c tt ptt) (s4 : SimE c te pte) (hvs : ∀ i ∈ vs, Plain c i) (hix : ∀ i ∈ ix, i ∈ vs)
    (Q : VK) (P : KE) (r : RS c F L σ H ρ b) (hp : pLc pwi pg ptt pte vs ρ b P) (k : ∀ a vs ds H' b', EvU c L H H' → RS c F L σ H' ρ b' → H a = none → H' a = some (.lst vs) → TdOAll (fun z => exA F.ex L z ∨ z = a) H' vs ds → Sto c.mg (fun z => exA F.ex L z ∨ z = a) H' b' → P (.list ds) b' → Q (.ref a) H') : tLc wi g tt te vs σ H Q := by
  refine s1 _ _ hp fun J ds kp H1 b1 e1 r1 wk hkp ⟨hlen, Iv, i0, istep, iend⟩ => ?_
  intro Da nD
  have rD := r1.withD nD (.lst []) nT_lst
  have nUL : ∀ i, L i ≠ some Da := fun i hi => by
    obtain ⟨o, ho, _⟩ := r1.tr Da (.inr ⟨i, hi⟩)
    rw [nD] at ho; cases ho
  have nU : ¬ isU c L Da := fun ⟨i, _, hi⟩ => nUL i hi
  have n0 : F.H0 Da = none := by
    cases q : F.H0 Da with
    | none => rfl
    | some o =>
      by_cases hu : F.u0 = some Da
      · exact absurd (r1.u0 Da hu) nU
      · exact absurd nD (r1.fr Da o hu q).nn
  let F' : Fm := { F with ex := fun z => F.ex z ∨ z = Da }
  refine ⟨fun i m H2 => m = ds.length - i ∧ i ≤ ds.length ∧ ∃ acc accd b2, H2 Da = some (.lst acc) ∧ TdOAll (exA F'.ex L) H2 acc accd ∧ acc.length ≤ i ∧ RS c F' L σ H2 ρ b2 ∧ Iv i accd b2 ∧ EvU c L H1 H2,
    ⟨ds.length, by simp, Nat.zero_le _, [], [], b1, upd_same, .nil, Nat.le_refl _, rD, i0, .same (same_new nD _)⟩, ?_⟩
  rintro i m H2 ⟨rfl, hi, acc, accd, b2, hD, tda, hal, r2, iv, ev⟩
  obtain ⟨w1, w2⟩ := wk (exA F'.ex L) H2 (fun z o n e w => ⟨fun z' => by
      rcases z' with (q | q) | q
      · exact n (.inl q)
      · exact ne_of_none e nD q
      · exact n (.inr q), (ev z o (fun q => n q.ex) e).2 w⟩)
    (fun z o hz e w => (ev z o (fun ⟨j, hj, hl⟩ => by
      obtain ⟨_, i', hl', hn'⟩ := hkp z hz
      have := r1.inj j i' z hl hl'
      subst this
      exact hn' hj) e).2 w) r2.tr
  by_cases hlt : i < ds.length
  · have hx := List.getElem?_eq_getElem hlt
    obtain ⟨go, yl⟩ := w1 i _ hx
    refine .inr ⟨go, fun H3 => ∃ acc accd b2, H3 Da = some (.lst acc) ∧ TdOAll (exA F'.ex L) H3 acc accd ∧ acc.length ≤ i + 1 ∧ RS c F' L σ H3 ρ b2 ∧ Iv (i + 1) accd b2 ∧ EvU c L H1 H3, fun H3 ⟨a1, a2, a3, a4⟩ => ⟨ds.length - (i + 1), by omega, rfl, hlt, a1, a2, a3, a4⟩, fun v H3 hy => ?_⟩
    obtain ⟨s23, tv⟩ := yl v H3 hy
    have r3 := r2.same s23
    refine s2 F' L _ H3 (pwipe ρ vs) b2 v _ _ _ (r3.wipe hvs) tv (istep i _ accd b2 hx iv) fun σ2 ρ2 r4 hw hp4 => ⟨?_, ?_⟩
    · rw [hw vs hix, wipe_wipe]
    refine s3 F' L σ2 H3 ρ2 b2 _ _ r4 hp4 fun kk H5 b5 e5 r5 hp5 => ?_
    have D3 : H3 Da = some (.lst acc) := s23 _ _ hD
    have D5 : H5 Da = some (.lst acc) := (e5 _ _ nU D3).2 id
    have rs5 : RS c F' L σ H5 ρ b5 := r3.go e5 (fun z hz => r5.urn hz) r5.st
    have ta5 : TdOAll (exA F'.ex L) H5 acc accd := evuAll (all_same tda s23) e5
    cases kk with
    | false => exact iteF ⟨acc, accd, b5, D5, ta5, by omega, rs5, hp5, ev.trans ((EvU.same s23).trans e5)⟩
    | true =>
      refine iteT (s4 F' L σ2 H5 ρ2 b5 _ _ r5 hp5 fun y dy H6 b6 e6 r6 ty hp6 => ?_)
      have D6 : H6 Da = some (.lst acc) := (e6 _ _ nU D5).2 id
      have rs6 : RS c F' L σ H6 ρ b6 := rs5.go e6 (fun z hz => r6.urn hz) r6.st
      refine ⟨acc, D6, by rw [sizeLine_eq]; omega, acc ++ [y], accd ++ [dy], b6, upd_same, ?_, by rw [List.length_append]; exact Nat.succ_le_succ hal, rs6.updD (.inr rfl) nUL n0 _ nT_lst, hp6, fun z o n e => ?_⟩
      · have kk2 : ∀ b o', ¬ exA F'.ex L b → H6 b = some o' → ¬ ownK o' → ¬ exA F'.ex L b ∧ upd H6 Da (.lst (acc ++ [y])) b = some o' := fun b o' n e _ => ⟨n, by rw [upd_ne fun z => n (.inl (.inr z))]; exact e⟩
        exact ((evuAll ta5 e6).snoc ty).go kk2
      · have q := (ev.trans (((EvU.same s23).trans e5).trans e6)) z o n e
        unfold Kp
        rw [upd_ne (ne_of_none e nD)]
        exact q
  · have e : i = ds.length := by omega
    subst e
    refine .inl ⟨w2, k Da acc accd H2 b2 (e1.trans ev) ?_ (none_back r1 e1 nD) hD ?_ ?_ (iend accd b2 iv)⟩
    · exact r1.go ev (fun z hz => r2.urn hz) (r2.st.go (fun z o n e _ => ⟨fun q => n (by
        rcases q with q | q
        · exact .inl (.inl q)
        · exact .inr q), e⟩) fun _ _ e _ => e)
    · exact TdOAll.to (fun z o n e _ => ⟨fun q => n (by
        rcases q with (q | q) | q
        · exact .inl (.inl q)
        · exact .inr q
        · exact .inl (.inr q)), e⟩) accd acc tda
    · exact r2.st.go (fun z o n e _ => ⟨fun q => n (by
        rcases q with (q | q) | q
        · exact .inl (.inl q)
        · exact .inr q
        · exact .inl (.inr q)), e⟩) fun _ _ e _ => e
theorem simF_lc {ow : Bool} {wi : L2.TI} {g : L2.TG} {tt : L2.TT} {te : L2.TE} {vs ix : List Nat} {pwi : PTI} {pg : PTG} {ptt : PTT} {pte : PTE} (s1 : SimI c ow wi pwi) (s2 : SimG c ix g pg) (s3 : SimT c tt ptt) (s4 : SimE c te pte) (hvs : ∀ i ∈ vs, Plain c i) (hix : ∀ i ∈ ix, i ∈ vs) :
    SimF c (tLc wi g tt te vs) (pLc pwi pg ptt pte vs) := fun F L σ H ρ b Q P r hp k => simF_lc_at (fun R P' hp' k' => s1 F L σ H ρ b R P' r hp' k') s2 s3 s4 hvs hix Q P r hp k
theorem jf_lc (fm : Fam X c k) {elt tg iter : Expr} {ifs : List Expr} {scope : Scope} {own : List (Str × Nat)} {pos : Pos} {ow : Bool} {ix : List Nat} {pwi : PTI} {pg : PTG} {ptt : PTT} {pte : PTE} (hN : ∀ j, (X j).N.Nodup) (hi : JI X c ow tg iter pwi) (ok : ∀ j, BlkOk (X j).N (X j).env.scope scope own)
    (hg : Fam (blkF X scope) c k → JG (blkF X scope) c tg ix pg) (ht : Fam (blkF X scope) c k → JTs (blkF X scope) c ifs ptt) (he : Fam (blkF X scope) c k → JE (blkF X scope) c elt pte) (hvs : ∀ i ∈ own.map (·.2), Plain c i := by first | decide | (dsimp only [Plain]; decide)) (hix : ∀ i ∈ ix, i ∈ own.map (·.2) := by first | decide | (dsimp only [Plain]; decide))
    (hs : ∀ j x, foldedSetIterable iter (X j).env x = pure x := by intro _ _; rfl) : JF X c (.ListComp elt [⟨tg, iter, ifs, 0⟩] scope pos) (pLc pwi pg ptt pte (own.map (·.2))) := by
  obtain ⟨wi, w1, w2⟩ := hi.ex
  obtain ⟨g, g1, g2⟩ := (hg fm.blk).ex
  obtain ⟨tt, t1, t2⟩ := (ht fm.blk).ex
  obtain ⟨te, e1, e2⟩ := (he fm.blk).ex
  exact ⟨_, fun j => pe_lc (fm.calm j) (hN j) (w1 j) (ok j) (fun s H C cl fp => g1 (j, s, H, C, cl, fp)) (fun s H C cl fp => t1 (j, s, H, C, cl, fp)) (fun s H C cl fp => e1 (j, s, H, C, cl, fp)) (hs j), simF_lc w2 g2 t2 e2 hvs hix⟩
def Evo (F : Fm) (L : Ow) (H : Hp) (L' : Ow) (H' : Hp) : Prop := (∀ z o, ¬ exA F.ex L z → H z = some o → Kp o H' z) ∧ ∀ z, exA F.ex L' z → exA F.ex L z ∨ H z = none
theorem Evo.refl {F : Fm} {L : Ow} {H : Hp} : Evo F L H L H := ⟨fun _ _ _ h => .of h, fun _ h => .inl h⟩
theorem Evo.trans {F : Fm} {L L1 L2 : Ow} {H H1 H2 : Hp} (a : Evo F L H L1 H1) (b : Evo F L1 H1 L2 H2) : Evo F L H L2 H2 := by
  refine ⟨fun z o n h => (a.1 z o n h).trans fun o' h' => b.1 z o' (fun q => ?_) h', fun z hz => ?_⟩
  · rcases a.2 z q with q | q
    · exact n q
    · rw [h] at q; cases q
  · rcases b.2 z hz with q | q
    · exact a.2 z q
    · by_cases y : exA F.ex L z
      · exact .inl y
      · cases e : H z with
        | none => exact .inr rfl
        | some o => exact absurd q (a.1 z o y e).nn
theorem Evo.u {F : Fm} {L : Ow} {H H' : Hp} (e : EvU c L H H') : Evo F L H L H' := ⟨fun z o n h => e z o (fun q => n q.ex) h, fun _ h => .inl h⟩
def Rt (mg : Str → Option Value) (F : Fm) (v : V) (d : D) (H' : Hp) (b' : Sb) : Prop := (∀ z o, F.u0 ≠ some z → F.H0 z = some o → Kp o H' z) ∧ (∀ u, F.u0 = some u → UrnAt H' u b'.n) ∧ Sto mg F.ex H' b' ∧ TdO F.ex H' v d
structure Okk (c : C) (F : Fm) (L : Ow) (H : Hp) (E : L2.Ends) (Pn : PEnds) : Prop where
  nx : ∀ L' σ' H' ρ' b', Evo F L H L' H' → RS c F L' σ' H' ρ' b' → Pn.nx ρ' b' → E.nx σ' H'
  bk : ∀ L' σ' H' ρ' b', Evo F L H L' H' → RS c F L' σ' H' ρ' b' → Pn.bk ρ' b' → E.bk σ' H'
  ct : ∀ L' σ' H' ρ' b', Evo F L H L' H' → RS c F L' σ' H' ρ' b' → Pn.ct ρ' b' → E.ct σ' H'
  rt : ∀ v d H' b', Rt c.mg F v d H' b' → Pn.rt d b' → E.rt v H'
theorem Okk.go {F : Fm} {L L1 : Ow} {H H1 : Hp} {E : L2.Ends} {Pn : PEnds} (o : Okk c F L H E Pn) (e : Evo F L H L1 H1) : Okk c F L1 H1 E Pn :=
  ⟨fun L' σ' H' ρ' b' e' => o.nx L' σ' H' ρ' b' (e.trans e'), fun L' σ' H' ρ' b' e' => o.bk L' σ' H' ρ' b' (e.trans e'), fun L' σ' H' ρ' b' e' => o.ct L' σ' H' ρ' b' (e.trans e'), o.rt⟩
def SimS (c : C) (t : L2.TS) (p : PTS) : Prop := ∀ (F : Fm) (L : Ow) (σ : St) (H : Hp) (ρ : En) (b : Sb) (E : L2.Ends) (Pn : PEnds), RS c F L σ H ρ b → p Pn ρ b → Okk c F L H E Pn → t E σ H
structure JS (X : I → Cx) (c : C) (st : Stmt) (p : PTS) : Prop where
  ex : ∃ t, (∀ i, L2.PS (X i) st t) ∧ SimS c t p
structure JSs (X : I → Cx) (c : C) (st : List Stmt) (p : PTS) : Prop where
  ex : ∃ t, (∀ i, L2.PSs (X i) st t) ∧ SimS c t p
def sNext : PTS := fun E ρ b => E.nx ρ b
def sSeq (p q : PTS) : PTS := fun E ρ b => p { E with nx := q E } ρ b
theorem jss_nil : JSs X c [] sNext := ⟨tNext, fun _ => pss_nil, fun F L σ H ρ b E Pn r h o => o.nx L σ H ρ b .refl r h⟩
theorem jss_one {st : Stmt} {p : PTS} (h : JS X c st p) : JSs X c [st] p := let ⟨t, x, s⟩ := h.ex; ⟨t, fun j => pss_one (x j), s⟩
theorem jss_cons {st : Stmt} {rest : List Stmt} {p q : PTS} (h : JS X c st p) (hs : JSs X c rest q) : JSs X c (st :: rest) (sSeq p q) := by
  obtain ⟨t, x, s⟩ := h.ex
  obtain ⟨u, y, s2⟩ := hs.ex
  refine ⟨_, fun j => pss_cons (x j) (y j), fun F L σ H ρ b E Pn r h o => s F L σ H ρ b _ _ r h ⟨fun L' σ' H' ρ' b' e r' h' => s2 F L' σ' H' ρ' b' E Pn r' h' (o.go e), o.bk, o.ct, o.rt⟩⟩
def sIf (pt : PTT) (p q : PTS) : PTS := fun E ρ b => pt ρ b fun kk b => if kk = true then p E ρ b else q E ρ b
theorem js_if {e : Expr} {a b : List Stmt} {pos : Pos} {pt : PTT} {p q : PTS} (h : JT X c e pt) (h1 : JSs X c a p) (h2 : JSs X c b q) : JS X c (.If e a b pos) (sIf pt p q) := by
  obtain ⟨t, x, s⟩ := h.ex
  obtain ⟨u, y, s1⟩ := h1.ex
  obtain ⟨w, z, s2⟩ := h2.ex
  refine ⟨_, fun j => ps_if (x j) (y j) (z j), fun F L σ H ρ b E Pn r hp o => s F L σ H ρ b _ _ r hp fun kk H' b' e r' pk => ?_⟩
  cases kk with
  | true => exact iteT (s1 F L σ H' ρ b' E Pn r' pk (o.go (.u e)))
  | false => exact iteF (s2 F L σ H' ρ b' E Pn r' pk (o.go (.u e)))
theorem VR.out {F : Fm} {L : Ow} {σ : St} {H : Hp} {ρ : En} {b : Sb} {v : V} {d : D} (h : VR c F L H ρ v d) (r : RS c F L σ H ρ b) : TdO F.ex H v d := by
  rcases id h with h' | ⟨i, a, hl, hn, rfl, hr, _⟩
  · exact TdO.to (fun z o n e _ => ⟨fun q => n (.inl q), e⟩) d v h'
  · rcases (r.ow i a hl).2.2 with ⟨q, _⟩ | ⟨_, ⟨_, hne⟩, vs, ds2, q3, q4, q5⟩
    · exact absurd q hn
    · rw [hr] at q3
      cases q3
      exact (q5.to fun z o n e _ => ⟨fun q => n (.inl q), e⟩).td hne q4
theorem RS.out {F : Fm} {L : Ow} {σ : St} {H : Hp} {ρ : En} {b : Sb} (r : RS c F L σ H ρ b) : Sto c.mg F.ex H b := r.st.go (fun z o n e _ => ⟨fun q => n (.inl q), e⟩) fun _ _ e _ => e
def sRet (p : PTE) : PTS := fun E ρ b => p ρ b E.rt
theorem js_ret {e : Expr} {pos : Pos} {p : PTE} (h : JV X c e p) : JS X c (.Return (some e) pos) (sRet p) := by
  obtain ⟨t, x, s⟩ := h.ex
  refine ⟨_, fun j => ps_ret (x j), fun F L σ H ρ b E Pn r hp o => s F L σ H ρ b _ _ r hp fun v d H' b' e r' vr pk => o.rt v d H' b' ⟨r'.fr, fun u hu => r'.urn (r'.u0 u hu), r'.out, vr.out r'⟩ pk⟩
def sDrop (p : PTE) : PTS := fun E ρ b => p ρ b fun _ b => E.nx ρ b
theorem js_expr {e : Expr} {pos : Pos} {p : PTE} (h : JE X c e p) (hs : ∀ j, swapsWith e none pos.line (X j).env = pure false := by intro _; rfl) : JS X c (.Expr e pos) (sDrop p) := by
  obtain ⟨t, x, s⟩ := h.ex
  refine ⟨_, fun j => ps_expr (x j) (hs j), fun F L σ H ρ b E Pn r hp o => s F L σ H ρ b _ _ r hp fun v d H' b' e r' vr pk => o.nx L σ H' ρ b' (.u e) r' pk⟩
def sAsg (p : PTE) (g : PTG) : PTS := fun E ρ b => p ρ b fun d b => g d ρ fun ρ' => E.nx ρ' b
theorem SimS.asg {t : L2.TE} {g : L2.TG} {p : PTE} {q : PTG} {ix : List Nat} (s : SimE c t p) (s2 : SimG c ix g q) : SimS c (tAsg t g) (sAsg p q) :=
  fun F L σ H ρ b E Pn r hp o => s F L σ H ρ b _ _ r hp fun v d H' b' e r' td pk => s2 F L σ H' ρ b' v d _ _ r' td pk fun σ' ρ' r2 _ h2 => o.nx L σ' H' ρ' b' (.u e) r2 h2
theorem js_asg {e tg : Expr} {pos : Pos} {p : PTE} {q : PTG} {ix : List Nat} (h : JE X c e p) (hg : JG X c tg ix q) (hs : ∀ j, swapsWithSole [tg] e pos.line (X j).env = pure false := by intro _; rfl) (hw : ∀ j, swappedStores [tg] e (X j).env = pure none := by intro _; rfl)
    (h1 : ∀ j, (assignEach [tg] (X j).env).map (·.2) = [assign tg (X j).env] := by intro _; rfl) : JS X c (.Assign [tg] e pos) (sAsg p q) := by
  obtain ⟨t, x, s⟩ := h.ex
  obtain ⟨u, y, s2⟩ := hg.ex
  exact ⟨_, fun j => ps_asg (x j) (y j) (hs j) (hw j) (h1 j), SimS.asg s s2⟩
theorem RS.newOwn {F : Fm} {L : Ow} {σ : St} {H H' : Hp} {ρ : En} {b b' : Sb} {a : Addr} {vs : HO} {ds : D} {i : Nat} (r : RS c F L σ H ρ b) (r' : RS c F L σ H' ρ b') (e : EvU c L H H') (na : H a = none) (ha : H' a = some vs)
    (td : ObD (fun z => exA F.ex L z ∨ z = a) H' vs ds) (hs : Sto c.mg (fun z => exA F.ex L z ∨ z = a) H' b') (hi : i ∈ c.own) (hu : c.ur ≠ some i) (hsc : c.sc ≠ some i) (hn : i < c.n) : RS c F (setL L i a) (σ.set i (some (.ref a))) H' (ρ.set i (some ds)) b' := by
  have nex : ¬ exA F.ex L a := newIn r na
  have up : ∀ z, exA F.ex (setL L i a) z → exA F.ex L z ∨ z = a := fun z h => by
    rcases h with h | ⟨j, h⟩
    · exact .inl (.inl h)
    · unfold setL at h
      by_cases q : j = i
      · rw [if_pos q] at h; cases h; exact .inr rfl
      · rw [if_neg q] at h; exact .inl (.inr ⟨j, h⟩)
  have kk : ∀ z o, ¬ exA F.ex L z → H z = some o → ¬ ownK o → ¬ exA F.ex (setL L i a) z ∧ H' z = some o := fun z o n q w => ⟨fun y => (up z y).elim n (ne_of_none q na), (e z o (fun y => n y.ex) q).2 w⟩
  have lσ : i < σ.length := by rw [r.len, r.len2]; exact hn
  have lρ : i < ρ.length := by rw [r.len2]; exact hn
  have old : ∀ j x, j ≠ i → setL L i a j = some x → L j = some x := fun j x n h => by unfold setL at h; rw [if_neg n] at h; exact h
  have h0 : F.H0 a = none := by
    cases q : F.H0 a with
    | none => rfl
    | some o =>
      by_cases y : F.u0 = some a
      · exact absurd (r.u0 a y).ex nex
      · exact absurd na (r.fr a o y q).nn
  exact {
    len := by rw [List.length_set, List.length_set]; exact r.len
    len2 := by rw [List.length_set]; exact r.len2
    vals := fun j d hj n n2 => by
      have ne : i ≠ j := fun z => n (z ▸ hi)
      rw [List.getElem?_set_ne ne] at hj
      obtain ⟨v, h1, h2⟩ := r.vals j d hj n n2
      exact ⟨v, by rw [List.getElem?_set_ne ne]; exact h1, TdO.to kk d v h2⟩
    ow := fun j x hj => by
      by_cases q : j = i
      · subst q
        unfold setL at hj
        rw [if_pos rfl] at hj
        cases hj
        exact ⟨List.getElem?_set_self lσ, .inl h0, .inr ⟨hu, ⟨hi, fun z => nex (.inl z)⟩, vs, ds, List.getElem?_set_self lρ, ha, td.to fun z o n q _ => ⟨fun y => n (up z y), q⟩⟩⟩
      · have hj' := old j x q hj
        obtain ⟨h1, h2, h3⟩ := r.ow j x hj'
        obtain ⟨_, _, h3'⟩ := r'.ow j x hj'
        refine ⟨by rw [List.getElem?_set_ne (Ne.symm q)]; exact h1, h2, ?_⟩
        rcases h3 with ⟨q1, u⟩ | ⟨q1, ho, vs', ds', hr, hH, ht⟩
        · rcases h3' with ⟨_, u'⟩ | ⟨z, _⟩
          · exact .inl ⟨q1, u'⟩
          · exact absurd q1 z
        · refine .inr ⟨q1, ho, vs', ds', by rw [List.getElem?_set_ne (Ne.symm q)]; exact hr, (e x _ (fun ⟨l, hl1, hl2⟩ => ?_) hH).2 ht.no, ht.to kk⟩
          have := r.inj l j x hl2 hj'
          subst this
          exact q1 hl1
    ow' := fun j d hj he => by
      by_cases q : j = i
      · exact ⟨a, by unfold setL; rw [if_pos q]⟩
      · rw [List.getElem?_set_ne (Ne.symm q)] at he
        obtain ⟨x, hx⟩ := r.ow' j d hj he
        exact ⟨x, by unfold setL; rw [if_neg q]; exact hx⟩
    inj := fun j l x hj hl => by
      by_cases q : j = i
      · by_cases q2 : l = i
        · rw [q, q2]
        · subst q
          have hl' := old l x q2 hl
          unfold setL at hj
          rw [if_pos rfl] at hj
          cases hj
          exact absurd (.inr ⟨l, hl'⟩) nex
      · by_cases q2 : l = i
        · subst q2
          have hj' := old j x q hj
          unfold setL at hl
          rw [if_pos rfl] at hl
          cases hl
          exact absurd (.inr ⟨j, hj'⟩) nex
        · exact r.inj j l x (old j x q hj) (old l x q2 hl)
    nur := fun j hj => by
      have ne : j ≠ i := fun z => hu (z ▸ hj)
      refine ⟨(r.nur j hj).1, fun d hd => ?_⟩
      rw [List.getElem?_set_ne (Ne.symm ne)] at hd
      obtain ⟨x, hx⟩ := (r.nur j hj).2 d hd
      exact ⟨x, by unfold setL; rw [if_neg ne]; exact hx⟩
    tr := fun z hz => by
      rcases up z hz with q | q
      · exact r'.tr z q
      · subst q; exact ⟨_, ha, td.nt⟩
    fr := r'.fr
    u0 := fun u hu0 => by
      obtain ⟨j, hj, hl⟩ := r.u0 u hu0
      exact ⟨j, hj, by unfold setL; rw [if_neg (fun (z : j = i) => hu (z ▸ hj))]; exact hl⟩
    scr := fun j hj => by
      have ne : i ≠ j := fun z => hsc (z ▸ hj)
      obtain ⟨h1, h2, h3, h4, a', ns, h5, h6⟩ := r.scr j hj
      exact ⟨h1, fun e => by rw [List.getElem?_set_ne ne]; exact h2 e, h3, h4, a', ns, by rw [List.getElem?_set_ne ne]; exact h5, h6⟩
    st := hs.go (fun z o n e _ => ⟨fun y => n (up z y), e⟩) fun _ _ e _ => e }
theorem RS.evo {F : Fm} {L : Ow} {σ : St} {H H' : Hp} {ρ : En} {b : Sb} {a : Addr} {i : Nat} (r : RS c F L σ H ρ b) (e : EvU c L H H') (na : H a = none) : Evo F L H (setL L i a) H' := by
  refine ⟨fun z o n h => e z o (fun q => n q.ex) h, fun z hz => ?_⟩
  rcases hz with h | ⟨j, h⟩
  · exact .inl (.inl h)
  · unfold setL at h
    by_cases q : j = i
    · rw [if_pos q] at h; cases h; exact .inr na
    · rw [if_neg q] at h; exact .inl (.inr ⟨j, h⟩)
theorem SimS.own {t : L2.TE} {p : PTE} {i : Nat} (s : SimF c t p) (hi : i ∈ c.own ∧ c.ur ≠ some i ∧ c.sc ≠ some i ∧ i < c.n) : SimS c (tAsg t (gName i)) (sAsg p (qName i)) :=
  fun F L σ H ρ b E Pn r hp o => s F L σ H ρ b _ _ r hp fun a vs ds H' b' e r' na ha td hs pk => o.nx _ _ H' _ b' (r.evo e na) (r.newOwn r' e na ha (.lst td) hs hi.1 hi.2.1 hi.2.2.1 hi.2.2.2) pk
theorem js_set (i : Nat) {x : Str} {e : Expr} {pos pos' : Pos} {p : PTE} (hN : ∀ j, (X j).N.Nodup) (h : JE X c e p) (hp : Plain c i := by first | decide | (dsimp only [Plain]; decide)) (hi : ∀ j, (X j).N[i]? = some x := by intro _; rfl) (hx : ∀ j, Loc (X j).env.scope x := by intro _; first | exact Or.inl rfl | exact Or.inr rfl)
    (hf : ∀ j, (X j).fn x = true ∨ (X j).env.scope.names.lookup x = some .local := by intro _; first | exact .inl rfl | exact .inr rfl)
    (hs : ∀ j, swapsWithSole [.Name x pos'] e pos.line (X j).env = pure false := by intro _; rfl) (hw : ∀ j, swappedStores [.Name x pos'] e (X j).env = pure none := by intro _; rfl) : JS X c (.Assign [.Name x pos'] e pos) (sAsg p (qName i)) :=
  js_asg h (jg_name i hN hp hi hx hf) hs hw
def ForG (pg : PTG) (pb : PTS) (E : PEnds) (ρ : En) (ds : List D) (b : Sb) : Prop := ∃ Inv : Nat → En → Sb → Prop, Inv 0 ρ b ∧
  (∀ i x ρ b, ds[i]? = some x → Inv i ρ b → pg x ρ fun ρ2 => pb { E with nx := Inv (i + 1), ct := Inv (i + 1), bk := E.nx } ρ2 b) ∧ ∀ ρ b, Inv ds.length ρ b → E.nx ρ b
def sFor (pi : PTI) (pg : PTG) (pb : PTS) : PTS := fun E ρ b => pi ρ b (ForG pg pb E ρ)
theorem js_for (fm : Fam X c k) {tg iter : Expr} {body : List Stmt} {pos : Pos} {ix : List Nat} {pi : PTI} {pg : PTG} {pb' : PTS} (hp : ∀ j, PassesOwn (model (X j).prog (X j).w) (X j).A (X j).env (X j).xe) (hi : JI X c false tg iter pi) (hg : JG X c tg ix pg) (hb : JSs X c body pb')
    (hs : ∀ j x, foldedSetIterable iter (X j).env x = pure x := by intro _ _; rfl) : JS X c (.For tg iter body [] pos) (sFor pi pg pb') := by
  obtain ⟨wi, w1, w2⟩ := hi.ex
  obtain ⟨g, g1, g2⟩ := hg.ex
  obtain ⟨tb, b1, b2⟩ := hb.ex
  refine ⟨_, fun j => ps_for (hp j) (fm.calm j) (w1 j) (g1 j) (b1 j) (hs j), fun F L σ H ρ b E Pn r hq o => w2 F L σ H ρ b _ _ r hq fun J ds kp H1 b1 e1 r1 wk hkp ⟨Iv, i0, istep, iend⟩ => ?_⟩
  refine ⟨fun i m σ2 H2 => m = ds.length - i ∧ i ≤ ds.length ∧ ∃ L' ρ' b', Evo F L H1 L' H2 ∧ RS c F L' σ2 H2 ρ' b' ∧ Iv i ρ' b', ⟨ds.length, by simp, Nat.zero_le _, L, ρ, b1, .refl, r1, i0⟩, ?_⟩
  rintro i m σ2 H2 ⟨rfl, hi, L', ρ', b', ev, r2, iv⟩
  obtain ⟨w1, w2⟩ := wk (exA F.ex L') H2 (fun z o n e w => ⟨fun q => (ev.2 z q).elim n fun q => (by rw [e] at q; cases q), (ev.1 z o n e).2 w⟩) (fun z o hz _ _ => by have := (hkp z hz).1; cases this) r2.tr
  by_cases hlt : i < ds.length
  · have hx := List.getElem?_eq_getElem hlt
    obtain ⟨go, yl⟩ := w1 i _ hx
    refine .inr ⟨go, fun σ3 H3 => ∃ L' ρ' b', Evo F L H1 L' H3 ∧ RS c F L' σ3 H3 ρ' b' ∧ Iv (i + 1) ρ' b', fun σ3 H3 q => ⟨ds.length - (i + 1), by omega, rfl, hlt, q⟩, fun v H3 hy => ?_⟩
    obtain ⟨s23, tv⟩ := yl v H3 hy
    have ev3 : Evo F L H1 L' H3 := ev.trans (Evo.u (c := c) (.same s23))
    refine g2 F L' σ2 H3 ρ' b' v _ _ _ (r2.same s23) tv (istep i _ ρ' b' hx iv) fun σ3 ρ3 r4 _ hp4 => ?_
    refine b2 F L' σ3 H3 ρ3 b' _ _ r4 hp4 ⟨fun L4 σ4 H4 ρ4 b4 e4 r5 h5 => ⟨L4, ρ4, b4, ev3.trans e4, r5, h5⟩, fun L4 σ4 H4 ρ4 b4 e4 r5 h5 => ?_, fun L4 σ4 H4 ρ4 b4 e4 r5 h5 => ⟨L4, ρ4, b4, ev3.trans e4, r5, h5⟩, o.rt⟩
    exact o.nx L4 σ4 H4 ρ4 b4 ((Evo.u e1).trans (ev3.trans e4)) r5 h5
  · have e : i = ds.length := by omega
    subst e
    exact .inl ⟨w2, o.nx L' σ2 H2 ρ' b' ((Evo.u e1).trans ev) r2 (iend ρ' b' iv)⟩
theorem SqL.kp {K : PySem.W.Frag} {H0 H : Hp} {a : Addr} {xs : List V} (h : SqL K H0 a xs ∧ ∀ o, H0 a = some o → ¬ ownK o) (k : ∀ o, H0 a = some o → Kp o H a) : SqL K H a xs := by
  obtain ⟨h, n⟩ := h
  rcases h with (h | ⟨o, h⟩) | h | h
  · exact .inl (.inl ((k _ h).2 (n _ h)))
  · exact .inl (.inr ⟨o, (k _ h).2 (n _ h)⟩)
  · exact absurd trivial (n _ h)
  · exact .inr (.inr h)
def pLenS : PTE := fun _ b P => ∀ n : Nat, n ≤ 63 → P (.int n) b
theorem je_lenS (fm : Fam X c k) (i : Nat) {x : Str} {px p pos : Pos} (hm : ∀ j, (X j).mg "len" = none) (hsc : c.sc = some i := by rfl) (hN : ∀ j, (X j).N[i]? = some x := by intro _; rfl) (hv : ∀ j, Vis (X j).env.scope x := by intro _; first | exact Or.inl rfl | exact Or.inr (Or.inl rfl) | exact Or.inr (Or.inr rfl))
    (hd : (x == ("__debug__" : Str)) = false := by first | decide | (dsimp only [Plain]; decide)) (hcd : (x == ("__classdict__" : Str)) = false := by first | decide | (dsimp only [Plain]; decide)) (hg : ∀ j, Gl (X j) "len" := by intro _; rfl) : JE X c (.Call (.Name "len" p) [.Name x px] [] pos) pLenS := by
  refine ⟨tCB (fun xs H Q => ∃ p ys, xs = [.ref p] ∧ (SqL c.K H p ys ∨ SqT c.K H p ys) ∧ Q (.int ys.length) H) (tCons (tVar i) tNil), fun j => ?_, fun F L σ H ρ b Q P r h k => ?_⟩
  · have := pb (call_len_seq (X := X j)) (hg j) (hm j) (by decide +kernel) (pc (pe_var (hN j) (hv j) hd hcd (pos := px)) pa_nil rfl) rfl (p := p) (pos := pos)
    rw [fm.K j] at this; exact this
  · obtain ⟨hu0, _, _, _, a, ns, hσ, hS, hl⟩ := r.scr i hsc
    refine ⟨.ref a, hσ, a, _, rfl, .inl (SqL.kp hS fun o e => r.fr a o (by rw [hu0]; intro z; cases z) e), ?_⟩
    rw [List.length_map]
    exact k _ _ H b (.refl H) r (.int _) (h ns.length hl)
theorem RS.newUrn {F : Fm} {L : Ow} {σ : St} {H H' : Hp} {ρ : En} {b : Sb} {n' : Nat} {a : Addr} {i : Nat} (r : RS c F L σ H ρ b) (s : Same H H') (na : H a = none) (ha : UrnAt H' a n') (hu : c.ur = some i) (h0 : F.u0 = none) (hsc : c.sc ≠ some i) (hn : i < c.n) :
    RS c F (setL L i a) (σ.set i (some (.ref a))) H' (ρ.set i (some .none)) (b.to n') := by
  have nex : ¬ exA F.ex L a := newIn r na
  have up : ∀ z, exA F.ex (setL L i a) z → exA F.ex L z ∨ z = a := fun z h => by
    rcases h with h | ⟨j, h⟩
    · exact .inl (.inl h)
    · unfold setL at h
      by_cases q : j = i
      · rw [if_pos q] at h; cases h; exact .inr rfl
      · rw [if_neg q] at h; exact .inl (.inr ⟨j, h⟩)
  have kk : ∀ z o, ¬ exA F.ex L z → H z = some o → ¬ ownK o → ¬ exA F.ex (setL L i a) z ∧ H' z = some o := fun z o n q _ => ⟨fun y => (up z y).elim n (ne_of_none q na), s z o q⟩
  have lσ : i < σ.length := by rw [r.len, r.len2]; exact hn
  have old : ∀ j x, j ≠ i → setL L i a j = some x → L j = some x := fun j x n h => by unfold setL at h; rw [if_neg n] at h; exact h
  have hH0 : F.H0 a = none := by
    cases q : F.H0 a with
    | none => rfl
    | some o => exact absurd na (r.fr a o (by rw [h0]; intro z; cases z) q).nn
  exact {
    len := by rw [List.length_set, List.length_set]; exact r.len
    len2 := by rw [List.length_set]; exact r.len2
    vals := fun j d hj n n2 => by
      have ne : i ≠ j := fun z => n2 (z ▸ hu)
      rw [List.getElem?_set_ne ne] at hj
      obtain ⟨v, h1, h2⟩ := r.vals j d hj n n2
      exact ⟨v, by rw [List.getElem?_set_ne ne]; exact h1, TdO.to kk d v h2⟩
    ow := fun j x hj => by
      by_cases q : j = i
      · subst q
        unfold setL at hj
        rw [if_pos rfl] at hj
        cases hj
        exact ⟨List.getElem?_set_self lσ, .inl hH0, .inl ⟨hu, ha⟩⟩
      · have hj' := old j x q hj
        obtain ⟨h1, h2, h3⟩ := r.ow j x hj'
        refine ⟨by rw [List.getElem?_set_ne (Ne.symm q)]; exact h1, h2, ?_⟩
        rcases h3 with ⟨q1, u⟩ | ⟨q1, ho, vs', ds', hr, hH, ht⟩
        · rw [hu] at q1; cases q1; exact absurd rfl q
        · exact .inr ⟨q1, ho, vs', ds', by rw [List.getElem?_set_ne (Ne.symm q)]; exact hr, s x _ hH, ht.to kk⟩
    ow' := fun j d hj he => by
      have ne : j ≠ i := fun z => (r.nur i hu).1 (z ▸ hj)
      rw [List.getElem?_set_ne (Ne.symm ne)] at he
      obtain ⟨x, hx⟩ := r.ow' j d hj he
      exact ⟨x, by unfold setL; rw [if_neg ne]; exact hx⟩
    inj := fun j l x hj hl => by
      by_cases q : j = i
      · by_cases q2 : l = i
        · rw [q, q2]
        · subst q
          have hl' := old l x q2 hl
          unfold setL at hj
          rw [if_pos rfl] at hj
          cases hj
          exact absurd (.inr ⟨l, hl'⟩) nex
      · by_cases q2 : l = i
        · subst q2
          have hj' := old j x q hj
          unfold setL at hl
          rw [if_pos rfl] at hl
          cases hl
          exact absurd (.inr ⟨j, hj'⟩) nex
        · exact r.inj j l x (old j x q hj) (old l x q2 hl)
    nur := fun j hj => by
      rw [hu] at hj
      cases hj
      exact ⟨(r.nur i hu).1, fun _ _ => ⟨a, by unfold setL; rw [if_pos rfl]⟩⟩
    tr := fun z hz => by
      rcases up z hz with q | q
      · obtain ⟨o, h, ht⟩ := r.tr z q; exact ⟨o, s z o h, ht⟩
      · subst q; obtain ⟨xs, h⟩ := ha.lst; exact ⟨_, h, nT_lst⟩
    fr := fun z o n h => (r.fr z o n h).trans fun o' q => .of (s z o' q)
    st := r.st.go kk fun z o e _ => s z o e
    u0 := fun u hu0 => by rw [h0] at hu0; cases hu0
    scr := fun j hj => by
      have ne : i ≠ j := fun z => hsc (z ▸ hj)
      obtain ⟨h1, h2, h3, h4, a', ns, h5, h6⟩ := r.scr j hj
      exact ⟨h1, fun e => by rw [List.getElem?_set_ne ne]; exact h2 e, h3, h4, a', ns, by rw [List.getElem?_set_ne ne]; exact h5, h6⟩ }
def sUrn (iu : Nat) (p : PTE) : PTS := fun E ρ b => p ρ b fun x b => ∃ n, x = .int n ∧ 0 ≤ n ∧ n ≤ 3 ∧ E.nx (ρ.set iu (some .none)) (b.to 0)
theorem js_urn (fm : Fam X c k) (iu isc : Nat) {y x xs : Str} {e : Expr} {p : PTE} {k' : Nat} {ps : List Str} {py px pf pos cpos : Pos} (hN : ∀ j, (X j).N.Nodup) (hD : ∀ j, Dn (X j).prog (X j).w (X j).K (X j).mg (X j).base k' x ps (spUrn c.K)) (he : JE X c e p) (hu : c.ur = some iu := by rfl) (hsc : c.sc = some isc := by rfl) (hn : iu ≠ isc ∧ iu < c.n := by first | decide | (dsimp only [Plain]; decide))
    (hy : ∀ j, (X j).N[iu]? = some y := by intro _; rfl) (hyl : ∀ j, Loc (X j).env.scope y := by intro _; first | exact Or.inl rfl | exact Or.inr rfl) (hf : ∀ j, (X j).fn y = true ∨ (X j).env.scope.names.lookup y = some .local := by intro _; first | exact .inl rfl | exact .inr rfl)
    (hNs : ∀ j, (X j).N[isc]? = some xs := by intro _; rfl) (hv : ∀ j, Vis (X j).env.scope xs := by intro _; first | exact Or.inl rfl | exact Or.inr (Or.inl rfl) | exact Or.inr (Or.inr rfl)) (hd : (xs == ("__debug__" : Str)) = false := by first | decide | (dsimp only [Plain]; decide)) (hcd : (xs == ("__classdict__" : Str)) = false := by first | decide | (dsimp only [Plain]; decide))
    (hg : ∀ j, Gl (X j) x := by intro _; rfl) (hle : k' ≤ k := by first | decide | omega) (hdx : (x == ("__debug__" : Str)) = false := by first | decide | (dsimp only [Plain]; decide)) (hne : notStar e = true := by rfl)
    (hs : ∀ j, swapsWithSole [.Name y py] (.Call (.Name x pf) [.Name xs px, e] [] cpos) pos.line (X j).env = pure false := by intro _; rfl) (hw : ∀ j, swappedStores [.Name y py] (.Call (.Name x pf) [.Name xs px, e] [] cpos) (X j).env = pure none := by intro _; rfl) :
    JS X c (.Assign [.Name y py] (.Call (.Name x pf) [.Name xs px, e] [] cpos) pos) (sUrn iu p) := by
  obtain ⟨t, z, s⟩ := he.ex
  refine ⟨tAsg (tCall (spUrn c.K) [] E0 (tCons (tVar isc) (tCons t tNil))) (gName iu), fun j => ps_asg (pd (hD j) (fm.room j) (hg j) (pc (pe_var (hNs j) (hv j) hd hcd) (pc (z j) pa_nil hne) rfl) hle hdx (by rw [List.all_cons, List.all_cons, hne]; rfl)) (pg_name (hN j) (hy j) (hyl j) (hf j)) (hs j) (hw j) rfl, fun F L σ H ρ b E Pn r hq o => ?_⟩
  obtain ⟨hu0, _, _, _, a, ns, hσ, hS, hl⟩ := r.scr isc hsc
  refine ⟨.ref a, hσ, s F L σ H ρ b _ _ r hq fun v d H1 b1 e1 r1 td ⟨n, ed, n0, n3, pk⟩ => ?_⟩
  subst ed
  cases td
  refine ⟨a, ns, n, rfl, SqL.kp hS fun o e => r1.fr a o (by rw [hu0]; intro z; cases z) e, n0, n3, fun u H2 s2 nu ur => ?_⟩
  refine o.nx _ _ H2 _ (b1.to 0) ((Evo.u e1).trans ?_) (r1.newUrn s2 nu ur hu hu0 (fun q => hn.1 (by rw [hsc] at q; exact (Option.some.inj q).symm)) hn.2) pk
  exact r1.evo (.same s2) nu
end
theorem all_at {ex : Addr → Prop} {H : Hp} {vs : List V} {ds : List D} {i : Nat} {d : D} (h : TdOAll ex H vs ds) (e : ds[i]? = some d) : ∃ v, vs[i]? = some v ∧ TdO ex H v d := by
  have hi : i < vs.length := by rw [h.len]; exact (List.getElem?_eq_some_iff.mp e).1
  obtain ⟨d', e2, t⟩ := h.at (List.getElem?_eq_getElem hi)
  rw [e] at e2
  cases e2
  exact ⟨vs[i], List.getElem?_eq_getElem hi, t⟩
section
variable {P : Program} {w : World} {K : PySem.W.Frag} {mg : Str → Option Value} {base : Heap} {x : Str} {st : Stmt} {N ps : List Str} {k : Nat}
theorem startS {mg : Str → Option Value} {ex : Addr → Prop} {H : Hp} {vs : List V} {ds : List D} {b : Sb} (own : List Nat) (hl : ds.length = ps.length) (hps : ps.length ≤ N.length) (hown : ∀ i ∈ own, ps.length ≤ i) (tr : ∀ z, ex z → ∃ o, H z = some o ∧ nT o) (st : Sto mg ex H b) (td : TdOAll ex H vs ds) :
    RS ⟨K, none, own, none, N.length, mg⟩ ⟨H, ex, none⟩ (fun _ => none) (start N vs) H (startD N ds) b where
  len := by unfold start startD; simp only [List.length_append, List.length_map, List.length_replicate]; rw [td.len]
  len2 := by unfold startD; simp only [List.length_append, List.length_map, List.length_replicate]; omega
  vals := fun i d hd _ _ => by
    obtain ⟨v, hv, tv⟩ := all_at td (startD_get hd)
    exact ⟨v, start_get hv, TdO.to (fun z o n e _ => ⟨fun q => n (exA_none.1 q), e⟩) d v tv⟩
  ow := fun i a hi => by cases hi
  ow' := fun i d hi hd => by
    have := (List.getElem?_eq_some_iff.mp (startD_get hd)).1
    have := hown i hi
    omega
  inj := fun i j a hi _ => by cases hi
  nur := fun i hi => by cases hi
  tr := fun z hz => tr z (exA_none.1 hz)
  fr := fun z o _ e => .of e
  u0 := fun u hu => by cases hu
  scr := fun i hi => by cases hi
  st := st.go (fun z o n e _ => ⟨fun q => n (exA_none.1 q), e⟩) fun _ _ e _ => e
theorem bodyS {Fd : List D → Sb → KE → Prop} {p : PTS} {I : Type} {X : I → Cx} (i0 : I) (own : List Nat) (hX : Fam X ⟨K, none, own, none, N.length, mg⟩ k → JSs X ⟨K, none, own, none, N.length, mg⟩ (defBody st) p) (fm : Fam X ⟨K, none, own, none, N.length, mg⟩ k)
    (h : ∀ (ds : List D) (b : Sb) (R : KE), Fd ds b R → ds.length = ps.length ∧ p { nx := fun _ b' => R .none (b'.to b.n), rt := fun d b' => R d (b'.to b.n) } (startD N ds) b)
    (hown : ∀ i ∈ own, ps.length ≤ i) (hps : ps.length ≤ N.length) {vs : List V} {H : Hp} {Q : VK} {E : XK} (hq : spS mg Fd vs H Q E) : ∃ t, (∀ i, L2.PSs (X i) (defBody st) t) ∧ t { nx := fun _ H' => Q .non H', rt := Q } (start N vs) H := by
  obtain ⟨ex, ds, b, R, tr, st, td, hf, q⟩ := hq
  obtain ⟨hl, hp⟩ := h ds b R hf
  obtain ⟨t, a, sm⟩ := (hX fm).ex
  refine ⟨t, a, sm ⟨H, ex, none⟩ (fun _ => none) (start N vs) H (startD N ds) b _ _ (startS own hl hps hown tr st td) hp ⟨fun L' σ' H' ρ' b' _ r' hn => ?_, fun _ _ _ _ _ _ _ hn => hn.elim, fun _ _ _ _ _ _ _ hn => hn.elim, fun v d H' b' ⟨h1, _, h3, h4⟩ hn => ?_⟩⟩
  · exact q .non .none H' (b'.to b.n) rfl (fun z o e => r'.fr z o (by intro z; cases z) e) (fun a x e => r'.out a x e) .non hn
  · exact q v d H' (b'.to b.n) rfl (fun z o e => h1 z o (by intro z; cases z) e) (fun a x e => h3 a x e) h4 hn
theorem dnU {Fd : List D → Sb → KE → Prop} {p : PTS} (F : Fn K mg x st) (S : FnScope N ps (defScope st)) (own : List Nat)
    (hb : ∀ (kV doc pm : Value) (an : Option Addr) (cdv ct : Value) (us : List Value), us.length = ps.length → bindArgs (PySem.W.fnOf x x (defArgs st) (defBody st) (defScope st) .none kV doc pm an cdv ct) ⟨us, []⟩ = pure (ps.zip us))
    (hbody : ∀ (f : Addr) (cdv : Value) (A : Around) (outer : List Env) (s : Shared) (H : Hp) (E : XK), Fam (fam0 P w K mg base N x (defScope st) f cdv A outer s H E) ⟨K, some 0, own, none, N.length, mg⟩ k → JSs (fam0 P w K mg base N x (defScope st) f cdv A outer s H E) ⟨K, some 0, own, none, N.length, mg⟩ (defBody st) p)
    (h : ∀ (ds : List D) (b : Sb) (R : KE), Fd ds b R → ds.length + 1 = ps.length ∧ p { nx := fun _ b => R .none b, rt := R } (startD N (.none :: ds)) b)
    (hown : ∀ i ∈ own, ps.length ≤ i ∧ 0 < i := by first | decide | (dsimp only [Plain]; decide)) (hps : ps.length ≤ N.length := by first | decide | (dsimp only [Plain]; decide)) : Dn P w K mg base (k + 1) x ps (spU mg Fd) := by
  refine F.dn S hb (fun vs H Q E hq => ?_) fun f cdv A outer s H vs Q E hr hq => ?_
  · obtain ⟨u, vs', ex, ds, b, R, rfl, _, _, _, _, td, hf, _⟩ := hq
    rw [List.length_cons, td.len]; exact (h ds b R hf).1
  obtain ⟨u, vs', ex, ds, b, R, rfl, hu, exu, tr, sto, td, hf, q⟩ := hq
  obtain ⟨hl, hp⟩ := h ds b R hf
  obtain ⟨t, a, sm⟩ := (hbody f cdv A outer s H E ⟨fun _ => rfl, fun _ => rfl, fun _ => hr, fun _ => rfl⟩).ex
  have L0 : ∀ i z, (fun i : Nat => if i = 0 then some u else none) i = some z → i = 0 ∧ z = u := fun i z e => by
    by_cases q : i = 0
    · subst q; cases e; exact ⟨rfl, rfl⟩
    · have e' : (if i = 0 then some u else none) = some z := e
      rw [if_neg q] at e'; cases e'
  have ea : ∀ z, exA ex (fun i : Nat => if i = 0 then some u else none) z → ex z := fun z e => by
    rcases e with e | ⟨i, e⟩
    · exact e
    · rw [(L0 i z e).2]; exact exu
  refine ⟨t, a (), sm ⟨H, ex, some u⟩ (fun i => if i = 0 then some u else none) (start N (.ref u :: vs')) H (startD N (.none :: ds)) b _ _ ?_ hp ⟨fun L' σ' H' ρ' b' _ r' hn => ?_, fun _ _ _ _ _ _ _ hn => hn.elim, fun _ _ _ _ _ _ _ hn => hn.elim, fun v d H' b' ⟨h1, h2, h3, h4⟩ hn => ?_⟩⟩
  · exact {
      len := by unfold start startD; simp only [List.length_append, List.length_map, List.length_replicate, List.length_cons]; rw [td.len]
      len2 := by unfold startD; simp only [List.length_append, List.length_map, List.length_replicate, List.length_cons]; omega
      vals := fun i d hd _ n2 => by
        cases i with
        | zero => exact absurd rfl n2
        | succ i =>
          have hd' : ds[i]? = some d := by simpa using startD_get hd
          obtain ⟨v, hv, tv⟩ := all_at td hd'
          exact ⟨v, start_get (by simpa using hv), TdO.to (fun z o n e _ => ⟨fun q => n (ea z q), e⟩) d v tv⟩
      ow := fun i a hi => by
        obtain ⟨rfl, rfl⟩ := L0 i a hi
        exact ⟨rfl, .inr rfl, .inl ⟨rfl, hu⟩⟩
      ow' := fun i d hi hd => by
        have := (List.getElem?_eq_some_iff.mp (startD_get hd)).1
        have := (hown i hi).1
        rw [List.length_cons] at *
        omega
      inj := fun i j a hi hj => by rw [(L0 i a hi).1, (L0 j a hj).1]
      nur := fun i hi => by
        cases hi
        exact ⟨fun z => Nat.lt_irrefl 0 (hown 0 z).2, fun d _ => ⟨u, rfl⟩⟩
      tr := fun z hz => tr z (ea z hz)
      fr := fun z o _ e => .of e
      u0 := fun z hz => by cases hz; exact ⟨0, rfl, rfl⟩
      scr := fun i hi => by cases hi
      st := sto.go (fun z o n e _ => ⟨fun q => n (ea z q), e⟩) fun _ _ e _ => e }
  · refine q .non .none H' b' (fun z o n e => r'.fr z o (fun q => n (Option.some.inj q).symm) e) (r'.urn (r'.u0 u rfl)) r'.out .non hn
  · exact q v d H' b' (fun z o n e => h1 z o (fun q => n (Option.some.inj q).symm) e) (h2 u rfl) h3 h4 hn
def spLawO (K : PySem.W.Frag) : Sp := fun vs H Q _ => ∃ (a : Addr) (ns : List Int), vs = [.ref a] ∧ (SqL K H a (ns.map V.int) ∧ ∀ o, H a = some o → ¬ ownK o) ∧ ns.length ≤ 63 ∧ ∀ H', Q (.bl true) H'
def sb0 : Sb := ⟨0, fun _ => none⟩
theorem dnL {p : PTS} (F : Fn K mg x st) (S : FnScope N ps (defScope st)) (iu : Nat) (own : List Nat)
    (hb : ∀ (kV doc pm : Value) (an : Option Addr) (cdv ct : Value) (us : List Value), us.length = ps.length → bindArgs (PySem.W.fnOf x x (defArgs st) (defBody st) (defScope st) .none kV doc pm an cdv ct) ⟨us, []⟩ = pure (ps.zip us))
    (hbody : ∀ (f : Addr) (cdv : Value) (A : Around) (outer : List Env) (s : Shared) (H : Hp) (E : XK), Fam (fam0 P w K mg base N x (defScope st) f cdv A outer s H E) ⟨K, some iu, own, some 0, N.length, mg⟩ k → JSs (fam0 P w K mg base N x (defScope st) f cdv A outer s H E) ⟨K, some iu, own, some 0, N.length, mg⟩ (defBody st) p)
    (h : p { nx := fun _ _ => False, rt := fun d _ => d = .bool true } (List.replicate N.length none) sb0)
    (hps : ps.length = 1 := by rfl) (hn : 0 < N.length := by first | decide | (dsimp only [Plain]; decide)) (hiu : 0 < iu ∧ iu ∉ own ∧ 0 ∉ own := by first | decide | (dsimp only [Plain]; decide)) : Dn P w K mg base (k + 1) x ps (spLawO K) := by
  refine F.dn S hb (fun vs H Q E hq => ?_) fun f cdv A outer s H vs Q E hr hq => ?_
  · obtain ⟨a, ns, rfl, _⟩ := hq; exact hps.symm
  obtain ⟨a, ns, rfl, hS, h63, q⟩ := hq
  obtain ⟨t, a1, sm⟩ := (hbody f cdv A outer s H E ⟨fun _ => rfl, fun _ => rfl, fun _ => hr, fun _ => rfl⟩).ex
  have nn : ∀ (i : Nat) (d : D), (List.replicate N.length (none : Option D))[i]? ≠ some (some d) := fun i d e => by
    rw [List.getElem?_replicate] at e
    split at e <;> cases e
  refine ⟨t, a1 (), sm ⟨H, fun _ => False, none⟩ (fun _ => none) (start N [.ref a]) H _ sb0 _ _ ?_ h ⟨fun L' σ' H' ρ' b' _ r' hn => hn.elim, fun _ _ _ _ _ _ _ hn => hn.elim, fun _ _ _ _ _ _ _ hn => hn.elim, fun v d H' b' ⟨h1, h2, _, h3⟩ hn => ?_⟩⟩
  · exact {
      len := by unfold start; simp only [List.length_append, List.length_map, List.length_replicate, List.length_cons, List.length_nil]; omega
      len2 := by rw [List.length_replicate]
      vals := fun i d hd _ n2 => absurd hd (nn i d)
      ow := fun i a hi => by cases hi
      ow' := fun i d hi hd => absurd hd (nn i d)
      inj := fun i j a hi hj => by cases hi
      nur := fun i hi => by
        cases hi
        exact ⟨hiu.2.1, fun d hd => absurd hd (nn _ d)⟩
      tr := fun z hz => (exA_none.1 hz).elim
      fr := fun z o _ e => .of e
      st := fun a x e => by cases e
      u0 := fun z hz => by cases hz
      scr := fun i hi => by
        cases hi
        exact ⟨rfl, nn 0, hiu.2.2, (fun e => by cases e; exact Nat.lt_irrefl 0 hiu.1), a, ns, start_get rfl, hS, h63⟩ }
  · have e : d = .bool true := hn
    subst e
    cases h3
    exact q H'
end
end PO
end L2
set_option Elab.async false
set_option linter.all false
set_option maxRecDepth 100000
namespace L2
namespace PO
open PySem PySem.Spec PyProof.Rows L2 L2.PU
section
variable {I : Type} {X : I → Cx} {c : C} {k : Nat}
def pInS (neg : Bool) (xs : List Str) (pa : PTE) : PTE := fun ρ b P => pa ρ b fun x b => isOb x = false ∧ P (.bool (if neg then !inSD x xs else inSD x xs)) b
theorem jc_inS (fm : Fam X c k) {x : Str} {xs : List Str} (hm : ∃ a, (∀ j, (X j).mg x = some (.ref a)) ∧ KTup c.K a (xs.map V.str)) {a : Expr} {pos p2 : Pos} {pa : PTE} (ha : JE X c a pa) (hg : ∀ j, Gl (X j) x := by intro _; rfl) (hd : (x == ("__debug__" : Str)) = false := by first | decide | (dsimp only [Plain]; decide))
    (hmk : behindInMarks .In (.Name x p2) = false := by with_unfolding_all rfl) : JC X c (.Compare a [.In] [.Name x p2] pos) (pInS false xs pa) := by
  obtain ⟨ta, a1, a2⟩ := ha.ex
  obtain ⟨g, hm, hk⟩ := hm
  have hb : ∀ j, L2.PE (X j) (.Name x p2) (tC (.ref g)) := fun j => pe_glob (hg j) (hm j) rfl hd
  refine ⟨tOp (rInS c.K false xs) ta (tC (.ref g)), fun j => ?_, fun j => ?_, ?_⟩
  · have := pe_cmpR (op_inS (xs := xs) (fm.room j).units) (a1 j) (hb j) (pos := pos) hmk
    rw [fm.K j] at this; exact this
  · have := pt_cmpR (op_inS (xs := xs) (fm.room j).units) (a1 j) (hb j) (pos := pos) hmk
    rw [fm.K j] at this; exact this
  · intro F L σ H ρ b Q P r hp k
    refine a2 F L σ H ρ b _ _ r hp fun v d H1 b1 e1 r1 td ⟨nob, h1⟩ => ?_
    refine ⟨g, rfl, .inr (.inr hk), ?_⟩
    have fl : flatD d = true → inV (vOf d) (xs.map V.str) = inSD d xs := fun hf => by
      cases d with
      | str x => exact inV_strs
      | none => exact inV_non (fun _ => rfl) xs
      | bool x => exact inV_non (fun _ => rfl) xs
      | int i => exact inV_non (fun _ => rfl) xs
      | _ => cases hf
    cases hf : flatD d with
    | true =>
      obtain ⟨e2, e3⟩ := flat_v td hf
      refine .inl ⟨e3, ?_⟩
      have h1' : P (.bool (inSD d xs)) b1 := h1
      rw [← fl hf] at h1'
      rw [e2]
      exact k _ _ H1 b1 e1 r1 (.bl _) h1'
    | false =>
      cases td with
      | lst n ha hs => exact .inr ⟨_, rfl, .inl ⟨_, ha⟩, k _ _ H1 b1 e1 r1 (.bl _) h1⟩
      | tup n ha hs => exact .inr ⟨_, rfl, .inr (.inl ⟨_, ha⟩), k _ _ H1 b1 e1 r1 (.bl _) h1⟩
      | dct n ha hs => exact .inr ⟨_, rfl, .inr (.inr ⟨_, ha⟩), k _ _ H1 b1 e1 r1 (.bl _) h1⟩
      | obj a => exact Bool.noConfusion (show true = false from nob)
      | _ => cases hf
def pEqS (neg : Bool) (pa pb : PTE) : PTE := fun ρ b P => pa ρ b fun x b => pb ρ b fun y b => ∃ i j, x = .str i ∧ y = .str j ∧ P (.bool (if neg then !decide (i = j) else decide (i = j))) b
theorem jc_eqS {a b : Expr} {pos : Pos} {pa pb : PTE} (ha : JE X c a pa) (hb : JE X c b pb) (hm : behindInMarks .Eq b = false) : JC X c (.Compare a [.Eq] [b] pos) (pEqS false pa pb) := by
  obtain ⟨ta, a1, a2⟩ := ha.ex
  obtain ⟨tb, b1, b2⟩ := hb.ex
  refine ⟨_, fun j => pe_cmpR op_eq (a1 j) (b1 j) hm, fun j => pt_cmpR op_eq (a1 j) (b1 j) hm, sim2 (R := fun x y b P => ∃ i j, x = .str i ∧ y = .str j ∧ P (.bool (decide (i = j))) b) a2.v b2.v ?_⟩
  rintro F L σ H ρ b x y dx dy Q P r vx vy ⟨i, j, rfl, rfl, hp⟩ k
  rw [vx.str, vy.str]
  exact ⟨rfl, by rw [dec_strV]; exact k _ _ H (Same.refl H) (.bl _) hp⟩
theorem jc_neS {a b : Expr} {pos : Pos} {pa pb : PTE} (ha : JE X c a pa) (hb : JE X c b pb) (hm : behindInMarks .NotEq b = false) : JC X c (.Compare a [.NotEq] [b] pos) (pEqS true pa pb) := by
  obtain ⟨ta, a1, a2⟩ := ha.ex
  obtain ⟨tb, b1, b2⟩ := hb.ex
  refine ⟨_, fun j => pe_cmpR op_ne (a1 j) (b1 j) hm, fun j => pt_cmpR op_ne (a1 j) (b1 j) hm, sim2 (R := fun x y b P => ∃ i j, x = .str i ∧ y = .str j ∧ P (.bool (!decide (i = j))) b) a2.v b2.v ?_⟩
  rintro F L σ H ρ b x y dx dy Q P r vx vy ⟨i, j, rfl, rfl, hp⟩ k
  rw [vx.str, vy.str]
  exact ⟨rfl, by rw [dec_strV]; exact k _ _ H (Same.refl H) (.bl _) hp⟩
def pIsB (neg : Bool) (pa pb : PTE) : PTE := fun ρ b P => pa ρ b fun x b => pb ρ b fun y b => ∃ i j, x = .bool i ∧ y = .bool j ∧ P (.bool (if neg then i != j else i == j)) b
theorem jc_isnotB {a b : Expr} {pos : Pos} {pa pb : PTE} (ha : JE X c a pa) (hb : JE X c b pb) (hm : behindInMarks .IsNot b = false := by with_unfolding_all rfl) : JC X c (.Compare a [.IsNot] [b] pos) (pIsB true pa pb) := by
  obtain ⟨ta, a1, a2⟩ := ha.ex
  obtain ⟨tb, b1, b2⟩ := hb.ex
  refine ⟨_, fun j => pe_cmpR op_isnot_b (a1 j) (b1 j) hm, fun j => pt_cmpR op_isnot_b (a1 j) (b1 j) hm, sim2 (R := fun x y b P => ∃ i j, x = .bool i ∧ y = .bool j ∧ P (.bool (i != j)) b) a2.v b2.v ?_⟩
  rintro F L σ H ρ b x y dx dy Q P r vx vy ⟨i, j, rfl, rfl, hp⟩ k
  exact ⟨i, j, vx.bl, vy.bl, k _ _ H (Same.refl H) (.bl _) hp⟩
end
theorem lc_of {g : PTG} {tt : PTT} {te : PTE} {vs : List Nat} {ρ : En} {b : Sb} {P : KE} {ds : List D} (f : D → Option D) (hl : ds.length ≤ 1000000)
    (hs : ∀ x ∈ ds, ∀ (K1 : KE) (K0 : Sb → Prop), (∀ y, f x = some y → K1 y b) → (f x = none → K0 b) → g x (pwipe ρ vs) fun ρ2 => tt ρ2 b fun kk b => if kk = true then te ρ2 b K1 else K0 b)
    (hP : P (.list (ds.filterMap f)) b) : LcG g tt te vs ρ P ds b := by
  refine ⟨hl, fun i acc b' => b' = b ∧ acc = (ds.take i).filterMap f, ⟨rfl, rfl⟩, ?_, ?_⟩
  · rintro i x acc b' hx ⟨rfl, rfl⟩
    have ht : ds.take (i + 1) = ds.take i ++ [x] := by
      rw [List.take_succ, hx]; rfl
    refine hs x (List.mem_of_getElem? hx) _ _ (fun y hy => ⟨rfl, ?_⟩) (fun hn => ⟨rfl, ?_⟩)
    · rw [ht, List.filterMap_append]; simp [hy]
    · rw [ht, List.filterMap_append]; simp [hn]
  · rintro acc b' ⟨rfl, rfl⟩
    rw [List.take_length]; exact hP
theorem lc_map {g : PTG} {tt : PTT} {te : PTE} {vs : List Nat} {ρ : En} {b : Sb} {P : KE} {ds : List D} (f : D → D) (hl : ds.length ≤ 1000000)
    (hs : ∀ x ∈ ds, ∀ (K1 : KE) (K0 : Sb → Prop), K1 (f x) b → g x (pwipe ρ vs) fun ρ2 => tt ρ2 b fun kk b => if kk = true then te ρ2 b K1 else K0 b)
    (hP : P (.list (ds.map f)) b) : LcG g tt te vs ρ P ds b :=
  lc_of (fun x => some (f x)) hl (fun x hx K1 K0 h1 _ => hs x hx K1 K0 (h1 _ rfl)) (by rw [List.filterMap_eq_map']; exact hP)
theorem for_of {pg : PTG} {pb : PTS} {E : PEnds} {ρ : En} {ds : List D} {b : Sb} (Inv : Nat → En → Sb → Prop) (h0 : Inv 0 ρ b)
    (hs : ∀ i x ρ b, ds[i]? = some x → Inv i ρ b → pg x ρ fun ρ2 => pb { E with nx := Inv (i + 1), ct := Inv (i + 1), bk := E.nx } ρ2 b) (he : ∀ ρ b, Inv ds.length ρ b → E.nx ρ b) : ForG pg pb E ρ ds b := ⟨Inv, h0, hs, he⟩
end PO
end L2
set_option Elab.async false
set_option linter.all false
set_option maxRecDepth 100000
set_option Elab.async false
set_option linter.all false
set_option maxRecDepth 100000
namespace L2
namespace PO
open PySem PySem.Spec PyProof.Rows L2 L2.PU
section
variable {I : Type} {X : I → Cx} {c : C} {k : Nat}
theorem g2_f {ex : Addr → Prop} {H : Hp} {vs : List V} {ds : List D} {r : Int × Int × Int} (td : TdOAll ex H vs ds) (h : g2 ds = some r) : f2 vs = some r := by
  unfold g2 at h
  split at h
  · cases td with
    | cons a b =>
      cases a
      cases b with
      | cons a b => cases a; cases b; exact h
  · cases h
def pLr (g : List D → Option (Int × Int × Int)) (pa : PTA) : PTE := fun ρ b P => pa ρ b fun ds b => ∃ (i j cc : Int) (n : Nat), g ds = some (i, j, cc) ∧ RgC i j cc n ∧ n ≤ 1000000 ∧ P (.list ((rgC i cc n).map .int)) b
theorem simF_lrng {f : List V → Option (Int × Int × Int)} {g : List D → Option (Int × Int × Int)} {ta : L2.TA} {pa : PTA} (s : SimA c ta pa) (hf : ∀ (ex : Addr → Prop) H vs ds r, TdOAll ex H vs ds → g ds = some r → f vs = some r) : SimF c (tLrng f ta) (pLr g pa) := by
  intro F L σ H ρ b Q P r hp k
  refine s F L σ H ρ b _ _ r hp fun vs ds H1 b1 e1 r1 td ⟨i, j, cc, n, hg, gg, hn, hP⟩ => ⟨i, j, cc, n, hf _ _ _ _ _ td hg, gg, hn, fun l hl => ?_⟩
  have sm := same_new hl (.lst ((rgC i cc n).map V.int))
  exact k l _ _ _ b1 (e1.trans (.same sm)) (r1.same sm) (none_back r1 e1 hl) upd_same (int_all _) (new_sto r1.st hl) hP
theorem jf_lrng2 (fm : Fam X c k) {a b : Expr} {p p1 p2 pos : Pos} {pa pb : PTE} (hml : ∀ j, (X j).mg "list" = none) (hm : ∀ j, (X j).mg "range" = none) (ha : JE X c a pa) (hb : JE X c b pb) (hgl : ∀ j, Gl (X j) "list" := by intro _; rfl) (hg : ∀ j, Gl (X j) "range" := by intro _; rfl) (hs : notStar a = true := by rfl) (hs2 : notStar b = true := by rfl) :
    JF X c (.Call (.Name "list" p) [.Call (.Name "range" p1) [a, b] [] p2] [] pos) (pLr g2 (pCons pa (pCons pb pNil))) := by
  obtain ⟨ta, y, s2⟩ := (ja_cons ha (ja_cons hb ja_nil hs2) hs).ex
  exact ⟨tLrng f2 ta, fun j => pe_lrng2 (fm.calm j) (hgl j) (hml j) (hg j) (hm j) (y j) hs hs2, simF_lrng s2 fun _ _ _ _ _ => g2_f⟩
end
end PO
end L2
set_option Elab.async false
set_option linter.all false
set_option maxRecDepth 100000
namespace L2
namespace PO
open PySem PySem.Spec PyProof.Rows L2 L2.PU
section
variable {I : Type} {X : I → Cx} {c : C} {k : Nat}
def sPar2 (i j : Nat) (q : PTA) : PTS := fun E ρ b => q ρ b fun ds b => ∃ x y, ds = [x, y] ∧ E.nx ((ρ.set i (some x)).set j (some y)) b
theorem js_par2 (fm : Fam X c k) (i j : Nat) {x y : Str} {a b : Expr} {q : PTA} {px py pt pos : Pos} {kt k2 pt2} (hN : ∀ j, (X j).N.Nodup) (ha : JA X c [a, b] q) (hp : Plain c i ∧ Plain c j ∧ i ≠ j := by first | decide | (dsimp only [Plain]; decide))
    (hi : ∀ l, (X l).N[i]? = some x := by intro _; rfl) (hj : ∀ l, (X l).N[j]? = some y := by intro _; rfl) (hx : ∀ l, (X l).env.scope.names.lookup x = some .local := by intro _; rfl) (hy : ∀ l, (X l).env.scope.names.lookup y = some .local := by intro _; rfl)
    (hw : ∀ l, swappedStores [.Tuple [.Name x px, .Name y py] kt pt] (.Tuple [a, b] k2 pt2) (X l).env = pure (some [x, y]) := by intro _; rfl)
    (hs : ∀ l, swapsWithSole [.Tuple [.Name x px, .Name y py] kt pt] (.Tuple [a, b] k2 pt2) pos.line (X l).env = pure false := by intro _; rfl) :
    JS X c (.Assign [.Tuple [.Name x px, .Name y py] kt pt] (.Tuple [a, b] k2 pt2) pos) (sPar2 i j q) := by
  obtain ⟨t, z, s⟩ := ha.ex
  refine ⟨tPar i j t, fun l => ps_par (fm.calm l) (hN l) (hi l) (hj l) hp.2.2 (hx l) (hy l) (z l) (hw l) (hs l), fun F L σ H ρ b E Pn r hq o => s F L σ H ρ b _ _ r hq fun vs ds H1 b1 e1 r1 td ⟨d1, d2, ed, h1⟩ => ?_⟩
  subst ed
  cases td with
  | cons t1 t2 =>
    cases t2 with
    | cons t2 t3 =>
      cases t3
      exact ⟨_, _, rfl, o.nx L _ H1 _ b1 (.u e1) ((r1.set hp.1 t1).set hp.2.1 t2) h1⟩
end
end PO
end L2
set_option Elab.async false
set_option linter.all false
set_option maxRecDepth 100000
namespace L2
open PySem PySem.Spec PyProof.Rows
theorem ObjOk.lsw {P : Program} {w : World} {H H' : Hp} {h : Heap} {a : Addr} {xs : List V} : ObjOk P w H h a (.lsw xs) ↔ ObjOk P w H' h a (.lst xs) := Iff.rfl
theorem Inv.swap {X : Cx} {pins : List (Addr × Obj)} {σ : St} {H : Hp} {s : Shared} {a : Addr} {o o' : HO} (I : Inv X pins σ H s) (e : H a = some o) (mu : Mut (some o)) (ok : ObjOk X.prog X.w (upd H a o') s.heap a o') (no : ∀ x, o ≠ .own x) : Inv X pins σ (upd H a o') s := by
  have k : ∀ b u, s.heap.get? b = some u → s.heap.get? b = some u := fun _ _ q => q
  have nt : ∀ b u, H b = some u → ¬ Mut (some u) → b ≠ a := fun b u q n z => by subst z; rw [e] at q; cases q; exact n mu
  refine ⟨I.ok, I.os, I.bare, ⟨fun b ob hb hn hf hx => ?_, fun b ob hb hn hf hx => ?_, fun b ob hb hn hx => ?_, fun b ob hb hx => ?_, fun b xs hb => ?_, fun b ob u hb => ?_, fun b t q hb => ?_⟩, I.loc, I.cell, ?_, fun x c hc => ?_, fun p hp => ?_, fun b u hb => ?_, I.len⟩
  · exact I.base.keep b ob hb hn hf hx
  · exact I.base.slot b ob hb hn hf hx
  · have := I.base.free b ob hb hn hx
    rw [upd_ne (fun z => by subst z; rw [e] at this; cases this)]; exact this
  · exact I.base.there b ob hb hx
  · have q := I.base.tups b xs hb
    rw [upd_ne (nt b _ q id)]; exact q
  · have q := I.base.frzs b ob u hb
    rw [upd_ne (nt b _ q id)]; exact q
  · have q := I.base.tbls b t q hb
    rw [upd_ne (nt b _ q id)]; exact q
  · rw [upd_ne (fun z => by have := I.free; rw [z, e] at this; cases this)]; exact I.free
  · have := I.freeC x c hc
    rw [upd_ne (fun z => by rw [z, e] at this; cases this)]; exact this
  · obtain ⟨p1, p2, p3⟩ := I.pin p hp
    exact ⟨p1, by rw [upd_ne (fun z => by rw [z, e] at p2; cases p2)]; exact p2, p3⟩
  · by_cases hba : b = a
    · subst hba; rw [upd_same] at hb; cases hb; exact ok
    · rw [upd_ne hba] at hb
      exact (I.hok b u hb).stay (fun c v _ q => q) (fun c q => by rw [upd_ne (nt c _ q id)]; exact q) (fun c xs q => by rw [upd_ne (nt c _ q id)]; exact q) fun c t z q => by rw [upd_ne (nt c _ q id)]; exact q
theorem Inv.toL {X : Cx} {pins : List (Addr × Obj)} {σ : St} {H : Hp} {s : Shared} {a : Addr} {xs : List V} (I : Inv X pins σ H s) (e : H a = some (.lsw xs)) : Inv X pins σ (upd H a (.lst xs)) s := I.swap e trivial (I.hok a _ e) fun _ z => nomatch z
theorem Inv.toW {X : Cx} {pins : List (Addr × Obj)} {σ : St} {H : Hp} {s : Shared} {a : Addr} {xs : List V} (I : Inv X pins σ H s) (e : H a = some (.lst xs)) : Inv X pins σ (upd H a (.lsw xs)) s := I.swap e trivial (I.hok a _ e) fun _ z => nomatch z
namespace PO
open PySem PySem.Spec PyProof.Rows L2 L2.PU
structure Kls (K : PySem.W.Frag) (mg : Str → Option Value) (C : Str) : Prop where
  at_ : mg C = some (.ref (clA mg C))
  cl : Cls K (clA mg C)
structure Dm (P : Program) (w : World) (K : PySem.W.Frag) (mg : Str → Option Value) (base : Heap) (k : Nat) (C m : Str) (ps : List Str) (sp : Sp) : Prop where
  ex : ∃ f fd, FnOk P w K mg base CX0 k f fd ps sp ∧ Binds K fd ps [] ∧ Meth K (clA mg C) m f
structure Di (P : Program) (w : World) (K : PySem.W.Frag) (mg : Str → Option Value) (base : Heap) (k : Nat) (C : Str) (ps : List Str) (sp : Sp) : Prop where
  ex : ∃ f fd, FnOk P w K mg base CX0 k f fd ps sp ∧ Binds K fd ps [] ∧ Mk K (clA mg C) f
structure Fm2 (K : PySem.W.Frag) (mg : Str → Option Value) (C m qual : Str) (st : Stmt) : Prop where
  ex : ∃ f fd, Fun K m qual st f fd ∧ PySem.W.findIn K (.ref (clA mg C)) m = some (some (.ref f)) ∧ PySem.W.isFn K (.ref f) = true
section
variable {P : Program} {w : World} {K : PySem.W.Frag} {mg : Str → Option Value} {base : Heap} {C m qual : Str} {st : Stmt} {N ps : List Str} {k : Nat}
theorem dmS {Fd : List D → Sb → KE → Prop} {p : PTS} (F : Fm2 K mg C m qual st) (S : FnScope N ps (defScope st)) (own : List Nat)
    (hb : ∀ (kV doc pm : Value) (an : Option Addr) (cdv ct : Value) (us : List Value), us.length = ps.length → bindArgs (PySem.W.fnOf m qual (defArgs st) (defBody st) (defScope st) .none kV doc pm an cdv ct) ⟨us, []⟩ = pure (ps.zip us))
    (hbody : ∀ (f : Addr) (cdv : Value) (A : Around) (outer : List Env) (s : Shared) (H : Hp) (E : XK), Fam (fam0 P w K mg base N qual (defScope st) f cdv A outer s H E) ⟨K, none, own, none, N.length, mg⟩ k → JSs (fam0 P w K mg base N qual (defScope st) f cdv A outer s H E) ⟨K, none, own, none, N.length, mg⟩ (defBody st) p)
    (h : ∀ (ds : List D) (b : Sb) (R : KE), Fd ds b R → ds.length = ps.length ∧ p { nx := fun _ b' => R .none (b'.to b.n), rt := fun d b' => R d (b'.to b.n) } (startD N ds) b)
    (hown : ∀ i ∈ own, ps.length ≤ i := by first | decide | (dsimp only [Plain]; decide)) (hps : ps.length ≤ N.length := by first | decide | (dsimp only [Plain]; decide)) : Dm P w K mg base (k + 1) C m ps (spS mg Fd) := by
  obtain ⟨f, fd, FF, hf, hi⟩ := F.ex
  refine ⟨f, fd, FF.ok S (fun vs H Q E hq => ?_) fun cdv A outer s H vs Q E hr hq => ?_, FF.binds hb, ⟨hf, hi, FF.kp⟩⟩
  · obtain ⟨ex, ds, b, R, _, _, td, hf, _⟩ := hq
    rw [td.len]; exact (h ds b R hf).1
  · obtain ⟨t, a, q⟩ := bodyS () own (hbody f cdv A outer s H E) ⟨fun _ => rfl, fun _ => rfl, fun _ => hr, fun _ => rfl⟩ h hown hps hq
    exact ⟨t, a (), q⟩
theorem Dm.init {sp : Sp} (D : Dm P w K mg base k C "__init__" ps sp) (h1 : PySem.W.makesIn K (clA mg C) = true) (h2 : PySem.W.keepIn K (.ref (clA mg C)) = true) : Di P w K mg base k C ps sp := by
  obtain ⟨f, fd, G, b, M⟩ := D.ex
  exact ⟨f, fd, G, b, ⟨h1, M.at_, M.fn, h2⟩⟩
end
theorem FsR.look {ex : Addr → Prop} {H : Hp} {f : Str} : ∀ {fs : List (Str × V)} {fds : List (Str × D)}, FsR ex H fs fds → (∀ d, fds.lookup f = some d → ∃ v, fs.lookup f = some v ∧ TdO ex H v d) ∧ (fds.lookup f = none → fs.lookup f = none)
  | _, _, .nil => ⟨fun d e => (by cases e), fun _ => rfl⟩
  | (g, v) :: fs, (g', d') :: fds, .cons ⟨e, t⟩ r => by
    cases (show g = g' from e)
    obtain ⟨h1, h2⟩ := FsR.look (f := f) r
    rw [List.lookup_cons, List.lookup_cons]
    cases q : f == g with
    | true => exact ⟨fun d e => by cases e; exact ⟨v, rfl, t⟩, fun e => by cases e⟩
    | false => exact ⟨h1, h2⟩
def putD (f : Str) (d : D) : List (Str × D) → List (Str × D)
  | [] => [(f, d)]
  | (g, x) :: r => if g = f then (g, d) :: r else (g, x) :: putD f d r
theorem FsR.put {ex : Addr → Prop} {H : Hp} {f : Str} {v : V} {d : D} (t : TdO ex H v d) : ∀ {fs : List (Str × V)} {fds : List (Str × D)}, FsR ex H fs fds → FsR ex H (putF f v fs) (putD f d fds)
  | _, _, .nil => .cons ⟨rfl, t⟩ .nil
  | (g, v') :: fs, (g', d') :: fds, .cons ⟨e, t'⟩ r => by
    cases (show g = g' from e)
    show FsR ex H (if g = f then (g, v) :: fs else (g, v') :: putF f v fs) (if g = f then (g, d) :: fds else (g, d') :: putD f d fds)
    by_cases q : g = f
    · rw [if_pos q, if_pos q]; exact .cons ⟨rfl, t⟩ r
    · rw [if_neg q, if_neg q]; exact .cons ⟨rfl, t'⟩ (FsR.put t r)
theorem FsR.len {ex : Addr → Prop} {H : Hp} : ∀ {fs : List (Str × V)} {fds : List (Str × D)}, FsR ex H fs fds → fs.length = fds.length
  | _, _, .nil => rfl
  | _, _, .cons _ r => congrArg (· + 1) (FsR.len r)
theorem VR.ob {c : C} {F : Fm} {L : Ow} {H : Hp} {ρ : En} {v : V} {a : Addr} {σ : St} {b : Sb} (h : TdO (exA F.ex L) H v (oD a)) : v = .ref a := by
  unfold oD at h
  generalize e : ([(PyData.list [], PyData.int (a : Nat))] : List (D × D)) = kds at h
  cases h with
  | dct n ha hs =>
    cases hs with
    | nil => cases e
    | cons h1 h2 =>
      unfold keysD at e
      injection e with e _
      injection e with e _
      cases e
  | obj a' =>
    injection e with e _
    injection e with _ e
    injection e with e
    rw [Int.ofNat.inj e]
section
variable {I : Type} {X : I → Cx} {c : C} {k : Nat}
def pFld (C f : Str) (p : PTE) : PTE := fun ρ b P => p ρ b fun x b => ∃ a fds d, x = oD a ∧ b.o a = some (.ins C fds) ∧ fds.lookup f = some d ∧ P d b
theorem je_fld (fm : Fam X c k) {C f : Str} {e : Expr} {p : PTE} {pos : Pos} (kc : Kls c.K c.mg C) (na : NoAttr c.K (clA c.mg C) f) (h : JE X c e p) (hs : ∀ j, attributeBase e f (X j).env (eval e (X j).env) = eval e (X j).env := by intro _; rfl) : JE X c (.Attribute e f pos) (pFld C f p) := by
  obtain ⟨t, x, s⟩ := h.ex
  refine ⟨tFld c.K t f, fun j => ?_, fun F L σ H ρ b Q P r hp q => s F L σ H ρ b _ _ r hp fun v d H' b' e r' td ⟨a, fds, d', ed, eb, el, hP⟩ => ?_⟩
  · have := pe_fld (x j) (hs j) (f := f) (pos := pos); rw [fm.K j] at this; exact this
  · subst ed
    cases VR.ob (c := c) (ρ := ρ) (σ := σ) (b := b') td
    obtain ⟨dx, fs, h1, h2⟩ := r'.st a _ eb
    obtain ⟨v', l, tv⟩ := h2.look.1 d' el
    exact ⟨a, _, dx, fs, v', rfl, h1, kc.cl, na, l, q v' d' H' b' e r' tv hP⟩
theorem RS.put {F : Fm} {L : Ow} {σ : St} {H : Hp} {ρ : En} {b : Sb} {a : Addr} {o o' : HO} {x : Ob} (r : RS c F L σ H ρ b) (e : H a = some o) (w : ownK o) (w' : ownK o') (hx : ObS c.mg (exA F.ex L) (upd H a o') a x) : RS c F L σ (upd H a o') ρ (b.put a x) ∧ EvU c L H (upd H a o') := by
  have ev : EvU c L H (upd H a o') := fun z u n h => by
    by_cases q : z = a
    · subst q; rw [e] at h; cases h
      exact ⟨fun _ => ⟨o', upd_same, w'⟩, fun n => absurd w n⟩
    · exact .of (by rw [upd_ne q]; exact h)
  refine ⟨r.go ev (fun z hz => ?_) fun z y hz => ?_, ev⟩
  · obtain ⟨g, c', n, h, rest⟩ := r.urn hz
    exact ⟨g, c', n, by rw [upd_ne (fun q => by rw [q, e] at h; cases h; exact w)]; exact h, rest⟩
  · by_cases q : z = a
    · subst q
      rw [Sb.put_same] at hz; cases hz; exact hx
    · rw [Sb.put_ne q] at hz
      refine (r.st z y hz).to (fun u o2 n h nw => ⟨n, ?_⟩) fun o2 h _ => by rw [upd_ne q]; exact h
      rw [upd_ne (fun z => by rw [z, e] at h; cases h; exact nw w)]; exact h
theorem ObS.upd {mg : Str → Option Value} {ex : Addr → Prop} {H : Hp} {a : Addr} {o o' : HO} (e : H a = some o) (w : ownK o) : ∀ b u, ¬ ex b → H b = some u → ¬ ownK u → ¬ ex b ∧ upd H a o' b = some u := fun b u n h nw => ⟨n, by rw [upd_ne (fun z => by rw [z, e] at h; cases h; exact nw w)]; exact h⟩
def sFldO (C f : Str) (pv po : PTE) : PTS := fun E ρ b => pv ρ b fun d b => po ρ b fun x b => ∃ a fds, x = oD a ∧ b.o a = some (.ins C fds) ∧ fds.length < 1000 ∧ E.nx ρ (b.put a (.ins C (putD f d fds)))
theorem js_fld (fm : Fam X c k) {C f : Str} {o value : Expr} {pv po : PTE} {pos pos' : Pos} (kc : Kls c.K c.mg C) (na : NoAttr c.K (clA c.mg C) f) (hv : JE X c value pv) (ho : JE X c o po) (hs : ∀ j, swapsWith value (some (.Attribute o f pos')) pos.line (X j).env = pure false := by intro _; rfl) : JS X c (.Assign [.Attribute o f pos'] value pos) (sFldO C f pv po) := by
  obtain ⟨tv, v1, v2⟩ := hv.ex
  obtain ⟨to, o1, o2⟩ := ho.ex
  refine ⟨sFld c.K to tv f, fun j => ?_, fun F L σ H ρ b E Pn r hp ok => v2 F L σ H ρ b _ _ r hp fun v d H1 b1 e1 r1 td h1 => o2 F L σ H1 ρ b1 _ _ r1 h1 fun x dx H2 b2 e2 r2 tx ⟨a, fds, ed, eb, hl, h2⟩ => ?_⟩
  · have := ps_fld (o1 j) (v1 j) (hs j) (f := f) (pos := pos) (pos' := pos'); rw [fm.K j] at this; exact this
  · subst ed
    cases VR.ob (c := c) (ρ := ρ) (σ := σ) (b := b2) tx
    obtain ⟨dd, fs, g1, g2⟩ := r2.st a _ eb
    have tv2 : TdO (exA F.ex L) H2 v d := evu td e2
    have kk := ObS.upd (mg := c.mg) (ex := exA F.ex L) (o' := .ins (clA c.mg C) dd (putF f v fs)) g1 trivial
    obtain ⟨r3, e3⟩ := r2.put (o' := .ins (clA c.mg C) dd (putF f v fs)) (x := .ins C (putD f d fds)) g1 trivial trivial ⟨dd, _, upd_same, Paired.mapP (FsR.put tv2 g2) fun p q z => ⟨z.1, TdO.to kk _ _ z.2⟩⟩
    exact ⟨a, _, dd, fs, rfl, g1, kc.cl, na, by rw [g2.len]; exact hl, ok.nx L σ _ ρ _ (.u (e1.trans (e2.trans e3))) r3 h2⟩
def pMeth (C m : Str) (Fd : List D → Sb → KE → Prop) (po : PTE) (q : PTA) : PTE := fun ρ b P => po ρ b fun x b => ∃ a fds, x = oD a ∧ b.o a = some (.ins C fds) ∧ fds.lookup m = none ∧ q ρ b fun ds b => Fd (x :: ds) b P
theorem sim_meth {C m : Str} {Fd : List D → Sb → KE → Prop} {po : PTE} {q : PTA} {to : L2.TE} {t : L2.TA} (s1 : SimE c to po) (s2 : SimA c t q) : SimE c (tMeth (clA c.mg C) m (spS c.mg Fd) [] E0 to t) (pMeth C m Fd po q) := fun F L σ H ρ b Q P r hp k => s1 F L σ H ρ b _ _ r hp fun x d H1 b1 e1 r1 tx ⟨a, fds, ed, eb, el, h1⟩ => by
  subst ed
  cases VR.ob (c := c) (ρ := ρ) (σ := σ) (b := b1) tx
  obtain ⟨dx, fs, g1, g2⟩ := r1.st a _ eb
  refine ⟨a, dx, fs, rfl, g1, g2.look.2 el, s2 F L σ H1 ρ b1 _ _ r1 h1 fun vs ds H2 b2 e2 r2 t2 h2 => ?_⟩
  rw [List.append_nil]
  refine ⟨_, oD a :: ds, b2, P, r2.tr, r2.st, .cons (.obj a) t2, h2, fun v d H3 b3 en kp st td hd => ?_⟩
  have ev : EvU c L H2 H3 := fun z o _ hz => kp z o hz
  refine k v d H3 b3 (e1.trans (e2.trans ev)) (r2.go ev (fun z hz => ?_) st) td hd
  obtain ⟨g, c', n, h, rest⟩ := r2.urn hz
  rw [en]
  exact ⟨g, c', n, (kp z _ h).2 id, rest⟩
theorem je_meth (fm : Fam X c k) {C m : Str} {o e : Expr} {es : List Expr} {po : PTE} {q : PTA} {k' : Nat} {ps : List Str} {apos pos : Pos} {pl : I → Sem Bool} {Fd : List D → Sb → KE → Prop} (kc : Kls c.K c.mg C) (hD : ∀ j, Dm (X j).prog (X j).w (X j).K (X j).mg (X j).base k' C m ps (spS c.mg Fd)) (ho : JE X c o po) (ha : JA X c (e :: es) q)
    (hle : k' ≤ k := by first | decide | omega) (hp : (e :: es).all notStar = true := by rfl)
    (ht : ∀ j, eval (.Call (.Attribute o m apos) (e :: es) [] pos) (X j).env = (do
      let ov ← eval o (X j).env
      standAt apos.atName
      let (f, first) ← holding [ov] (getMethod ov m (pl j))
      callWith pos f first (backTo pos (starEach (e :: es) (X j).env)) (backToKw pos (keywordEach [] (X j).env))) := by intro _; rfl) : JE X c (.Call (.Attribute o m apos) (e :: es) [] pos) (pMeth C m Fd po q) := by
  obtain ⟨to, o1, o2⟩ := ho.ex
  obtain ⟨t, y, s⟩ := ha.ex
  refine ⟨_, fun j => ?_, sim_meth o2 s⟩
  obtain ⟨f, fd, G, b, M⟩ := (hD j).ex
  have hc : clA (X j).mg C = clA c.mg C := by rw [fm.mg j]
  rw [hc] at M
  rw [List.all_cons, Bool.and_eq_true] at hp
  exact pe_meth (o1 j) (by rw [fm.K j]; exact kc.cl) M G ((fm.room j).mono hle) b .nil pass0 (y j) (star_cons hp.1) (star_any hp.2) (ht j)
theorem je_meth0 (fm : Fam X c k) {C m : Str} {o : Expr} {po : PTE} {k' : Nat} {ps : List Str} {apos pos : Pos} {pl : I → Sem Bool} {Fd : List D → Sb → KE → Prop} (kc : Kls c.K c.mg C) (hD : ∀ j, Dm (X j).prog (X j).w (X j).K (X j).mg (X j).base k' C m ps (spS c.mg Fd)) (ho : JE X c o po)
    (hle : k' ≤ k := by first | decide | omega)
    (ht : ∀ j, eval (.Call (.Attribute o m apos) [] [] pos) (X j).env = (do
      let ov ← eval o (X j).env
      standAt apos.atName
      let (f, first) ← holding [ov] (getMethod ov m (pl j))
      callWith pos f first (backTo pos (starEach [] (X j).env)) (backToKw pos (keywordEach [] (X j).env))) := by intro _; rfl) : JE X c (.Call (.Attribute o m apos) [] [] pos) (pMeth C m Fd po pNil) := by
  obtain ⟨to, o1, o2⟩ := ho.ex
  refine ⟨_, fun j => ?_, sim_meth o2 (show SimA c tNil pNil from fun F L σ H ρ b Q P r h k => k [] [] H b (.refl H) r .nil h)⟩
  obtain ⟨f, fd, G, b, M⟩ := (hD j).ex
  have hc : clA (X j).mg C = clA c.mg C := by rw [fm.mg j]
  rw [hc] at M
  exact pe_meth0 (o1 j) (by rw [fm.K j]; exact kc.cl) M G ((fm.room j).mono hle) b .nil pass0 (ht j)
def pMake (C : Str) (Fd : List D → Sb → KE → Prop) (q : PTA) : PTE := fun ρ b P => q ρ b fun ds b => ∀ x, b.o x = none → Fd (oD x :: ds) (b.put x (.ins C [])) fun d b' => d = .none ∧ P (oD x) b'
theorem RS.new {F : Fm} {L : Ow} {σ : St} {H H' : Hp} {ρ : En} {b : Sb} {a : Addr} {x : Ob} (r : RS c F L σ H ρ b) (s : Same H H') (na : H a = none) (hx : ObS c.mg (exA F.ex L) H' a x) : RS c F L σ H' ρ (b.put a x) := by
  refine r.go (.same s) (fun z hz => (r.urn hz).same s) fun z y hz => ?_
  by_cases q : z = a
  · subst q
    rw [Sb.put_same] at hz; cases hz; exact hx
  · rw [Sb.put_ne q] at hz
    exact r.st.same s z y hz
theorem sim_make {C : Str} {Fd : List D → Sb → KE → Prop} {q : PTA} {t : L2.TA} (s2 : SimA c t q) : SimE c (tMake (clA c.mg C) (spS c.mg Fd) [] E0 t) (pMake C Fd q) := fun F L σ H ρ b Q P r hp k => s2 F L σ H ρ b _ _ r hp fun vs ds H1 b1 e1 r1 t1 h1 x dx nx ndx ne => by
  rw [List.append_nil]
  have s1 : Same H1 (upd H1 dx (.own x)) := same_new ndx _
  have nx' : upd H1 dx (.own x) x = none := by rw [upd_ne (Ne.symm ne)]; exact nx
  have s2 : Same (upd H1 dx (.own x)) (upd (upd H1 dx (.own x)) x (.ins (clA c.mg C) dx [])) := same_new nx' _
  have ss : Same H1 (upd (upd H1 dx (.own x)) x (.ins (clA c.mg C) dx [])) := fun z o h => s2 z o (s1 z o h)
  have r2 := r1.new (x := .ins C []) ss nx ⟨dx, [], upd_same, .nil⟩
  have e2 : EvU c L H1 _ := .same ss
  refine ⟨_, oD x :: ds, _, _, r2.tr, r2.st, .cons (.obj x) (all_same t1 ss), h1 x (r1.st.none nx), fun v d H3 b3 en kp st td hd => ?_⟩
  obtain ⟨rfl, hd⟩ := hd
  cases td
  refine ⟨rfl, ?_⟩
  have ev : EvU c L _ H3 := fun z o _ hz => kp z o hz
  refine k _ _ H3 b3 (e1.trans (e2.trans ev)) (r2.go ev (fun z hz => ?_) st) (.obj x) hd
  obtain ⟨g, c', n, h, rest⟩ := r2.urn hz
  rw [en]
  exact ⟨g, c', n, (kp z _ h).2 id, rest⟩
theorem je_make (fm : Fam X c k) {C : Str} {e : Expr} {es : List Expr} {q : PTA} {k' : Nat} {ps : List Str} {p pos : Pos} {Fd : List D → Sb → KE → Prop} (kc : Kls c.K c.mg C) (hD : ∀ j, Di (X j).prog (X j).w (X j).K (X j).mg (X j).base k' C ps (spS c.mg Fd)) (ha : JA X c (e :: es) q)
    (hg : ∀ j, Gl (X j) C := by intro _; rfl) (hle : k' + 1 ≤ k := by first | decide | omega) (hd : (C == ("__debug__" : Str)) = false := by first | decide | (dsimp only [Plain]; decide)) (hp : (e :: es).all notStar = true := by rfl) : JE X c (.Call (.Name C p) (e :: es) [] pos) (pMake C Fd q) := by
  obtain ⟨t, y, s⟩ := ha.ex
  refine ⟨_, fun j => ?_, sim_make s⟩
  obtain ⟨f, fd, G, b, M⟩ := (hD j).ex
  have hc : clA (X j).mg C = clA c.mg C := by rw [fm.mg j]
  rw [hc] at M
  rw [List.all_cons, Bool.and_eq_true] at hp
  exact pe_make M G ((fm.room j).mono hle) (hg j) (by rw [fm.mg j]; exact kc.at_) b .nil pass0 (y j) hd (star_cons hp.1) (star_any hp.2)
end
end PO
end L2
set_option Elab.async false
set_option linter.all false
set_option maxRecDepth 100000
namespace L2
open PySem PySem.Spec PyProof.Rows
def tToW (t : TE) : TE := fun σ H Q => t σ H fun v H' => ∃ a xs, v = .ref a ∧ H' a = some (.lst xs) ∧ Q v (upd H' a (.lsw xs))
theorem pe_toW {X : Cx} {e : Expr} {t : TE} (h : PE X e t) : PE X e (tToW t) := fun pins s σ H Q I hq =>
  thn (h pins s σ H _ I hq) fun u s1 ⟨v, H1, I1, r1, a, xs, ev, ha, q⟩ => ⟨v, _, I1.toW ha, r1, q⟩
def rOpenW (r : V → List V → Hp → VK → Prop) : V → List V → Hp → VK → Prop := fun x vs H Q => ∃ a xs, x = .ref a ∧ H a = some (.lsw xs) ∧ r x vs (upd H a (.lst xs)) fun v H' => ∃ ys, H' a = some (.lst ys) ∧ Q v (upd H' a (.lsw ys))
theorem mt_openW {X : Cx} {id : String} {r : V → List V → Hp → VK → Prop} (h : MtM X id r) : MtR X id (rOpenW r) := by
  intro pins s σ H x vs v us Q I rx rv ⟨a, xs, ex, ha, q⟩
  exact thn (h pins s σ _ x vs v us _ (I.toL ha) rx rv q) fun u s1 ⟨v', H', I', r', ys, e, q'⟩ => ⟨v', _, I'.toW e, r', q'⟩
namespace PO
open PySem PySem.Spec PyProof.Rows L2 L2.PU
section
variable {I : Type} {X : I → Cx} {c : C} {k : Nat}
def pToW (p : PTE) : PTE := fun ρ b P => p ρ b fun d b => ∃ ds, d = .list ds ∧ ∀ a, b.o a = none → P (oD a) (b.put a (.lst ds))
theorem je_toW {e : Expr} {p : PTE} (h : JF X c e p) : JE X c e (pToW p) := by
  obtain ⟨t, x, s⟩ := h.ex
  refine ⟨tToW t, fun j => pe_toW (x j), fun F L σ H ρ b Q P r hp k => s F L σ H ρ b _ _ r hp fun a vs ds H' b' e' r' na ha td hs ⟨ds', ed, hP⟩ => ?_⟩
  cases ed
  have nb : b'.o a = none := by
    cases q : b'.o a with
    | none => rfl
    | some x => obtain ⟨o, h1, h2⟩ := r'.st.some q; rw [ha] at h1; cases h1; exact h2.elim
  have nx : ¬ exA F.ex L a := fun z => by obtain ⟨o, ho, _⟩ := r.tr a z; rw [na] at ho; cases ho
  have kk : ∀ z u, (¬ (exA F.ex L z ∨ z = a)) → H' z = some u → ¬ ownK u → ¬ exA F.ex L z ∧ upd H' a (.lsw vs) z = some u := fun z u n h _ => ⟨fun q => n (.inl q), by rw [upd_ne (fun q => n (.inr q))]; exact h⟩
  refine ⟨a, vs, rfl, ha, ?_⟩
  have ev : EvU c L H (upd H' a (.lsw vs)) := fun z u n h => by
    have := e' z u n h
    unfold Kp at this ⊢
    rw [upd_ne (ne_of_none h na)]; exact this
  have r2 : RS c F L σ (upd H' a (.lsw vs)) ρ (b'.put a (.lst ds)) := by
    refine r.go ev (fun z hz => ?_) fun z y hz => ?_
    · obtain ⟨g, c', n, h, rest⟩ := r'.urn hz
      exact ⟨g, c', n, by rw [upd_ne (fun q => nx (by rw [← q]; exact hz.ex))]; exact h, rest⟩
    · by_cases q : z = a
      · subst q
        rw [Sb.put_same] at hz; cases hz
        exact ⟨vs, upd_same, td.go kk⟩
      · rw [Sb.put_ne q] at hz
        refine (hs z y hz).to kk fun o h _ => ?_
        rw [upd_ne q]; exact h
  exact k _ _ _ _ ev r2 (.obj a) (hP a nb)
def pPopO (po p : PTE) : PTE := fun ρ b P => po ρ b fun x b => ∃ a ds, x = oD a ∧ b.o a = some (.lst ds) ∧ p ρ b fun y b => ∃ (ds : List D) (i : Nat) (d : D), y = .int (i : Nat) ∧ b.o a = some (.lst ds) ∧ ds[i]? = some d ∧ i < 1000000 ∧ P d (b.put a (.lst (ds.eraseIdx i)))
theorem all_erase {ex : Addr → Prop} {H : Hp} : ∀ {vs : List V} {ds : List D} (j : Nat), TdOAll ex H vs ds → TdOAll ex H (vs.eraseIdx j) (ds.eraseIdx j)
  | _, _, _, .nil => .nil
  | _, _, 0, .cons _ h => h
  | _, _, j + 1, .cons h1 h => .cons h1 (all_erase j h)
theorem all_at2 {ex : Addr → Prop} {H : Hp} {vs : List V} {ds : List D} {i : Nat} {d : D} (h : TdOAll ex H vs ds) (e : ds[i]? = some d) : ∃ v, vs[i]? = some v ∧ TdO ex H v d := by
  have hj : i < vs.length := by rw [h.len]; exact (List.getElem?_eq_some_iff.mp e).1
  obtain ⟨d', e2, t⟩ := h.at (List.getElem?_eq_getElem hj)
  rw [e] at e2
  cases e2
  exact ⟨vs[i], List.getElem?_eq_getElem hj, t⟩
theorem je_popO (fm : Fam X c k) {o e : Expr} {apos cpos : Pos} {po p : PTE} (ho : JE X c o po) (h : JE X c e p) (hbase : ∀ j, attributeBase o "pop" (X j).env (eval o (X j).env) = eval o (X j).env := by intro _; rfl)
    (hline : (apos.endLine == cpos.line) = true := by rfl) (hn : notStar e = true := by rfl) : JE X c (.Call (.Attribute o "pop" apos) [e] [] cpos) (pPopO po p) := by
  obtain ⟨to, o1, o2⟩ := ho.ex
  obtain ⟨t, y, s⟩ := h.ex
  refine ⟨tBM c.K "list" (rOpenW rPopAt) to (tCons t tNil), fun j => ?_, fun F L σ H ρ b Q P r hp k => o2 F L σ H ρ b _ _ r hp fun x d H1 b1 e1 r1 tx ⟨a, ds, ed, eb, h1⟩ => ?_⟩
  · have := pe_bm (X := X j) PySem.F.plainAttrs_list PySem.F.slot_list_pop PySem.F.type_list_pop (mt_openW mt_popAt) (o1 j) (pc (y j) pa_nil hn) (hbase j) (by rw [star_cons hn]; rfl) hline (star_cons hn) (by rfl) (cpos := cpos) (apos := apos)
    rw [fm.K j] at this; exact this
  · subst ed
    cases VR.ob (c := c) (ρ := ρ) (σ := σ) (b := b1) tx
    obtain ⟨vs, g1, g2⟩ := r1.st a _ eb
    refine ⟨.inl ⟨rfl, vs, .inr (.inl g1)⟩, s F L σ H1 ρ b1 _ _ r1 h1 fun v d H2 b2 e2 r2 tv ⟨ds2, i, d', ey, eb2, ei, hl, hP⟩ => ?_⟩
    subst ey
    cases tv
    obtain ⟨ws, q1, q2⟩ := r2.st a _ eb2
    obtain ⟨w, ew, tw⟩ := all_at2 q2 ei
    have hi : i < ws.length := (List.getElem?_eq_some_iff.mp ew).1
    refine ⟨a, ws, rfl, q1, a, ws, (i : Nat), i, w, rfl, rfl, upd_same, by omega, by omega, ?_, ew, ws.eraseIdx i, upd_same, ?_⟩
    · unfold seqIndex?
      simp
      omega
    rw [upd_upd, upd_upd]
    have kk := ObS.upd (mg := c.mg) (ex := exA F.ex L) (o' := .lsw (ws.eraseIdx i)) q1 trivial
    obtain ⟨r3, e3⟩ := r2.put (o' := .lsw (ws.eraseIdx i)) (x := .lst (ds2.eraseIdx i)) q1 trivial trivial ⟨_, upd_same, (all_erase i q2).go kk⟩
    exact k _ _ _ _ (e1.trans (e2.trans e3)) r3 (TdO.to kk _ _ tw) hP
abbrev PTGo := D → En → Sb → (En → Sb → Prop) → Prop
def SimGo (c : C) (g : L2.TG) (pg : PTGo) : Prop := ∀ (F : Fm) (L : Ow) (σ : St) (H : Hp) (ρ : En) (b : Sb) (v : V) (d : D) (R : St → Hp → Prop) (P : En → Sb → Prop), RS c F L σ H ρ b → TdO (exA F.ex L) H v d → pg d ρ b P →
  (∀ σ' H' ρ' b', EvU c L H H' → RS c F L σ' H' ρ' b' → P ρ' b' → R σ' H') → g v σ H R
structure JGo (X : I → Cx) (c : C) (e : Expr) (pg : PTGo) : Prop where
  ex : ∃ t, (∀ i, L2.PG (X i) e t) ∧ SimGo c t pg
def goPlain (p : PTG) : PTGo := fun d ρ b P => p d ρ fun ρ' => P ρ' b
theorem JG.o {e : Expr} {ix : List Nat} {p : PTG} (h : JG X c e ix p) : JGo X c e (goPlain p) := by
  obtain ⟨t, x, s⟩ := h.ex
  exact ⟨t, x, fun F L σ H ρ b v d R P r td hp k => s F L σ H ρ b v d R _ r td hp fun σ' ρ' r' _ h => k σ' H ρ' b (.refl H) r' h⟩
def sFldAddO (C f : Str) (po pv : PTE) : PTS := fun E ρ b => po ρ b fun x b => ∃ a fds i, x = oD a ∧ b.o a = some (.ins C fds) ∧ fds.lookup f = some (.int i) ∧ pv ρ b fun y b => ∃ j fds', y = .int j ∧ b.o a = some (.ins C fds') ∧ fds'.length < 1000 ∧ E.nx ρ (b.put a (.ins C (putD f (.int (i + j)) fds')))
theorem js_fldAdd (fm : Fam X c k) {C f : Str} {o value : Expr} {pv po : PTE} {pos tpos : Pos} (kc : Kls c.K c.mg C) (na : NoAttr c.K (clA c.mg C) f) (ho : JE X c o po) (hv : JE X c value pv) : JS X c (.AugAssign (.Attribute o f tpos) .Add value pos) (sFldAddO C f po pv) := by
  obtain ⟨tv, v1, v2⟩ := hv.ex
  obtain ⟨to, o1, o2⟩ := ho.ex
  refine ⟨sFldAug c.K to tv rAdd f, fun j => ?_, fun F L σ H ρ b E Pn r hp ok => o2 F L σ H ρ b _ _ r hp fun x d H1 b1 e1 r1 tx ⟨a, fds, i, ed, eb, el, h1⟩ => ?_⟩
  · have := ps_fldaug (o1 j) (v1 j) in_add (f := f) (pos := pos) (tpos := tpos); rw [fm.K j] at this; exact this
  · subst ed
    cases VR.ob (c := c) (ρ := ρ) (σ := σ) (b := b1) tx
    obtain ⟨dd, fs, g1, g2⟩ := r1.st a _ eb
    obtain ⟨v, l, tv⟩ := g2.look.1 _ el
    cases tv
    refine ⟨a, _, dd, fs, _, rfl, g1, kc.cl, na, l, v2 F L σ H1 ρ b1 _ _ r1 h1 fun y dy H2 b2 e2 r2 ty ⟨j, fds', ey, eb2, hl, h2⟩ => ?_⟩
    subst ey
    cases ty
    obtain ⟨dd2, fs2, q1, q2⟩ := r2.st a _ eb2
    have kk := ObS.upd (mg := c.mg) (ex := exA F.ex L) (o' := .ins (clA c.mg C) dd2 (putF f (.int (i + j)) fs2)) q1 trivial
    obtain ⟨r3, e3⟩ := r2.put (o' := .ins (clA c.mg C) dd2 (putF f (.int (i + j)) fs2)) (x := .ins C (putD f (.int (i + j)) fds')) q1 trivial trivial ⟨dd2, _, upd_same, Paired.mapP (FsR.put (.int (i + j)) q2) fun p q z => ⟨z.1, TdO.to kk _ _ z.2⟩⟩
    exact ⟨i, j, rfl, rfl, dd2, fs2, q1, by rw [FsR.len q2]; exact hl, ok.nx L σ _ ρ _ (.u (e1.trans (e2.trans e3))) r3 h2⟩
mutual
inductive Res (b : Sb) : D → D → Prop
  | non : Res b .none .none
  | bl (x : Bool) : Res b (.bool x) (.bool x)
  | int (i : Int) : Res b (.int i) (.int i)
  | str (x : Str) : Res b (.str x) (.str x)
  | lst {ds es : List D} : ResAll b ds es → Res b (.list ds) (.list es)
  | tup {ds es : List D} : ResAll b ds es → Res b (.tuple ds) (.tuple es)
  | obj {a : Addr} {ds es : List D} : b.o a = some (.lst ds) → ResAll b ds es → Res b (oD a) (.list es)
inductive ResAll (b : Sb) : List D → List D → Prop
  | nil : ResAll b [] []
  | cons {d e : D} {ds es : List D} : Res b d e → ResAll b ds es → ResAll b (d :: ds) (e :: es)
end
mutual
theorem Res.dp {K : PySem.W.Frag} {mg : Str → Option Value} {ex : Addr → Prop} {H : Hp} {b : Sb} (st : Sto mg ex H b) : ∀ (d e : D) (v : V), Res b d e → TdO ex H v d → Dp K H v e
  | _, .none, _, h, t => by cases h; cases t; exact .non
  | _, .bool _, _, h, t => by cases h; cases t; exact .bl _
  | _, .int _, _, h, t => by cases h; cases t; exact .int _
  | _, .str _, _, h, t => by cases h; cases t; exact .str _
  | _, .list es, v, h, t => by
    cases h with
    | lst hs => cases t with
      | lst n ha ts => exact .lst (SqL.of ha) (ResAll.dp st _ es _ hs ts)
    | obj eb hs =>
      cases VR.ob (c := ⟨K, none, [], none, 0, mg⟩) (F := ⟨H, ex, none⟩) (L := fun _ => none) (ρ := []) (σ := []) (b := b) (TdO.to (fun z o n e _ => ⟨fun q => n (exA_none.1 q), e⟩) _ _ t)
      obtain ⟨vs, h1, h2⟩ := st _ _ eb
      exact .lst (.inr (.inl h1)) (ResAll.dp st _ es _ hs h2)
  | _, .tuple es, v, h, t => by
    cases h with
    | tup hs => cases t with
      | tup n ha ts => exact .tup (SqT.of ha) (ResAll.dp st _ es _ hs ts)
  | _, .dict _, _, h, _ => by cases h
theorem ResAll.dp {K : PySem.W.Frag} {mg : Str → Option Value} {ex : Addr → Prop} {H : Hp} {b : Sb} (st : Sto mg ex H b) : ∀ (ds es : List D) (vs : List V), ResAll b ds es → TdOAll ex H vs ds → DpAll K H vs es
  | _, [], _, h, t => by cases h; cases t; exact .nil
  | _, e :: es, _, h, t => by
    cases h with
    | cons h1 h2 => cases t with
      | cons t1 t2 => exact .cons (Res.dp st _ e _ h1 t1) (ResAll.dp st _ es _ h2 t2)
end
def pEqO (neg : Bool) (pa pb : PTE) : PTE := fun ρ b P => pa ρ b fun x b => pb ρ b fun y b => ∃ d e, Res b x d ∧ Res b y e ∧ SeqAt.shaped d = true ∧ SeqAt.shaped e = true ∧ P (.bool (if neg then !PyData.eqv d e else PyData.eqv d e)) b
theorem jc_neO (fm : Fam X c k) {a b : Expr} {pos : Pos} {pa pb : PTE} (ha : JE X c a pa) (hb : JE X c b pb) (hm : behindInMarks .NotEq b = false) : JC X c (.Compare a [.NotEq] [b] pos) (pEqO true pa pb) := by
  obtain ⟨ta, a1, a2⟩ := ha.ex
  obtain ⟨tb, b1, b2⟩ := hb.ex
  refine ⟨tOp (rNeD c.K) ta tb, fun j => ?_, fun j => ?_, fun F L σ H ρ b Q P r hp k => a2 F L σ H ρ b _ _ r hp fun x dx H1 b1 e1 r1 tx h1 => b2 F L σ H1 ρ b1 _ _ r1 h1 fun y dy H2 b2 e2 r2 ty ⟨d, e, hd, he, s1, s2, hP⟩ => ?_⟩
  · have := pe_cmpR (op_neD (fm.room j).units) (a1 j) (b1 j) (pos := pos) hm
    rw [fm.K j] at this; exact this
  · have := pt_cmpR (op_neD (fm.room j).units) (a1 j) (b1 j) (pos := pos) hm
    rw [fm.K j] at this; exact this
  · exact ⟨d, e, Res.dp r2.st _ _ _ hd (evu tx e2), Res.dp r2.st _ _ _ he ty, s1, s2, k _ _ H2 b2 (e1.trans e2) r2 (.bl _) hP⟩
end
theorem walk_fnO {l : PySem.W.OpenLaw} {k : Nat} {q : Program} {loose : List Str} {XP : (Str → Option Value) → Heap → Prop} {YP : World → Heap → Prop} {d : DefRec} {K : Params → PySem.W.Frag} {x : Str} (hn : l.most = some 63) (hdf : d.params.defaults = [])
    (hr : Room k callerA) (hY : ∀ (w : World) (h : Heap), YP w h → (K w.params).In h) (hnm : d.name = "law") (hnt : ∀ w : World, PySem.W.noTabs (K w.params) = true)
    (htb : ∀ (w : World), ∀ x ∈ lamDefs, (∃ d, (recsOf q).find? (fun e => e.name == x) = some d) ∨ PySem.W.tabIn (K w.params) x = none)
    (hinj : ∀ (w : World), ∀ x ∈ lamDefs, ∀ y ∈ lamDefs, ∀ c c' P, PySem.W.tabIn (K w.params) x = some (c, P) → PySem.W.tabIn (K w.params) y = some (c', P) → x = y)
    (F : ∀ (w : World) (mg : Str → Option Value) (h : Heap), (K w.params).In h → h.Ns mainGlobals mg → ∀ base : Heap, (K w.params).In base → base.Ns mainGlobals mg → Dn l.prog w (K w.params) mg base k "law" [x] (spLawO (K w.params))) :
    PySem.W.WalkO q loose XP YP l.row.toRowW d [] (fun f vs => PySem.call f vs) := by
  refine L2.walk_of (n := 63) (k := k) (x := x) (CX := fun _ => CX0) (sp := fun w => spLawO (K w.params)) hn (by decide) hdf hr hY hnt htb hinj ?_ (fun _ _ a ns hl hO hS => ⟨a, ns, rfl, ⟨hS, fun o e => by
    rcases hO a with h | ⟨o', xs, h⟩ | ⟨q, h⟩
    · rw [h] at e; cases e
    · rw [h] at e; cases e; exact id
    · rw [h] at e; cases e; exact id⟩, hl, fun _ => rfl⟩) fun _ _ _ _ _ z => z
  intro w mg fa h KX G hmg
  rw [hnm] at hmg
  obtain ⟨f, fd, G0, b, kp, m, o, lk, od⟩ := (F w mg h KX G h KX G).ex
  rw [hmg] at m
  cases m
  refine ⟨fd, ?_, fun base kb nb => ?_⟩
  · intro s u
    exact .of_eq (b [u] rfl)
  · obtain ⟨f', fd', G1, b1, kp1, m1, o1, lk1, od1⟩ := (F w mg h KX G base kb nb).ex
    rw [hmg] at m1
    cases m1
    rw [lk] at lk1
    cases lk1
    rw [od] at od1
    cases od1
    exact G1
end PO
end L2
set_option Elab.async false
set_option linter.all false
set_option maxRecDepth 100000
namespace L2
namespace PO
open PySem PySem.Spec PyProof.Rows L2 L2.PU
theorem seq_join {p rest : PTS} {E : PEnds} {ρ : En} {b : Sb} (J : En → Sb → Prop) (h : ∀ K : En → Sb → Prop, (∀ ρ b, J ρ b → K ρ b) → p { E with nx := K } ρ b) (hr : ∀ ρ b, J ρ b → rest E ρ b) : sSeq p rest E ρ b := h (rest E) hr
theorem qN {i : Nat} {d : D} {ρ : En} {P : En → Prop} (h : P (ρ.set i (some d))) : qName i d ρ P := h
theorem sJ {t : PTT} {p q r : PTS} {E : PEnds} {ρ : En} {b : Sb} (h : sSeq (sIf t p q) r E ρ b) : sSeq (sIf t p q) r E ρ b := h
theorem Sb.put_self {b : Sb} {a : Addr} {x : Ob} (h : b.o a = some x) : b.put a x = b := by
  cases b with
  | mk n o =>
  unfold Sb.put
  congr 1
  funext z
  show (if z = a then some x else o z) = o z
  by_cases e : z = a
  · subst e; rw [if_pos rfl]; exact h.symm
  · rw [if_neg e]
theorem Sb.n_put {b : Sb} {a : Addr} {x : Ob} : (b.put a x).n = b.n := rfl
theorem Sb.n_to {b : Sb} {n : Nat} : (b.to n).n = n := rfl
theorem Sb.ne_of {b : Sb} {a z : Addr} {x : Ob} (h : b.o a = some x) (g : b.o z = none) : a ≠ z := fun e => by subst e; rw [h] at g; cases g
section
variable {I : Type} {X : I → Cx} {c : C} {k : Nat}
abbrev unown (c : C) (i : Nat) : C := ⟨c.K, c.ur, c.own.filter (fun j => decide (j ≠ i)), c.sc, c.n, c.mg⟩
theorem mem_unown {c : C} {i j : Nat} : j ∈ (unown c i).own ↔ j ∈ c.own ∧ j ≠ i := by
  show j ∈ c.own.filter _ ↔ _
  rw [List.mem_filter, decide_eq_true_iff]
theorem RS.unown {F : Fm} {L : Ow} {σ : St} {H : Hp} {ρ : En} {b : Sb} {i : Nat} {v : V} {d : D} (r : RS c F L σ H (ρ.set i none) b) (hi : i ∈ c.own) (hu : c.ur ≠ some i) (hL : L i = none) (hρ : ρ[i]? = some (some d)) (hσ : σ[i]? = some (some v)) (td : TdO (exA F.ex L) H v d) : RS (PO.unown c i) F L σ H ρ b where
  len := by have := r.len; rwa [List.length_set] at this
  len2 := by have := r.len2; rwa [List.length_set] at this
  vals := fun j e hj n n2 => by
    by_cases q : i = j
    · subst q
      rw [hρ] at hj
      cases hj
      exact ⟨v, hσ, td⟩
    · exact r.vals j e (by rw [List.getElem?_set_ne q]; exact hj) (fun z => n (mem_unown.mpr ⟨z, Ne.symm q⟩)) n2
  ow := fun j a hj => by
    have ne : i ≠ j := fun z => by subst z; rw [hL] at hj; cases hj
    obtain ⟨h1, h2, h3⟩ := r.ow j a hj
    refine ⟨h1, h2, ?_⟩
    rcases h3 with q | ⟨q1, q2, vs, ds, q3, q4⟩
    · exact .inl q
    · exact .inr ⟨q1, ⟨mem_unown.mpr ⟨q2.1, Ne.symm ne⟩, q2.2⟩, vs, ds, by rw [List.getElem?_set_ne ne] at q3; exact q3, q4⟩
  ow' := fun j e hj he => by
    obtain ⟨h1, h2⟩ := mem_unown.mp hj
    exact r.ow' j e h1 (by rw [List.getElem?_set_ne (Ne.symm h2)]; exact he)
  inj := r.inj
  nur := fun j hj => by
    have ne : i ≠ j := fun z => hu (z ▸ hj)
    refine ⟨fun z => (r.nur j hj).1 (mem_unown.mp z).1, fun e he => (r.nur j hj).2 e (by rw [List.getElem?_set_ne ne]; exact he)⟩
  tr := r.tr
  fr := r.fr
  st := r.st
  u0 := r.u0
  scr := fun j hj => by
    obtain ⟨h1, h2, h3, h4, a, ns, h5, h6⟩ := r.scr j hj
    have ne : i ≠ j := fun z => h3 (z ▸ hi)
    exact ⟨h1, fun e => by have := h2 e; rwa [List.getElem?_set_ne ne] at this, fun z => h3 (mem_unown.mp z).1, h4, a, ns, h5, h6⟩
theorem Fam.un (fm : Fam X c k) (i : Nat) : Fam X (PO.unown c i) k := ⟨fm.K, fm.calm, fm.room, fm.mg⟩
def pLenO (p : PTE) : PTE := fun ρ b P => p ρ b fun x b => ∃ a ds, x = oD a ∧ b.o a = some (.lst ds) ∧ P (.int ds.length) b
theorem je_lenO (fm : Fam X c k) {e : Expr} {pe : PTE} {p pos : Pos} (hm : ∀ j, (X j).mg "len" = none) (ha : JE X c e pe) (hg : ∀ j, Gl (X j) "len" := by intro _; rfl) (hp : [e].all notStar = true := by rfl) : JE X c (.Call (.Name "len" p) [e] [] pos) (pLenO pe) := by
  obtain ⟨t, y, s⟩ := ha.ex
  have hn1 : notStar e = true := by simpa using hp
  refine ⟨tCB (fun xs H Q => ∃ p ys, xs = [.ref p] ∧ (SqL c.K H p ys ∨ SqT c.K H p ys) ∧ Q (.int ys.length) H) (tCons t tNil), fun j => ?_, fun F L σ H ρ b Q P rs hq k => s F L σ H ρ b _ _ rs hq fun v d H1 b1 e1 r1 td ⟨a, ds, ed, eb, hP⟩ => ?_⟩
  · have hc := call_len_seq (X := X j)
    rw [fm.K j] at hc
    exact pb hc (hg j) (hm j) (by decide +kernel) (ja1 y hn1 j) hp (by decide) (by decide)
  · subst ed
    cases VR.ob (c := c) (ρ := ρ) (σ := σ) (b := b1) td
    obtain ⟨vs, g1, g2⟩ := r1.st a _ eb
    exact ⟨a, vs, rfl, .inl (.inr (.inl g1)), by rw [g2.len]; exact k _ _ H1 b1 e1 r1 (.int _) hP⟩
end
end PO
end L2
set_option Elab.async false
set_option linter.all false
set_option maxRecDepth 100000
set_option maxHeartbeats 4000000
namespace L2
open PySem PySem.Spec PyProof.Rows
section
variable {prog : Program} {w : World} {A : Around} {E : Value → Shared → Prop} {s : Shared}
theorem plain_collT : plainId "proto.collect" = true := by decide +kernel
theorem plain_iaddT : plainId "list.__iadd__" = true := by decide +kernel
theorem entry_iaddT : entryFor table "list.__iadd__" = some Builtin.«list.__iadd__» := by rfl
def afterCollT (v : Value) : Sem (List Value) :=
  match v with
  | .ref a => do
    let o ← load a
    match o.data with
    | .seq xs epoch => pure xs.toList
    | _ => unsupported "internal:collect"
  | _ => unsupported "internal:collect"
theorem coll_rngT {r : Addr} {a b c : Int} {t u v : Tok} {n : Nat} {Q : List Value → Shared → Prop} (hh : A.handled = none) (ir : IsRange s.heap r a b c t u v) (h2 : Builtin.Range.small a b c = true) (h3 : Builtin.Range.rangeSize a b c = n) (hn : n ≤ 2 ^ 24)
    (q : ∀ (h' : Heap) (tk : Nat) (acc : Array Value), (∀ b o, s.heap.get? b = some o → h'.get? b = some o) → ItemsOf (fun i v => ∃ t, v = .int (a + (i : Int) * c) t) acc n → Q acc.toList { s with heap := h', toks := tk }) :
    wpAny (model prog w) A (collect (.ref r)) Q E s := by
  refine wpAny_bind (wpAny_runValue (codeAny_builtin entry_proto_collect' ?_))
  rw [Around.under_plainId plain_collT _]
  refine wpAny_bind (wpAny_newList ?_ (by decide))
  refine wpAny_pure ⟨plainId_quiet plain_iaddT _, codeAny_builtin entry_iaddT ?_⟩
  rw [Around.under_plainId plain_iaddT _]
  refine wpAny_bind (wpAny_of_eq (show slotArgs "__iadd__" 1 ⟨[.ref s.heap.objs.size, .ref r], []⟩ = pure (.ref s.heap.objs.size, [.ref r]) from rfl) ?_)
  refine wpAny_extend_range hh (R := fun r s' => match r with
    | .ok (.ret v) => wpAny (model prog w) A (afterCollT v) Q E s'
    | .ok _ => False
    | .error e => E e s') (s := { s with heap := s.heap.push { cls := .type "list", data := .seq #[] } }) (Heap.get?_push_of_some _ ir) h2 h3 hn s.heap.objs.size (.ref s.heap.objs.size) 0 (Heap.get?_push_size _ rfl) fun h' tk acc' c' kp e it => ?_
  refine wpAny_bind (wpAny_load e ?_)
  exact wpAny_pure (q h' tk acc' (fun b o g => kp b o (Nat.ne_of_lt (Heap.lt_size g)) (Heap.get?_push_of_some _ g)) it)
theorem meets_tuple_new_rng {r : Addr} {a b c : Int} {t u v : Tok} {n : Nat} (h2 : Builtin.Range.small a b c = true) (h3 : Builtin.Range.rangeSize a b c = n) (hn : n ≤ 2 ^ 24) :
    Meets (Builtin.«tuple.__new__» ⟨[.type "tuple", .ref r], []⟩)
      (fun A R s => A.handled = none ∧ IsRange s.heap r a b c t u v ∧ ∀ (h' : Heap) (tk : Nat) (acc : Array Value), (∀ b o, s.heap.get? b = some o → h'.get? b = some o) → ItemsOf (fun i v => ∃ t, v = .int (a + (i : Int) * c) t) acc n →
        R (.ok (.ret (.ref h'.objs.size))) { s with heap := h'.push { cls := .type "tuple", data := .seq acc }, toks := tk }) :=
  .of_wp fun prog w A R s h => by
    obtain ⟨hh, ir, h⟩ := h
    have hsub := sub_tuple_self
    have hinit := init_tuple_lookup
    have hmh := madeHere_tuple
    have hT : s.TypeIs (.ref r) "range" := ⟨_, ir, rfl⟩
    have hh1 : A.in1.handled = none := hh
    wp_walk using wpAny_typeOf hT, coll_rngT (n := n) hh1 ir h2 h3 hn
    intro h' tk acc hk hacc
    show wpAny _ _ (Builtin.Tuple.tupleExact acc.toList.toArray >>= fun v => ret v) _ _ _
    unfold Builtin.Tuple.tupleExact
    refine wpAny_bind (wpAny_newObj_type ?_ (show acc.toList.toArray.size ≤ sizeLine by simp only [Array.toArray_toList]; rw [hacc.1, sizeLine_eq]; omega))
    refine wpAny_pure ⟨_, rfl, ?_⟩
    have e : acc.toList.toArray = acc := by simp
    rw [e]
    exact h h' tk acc hk hacc
theorem call_tuple_rng {Q : Value → Shared → Prop} {r : Addr} {a b c : Int} {t u v : Tok} {n : Nat} (hh : A.handled = none) (ir : IsRange s.heap r a b c t u v) (h2 : Builtin.Range.small a b c = true) (h3 : Builtin.Range.rangeSize a b c = n) (hn : n ≤ 2 ^ 24)
    (h : ∀ (h' : Heap) (tk : Nat) (acc : Array Value), (∀ b o, s.heap.get? b = some o → h'.get? b = some o) → ItemsOf (fun i v => ∃ t, v = .int (a + (i : Int) * c) t) acc n → Q (.ref h'.objs.size) { s with heap := h'.push { cls := .type "tuple", data := .seq acc }, toks := tk }) :
    wpAny (model prog w) A (call (.type "tuple") [.ref r]) Q E s :=
  callType_new F.called_tuple (by decide) (F.typeCall_tuple_1 _) (F.newCall_tuple_1 _) (fun obj => F.args_object_init_2 obj _) F.entry_tuple_new
    (meets_tuple_new_rng (t := t) (u := u) (v := v) h2 h3 hn) ⟨hh, ir, fun h' tk acc hk hacc => ⟨⟨_, Heap.get?_push_size _ rfl, rfl⟩, h h' tk acc hk hacc⟩⟩
end
section
variable {X : Cx}
theorem boot_tupleR : bootBuiltins "tuple" = some (.type "tuple") := by decide +kernel
theorem tup_rng {pins : List (Addr × Obj)} {σ : St} {H : Hp} {s : Shared} {i j c : Int} {n tk : Nat} {t u v : Tok} {Q : VK} (hc : X.calm = true) (I : Inv X pins σ H s) (g : RgC i j c n) (hn : n ≤ 1000000)
    (q : ∀ l, H l = none → Q (.ref l) (upd H l (.tup ((rgC i c n).map V.int)))) :
    wpAny (model X.prog X.w) X.A (call (.type "tuple") [.ref s.heap.objs.size]) (EP X pins σ Q) X.xe { s with heap := s.heap.push { cls := .type "range", data := .fields #[.int i t, .int j u, .int c v] }, toks := tk } := by
  obtain ⟨c0, c1, c2, c3⟩ := g
  have I1 : Inv X pins σ H { s with heap := s.heap.push { cls := .type "range", data := .fields #[.int i t, .int j u, .int c v] }, toks := tk } := I.kept (t' := tk) fun b o e => Heap.get?_push_of_some _ e
  refine call_tuple_rng (n := n) (I1.ok.hd hc) (IsRange.new ..) c2 c3 (by omega) fun h' tk2 acc' kp it => ?_
  have hlen : acc'.toList.length = (rgC i c n).length := by unfold rgC; rw [List.length_map, List.length_range]; simpa using it.1
  have hv : Vals ((rgC i c n).map V.int) acc'.toList := vals_of_items hlen fun k v e => by
    have e' : acc'[k]? = some v := by simpa using e
    obtain ⟨t, rfl⟩ := it.2 k v e'
    have hk : k < n := by
      have := (Array.getElem?_eq_some_iff.mp e').1
      rw [it.1] at this; exact this
    refine ⟨t, ?_⟩
    have : (rgC i c n).getD k 0 = i + (k : Int) * c := by
      unfold rgC
      rw [List.getD_eq_getElem?_getD, List.getElem?_map, List.getElem?_range hk]; rfl
    rw [this]
  have hl : ((rgC i c n).map V.int).length ≤ sizeLine := by
    unfold rgC
    rw [List.length_map, List.length_map, List.length_range, sizeLine_eq]; omega
  have ea : acc' = acc'.toList.toArray := by simp
  rw [ea]
  have I2 : Inv X pins σ H { s with heap := h', toks := tk2 } := I1.kept (t' := tk2) kp
  have I3 : Inv X pins σ (upd H h'.objs.size (.tup ((rgC i c n).map V.int))) { s with heap := h'.push { cls := .type "tuple", data := .seq acc'.toList.toArray }, toks := tk2 } :=
    I2.laid (t' := tk2) (fun b o e => Heap.get?_push_of_some _ e) (Nat.le_refl _) (show ObjOk X.prog X.w _ _ _ (.tup _) from ⟨hl, acc'.toList, hv, IsTup.new _ _⟩)
  exact ⟨.ref h'.objs.size, _, I3, rfl, q _ (I2.hok.fresh (Nat.le_refl _))⟩
def tTrng (f : List V → Option (Int × Int × Int)) (ta : TA) : TE := fun σ H Q => ta σ H fun vs H1 => ∃ (i j c : Int) (n : Nat), f vs = some (i, j, c) ∧ RgC i j c n ∧ n ≤ 1000000 ∧ ∀ l, H1 l = none → Q (.ref l) (upd H1 l (.tup ((rgC i c n).map V.int)))
theorem pe_trng2 {a b : Expr} {ta : TA} {p p1 p2 pos : Pos} (hc : X.calm = true) (hgl : Gl X "tuple") (hml : X.mg "tuple" = none) (hg : Gl X "range") (hm : X.mg "range" = none) (ha : PA X [a, b] ta) (hs : notStar a = true) (hs2 : notStar b = true) :
    PE X (.Call (.Name "tuple" p) [.Call (.Name "range" p1) [a, b] [] p2] [] pos) (tTrng f2 ta) := by
  intro pins s σ H Q I h
  have hst : starEach [a, b] X.env = (false, eval a X.env) :: starEach [b] X.env := star_cons hs
  have hst2 : starEach [b] X.env = (false, eval b X.env) :: starEach [] X.env := star_cons hs2
  refine wpAny_Call_Name_kw (ld_blt I hgl hml boot_tupleR ?_)
  refine PyProof.Rows.callWith_type1 ?_ rfl rfl
  show wpAny _ _ (spliced ((false, eval (.Call (.Name "range" p1) [a, b] [] p2) X.env) :: [])) _ _ s
  refine Calls.spliced_cons ?_
  refine Call_ (ld_blt I hg hm boot_range (PyProof.Rows.callWith_type1 (thn (ha p2 pins s σ H _ I h) fun us s1 ⟨vs, H1, I1, r1, q1⟩ => ?_) hst (by rw [hst2]; rfl)))
  obtain ⟨i, j, c, n, e, g, hn, q⟩ := q1
  unfold f2 at e
  split at e
  · cases e
    cases r1 with
    | cons r rr =>
      cases rr with
      | cons r' rr =>
        cases rr
        obtain ⟨t, rfl⟩ := r
        obtain ⟨t', rfl⟩ := r'
        exact call_range_2 (Calls.spliced_nil (tup_rng hc I1 g hn q))
  · cases e
end
namespace PO
open PySem PySem.Spec PyProof.Rows L2 L2.PU
section
variable {I : Type} {X : I → Cx} {c : C} {k : Nat}
def pTr (pa pb : PTE) : PTE := fun ρ b P => pCons pa (pCons pb pNil) ρ b fun ds b => ∃ i j, ds = [.int i, .int j] ∧ (-1000000 ≤ i ∧ i ≤ 1000000) ∧ (-1000000 ≤ j ∧ j ≤ 1000000) ∧ j - i ≤ 1000000 ∧ P (.tuple ((rgI i (j - i).toNat).map .int)) b
theorem je_trng2 (fm : Fam X c k) {a b : Expr} {p p1 p2 pos : Pos} {pa pb : PTE} (hml : ∀ j, (X j).mg "tuple" = none) (hm : ∀ j, (X j).mg "range" = none) (ha : JE X c a pa) (hb : JE X c b pb) (hgl : ∀ j, Gl (X j) "tuple" := by intro _; rfl) (hg : ∀ j, Gl (X j) "range" := by intro _; rfl) (hs : notStar a = true := by rfl) (hs2 : notStar b = true := by rfl) :
    JE X c (.Call (.Name "tuple" p) [.Call (.Name "range" p1) [a, b] [] p2] [] pos) (pTr pa pb) := by
  obtain ⟨ta, y, s2⟩ := (ja_cons ha (ja_cons hb ja_nil hs2) hs).ex
  refine ⟨tTrng f2 ta, fun j => pe_trng2 (fm.calm j) (hgl j) (hml j) (hg j) (hm j) (y j) hs hs2, fun F L σ H ρ b Q P r hp k => ?_⟩
  refine s2 F L σ H ρ b _ _ r hp fun vs ds H1 b1 e1 r1 td ⟨i, j, ed, hi, hj, hn, hP⟩ => ?_
  · subst ed
    cases td with
    | cons t1 t2 =>
      cases t1
      cases t2 with
      | cons t2 t3 =>
        cases t2
        cases t3
        refine ⟨i, j, 1, (j - i).toNat, rfl, RgC.one hi.1 hi.2 hj.1 hj.2, by omega, fun l hl => ?_⟩
        have sm := same_new hl (.tup ((rgC i 1 (j - i).toNat).map V.int))
        have := k (.ref l) (.tuple ((rgI i (j - i).toNat).map .int)) _ b1 (e1.trans (.same sm)) (r1.same sm) (.tup (newIn r1 hl) upd_same (by rw [rgC_one]; exact int_all _)) hP
        exact this
end
end PO
end L2
set_option Elab.async false
set_option linter.all false
set_option maxRecDepth 100000
namespace L2
namespace PO
open PySem PySem.Spec PyProof.Rows L2 L2.PU
section
variable {I : Type} {X : I → Cx} {c : C} {k : Nat}
def sNever : PTS := fun _ _ _ => False
theorem js_never {st : Stmt} : JS X c st sNever := ⟨tNever, fun _ => ps_never, fun F L σ H ρ b E Pn r h o => h.elim⟩
end
end PO
end L2
set_option Elab.async false
set_option linter.all false
set_option maxRecDepth 100000
namespace L2
open PySem PySem.Spec PyProof.Rows
def tOutW (t : TE) : TE := fun σ H Q => t σ H fun v H' => ∃ a xs, v = .ref a ∧ H' a = some (.lsw xs) ∧ Q v (upd H' a (.lst xs))
theorem pe_outW {X : Cx} {e : Expr} {t : TE} (h : PE X e t) : PE X e (tOutW t) := fun pins s σ H Q I hq =>
  thn (h pins s σ H _ I hq) fun u s1 ⟨v, H1, I1, r1, a, xs, ev, ha, q⟩ => ⟨v, _, I1.toL ha, r1, q⟩
def tBackW (t : TE) : TE := fun σ H Q => t σ H fun v H' => ∃ a xs, H' a = some (.lst xs) ∧ Q v (upd H' a (.lsw xs))
theorem pe_backW {X : Cx} {e : Expr} {t : TE} (h : PE X e t) : PE X e (tBackW t) := fun pins s σ H Q I hq =>
  thn (h pins s σ H _ I hq) fun u s1 ⟨v, H1, I1, r1, a, xs, ha, q⟩ => ⟨v, _, I1.toW ha, r1, q⟩
namespace PO
open PySem PySem.Spec PyProof.Rows L2 L2.PU
theorem SqL.eqH {K : PySem.W.Frag} {H H' : Hp} {p : Addr} {xs : List V} (e : H' p = H p) (h : SqL K H p xs) : SqL K H' p xs := by
  unfold SqL Rd at *
  rw [e]; exact h
def Sb.del (b : Sb) (a : Addr) : Sb := ⟨b.n, fun z => if z = a then none else b.o z⟩
theorem Sb.del_put {b : Sb} {a : Addr} {x : Ob} (h : b.o a = some x) : (b.del a).put a x = b := by
  cases b with
  | mk n o =>
  unfold Sb.put Sb.del
  congr 1
  funext z
  show (if z = a then some x else if z = a then none else o z) = o z
  by_cases e : z = a
  · subst e; rw [if_pos rfl]; exact h.symm
  · rw [if_neg e, if_neg e]
section
variable {I : Type} {X : I → Cx} {c : C} {k : Nat}
def SimIatN (c : C) (t : L2.TI) (p : PTI) (F : Fm) (L : Ow) (σ : St) (H : Hp) (ρ : En) (b : Sb) : Prop := ∀ (R : It → Hp → Prop) (P : List D → Sb → Prop), p ρ b P →
  (∀ J ds kp H' b', EvU c L H H' → RS c F L σ H' ρ b' → Walks (exA F.ex L) kp J ds H' → (∀ z, kp z → ¬ isU c L z) → P ds b' → R J H') → t σ H R
theorem simF_lc_atN {wi : L2.TI} {g : L2.TG} {tt : L2.TT} {te : L2.TE} {vs ix : List Nat} {pwi : PTI} {pg : PTG} {ptt : PTT} {pte : PTE} {F : Fm} {L : Ow} {σ : St} {H : Hp} {ρ : En} {b : Sb} (s1 : SimIatN c wi pwi F L σ H ρ b) (s2 : SimG c ix g pg) (s3 : SimT c tt ptt) (s4 : SimE c te pte) (hvs : ∀ i ∈ vs, Plain c i) (hix : ∀ i ∈ ix, i ∈ vs)
    (Q : VK) (P : KE) (r : RS c F L σ H ρ b) (hp : pLc pwi pg ptt pte vs ρ b P) (k : ∀ a vs ds H' b', EvU c L H H' → RS c F L σ H' ρ b' → H a = none → H' a = some (.lst vs) → TdOAll (fun z => exA F.ex L z ∨ z = a) H' vs ds → Sto c.mg (fun z => exA F.ex L z ∨ z = a) H' b' → P (.list ds) b' → Q (.ref a) H') : tLc wi g tt te vs σ H Q := by
  refine s1 _ _ hp fun J ds kp H1 b1 e1 r1 wk hkp ⟨hlen, Iv, i0, istep, iend⟩ => ?_
  intro Da nD
  have rD := r1.withD nD (.lst []) nT_lst
  have nUL : ∀ i, L i ≠ some Da := fun i hi => by
    obtain ⟨o, ho, _⟩ := r1.tr Da (.inr ⟨i, hi⟩)
    rw [nD] at ho; cases ho
  have nU : ¬ isU c L Da := fun ⟨i, _, hi⟩ => nUL i hi
  have n0 : F.H0 Da = none := by
    cases q : F.H0 Da with
    | none => rfl
    | some o =>
      by_cases hu : F.u0 = some Da
      · exact absurd (r1.u0 Da hu) nU
      · exact absurd nD (r1.fr Da o hu q).nn
  let F' : Fm := { F with ex := fun z => F.ex z ∨ z = Da }
  refine ⟨fun i m H2 => m = ds.length - i ∧ i ≤ ds.length ∧ ∃ acc accd b2, H2 Da = some (.lst acc) ∧ TdOAll (exA F'.ex L) H2 acc accd ∧ acc.length ≤ i ∧ RS c F' L σ H2 ρ b2 ∧ Iv i accd b2 ∧ EvU c L H1 H2,
    ⟨ds.length, by simp, Nat.zero_le _, [], [], b1, upd_same, .nil, Nat.le_refl _, rD, i0, .same (same_new nD _)⟩, ?_⟩
  rintro i m H2 ⟨rfl, hi, acc, accd, b2, hD, tda, hal, r2, iv, ev⟩
  obtain ⟨w1, w2⟩ := wk (exA F'.ex L) H2 (fun z o n e w => ⟨fun z' => by
      rcases z' with (q | q) | q
      · exact n (.inl q)
      · exact ne_of_none e nD q
      · exact n (.inr q), (ev z o (fun q => n q.ex) e).2 w⟩)
    (fun z o hz e w => (ev z o (hkp z hz) e).2 w) r2.tr
  by_cases hlt : i < ds.length
  · have hx := List.getElem?_eq_getElem hlt
    obtain ⟨go, yl⟩ := w1 i _ hx
    refine .inr ⟨go, fun H3 => ∃ acc accd b2, H3 Da = some (.lst acc) ∧ TdOAll (exA F'.ex L) H3 acc accd ∧ acc.length ≤ i + 1 ∧ RS c F' L σ H3 ρ b2 ∧ Iv (i + 1) accd b2 ∧ EvU c L H1 H3, fun H3 ⟨a1, a2, a3, a4⟩ => ⟨ds.length - (i + 1), by omega, rfl, hlt, a1, a2, a3, a4⟩, fun v H3 hy => ?_⟩
    obtain ⟨s23, tv⟩ := yl v H3 hy
    have r3 := r2.same s23
    refine s2 F' L _ H3 (pwipe ρ vs) b2 v _ _ _ (r3.wipe hvs) tv (istep i _ accd b2 hx iv) fun σ2 ρ2 r4 hw hp4 => ⟨?_, ?_⟩
    · rw [hw vs hix, wipe_wipe]
    refine s3 F' L σ2 H3 ρ2 b2 _ _ r4 hp4 fun kk H5 b5 e5 r5 hp5 => ?_
    have D3 : H3 Da = some (.lst acc) := s23 _ _ hD
    have D5 : H5 Da = some (.lst acc) := (e5 _ _ nU D3).2 id
    have rs5 : RS c F' L σ H5 ρ b5 := r3.go e5 (fun z hz => r5.urn hz) r5.st
    have ta5 : TdOAll (exA F'.ex L) H5 acc accd := evuAll (all_same tda s23) e5
    cases kk with
    | false => exact iteF ⟨acc, accd, b5, D5, ta5, by omega, rs5, hp5, ev.trans ((EvU.same s23).trans e5)⟩
    | true =>
      refine iteT (s4 F' L σ2 H5 ρ2 b5 _ _ r5 hp5 fun y dy H6 b6 e6 r6 ty hp6 => ?_)
      have D6 : H6 Da = some (.lst acc) := (e6 _ _ nU D5).2 id
      have rs6 : RS c F' L σ H6 ρ b6 := rs5.go e6 (fun z hz => r6.urn hz) r6.st
      refine ⟨acc, D6, by rw [sizeLine_eq]; omega, acc ++ [y], accd ++ [dy], b6, upd_same, ?_, by rw [List.length_append]; exact Nat.succ_le_succ hal, rs6.updD (.inr rfl) nUL n0 _ nT_lst, hp6, fun z o n e => ?_⟩
      · have kk2 : ∀ b o', ¬ exA F'.ex L b → H6 b = some o' → ¬ ownK o' → ¬ exA F'.ex L b ∧ upd H6 Da (.lst (acc ++ [y])) b = some o' := fun b o' n e _ => ⟨n, by rw [upd_ne fun z => n (.inl (.inr z))]; exact e⟩
        exact ((evuAll ta5 e6).snoc ty).go kk2
      · have q := (ev.trans (((EvU.same s23).trans e5).trans e6)) z o n e
        unfold Kp
        rw [upd_ne (ne_of_none e nD)]
        exact q
  · have e : i = ds.length := by omega
    subst e
    refine .inl ⟨w2, k Da acc accd H2 b2 (e1.trans ev) ?_ (none_back r1 e1 nD) hD ?_ ?_ (iend accd b2 iv)⟩
    · exact r1.go ev (fun z hz => r2.urn hz) (r2.st.go (fun z o n e _ => ⟨fun q => n (by
        rcases q with q | q
        · exact .inl (.inl q)
        · exact .inr q), e⟩) fun _ _ e _ => e)
    · exact TdOAll.to (fun z o n e _ => ⟨fun q => n (by
        rcases q with (q | q) | q
        · exact .inl (.inl q)
        · exact .inr q
        · exact .inl (.inr q)), e⟩) accd acc tda
    · exact r2.st.go (fun z o n e _ => ⟨fun q => n (by
        rcases q with (q | q) | q
        · exact .inl (.inl q)
        · exact .inr q
        · exact .inl (.inr q)), e⟩) fun _ _ e _ => e
theorem RS.outW {F : Fm} {L : Ow} {σ : St} {H : Hp} {ρ : En} {b : Sb} {a : Addr} {xs : List V} (r : RS c F L σ H ρ b) (e : H a = some (.lsw xs)) : RS c ⟨fun z => if z = a then none else F.H0 z, fun z => F.ex z ∨ z = a, F.u0⟩ L σ (upd H a (.lst xs)) ρ (b.del a) := by
  have nL : ∀ i, L i ≠ some a := fun i hi => by
    obtain ⟨o, ho, hn⟩ := r.tr a (.inr ⟨i, hi⟩)
    rw [e] at ho; cases ho; exact hn.2 trivial
  have up : ∀ z, exA (fun z => F.ex z ∨ z = a) L z → exA F.ex L z ∨ z = a := fun z h => by
    rcases h with (h | h) | h
    · exact .inl (.inl h)
    · exact .inr h
    · exact .inl (.inr h)
  have kk : ∀ z o, ¬ exA F.ex L z → H z = some o → ¬ ownK o → ¬ exA (fun z => F.ex z ∨ z = a) L z ∧ upd H a (.lst xs) z = some o := fun z o n h w => by
    have ne : z ≠ a := fun q => by subst q; rw [e] at h; cases h; exact w trivial
    exact ⟨fun q => (up z q).elim n ne, by rw [upd_ne ne]; exact h⟩
  exact {
    len := r.len
    len2 := r.len2
    vals := fun i d h n n2 => let ⟨v, q, t⟩ := r.vals i d h n n2; ⟨v, q, TdO.to kk d v t⟩
    ow := fun i z h => by
      have ne : z ≠ a := fun q => nL i (q ▸ h)
      obtain ⟨h1, h2, h3⟩ := r.ow i z h
      refine ⟨h1, h2.imp (fun q => by show (if z = a then none else F.H0 z) = none; rw [if_neg ne]; exact q) id, ?_⟩
      rcases h3 with ⟨q, g, c', n, u, rest⟩ | ⟨q, ⟨ho, hne⟩, vs, ds, hr, hH, ht⟩
      · exact .inl ⟨q, g, c', n, by rw [upd_ne ne]; exact u, rest⟩
      · exact .inr ⟨q, ⟨ho, fun z => z.elim hne ne⟩, vs, ds, hr, by rw [upd_ne ne]; exact hH, ht.to kk⟩
    ow' := r.ow'
    inj := r.inj
    nur := r.nur
    tr := fun z hz => by
      by_cases q : z = a
      · subst q; exact ⟨_, upd_same, nT_lst⟩
      · rcases up z hz with h | h
        · obtain ⟨o, h1, h2⟩ := r.tr z h
          exact ⟨o, by rw [upd_ne q]; exact h1, h2⟩
        · exact absurd h q
    fr := fun z o n h => by
      have h : (if z = a then none else F.H0 z) = some o := h
      by_cases q : z = a
      · rw [if_pos q] at h; cases h
      · rw [if_neg q] at h
        exact (r.fr z o n h).trans fun o2 q2 => .of (by rw [upd_ne q]; exact q2)
    u0 := r.u0
    scr := fun i hi => by
      obtain ⟨h1, h2, h3, h4, s, ns, h5, ⟨h6, h7⟩, h8⟩ := r.scr i hi
      refine ⟨h1, h2, h3, h4, s, ns, h5, ?_, h8⟩
      have es : (fun z => if z = a then none else F.H0 z) s = F.H0 s := by
        show (if s = a then none else F.H0 s) = F.H0 s
        by_cases q : s = a
        · rw [if_pos q]
          cases q2 : F.H0 s with
          | none => rfl
          | some o =>
            have w := h7 o q2
            have := (r.fr s o (by rw [h1]; exact nofun) q2).2 w
            rw [q, e] at this
            cases this
            exact absurd trivial w
        · rw [if_neg q]
      refine ⟨?_, fun o ho => h7 o (by rw [← es]; exact ho)⟩
      exact SqL.eqH es h6
    st := fun z x hz => by
      have hz : (if z = a then none else b.o z) = some x := hz
      by_cases q : z = a
      · rw [if_pos q] at hz; cases hz
      · rw [if_neg q] at hz
        exact (r.st z x hz).to kk fun o h _ => by rw [upd_ne q]; exact h }
def pLcW (p : PTE) (g : PTG) (tt : PTT) (te : PTE) (vs : List Nat) : PTE := fun ρ b P => p ρ b fun x b => ∃ a ds, x = oD a ∧ b.o a = some (.lst ds) ∧ LcG g tt te vs ρ (fun d b' => P d (b'.put a (.lst ds))) ds (b.del a)
theorem jf_lcW (fm : Fam X c k) {elt tg iter : Expr} {ifs : List Expr} {scope : Scope} {own : List (Str × Nat)} {pos : Pos} {ix : List Nat} {pi : PTE} {pg : PTG} {ptt : PTT} {pte : PTE} (hN : ∀ j, (X j).N.Nodup) (hi : JE X c iter pi) (ok : ∀ j, BlkOk (X j).N (X j).env.scope scope own)
    (hg : Fam (blkF X scope) c k → JG (blkF X scope) c tg ix pg) (ht : Fam (blkF X scope) c k → JTs (blkF X scope) c ifs ptt) (he : Fam (blkF X scope) c k → JE (blkF X scope) c elt pte) (hvs : ∀ i ∈ own.map (·.2), Plain c i := by first | decide | (dsimp only [Plain]; decide)) (hix : ∀ i ∈ ix, i ∈ own.map (·.2) := by first | decide | (dsimp only [Plain]; decide))
    (hs : ∀ j x, foldedSetIterable iter (X j).env x = pure x := by intro _ _; rfl) : JF X c (.ListComp elt [⟨tg, iter, ifs, 0⟩] scope pos) (pLcW pi pg ptt pte (own.map (·.2))) := by
  obtain ⟨ti, i1, i2⟩ := hi.ex
  obtain ⟨g, g1, g2⟩ := (hg fm.blk).ex
  obtain ⟨tt, t1, t2⟩ := (ht fm.blk).ex
  obtain ⟨te, e1, e2⟩ := (he fm.blk).ex
  refine ⟨_, fun j => pe_backW (pe_lc (wi := iList c.K (tOutW ti)) (fm.calm j) (hN j) (by have := pi_list (tg := tg) (pe_outW (i1 j)); rw [fm.K j] at this; exact this) (ok j) (fun s H C cl fp => g1 (j, s, H, C, cl, fp)) (fun s H C cl fp => t1 (j, s, H, C, cl, fp)) (fun s H C cl fp => e1 (j, s, H, C, cl, fp)) (hs j)), ?_⟩
  intro F L σ H ρ b Q P r hp kq
  refine i2 F L σ H ρ b _ _ r hp fun v d H1 b1 ev1 r1 td ⟨a, ds, ed, eb, hP⟩ => ?_
  subst ed
  cases VR.ob (c := c) (ρ := ρ) (σ := σ) (b := b1) td
  obtain ⟨vs, q1, q2⟩ := r1.st a _ eb
  have r2 := r1.outW q1
  have na : ¬ exA F.ex L a := fun z => by obtain ⟨o, ho, hn⟩ := r1.tr a z; rw [q1] at ho; cases ho; exact hn.2 trivial
  have nu : ¬ isU c L a := fun z => na z.ex
  have kk1 : ∀ z o, ¬ exA F.ex L z → H1 z = some o → ¬ ownK o → ¬ exA (fun z => F.ex z ∨ z = a) L z ∧ upd H1 a (.lst vs) z = some o := fun z o n h w => by
    have ne : z ≠ a := fun q => by subst q; rw [q1] at h; cases h; exact w trivial
    refine ⟨fun q => ?_, by rw [upd_ne ne]; exact h⟩
    rcases q with (q | q) | q
    · exact n (.inl q)
    · exact ne q
    · exact n (.inr q)
  refine ⟨a, vs, rfl, q1, a, rfl, ⟨vs, SqL.of upd_same⟩, ?_⟩
  obtain ⟨ov, hov⟩ : ∃ ov, ov = own.map (·.2) := ⟨_, rfl⟩
  rw [← hov] at hvs hix hP ⊢
  have td2 : TdOAll (exA (fun z => F.ex z ∨ z = a) L) (upd H1 a (.lst vs)) vs ds := q2.go kk1
  have main := simF_lc_atN (wi := fun _ H R => R (Itl c.K a) H) (pwi := fun ρ b P => P ds b) (F := ⟨fun z => if z = a then none else F.H0 z, fun z => F.ex z ∨ z = a, F.u0⟩) (b := b1.del a) (ρ := ρ) (σ := σ) (L := L) (H := upd H1 a (.lst vs)) (vs := ov) (ix := ix) (ptt := ptt) (pte := pte) (pg := pg) (P := fun d b' => P d (b'.put a (.lst ds)))
    (fun R P' hp' k' => k' _ ds (fun z => z = a) _ _ (.refl _) r2 (walks_lst (K := c.K) upd_same td2 (.inr rfl)) (fun z hz => by subst hz; exact nu) hp') g2 t2 e2 hvs hix (fun v H' => ∃ a xs, H' a = some (.lst xs) ∧ Q v (upd H' a (.lsw xs))) r2 (show LcG _ _ _ _ _ _ _ _ from hP) ?_
  · exact main
  intro Da vs' ds' H2 b2 ev2 r3 nD hD tD stD hQ
  have ha2 : H2 a = some (.lst vs) := (ev2 a _ nu upd_same).2 id
  have neD : Da ≠ a := fun z => by rw [z, upd_same] at nD; cases nD
  have nD1 : H1 Da = none := by rw [upd_ne neD] at nD; exact nD
  refine ⟨a, vs, ha2, ?_⟩
  have ev3 : EvU c L H1 (upd H2 a (.lsw vs)) := fun z o n h => by
    by_cases q : z = a
    · subst q; rw [q1] at h; cases h
      exact .of upd_same
    · have := ev2 z o n (by rw [upd_ne q]; exact h)
      unfold Kp at this ⊢
      rw [upd_ne q]; exact this
  have kk2 : ∀ (G : Addr → Prop) z o, (¬ (exA (fun z => F.ex z ∨ z = a) L z ∨ G z)) → H2 z = some o → ¬ ownK o → ¬ (exA F.ex L z ∨ G z) ∧ upd H2 a (.lsw vs) z = some o := fun G z o n h w => by
    have ne : z ≠ a := fun q => n (.inl (.inl (.inr q)))
    refine ⟨fun q => n ?_, by rw [upd_ne ne]; exact h⟩
    rcases q with (q | q) | q
    · exact .inl (.inl (.inl q))
    · exact .inl (.inr q)
    · exact .inr q
  have stb : Sto c.mg (fun z => exA F.ex L z ∨ z = Da) (upd H2 a (.lsw vs)) (b2.put a (.lst ds)) := fun z x hz => by
    by_cases q : z = a
    · subst q
      rw [Sb.put_same] at hz; cases hz
      refine ⟨vs, upd_same, q2.go fun u o n h w => ⟨fun q => q.elim n (ne_of_none h nD1), (ev3 u o (fun q => n q.ex) h).2 w⟩⟩
    · rw [Sb.put_ne q] at hz
      exact (stD z x hz).to (kk2 (fun z => z = Da)) fun o h _ => by rw [upd_ne q]; exact h
  refine kq Da vs' ds' _ _ (ev1.trans ev3) (r.go (ev1.trans ev3) (fun z hz => ?_) (stb.go (fun z o n e _ => ⟨fun q => n (.inl q), e⟩) fun _ _ e _ => e)) (none_back r1 ev1 nD1) (by rw [upd_ne neD]; exact hD) (TdOAll.to (fun z o n h w => kk2 (fun z => z = Da) z o n h w) ds' vs' tD) stb hQ
  obtain ⟨g, c', n, h, rest⟩ := r3.urn hz
  exact ⟨g, c', n, by rw [upd_ne (fun q => by subst q; exact nu hz)]; exact h, rest⟩
end
end PO
end L2
set_option Elab.async false
set_option linter.all false
set_option maxRecDepth 100000
namespace L2
namespace PO
open PySem PySem.Spec PyProof.Rows L2 L2.PU
section
variable {I : Type} {X : I → Cx} {c : C} {k : Nat}
def sWhile (pt : PTT) (pb : PTS) : PTS := fun E ρ b => ∃ Inv : Nat → En → Sb → Prop, (∃ m, Inv m ρ b) ∧ ∀ m ρ b, Inv m ρ b → pt ρ b fun kk b' => if kk = true then pb { E with nx := fun ρ b => ∃ m', m' < m ∧ Inv m' ρ b, ct := fun ρ b => ∃ m', m' < m ∧ Inv m' ρ b, bk := E.nx } ρ b' else E.nx ρ b'
theorem js_while {e : Expr} {body : List Stmt} {pos : Pos} {pt : PTT} {pb' : PTS} (hp : ∀ j, PassesOwn (model (X j).prog (X j).w) (X j).A (X j).env (X j).xe) (ht : JT X c e pt) (hb : JSs X c body pb') : JS X c (.While e body [] pos) (sWhile pt pb') := by
  obtain ⟨t, x, s⟩ := ht.ex
  obtain ⟨tb, b1, b2⟩ := hb.ex
  refine ⟨_, fun j => ps_while (hp j) (x j) (b1 j), fun F L σ H ρ b E Pn r ⟨Iv, ⟨m0, i0⟩, step⟩ o => ?_⟩
  refine ⟨fun m σ2 H2 => ∃ L' ρ' b', Evo F L H L' H2 ∧ RS c F L' σ2 H2 ρ' b' ∧ Iv m ρ' b', ⟨m0, L, ρ, b, .refl, r, i0⟩, ?_⟩
  rintro m σ2 H2 ⟨L', ρ', b', ev, r2, iv⟩
  refine s F L' σ2 H2 ρ' b' _ _ r2 (step m ρ' b' iv) fun kk H3 b3 e3 r3 hk => ?_
  cases kk with
  | true =>
    refine iteT ⟨fun σ4 H4 => ∃ m', m' < m ∧ ∃ L' ρ' b', Evo F L H L' H4 ∧ RS c F L' σ4 H4 ρ' b' ∧ Iv m' ρ' b', fun σ' H' ⟨m', hm, q⟩ => ⟨m', hm, q⟩, ?_⟩
    refine b2 F L' σ2 H3 ρ' b3 _ _ r3 hk ⟨fun L4 σ4 H4 ρ4 b4 e4 r4 ⟨m', hm, iv'⟩ => ⟨m', hm, L4, ρ4, b4, ev.trans ((Evo.u e3).trans e4), r4, iv'⟩, fun L4 σ4 H4 ρ4 b4 e4 r4 h4 => o.nx L4 σ4 H4 ρ4 b4 (ev.trans ((Evo.u e3).trans e4)) r4 h4, fun L4 σ4 H4 ρ4 b4 e4 r4 ⟨m', hm, iv'⟩ => ⟨m', hm, L4, ρ4, b4, ev.trans ((Evo.u e3).trans e4), r4, iv'⟩, o.rt⟩
  | false => exact iteF (o.nx L' σ2 H3 ρ' b3 (ev.trans (Evo.u e3)) r3 hk)
end
end PO
end L2
set_option Elab.async false
set_option linter.all false
set_option maxRecDepth 100000
set_option maxHeartbeats 4000000
namespace My
open PySem PySem.Spec PyProof.Rows L2 L2.PU
local macro_rules | `(tactic| walk_at "rd") => `(tactic| repeat (first | refine ⟨_, rfl, ?_⟩ | refine ⟨_, _, rfl, rfl, ?_⟩ | refine ⟨_, _, rfl, ?_⟩ | refine ⟨rfl, ?_⟩ | refine And.intro (by first | decide | omega) ?_ | refine And.intro (by first | exact Or.inl ⟨by omega, by omega⟩ | exact Or.inr ⟨by omega, by omega⟩ | exact And.intro (by omega) (by omega)) ?_ | refine iteT ?_ | refine iteF ?_))
local macro_rules | `(tactic| walk_at "st") => `(tactic| repeat (first | refine ⟨_, rfl, ?_⟩ | refine ⟨_, _, rfl, rfl, ?_⟩ | refine ⟨_, .inl rfl, ?_⟩ | refine ⟨_, .inr rfl, ?_⟩ | refine ⟨_, _, _, .inl rfl, rfl, rfl, ?_⟩ | refine ⟨_, _, _, .inr rfl, rfl, rfl, ?_⟩ | refine And.intro (by first | decide | omega) ?_))
local macro_rules | `(tactic| walk_at "sx") => `(tactic| repeat ((fail_if_success (with_reducible show LcG _ _ _ _ _ _ _ _)); first | refine ⟨_, rfl, ?_⟩ | refine ⟨_, _, rfl, rfl, ?_⟩ | refine ⟨_, .inl rfl, ?_⟩ | refine ⟨_, .inr rfl, ?_⟩ | refine ⟨_, _, _, .inl rfl, rfl, rfl, ?_⟩ | refine ⟨_, _, _, .inr rfl, rfl, rfl, ?_⟩ | refine ⟨Nat.le_of_ble_eq_true rfl, ?_⟩ | refine And.intro (by first | decide | omega) ?_ | refine ⟨rfl, ?_⟩ | refine ⟨_, _, rfl, ?_⟩))
def top (i : Nat) : Stmt := PySem.Challenge.pw_climborsink_k47_letters_of_a_chief.main.body.getD i (.Pass ⟨0, 0, 0, 0⟩)
abbrev s_is_tuple_of : Stmt := top 1
abbrev s_own_copy : Stmt := top 2
abbrev s_are_words : Stmt := top 8
abbrev s_law_urn : Stmt := top 12
abbrev s_law_draw : Stmt := top 13
abbrev s_law_words : Stmt := top 14
abbrev s_law_agree_right : Stmt := top 15
abbrev s_law_round_right : Stmt := top 16
abbrev s_law : Stmt := top 17
abbrev s_Chief_init : Stmt := inClass (top 10) 0
abbrev s_Chief_turn : Stmt := inClass (top 10) 1
abbrev s_Chief_phase : Stmt := inClass (top 10) 2
abbrev s_Chief_word : Stmt := inClass (top 10) 3
abbrev s_Chief_agreed : Stmt := inClass (top 10) 4
abbrev s_Chief_begin_turn : Stmt := inClass (top 10) 5
abbrev s_Chief_deal : Stmt := inClass (top 10) 6
abbrev s_Chief_is_dealt_to_all : Stmt := inClass (top 10) 7
abbrev s_Chief_ask : Stmt := inClass (top 10) 8
abbrev s_Chief_clear : Stmt := inClass (top 10) 9
abbrev s_Chief_letters : Stmt := inClass (top 10) 10
abbrev s_Chief_hear : Stmt := inClass (top 10) 11
abbrev s_Chief_end_turn : Stmt := inClass (top 10) 12
abbrev N_is_tuple_of : List Str := ["thing", "many"]
theorem sc_is_tuple_of : FnScope N_is_tuple_of ["thing", "many"] (defScope s_is_tuple_of) := ⟨rfl, rfl, rfl, by decide +kernel, rfl, by decide +kernel, by decide +kernel⟩
abbrev N_are_words : List Str := ["thing", "many", "word"]
theorem sc_are_words : FnScope N_are_words ["thing", "many"] (defScope s_are_words) := ⟨rfl, rfl, rfl, by decide +kernel, rfl, by decide +kernel, by decide +kernel⟩
abbrev N_law_urn : List Str := ["_law_script", "_law_spot", "_law_cell", "_law_great"]
theorem sc_law_urn : FnScope N_law_urn ["_law_script", "_law_spot"] (defScope s_law_urn) := ⟨rfl, rfl, rfl, by decide +kernel, rfl, by decide +kernel, by decide +kernel⟩
abbrev N_law_draw : List Str := ["_law_urn_here", "_law_wide", "_law_digit", "_law_primes", "_law_step", "_law_base", "_law_mixed"]
theorem sc_law_draw : FnScope N_law_draw ["_law_urn_here", "_law_wide"] (defScope s_law_draw) := ⟨rfl, rfl, rfl, by decide +kernel, rfl, by decide +kernel, by decide +kernel⟩
abbrev N_law_words : List Str := ["_law_urn_here", "_law_many", "_law_k"]
theorem sc_law_words : FnScope N_law_words ["_law_urn_here", "_law_many"] (defScope s_law_words) := ⟨rfl, rfl, rfl, by decide +kernel, rfl, by decide +kernel, by decide +kernel⟩
abbrev N_law_agree_right : List Str := ["_law_urn_here", "_law_chief", "_law_words_here", "_law_silent", "_law_turn", "_law_due", "_law_place"]
theorem sc_law_agree_right : FnScope N_law_agree_right ["_law_urn_here", "_law_chief", "_law_words_here"] (defScope s_law_agree_right) := ⟨rfl, rfl, rfl, by decide +kernel, rfl, by decide +kernel, by decide +kernel⟩
abbrev N_law_round_right : List Str := ["_law_urn_here", "_law_chief", "_law_many", "_law_words_here", "_law_others", "_law_row"]
theorem sc_law_round_right : FnScope N_law_round_right ["_law_urn_here", "_law_chief", "_law_many"] (defScope s_law_round_right) := ⟨rfl, rfl, rfl, by decide +kernel, rfl, by decide +kernel, by decide +kernel⟩
abbrev N_law : List Str := ["_law_script", "_law_spot", "_law_urn_here", "_law_many", "_law_chief", "_law_turn", "_law_begun"]
theorem sc_law : FnScope N_law ["_law_script"] (defScope s_law) := ⟨rfl, rfl, rfl, by decide +kernel, rfl, by decide +kernel, by decide +kernel⟩
abbrev N_Chief_init : List Str := ["self", "many"]
theorem sc_Chief_init : FnScope N_Chief_init ["self", "many"] (defScope s_Chief_init) := ⟨rfl, rfl, rfl, by decide +kernel, rfl, by decide +kernel, by decide +kernel⟩
abbrev N_Chief_turn : List Str := ["self"]
theorem sc_Chief_turn : FnScope N_Chief_turn ["self"] (defScope s_Chief_turn) := ⟨rfl, rfl, rfl, by decide +kernel, rfl, by decide +kernel, by decide +kernel⟩
abbrev N_Chief_phase : List Str := ["self"]
theorem sc_Chief_phase : FnScope N_Chief_phase ["self"] (defScope s_Chief_phase) := ⟨rfl, rfl, rfl, by decide +kernel, rfl, by decide +kernel, by decide +kernel⟩
abbrev N_Chief_word : List Str := ["self"]
theorem sc_Chief_word : FnScope N_Chief_word ["self"] (defScope s_Chief_word) := ⟨rfl, rfl, rfl, by decide +kernel, rfl, by decide +kernel, by decide +kernel⟩
abbrev N_Chief_agreed : List Str := ["self", "place"]
theorem sc_Chief_agreed : FnScope N_Chief_agreed ["self"] (defScope s_Chief_agreed) := ⟨rfl, rfl, rfl, by decide +kernel, rfl, by decide +kernel, by decide +kernel⟩
abbrev N_Chief_begin_turn : List Str := ["self", "phase", "words"]
theorem sc_Chief_begin_turn : FnScope N_Chief_begin_turn ["self", "phase", "words"] (defScope s_Chief_begin_turn) := ⟨rfl, rfl, rfl, by decide +kernel, rfl, by decide +kernel, by decide +kernel⟩
abbrev N_Chief_deal : List Str := ["self", "words"]
theorem sc_Chief_deal : FnScope N_Chief_deal ["self", "words"] (defScope s_Chief_deal) := ⟨rfl, rfl, rfl, by decide +kernel, rfl, by decide +kernel, by decide +kernel⟩
abbrev N_Chief_is_dealt_to_all : List Str := ["self"]
theorem sc_Chief_is_dealt_to_all : FnScope N_Chief_is_dealt_to_all ["self"] (defScope s_Chief_is_dealt_to_all) := ⟨rfl, rfl, rfl, by decide +kernel, rfl, by decide +kernel, by decide +kernel⟩
abbrev N_Chief_ask : List Str := ["self"]
theorem sc_Chief_ask : FnScope N_Chief_ask ["self"] (defScope s_Chief_ask) := ⟨rfl, rfl, rfl, by decide +kernel, rfl, by decide +kernel, by decide +kernel⟩
abbrev N_Chief_clear : List Str := ["self"]
theorem sc_Chief_clear : FnScope N_Chief_clear ["self"] (defScope s_Chief_clear) := ⟨rfl, rfl, rfl, by decide +kernel, rfl, by decide +kernel, by decide +kernel⟩
abbrev N_Chief_letters : List Str := ["self", "place"]
theorem sc_Chief_letters : FnScope N_Chief_letters ["self"] (defScope s_Chief_letters) := ⟨rfl, rfl, rfl, by decide +kernel, rfl, by decide +kernel, by decide +kernel⟩
abbrev N_Chief_hear : List Str := ["self", "letter", "name", "place", "turn", "other"]
theorem sc_Chief_hear : FnScope N_Chief_hear ["self", "letter"] (defScope s_Chief_hear) := ⟨rfl, rfl, rfl, by decide +kernel, rfl, by decide +kernel, by decide +kernel⟩
abbrev N_Chief_end_turn : List Str := ["self"]
theorem sc_Chief_end_turn : FnScope N_Chief_end_turn ["self"] (defScope s_Chief_end_turn) := ⟨rfl, rfl, rfl, by decide +kernel, rfl, by decide +kernel, by decide +kernel⟩
structure Txt (K : PySem.W.Frag) (mg : Str → Option Value) : Prop where
  f_is_tuple_of : Fn K mg "is_tuple_of" s_is_tuple_of
  f_own_copy : Fn K mg "own_copy" s_own_copy
  f_are_words : Fn K mg "are_words" s_are_words
  f_law_urn : Fn K mg "_law_urn" s_law_urn
  f_law_draw : Fn K mg "_law_draw" s_law_draw
  f_law_words : Fn K mg "_law_words" s_law_words
  f_law_agree_right : Fn K mg "_law_agree_right" s_law_agree_right
  f_law_round_right : Fn K mg "_law_round_right" s_law_round_right
  f_law : Fn K mg "law" s_law
  g_WORDS : ∃ a, mg "WORDS" = some (.ref a) ∧ L2.PU.KTup K a (List.map V.str ["climb", "hold", "sink"])
  k_Chief : L2.PO.Kls K mg "Chief"
  mk_Chief : PySem.W.makesIn K (L2.PO.clA mg "Chief") = true
  kp_Chief : PySem.W.keepIn K (.ref (L2.PO.clA mg "Chief")) = true
  na_Chief_at_phase : NoAttr K (L2.PO.clA mg "Chief") "at_phase"
  na_Chief_at_turn : NoAttr K (L2.PO.clA mg "Chief") "at_turn"
  na_Chief_many : NoAttr K (L2.PO.clA mg "Chief") "many"
  na_Chief_missing : NoAttr K (L2.PO.clA mg "Chief") "missing"
  na_Chief_own_word : NoAttr K (L2.PO.clA mg "Chief") "own_word"
  na_Chief_told_words : NoAttr K (L2.PO.clA mg "Chief") "told_words"
  m_Chief_init : L2.PO.Fm2 K mg "Chief" "__init__" "Chief.__init__" s_Chief_init
  m_Chief_turn : L2.PO.Fm2 K mg "Chief" "turn" "Chief.turn" s_Chief_turn
  m_Chief_phase : L2.PO.Fm2 K mg "Chief" "phase" "Chief.phase" s_Chief_phase
  m_Chief_word : L2.PO.Fm2 K mg "Chief" "word" "Chief.word" s_Chief_word
  m_Chief_agreed : L2.PO.Fm2 K mg "Chief" "agreed" "Chief.agreed" s_Chief_agreed
  m_Chief_begin_turn : L2.PO.Fm2 K mg "Chief" "begin_turn" "Chief.begin_turn" s_Chief_begin_turn
  m_Chief_deal : L2.PO.Fm2 K mg "Chief" "deal" "Chief.deal" s_Chief_deal
  m_Chief_is_dealt_to_all : L2.PO.Fm2 K mg "Chief" "is_dealt_to_all" "Chief.is_dealt_to_all" s_Chief_is_dealt_to_all
  m_Chief_ask : L2.PO.Fm2 K mg "Chief" "ask" "Chief.ask" s_Chief_ask
  m_Chief_clear : L2.PO.Fm2 K mg "Chief" "clear" "Chief.clear" s_Chief_clear
  m_Chief_letters : L2.PO.Fm2 K mg "Chief" "letters" "Chief.letters" s_Chief_letters
  m_Chief_hear : L2.PO.Fm2 K mg "Chief" "hear" "Chief.hear" s_Chief_hear
  m_Chief_end_turn : L2.PO.Fm2 K mg "Chief" "end_turn" "Chief.end_turn" s_Chief_end_turn
  b_abs : mg "abs" = none
  b_all : mg "all" = none
  b_isinstance : mg "isinstance" = none
  b_len : mg "len" = none
  b_list : mg "list" = none
  b_max : mg "max" = none
  b_min : mg "min" = none
  b_range : mg "range" = none
  b_repr : mg "repr" = none
  b_tuple : mg "tuple" = none
end My
namespace My
open PySem PySem.Spec PyProof.Rows L2 L2.PU
local macro_rules | `(tactic| walk_at "rd") => `(tactic| repeat (first | refine ⟨_, rfl, ?_⟩ | refine ⟨_, _, rfl, rfl, ?_⟩ | refine ⟨_, _, rfl, ?_⟩ | refine ⟨rfl, ?_⟩ | refine And.intro (by first | decide | omega) ?_ | refine And.intro (by first | exact Or.inl ⟨by omega, by omega⟩ | exact Or.inr ⟨by omega, by omega⟩ | exact And.intro (by omega) (by omega)) ?_ | refine iteT ?_ | refine iteF ?_))
local macro_rules | `(tactic| walk_at "st") => `(tactic| repeat (first | refine ⟨_, rfl, ?_⟩ | refine ⟨_, _, rfl, rfl, ?_⟩ | refine ⟨_, .inl rfl, ?_⟩ | refine ⟨_, .inr rfl, ?_⟩ | refine ⟨_, _, _, .inl rfl, rfl, rfl, ?_⟩ | refine ⟨_, _, _, .inr rfl, rfl, rfl, ?_⟩ | refine And.intro (by first | decide | omega) ?_))
local macro_rules | `(tactic| walk_at "sx") => `(tactic| repeat ((fail_if_success (with_reducible show LcG _ _ _ _ _ _ _ _)); first | refine ⟨_, rfl, ?_⟩ | refine ⟨_, _, rfl, rfl, ?_⟩ | refine ⟨_, .inl rfl, ?_⟩ | refine ⟨_, .inr rfl, ?_⟩ | refine ⟨_, _, _, .inl rfl, rfl, rfl, ?_⟩ | refine ⟨_, _, _, .inr rfl, rfl, rfl, ?_⟩ | refine ⟨Nat.le_of_ble_eq_true rfl, ?_⟩ | refine And.intro (by first | decide | omega) ?_ | refine ⟨rfl, ?_⟩ | refine ⟨_, _, rfl, ?_⟩))
section
variable {P : Program} {w : World} {K : PySem.W.Frag} {mg : Str → Option Value} {base : Heap}
theorem d_law_urn (T : Txt K mg) : Dn P w K mg base 1 "_law_urn" ["_law_script", "_law_spot"] (spUrn K) := by
  refine T.f_law_urn.dnq sc_law_urn (fun _ _ _ _ _ _ us hl => match us, hl with | [_, _], _ => rfl) (fun vs H Q E h => ?_) (fun f cdv A outer s H vs Q E hr h => ?_)
  · obtain ⟨a, ns, k, rfl, _⟩ := h; rfl
  obtain ⟨a, ns, k, rfl, hS, h0, h3, q⟩ := h
  refine ⟨_, (QQ.pss_cons (QQ.ps_set (i := 2) sc_law_urn.nd rfl (by first | exact Or.inl rfl | exact Or.inr rfl) QQ.pe_int)
    (QQ.pss_cons (QQ.ps_if (QQ.pt_cmpR QQ.op_lt (QQ.pv 1) (QQ.pb QQ.call_len_seq (by rfl) T.b_len (by decide +kernel) (QQ.pc (QQ.pv 0) QQ.pa_nil)) (nomark _)) (QQ.pss_one (QQ.ps_set (i := 2) sc_law_urn.nd rfl (by first | exact Or.inl rfl | exact Or.inr rfl) (QQ.pe_ix (r := rIxL K) QQ.ix_list (QQ.pv 0) (QQ.pv 1) (fun _ _ => rfl)))) QQ.pss_nil)
    (QQ.pss_cons (QQ.ps_set (i := 3) sc_law_urn.nd rfl (by first | exact Or.inl rfl | exact Or.inr rfl) (QQ.pb QQ.call_abs (by rfl) T.b_abs (by decide +kernel) (QQ.pc (QQ.pv 2) QQ.pa_nil)))
    (QQ.pss_cons (QQ.ps_if (QQ.pt_cmpR QQ.op_lt (QQ.pv 3) (QQ.pe_op QQ.op_pw QQ.pe_int QQ.pe_int) (nomark _)) (QQ.pss_one (QQ.ps_set (i := 3) sc_law_urn.nd rfl (by first | exact Or.inl rfl | exact Or.inr rfl) QQ.pe_int)) QQ.pss_nil)
    (QQ.pss_one (QQ.ps_ret (QQ.pe_lst (QQ.pc (QQ.pv 3) (QQ.pc (QQ.pe_op QQ.op_add (QQ.pe_op QQ.op_add (QQ.pe_op QQ.op_add (QQ.pe_op QQ.op_mod (QQ.pv 2) QQ.pe_int) (QQ.pe_op QQ.op_mul (QQ.pe_op QQ.op_mul QQ.pe_int (QQ.pv 1)) (QQ.pv 1))) (QQ.pe_op QQ.op_mul QQ.pe_int (QQ.pv 1))) QQ.pe_int) (QQ.pc QQ.pe_int QQ.pa_nil)))))))))), ?_⟩
  refine ⟨_, rfl, _, rfl, a, _, rfl, .inl hS, _, _, rfl, rfl, _, rfl, ?_⟩
  have fin : ∀ z m : Int, 0 ≤ m → ∀ p, H p = none → Q (.ref p) (upd H p (.lst [.int m, .int (z % 1000000000000000003 + 97 * k * k + 31 * k + 1), .int 0])) := fun z m hm p hp => by
    have z1 : 0 ≤ z % 1000000000000000003 := Int.emod_nonneg _ (by decide)
    have z2 : z % 1000000000000000003 < 1000000000000000003 := Int.emod_lt_of_pos _ (by decide)
    have k1 : k = 0 ∨ k = 1 ∨ k = 2 ∨ k = 3 := by omega
    refine q p _ (same_new hp _) hp ⟨_, _, _, upd_same, hm, ?_, ?_, Int.le_refl 0, Int.le_refl 0⟩
    · rcases k1 with rfl | rfl | rfl | rfl <;> omega
    · rcases k1 with rfl | rfl | rfl | rfl <;> omega
  refine ite2 (fun c => ?_) (fun c => ?_)
  · have c' : k < ((ns.map V.int).length : Int) := of_decide_eq_true c
    rw [List.length_map] at c'
    have hk : k.toNat < ns.length := by omega
    refine ⟨_, rfl, _, rfl, a, _, k, .int ns[k.toNat], rfl, rfl, hS, atI_of k.toNat (by omega) (by rw [List.getElem?_map, List.getElem?_eq_getElem hk]; rfl), ?_⟩
    walk_at "rd"
    refine ite2 (fun c2 => ?_) (fun c2 => ?_)
    · walk_at "rd"
      exact ⟨lenOk 3 rfl, fun p hp => fin _ _ (Int.le_refl 0) p hp⟩
    · walk_at "rd"
      exact ⟨lenOk 3 rfl, fun p hp => fin _ _ (by split <;> omega) p hp⟩
  · walk_at "rd"
    exact ⟨lenOk 3 rfl, fun p hp => fin _ _ (Int.le_refl 0) p hp⟩
theorem d_law_draw (T : Txt K mg) : Dn P w K mg base 1 "_law_draw" ["_law_urn_here", "_law_wide"] spDraw := by
  refine T.f_law_draw.dnq sc_law_draw (fun _ _ _ _ _ _ us hl => match us, hl with | [_, _], _ => rfl) (fun vs H Q E h => ?_) (fun f cdv A outer s H vs Q E hr h => ?_)
  · obtain ⟨u, b, wd, rfl, _⟩ := h; rfl
  obtain ⟨u, b, wd, rfl, ⟨g, c1', n, hu, g0, c0, c1, n0, n1⟩, hb, w0, w1, q⟩ := h
  refine ⟨_, (QQ.pss_cons (QQ.ps_if (QQ.pt_cmpR QQ.op_gt (QQ.pe_ix (r := rIxL K) QQ.ix_list (QQ.pv 0) QQ.pe_int (fun _ _ => rfl)) QQ.pe_int (nomark _)) (QQ.pss_cons (QQ.ps_set (i := 2) sc_law_draw.nd rfl (by first | exact Or.inl rfl | exact Or.inr rfl) (QQ.pe_op QQ.op_mod (QQ.pe_ix (r := rIxL K) QQ.ix_list (QQ.pv 0) QQ.pe_int (fun _ _ => rfl)) (QQ.pv 1)))
    (QQ.pss_cons (QQ.ps_asg (QQ.pe_op QQ.op_fdiv (QQ.pe_ix (r := rIxL K) QQ.ix_list (QQ.pv 0) QQ.pe_int (fun _ _ => rfl)) (QQ.pv 1)) (QQ.pg_sub (QQ.pv 0) QQ.pe_int QQ.set_list))
    (QQ.pss_one (QQ.ps_ret (QQ.pv 2))))) QQ.pss_nil)
    (QQ.pss_cons (QQ.ps_set (i := 3) sc_law_draw.nd rfl (by first | exact Or.inl rfl | exact Or.inr rfl) (QQ.pe_tup (QQ.pc QQ.pe_int (QQ.pc QQ.pe_int (QQ.pc QQ.pe_int (QQ.pc QQ.pe_int (QQ.pc QQ.pe_int (QQ.pc QQ.pe_int (QQ.pc QQ.pe_int QQ.pa_nil)))))))))
    (QQ.pss_cons (QQ.ps_asg (QQ.pe_op QQ.op_add (QQ.pe_ix (r := rIxL K) QQ.ix_list (QQ.pv 0) QQ.pe_int (fun _ _ => rfl)) QQ.pe_int) (QQ.pg_sub (QQ.pv 0) QQ.pe_int QQ.set_list))
    (QQ.pss_cons (QQ.ps_set (i := 4) sc_law_draw.nd rfl (by first | exact Or.inl rfl | exact Or.inr rfl) (QQ.pe_ix (r := rIxL K) QQ.ix_list (QQ.pv 0) QQ.pe_int (fun _ _ => rfl)))
    (QQ.pss_cons (QQ.ps_set (i := 5) sc_law_draw.nd rfl (by first | exact Or.inl rfl | exact Or.inr rfl) (QQ.pe_op QQ.op_add (QQ.pe_op QQ.op_add (QQ.pe_op QQ.op_mul (QQ.pe_ix (r := rIxL K) QQ.ix_list (QQ.pv 0) QQ.pe_int (fun _ _ => rfl)) (QQ.pe_op QQ.op_add (QQ.pe_op QQ.op_mul QQ.pe_int (QQ.pv 4)) QQ.pe_int)) (QQ.pe_op QQ.op_mul (QQ.pe_op QQ.op_mul QQ.pe_int (QQ.pv 4)) (QQ.pv 4))) QQ.pe_int))
    (QQ.pss_cons (QQ.ps_set (i := 6) sc_law_draw.nd rfl (by first | exact Or.inl rfl | exact Or.inr rfl) (QQ.pe_op QQ.op_mod (QQ.pe_op QQ.op_pw (QQ.pv 5) QQ.pe_int) (QQ.pe_ix (r := rIxT K) QQ.ix_tup (QQ.pv 3) (QQ.pe_op QQ.op_mod (QQ.pv 4) QQ.pe_int) (fun _ _ => rfl))))
    (QQ.pss_one (QQ.ps_ret (QQ.pe_op QQ.op_mod (QQ.pe_op QQ.op_fdiv (QQ.pe_op QQ.op_mod (QQ.pe_op QQ.op_mul (QQ.pv 6) (QQ.pe_op QQ.op_add (QQ.pe_op QQ.op_fdiv (QQ.pv 6) QQ.pe_int) (QQ.pv 4))) (QQ.pe_ix (r := rIxT K) QQ.ix_tup (QQ.pv 3) (QQ.pe_op QQ.op_mod (QQ.pe_op QQ.op_add (QQ.pv 4) QQ.pe_int) QQ.pe_int) (fun _ _ => rfl))) QQ.pe_int) (QQ.pv 1)))))))))), ?_⟩
  refine ⟨_, rfl, u, _, _, _, rfl, rfl, SqL.of hu, atI_of 0 rfl rfl, _, _, rfl, rfl, _, rfl, ?_⟩
  refine ite2 (fun c => ?_) (fun c => ?_)
  · have c' : 0 < g := of_decide_eq_true c
    refine ⟨_, rfl, u, _, _, _, rfl, rfl, SqL.of hu, atI_of 0 rfl rfl, _, rfl, _, _, rfl, rfl, w0, ?_⟩
    refine ⟨_, rfl, u, _, _, _, rfl, rfl, SqL.of hu, atI_of 0 rfl rfl, _, rfl, _, _, rfl, rfl, ⟨w0, w1⟩, ?_⟩
    refine ⟨_, rfl, u, _, _, 0, rfl, rfl, hu, rfl, _, rfl, ?_⟩
    refine q _ _ (Keep.upd _) ⟨_, _, _, upd_same, ?_, c0, c1, n0, by omega⟩ (Int.emod_nonneg _ (by omega)) (Int.emod_lt_of_pos _ w0)
    exact Int.ediv_nonneg g0 (by omega)
  · refine ⟨lenOk 7 rfl, fun p hp => ?_⟩
    have np : u ≠ p := ne_of_none hu hp
    have s1 := same_new hp (.tup [.int 2147483647, .int 2147483629, .int 2147483587, .int 2147483579, .int 2147483563, .int 2147483549, .int 2147483543])
    have hu1 := s1 _ _ hu
    refine ⟨_, rfl, u, _, _, _, rfl, rfl, SqL.of hu1, atI_of 2 rfl rfl, _, _, rfl, rfl, ?_⟩
    refine ⟨_, rfl, u, _, _, 2, rfl, rfl, hu1, rfl, ?_⟩
    have hp2 : SqT K (upd (upd H p (.tup [.int 2147483647, .int 2147483629, .int 2147483587, .int 2147483579, .int 2147483563, .int 2147483549, .int 2147483543])) u (.lst [.int g, .int c1', .int (n + 1)])) p [.int 2147483647, .int 2147483629, .int 2147483587, .int 2147483579, .int 2147483563, .int 2147483549, .int 2147483543] := SqT.of (by rw [upd_ne np.symm]; exact upd_same)
    refine ⟨_, rfl, u, _, _, _, rfl, rfl, SqL.of upd_same, atI_of 2 rfl rfl, ?_⟩
    refine ⟨_, rfl, u, _, _, _, rfl, rfl, SqL.of upd_same, atI_of 1 rfl rfl, ?_⟩
    walk_at "rd"
    refine ⟨⟨by decide, by decide, base_small c0 c1 (by omega) (by omega)⟩, ?_⟩
    obtain ⟨p1, e1, h1, h1'⟩ := seven (a := 2147483647) (b := 2147483629) (c := 2147483587) (d := 2147483579) (e := 2147483563) (f := 2147483549) (g := 2147483543) (i := (n + 1) % 7) (P := fun z => 0 < z ∧ z < 2147483648) (by omega) (by omega) (by decide) (by decide) (by decide) (by decide) (by decide) (by decide) (by decide)
    obtain ⟨p2, e2, h2, h2'⟩ := seven (a := 2147483647) (b := 2147483629) (c := 2147483587) (d := 2147483579) (e := 2147483563) (f := 2147483549) (g := 2147483543) (i := (n + 1 + 3) % 7) (P := fun z => 0 < z ∧ z < 2147483648) (by omega) (by omega) (by decide) (by decide) (by decide) (by decide) (by decide) (by decide) (by decide)
    refine ⟨_, rfl, _, rfl, _, _, rfl, rfl, (by show (0 : Int) < 7; decide), p, _, _, _, rfl, rfl, hp2, e1, _, _, rfl, rfl, h1, ?_⟩
    have m0 := Int.emod_nonneg ((c1' * (2 * (n + 1) + 1) + 6007 * (n + 1) * (n + 1) + 53) ^ Int.toNat 3) (Int.ne_of_gt h1)
    have m1 := Int.emod_lt_of_pos ((c1' * (2 * (n + 1) + 1) + 6007 * (n + 1) * (n + 1) + 53) ^ Int.toNat 3) h1
    refine ⟨_, rfl, _, rfl, _, _, rfl, rfl, (And.intro (by decide) (by decide)), _, rfl, _, _, rfl, rfl, _, _, rfl, rfl, .inl ⟨Int.lt_of_lt_of_le (by decide) m0, Int.lt_trans m1 (Int.lt_trans h1' (by decide))⟩, ?_⟩
    refine ⟨_, rfl, _, rfl, _, _, rfl, rfl, _, _, rfl, rfl, (by show (0 : Int) < 7; decide), p, _, _, _, rfl, rfl, hp2, e2, _, _, rfl, rfl, h2, _, _, rfl, rfl, (And.intro (by decide) (by decide)), _, rfl, _, _, rfl, rfl, w0, ?_⟩
    exact q _ _ (s1.keep.trans (Keep.upd _)) ⟨_, _, _, upd_same, g0, c0, c1, by omega, by omega⟩ (Int.emod_nonneg _ (by omega)) (Int.emod_lt_of_pos _ w0)
end
end My
namespace My
open PySem PySem.Spec PyProof.Rows L2 L2.PU
local macro_rules | `(tactic| walk_at "rd") => `(tactic| repeat (first | refine ⟨_, rfl, ?_⟩ | refine ⟨_, _, rfl, rfl, ?_⟩ | refine ⟨_, _, rfl, ?_⟩ | refine ⟨rfl, ?_⟩ | refine And.intro (by first | decide | omega) ?_ | refine And.intro (by first | exact Or.inl ⟨by omega, by omega⟩ | exact Or.inr ⟨by omega, by omega⟩ | exact And.intro (by omega) (by omega)) ?_ | refine iteT ?_ | refine iteF ?_))
local macro_rules | `(tactic| walk_at "st") => `(tactic| repeat (first | refine ⟨_, rfl, ?_⟩ | refine ⟨_, _, rfl, rfl, ?_⟩ | refine ⟨_, .inl rfl, ?_⟩ | refine ⟨_, .inr rfl, ?_⟩ | refine ⟨_, _, _, .inl rfl, rfl, rfl, ?_⟩ | refine ⟨_, _, _, .inr rfl, rfl, rfl, ?_⟩ | refine And.intro (by first | decide | omega) ?_))
local macro_rules | `(tactic| walk_at "sx") => `(tactic| repeat ((fail_if_success (with_reducible show LcG _ _ _ _ _ _ _ _)); first | refine ⟨_, rfl, ?_⟩ | refine ⟨_, _, rfl, rfl, ?_⟩ | refine ⟨_, .inl rfl, ?_⟩ | refine ⟨_, .inr rfl, ?_⟩ | refine ⟨_, _, _, .inl rfl, rfl, rfl, ?_⟩ | refine ⟨_, _, _, .inr rfl, rfl, rfl, ?_⟩ | refine ⟨Nat.le_of_ble_eq_true rfl, ?_⟩ | refine And.intro (by first | decide | omega) ?_ | refine ⟨rfl, ?_⟩ | refine ⟨_, _, rfl, ?_⟩))
section
variable {P : Program} {w : World} {K : PySem.W.Frag} {mg : Str → Option Value} {base : Heap}
def F_draw : List PyData → Nat → KE → Prop := fun ds b R => ∃ w, ds = [.int w] ∧ (b ≤ 1000000 ∧ 0 < w ∧ w < 1073741824) ∧ ∀ d, 0 ≤ d → d < w → R (.int d) (b + 1)
theorem du_law_draw (T : Txt K mg) : Dn P w K mg base 1 "_law_draw" ["_law_urn_here", "_law_wide"] (spU F_draw) := (d_law_draw T).imp fun vs H Q E h => by
  obtain ⟨u, vs', ex, ds, b, R, rfl, hu, exu, tr, td, ⟨w, rfl, ⟨hb, w0, w1⟩, hR⟩, q⟩ := h
  cases td with
  | cons h1 h2 =>
    cases h1
    cases h2
    exact ⟨u, b, w, rfl, hu, hb, w0, w1, fun d H' k u' d0 d1 => q _ _ H' _ k u' (.int d) (hR d d0 d1)⟩
theorem du_law_urn (T : Txt K mg) : Dn P w K mg base 1 "_law_urn" ["_law_script", "_law_spot"] (spUrn K) := d_law_urn T
end
end My
namespace My
open PySem PySem.Spec PyProof.Rows L2 L2.PU
local macro_rules | `(tactic| walk_at "rd") => `(tactic| repeat (first | refine ⟨_, rfl, ?_⟩ | refine ⟨_, _, rfl, rfl, ?_⟩ | refine ⟨_, _, rfl, ?_⟩ | refine ⟨rfl, ?_⟩ | refine And.intro (by first | decide | omega) ?_ | refine And.intro (by first | exact Or.inl ⟨by omega, by omega⟩ | exact Or.inr ⟨by omega, by omega⟩ | exact And.intro (by omega) (by omega)) ?_ | refine iteT ?_ | refine iteF ?_))
local macro_rules | `(tactic| walk_at "st") => `(tactic| repeat (first | refine ⟨_, rfl, ?_⟩ | refine ⟨_, _, rfl, rfl, ?_⟩ | refine ⟨_, .inl rfl, ?_⟩ | refine ⟨_, .inr rfl, ?_⟩ | refine ⟨_, _, _, .inl rfl, rfl, rfl, ?_⟩ | refine ⟨_, _, _, .inr rfl, rfl, rfl, ?_⟩ | refine And.intro (by first | decide | omega) ?_))
local macro_rules | `(tactic| walk_at "sx") => `(tactic| repeat ((fail_if_success (with_reducible show LcG _ _ _ _ _ _ _ _)); first | refine ⟨_, rfl, ?_⟩ | refine ⟨_, _, rfl, rfl, ?_⟩ | refine ⟨_, .inl rfl, ?_⟩ | refine ⟨_, .inr rfl, ?_⟩ | refine ⟨_, _, _, .inl rfl, rfl, rfl, ?_⟩ | refine ⟨_, _, _, .inr rfl, rfl, rfl, ?_⟩ | refine ⟨Nat.le_of_ble_eq_true rfl, ?_⟩ | refine And.intro (by first | decide | omega) ?_ | refine ⟨rfl, ?_⟩ | refine ⟨_, _, rfl, ?_⟩))
section
variable {P : Program} {w : World} {K : PySem.W.Frag} {mg : Str → Option Value} {base : Heap}
def w3L : List Str := ["climb", "hold", "sink"]
def F_itup : List PyData → (PyData → Prop) → Prop := fun ds R => ∃ (xs : List PyData) (m : Int), ds = [.tuple xs, .int m] ∧ R (.bool (decide ((xs.length : Int) = m)))
theorem d_is_tuple_of (T : Txt K mg) : Dn P w K mg base 1 "is_tuple_of" ["thing", "many"] (spP F_itup) := by
  refine dnP T.f_is_tuple_of sc_is_tuple_of [] (fun _ _ _ _ _ _ us hl => match us, hl with | [_, _], _ => rfl) (fun _ _ _ _ _ _ _ fm => (jss_one (js_ret (JE.v (je_and (je_isi fm isi_tuple (fun _ => T.b_isinstance) (fun _ => T.b_tuple) (by decide +kernel) (je_var 0)) (je_one (JC.e (jc_eq fm (JE.v (je_len fm (fun _ => T.b_len) (JE.v (je_var 0)))) (JE.v (je_var 1)) (nomark _))))))))) (fun ds R h => ?_)
  obtain ⟨xs, m, rfl, hR⟩ := h
  refine ⟨rfl, ?_⟩
  walk_at "sx"
  have e : (if false = true then !(PyData.int (xs.length : Int)).eqv (.int m) else (PyData.int (xs.length : Int)).eqv (.int m)) = decide ((xs.length : Int) = m) := by rw [eqv_int]; rfl
  rw [e]
  exact hR
def F_arew : List PyData → (PyData → Prop) → Prop := fun ds R => ∃ (ws : List Str), ds = [.tuple (ws.map .str), .int (ws.length : Int)] ∧ ws.length ≤ 1000 ∧ (∀ w ∈ ws, w ∈ w3L) ∧ R (.bool true)
theorem d_are_words (T : Txt K mg) : Dn P w K mg base 2 "are_words" ["thing", "many"] (spP F_arew) := by
  have D_is_tuple_of := d_is_tuple_of (P := P) (w := w) (base := base) T
  refine dnP T.f_are_words sc_are_words [] (fun _ _ _ _ _ _ us hl => match us, hl with | [_, _], _ => rfl) (fun _ _ _ _ _ _ _ fm => (jss_one (js_ret (JE.v (je_and (je_call fm (fun _ => D_is_tuple_of) (ja_cons (je_var 0) (ja_cons (je_var 1) ja_nil))) (je_one (je_all fm (fun _ => T.b_all) (JE.v (JF.e (jf_lc fm (own := [("word", 2)]) (ow := true) (fun _ => sc_are_words.nd) (ji_tup fm (je_var 0)) (fun _ => blkOk_by (own := [("word", 2)]) (N := N_are_words) (sc := defScope s_are_words) (by decide +kernel)) (fun fm => (jg_name 2 (fun _ => sc_are_words.nd))) (fun fm => jts_nil) (fun fm => (JC.e (jc_inS fm (let ⟨a, h, q⟩ := T.g_WORDS; ⟨a, fun _ => h, q⟩) (je_var 2)))))))))))))) (fun ds R h => ?_)
  obtain ⟨ws, rfl, hl, hw, hR⟩ := h
  refine ⟨rfl, ?_⟩
  walk_at "sx"
  refine iteP (decide_eq_true (by rw [List.length_map])) ?_
  walk_at "sx"
  refine lc_map (fun _ => .bool true) (by rw [List.length_map]; omega) (fun x hx K1 K0 h1 => ?_) ?_
  · obtain ⟨w, hm, rfl⟩ := List.mem_map.mp hx
    have hw' := hw w hm
    have e : inSD (.str w) ["climb", "hold", "sink"] = true := decide_eq_true hw'
    walk_at "sx"
    rw [← e] at h1
    exact h1
  refine ⟨(ws.map fun _ => true), by rw [List.map_map, List.map_map]; rfl, ?_⟩
  rw [show (ws.map fun _ => true).all id = true from by rw [List.all_map]; exact List.all_eq_true.mpr fun _ _ => rfl]
  exact hR
end
end My
namespace L2.PO
open PySem PySem.Spec PyProof.Rows L2 L2.PU My
local macro_rules | `(tactic| walk_at "dr") => `(tactic| (simp only [L2.PO.Sb.n_to, L2.PO.Sb.n_put]; omega))
local macro_rules | `(tactic| walk_at "so") => `(tactic| repeat ((fail_if_success (with_reducible show LcG _ _ _ _ _ _ _ _)); first | refine ⟨_, rfl, ?_⟩ | refine ⟨_, _, rfl, rfl, ?_⟩ | refine ⟨_, .inl rfl, ?_⟩ | refine ⟨_, .inr rfl, ?_⟩ | refine ⟨_, _, _, .inl rfl, rfl, rfl, ?_⟩ | refine ⟨_, _, _, .inr rfl, rfl, rfl, ?_⟩ | refine ⟨Nat.le_of_ble_eq_true rfl, ?_⟩ | refine And.intro (And.intro (by first | omega | walk_at "dr") (And.intro (by decide) (by decide))) ?_ | refine And.intro (by first | decide | omega) ?_ | refine ⟨rfl, ?_⟩ | refine ⟨_, _, rfl, ?_⟩ | refine ⟨_, _, _, rfl, by first | exact Sb.put_same | assumption, rfl, ?_⟩ | refine ⟨_, _, rfl, by first | exact Sb.put_same | assumption, Nat.le_of_ble_eq_true rfl, ?_⟩ | refine ⟨_, _, rfl, by first | exact Sb.put_same | assumption, rfl, ?_⟩ | refine ⟨_, _, _, _, rfl, by first | exact Sb.put_same | assumption, rfl, rfl, ?_⟩))
local macro_rules | `(tactic| walk_at "sj") => `(tactic| ((repeat ((fail_if_success (with_reducible refine L2.PO.sJ ?_)); (fail_if_success (with_reducible show L2.PO.LcG _ _ _ _ _ _ _ _)); first | with_reducible refine L2.PO.qN ?_ | refine ⟨_, rfl, ?_⟩ | refine ⟨_, _, rfl, rfl, ?_⟩ | refine ⟨_, .inl rfl, ?_⟩ | refine ⟨_, .inr rfl, ?_⟩ | refine ⟨_, _, _, .inl rfl, rfl, rfl, ?_⟩ | refine ⟨_, _, _, .inr rfl, rfl, rfl, ?_⟩ | refine ⟨Nat.le_of_ble_eq_true rfl, ?_⟩ | refine And.intro (And.intro (by first | omega | walk_at "dr") (And.intro (by decide) (by decide))) ?_ | refine And.intro (by first | decide | omega) ?_ | refine ⟨rfl, ?_⟩ | refine ⟨_, _, rfl, ?_⟩ | refine ⟨_, _, _, rfl, by first | exact L2.PO.Sb.put_same | assumption, rfl, ?_⟩ | refine ⟨_, _, rfl, by first | exact L2.PO.Sb.put_same | assumption, Nat.le_of_ble_eq_true rfl, ?_⟩ | refine ⟨_, _, rfl, by first | exact L2.PO.Sb.put_same | assumption, rfl, ?_⟩ | refine ⟨_, _, _, _, rfl, by first | exact L2.PO.Sb.put_same | assumption, rfl, rfl, ?_⟩)); with_reducible refine L2.PO.sJ ?_))
section
variable {P : Program} {w : World} {K : PySem.W.Frag} {mg : Str → Option Value} {base : Heap}
def chF (m t : Int) (ph w : Str) (told mis : List D) : List (Str × D) := [("many", .int m), ("at_turn", .int t), ("at_phase", .str ph), ("own_word", .str w), ("told_words", .tuple told), ("missing", .tuple mis)]
theorem chF_t {m t : Int} {ph w : Str} {told mis : List D} (t' : Int) : putD "at_turn" (.int t') (chF m t ph w told mis) = chF m t' ph w told mis := rfl
theorem chF_p {m t : Int} {ph w : Str} {told mis : List D} (p' : Str) : putD "at_phase" (.str p') (chF m t ph w told mis) = chF m t p' w told mis := rfl
theorem chF_w {m t : Int} {ph w : Str} {told mis : List D} (w' : Str) : putD "own_word" (.str w') (chF m t ph w told mis) = chF m t ph w' told mis := rfl
theorem chF_o {m t : Int} {ph w : Str} {told mis : List D} (o' : List D) : putD "told_words" (.tuple o') (chF m t ph w told mis) = chF m t ph w o' mis := rfl
theorem chF_m {m t : Int} {ph w : Str} {told mis : List D} (m' : List D) : putD "missing" (.tuple m') (chF m t ph w told mis) = chF m t ph w told m' := rfl
theorem flat_rep {x : D} : ∀ n : Nat, (List.replicate n [x]).flatten = List.replicate n x
  | 0 => rfl
  | n + 1 => by rw [List.replicate_succ, List.replicate_succ, List.flatten_cons, flat_rep n]; rfl
def F_chInit : List D → Sb → KE → Prop := fun ds b R => ∃ a m, ds = [oD a, .int m] ∧ b.o a = some (.ins "Chief" []) ∧ (2 ≤ m ∧ m ≤ 1000) ∧ R .none (b.put a (.ins "Chief" (chF m 0 "clear" "free" (List.replicate m.toNat (.str "free")) [])))
theorem d_Chief_init (T : Txt K mg) : Dm P w K mg base 1 "Chief" "__init__" ["self", "many"] (spS mg F_chInit) := by
  refine dmS T.m_Chief_init sc_Chief_init [] (fun _ _ _ _ _ _ us hl => match us, hl with | [_, _], _ => rfl) (fun _ _ _ _ _ _ _ fm => (jss_cons (js_fld fm T.k_Chief T.na_Chief_many (je_var 1) (je_var 0))
    (jss_cons (js_fld fm T.k_Chief T.na_Chief_at_turn je_int (je_var 0))
    (jss_cons (js_fld fm T.k_Chief T.na_Chief_at_phase je_str (je_var 0))
    (jss_cons (js_fld fm T.k_Chief T.na_Chief_own_word je_str (je_var 0))
    (jss_cons (js_fld fm T.k_Chief T.na_Chief_told_words (je_rep fm (je_tup (ja_cons je_str ja_nil)) (je_var 1)) (je_var 0))
    (jss_one (js_fld fm T.k_Chief T.na_Chief_missing (je_tup ja_nil) (je_var 0))))))))) (fun ds b R h => ?_)
  obtain ⟨a, m, rfl, hb, hm, hR⟩ := h
  refine ⟨rfl, ?_⟩
  walk_at "so"
  rw [flat_rep]
  rw [Sb.put_put, Sb.put_put, Sb.put_put, Sb.put_put, Sb.put_put]
  exact hR
def F_chTurn : List D → Sb → KE → Prop := fun ds b R => ∃ a m t ph w told mis, ds = [oD a] ∧ b.o a = some (.ins "Chief" (chF m t ph w told mis)) ∧ R (.int t) b
theorem d_Chief_turn (T : Txt K mg) : Dm P w K mg base 1 "Chief" "turn" ["self"] (spS mg F_chTurn) := by
  refine dmS T.m_Chief_turn sc_Chief_turn [] (fun _ _ _ _ _ _ us hl => match us, hl with | [_], _ => rfl) (fun _ _ _ _ _ _ _ fm => (jss_one (js_ret (JE.v (je_fld fm T.k_Chief T.na_Chief_at_turn (je_var 0)))))) (fun ds b R h => ?_)
  obtain ⟨a, m, t, ph, w, told, mis, rfl, hb, hR⟩ := h
  exact ⟨rfl, _, rfl, a, _, _, rfl, hb, rfl, hR⟩
def F_chPhase : List D → Sb → KE → Prop := fun ds b R => ∃ a m t ph w told mis, ds = [oD a] ∧ b.o a = some (.ins "Chief" (chF m t ph w told mis)) ∧ R (.str ph) b
theorem d_Chief_phase (T : Txt K mg) : Dm P w K mg base 1 "Chief" "phase" ["self"] (spS mg F_chPhase) := by
  refine dmS T.m_Chief_phase sc_Chief_phase [] (fun _ _ _ _ _ _ us hl => match us, hl with | [_], _ => rfl) (fun _ _ _ _ _ _ _ fm => (jss_one (js_ret (JE.v (je_fld fm T.k_Chief T.na_Chief_at_phase (je_var 0)))))) (fun ds b R h => ?_)
  obtain ⟨a, m, t, ph, w, told, mis, rfl, hb, hR⟩ := h
  exact ⟨rfl, _, rfl, a, _, _, rfl, hb, rfl, hR⟩
def F_chWord : List D → Sb → KE → Prop := fun ds b R => ∃ a m t ph w told mis, ds = [oD a] ∧ b.o a = some (.ins "Chief" (chF m t ph w told mis)) ∧ R (.str w) b
theorem d_Chief_word (T : Txt K mg) : Dm P w K mg base 1 "Chief" "word" ["self"] (spS mg F_chWord) := by
  refine dmS T.m_Chief_word sc_Chief_word [] (fun _ _ _ _ _ _ us hl => match us, hl with | [_], _ => rfl) (fun _ _ _ _ _ _ _ fm => (jss_one (js_ret (JE.v (je_fld fm T.k_Chief T.na_Chief_own_word (je_var 0)))))) (fun ds b R h => ?_)
  obtain ⟨a, m, t, ph, w, told, mis, rfl, hb, hR⟩ := h
  exact ⟨rfl, _, rfl, a, _, _, rfl, hb, rfl, hR⟩
def placesD (m : Int) : List D := (rgI 1 (m - 1).toNat).map .int
def F_chBegin : List D → Sb → KE → Prop := fun ds b R => ∃ a m t ph w told mis ph' told', ds = [oD a, .str ph', .tuple told'] ∧ b.o a = some (.ins "Chief" (chF m t ph w told mis)) ∧ (0 ≤ m ∧ m ≤ 1000) ∧ R .none (b.put a (.ins "Chief" (chF m (t + 1) ph' w told' (placesD m))))
theorem d_Chief_begin_turn (T : Txt K mg) : Dm P w K mg base 1 "Chief" "begin_turn" ["self", "phase", "words"] (spS mg F_chBegin) := by
  refine dmS T.m_Chief_begin_turn sc_Chief_begin_turn [] (fun _ _ _ _ _ _ us hl => match us, hl with | [_, _, _], _ => rfl) (fun _ _ _ _ _ _ _ fm => (jss_cons (js_fldAdd fm T.k_Chief T.na_Chief_at_turn (je_var 0) je_int)
    (jss_cons (js_fld fm T.k_Chief T.na_Chief_at_phase (je_var 1) (je_var 0))
    (jss_cons (js_fld fm T.k_Chief T.na_Chief_told_words (je_var 2) (je_var 0))
    (jss_one (js_fld fm T.k_Chief T.na_Chief_missing (je_trng2 fm (fun _ => T.b_tuple) (fun _ => T.b_range) je_int (je_fld fm T.k_Chief T.na_Chief_many (je_var 0))) (je_var 0))))))) (fun ds b R h => ?_)
  obtain ⟨a, m, t, ph, w, told, mis, ph', told', rfl, hb, hm, hR⟩ := h
  refine ⟨rfl, ?_⟩
  walk_at "so"
  rw [Sb.put_put, Sb.put_put, Sb.put_put, chF_t, chF_p, chF_o, chF_m]
  exact hR
def F_chIsd : List D → Sb → KE → Prop := fun ds b R => ∃ a m t ph w told mis, ds = [oD a] ∧ b.o a = some (.ins "Chief" (chF m t ph w told mis)) ∧ SeqAt.shaped (.tuple mis) = true ∧ R (.bool (decide (ph = "dealt") && PyData.eqv (.tuple mis) (.tuple []))) b
theorem d_Chief_is_dealt_to_all (T : Txt K mg) : Dm P w K mg base 1 "Chief" "is_dealt_to_all" ["self"] (spS mg F_chIsd) := by
  refine dmS T.m_Chief_is_dealt_to_all sc_Chief_is_dealt_to_all [] (fun _ _ _ _ _ _ us hl => match us, hl with | [_], _ => rfl) (fun _ _ _ _ _ _ _ fm => (jss_one (js_ret (JE.v (je_and (JC.e (jc_eqS (je_fld fm T.k_Chief T.na_Chief_at_phase (je_var 0)) je_str (nomark _))) (je_one (JC.e (jc_eq fm (JE.v (je_fld fm T.k_Chief T.na_Chief_missing (je_var 0))) (JE.v (je_tup ja_nil)) (nomark _))))))))) (fun ds b R h => ?_)
  obtain ⟨a, m, t, ph, w, told, mis, rfl, hb, hs, hR⟩ := h
  refine ⟨rfl, ?_⟩
  walk_at "so"
  by_cases q : ph = "dealt"
  · refine iteP (decide_eq_true q) ?_
    walk_at "so"
    rw [decide_eq_true q, Bool.true_and] at hR
    exact hR
  · refine iteN (fun z => q (of_decide_eq_true z)) ?_
    rw [decide_eq_false q, Bool.false_and] at hR
    exact hR
def letOf (t : Int) (told : List D) : D → D
  | .int p => .tuple [.str "tell", .int p, .int t, (atI told p).getD .none]
  | _ => .none
def F_chLetters : List D → Sb → KE → Prop := fun ds b R => ∃ (a : Addr) (m t : Int) (ph w : Str) (told : List D) (mis : List Int), ds = [oD a] ∧ b.o a = some (.ins "Chief" (chF m t ph w told (mis.map .int))) ∧ mis.length ≤ 1000 ∧ (∀ p ∈ mis, ∃ v, atI told p = some v) ∧
  R (.tuple (mis.map fun p => .tuple [.str "tell", .int p, .int t, (atI told p).getD .none])) b
theorem d_Chief_letters (T : Txt K mg) : Dm P w K mg base 1 "Chief" "letters" ["self"] (spS mg F_chLetters) := by
  refine dmS T.m_Chief_letters sc_Chief_letters [] (fun _ _ _ _ _ _ us hl => match us, hl with | [_], _ => rfl) (fun _ _ _ _ _ _ _ fm => (jss_one (js_ret (JE.v (je_tuple fm (fun _ => T.b_tuple) (JE.v (JF.e (jf_lc fm (own := [("place", 1)]) (ow := true) (fun _ => sc_Chief_letters.nd) (ji_tup fm (je_fld fm T.k_Chief T.na_Chief_missing (je_var 0))) (fun _ => blkOk_by (own := [("place", 1)]) (N := N_Chief_letters) (sc := defScope s_Chief_letters) (by decide +kernel)) (fun fm => (jg_name 1 (fun _ => sc_Chief_letters.nd))) (fun fm => jts_nil) (fun fm => (je_tup (ja_cons je_str (ja_cons (je_var 1) (ja_cons (je_fld fm T.k_Chief T.na_Chief_at_turn (je_var 0)) (ja_cons (je_ix fm (JE.v (je_fld fm T.k_Chief T.na_Chief_told_words (je_var 0))) (je_var 1) (fun _ _ => rfl)) ja_nil)))))))))))))) (fun ds b R h => ?_)
  obtain ⟨a, m, t, ph, w, told, mis, rfl, hb, hl, hv, hR⟩ := h
  refine ⟨rfl, ?_⟩
  walk_at "so"
  refine lc_map (letOf t told) (by rw [List.length_map]; omega) (fun x hx K1 K0 h1 => ?_) ?_
  · obtain ⟨p, hp, rfl⟩ := List.mem_map.mp hx
    obtain ⟨v, hv⟩ := hv p hp
    walk_at "so"
    refine ⟨_, _, _, .inr rfl, rfl, hv, ?_⟩
    walk_at "so"
    have e : letOf t told (.int p) = .tuple [.str "tell", .int p, .int t, v] := by
      show PyData.tuple [.str "tell", .int p, .int t, (atI told p).getD .none] = _
      rw [hv]; rfl
    rw [e] at h1
    exact h1
  refine ⟨_, .inl rfl, ?_⟩
  rw [List.map_map]
  exact hR
def F_chEnd : List D → Sb → KE → Prop := fun ds b R => ∃ a m t ph w told mis, ds = [oD a] ∧ b.o a = some (.ins "Chief" (chF m t ph w told mis)) ∧
  R .none (b.put a (.ins "Chief" (chF m t (if ph = "asking" then "held" else if ph = "clearing" then "clear" else ph) (if ph = "asking" then "hold" else w) told mis)))
theorem d_Chief_end_turn (T : Txt K mg) : Dm P w K mg base 1 "Chief" "end_turn" ["self"] (spS mg F_chEnd) := by
  refine dmS T.m_Chief_end_turn sc_Chief_end_turn [] (fun _ _ _ _ _ _ us hl => match us, hl with | [_], _ => rfl) (fun _ _ _ _ _ _ _ fm => (jss_one (js_if (JC.t (jc_eqS (je_fld fm T.k_Chief T.na_Chief_at_phase (je_var 0)) je_str (nomark _))) (jss_cons (js_fld fm T.k_Chief T.na_Chief_at_phase je_str (je_var 0))
    (jss_one (js_fld fm T.k_Chief T.na_Chief_own_word je_str (je_var 0)))) (jss_one (js_if (JC.t (jc_eqS (je_fld fm T.k_Chief T.na_Chief_at_phase (je_var 0)) je_str (nomark _))) (jss_one (js_fld fm T.k_Chief T.na_Chief_at_phase je_str (je_var 0))) jss_nil))))) (fun ds b R h => ?_)
  obtain ⟨a, m, t, ph, w, told, mis, rfl, hb, hR⟩ := h
  refine ⟨rfl, ?_⟩
  walk_at "so"
  by_cases q : ph = "asking"
  · refine iteP (decide_eq_true q) ?_
    walk_at "so"
    rw [Sb.put_put, chF_p, chF_w]
    rw [if_pos q, if_pos q] at hR
    exact hR
  · refine iteN (fun z => q (of_decide_eq_true z)) ?_
    rw [if_neg q, if_neg q] at hR
    walk_at "so"
    by_cases q2 : ph = "clearing"
    · refine iteP (decide_eq_true q2) ?_
      walk_at "so"
      rw [chF_p]
      rw [if_pos q2] at hR
      exact hR
    · refine iteN (fun z => q2 (of_decide_eq_true z)) ?_
      rw [if_neg q2, Sb.put_self hb] at hR
      exact hR
def agOf (mis : List Int) : D → Option D
  | .int p => if p ∈ mis then none else some (.int p)
  | _ => none
theorem agOf_all (mis : List Int) : ∀ xs : List Int, (xs.map PyData.int).filterMap (agOf mis) = (xs.filter fun p => !decide (p ∈ mis)).map .int
  | [] => rfl
  | x :: xs => by
    rw [List.map_cons]
    by_cases q : x ∈ mis
    · rw [List.filterMap_cons_none (show agOf mis (.int x) = none from if_pos q), List.filter_cons_of_neg (by rw [decide_eq_true q]; decide), agOf_all mis xs]
    · rw [List.filterMap_cons_some (show agOf mis (.int x) = some (.int x) from if_neg q), List.filter_cons_of_pos (by rw [decide_eq_false q]; rfl), agOf_all mis xs]
      rfl
theorem flat_ints : ∀ xs : List Int, (xs.map PyData.int).all flatD = true
  | [] => rfl
  | x :: xs => by rw [List.map_cons, List.all_cons, flat_ints xs]; rfl
theorem inD_ints (p : Int) (xs : List Int) : inD (.int p) (xs.map .int) = decide (p ∈ xs) := by
  unfold inD
  rw [List.map_map]
  exact inV_ints
def F_chAgreed : List D → Sb → KE → Prop := fun ds b R => ∃ (a : Addr) (m t : Int) (ph w : Str) (told : List D) (mis : List Int), ds = [oD a] ∧ b.o a = some (.ins "Chief" (chF m t ph w told (mis.map .int))) ∧ (2 ≤ m ∧ m ≤ 1000) ∧ mis.length ≤ 1000 ∧
  R (.tuple (((rgI 1 (m - 1).toNat).filter fun p => !decide (p ∈ mis)).map .int)) b
theorem d_Chief_agreed (T : Txt K mg) : Dm P w K mg base 1 "Chief" "agreed" ["self"] (spS mg F_chAgreed) := by
  refine dmS T.m_Chief_agreed sc_Chief_agreed [] (fun _ _ _ _ _ _ us hl => match us, hl with | [_], _ => rfl) (fun _ _ _ _ _ _ _ fm => (jss_one (js_ret (JE.v (je_tuple fm (fun _ => T.b_tuple) (JE.v (JF.e (jf_lc fm (own := [("place", 1)]) (ow := true) (fun _ => sc_Chief_agreed.nd) (ji_rng2 (fun _ => T.b_range) je_int (je_fld fm T.k_Chief T.na_Chief_many (je_var 0))) (fun _ => blkOk_by (own := [("place", 1)]) (N := N_Chief_agreed) (sc := defScope s_Chief_agreed) (by decide +kernel)) (fun fm => (jg_name 1 (fun _ => sc_Chief_agreed.nd))) (fun fm => (jts_one (JC.t (jc_notIn fm (je_var 1) (JE.v (je_fld fm T.k_Chief T.na_Chief_missing (je_var 0))) (by with_unfolding_all rfl))))) (fun fm => (je_var 1)))))))))) (fun ds b R h => ?_)
  obtain ⟨a, m, t, ph, w, told, mis, rfl, hb, hm, hl, hR⟩ := h
  refine ⟨rfl, ?_⟩
  walk_at "so"
  refine lc_of (agOf mis) (by rw [List.length_map, rgI_length]; omega) (fun x hx K1 K0 h1 h0 => ?_) ?_
  · obtain ⟨p, hp, rfl⟩ := List.mem_map.mp hx
    walk_at "so"
    refine ⟨flat_ints mis, ?_⟩
    walk_at "so"
    rw [inD_ints]
    by_cases q : p ∈ mis
    · rw [decide_eq_true q]
      exact h0 (if_pos q)
    · rw [decide_eq_false q]
      refine iteT ?_
      walk_at "so"
      exact h1 _ (if_neg q)
  refine ⟨_, .inl rfl, ?_⟩
  rw [agOf_all]
  exact hR
theorem noOb_strs : ∀ ws : List Str, noObL (ws.map .str) = true
  | [] => rfl
  | w :: ws => by rw [List.map_cons]; show (noOb (.str w) && noObL (ws.map .str)) = true; rw [noOb_strs ws]; rfl
theorem noOb_words (ws : List Str) : noObL [.tuple (ws.map .str), .int (ws.length : Int)] = true := by
  show (noOb (.tuple (ws.map .str)) && noObL [.int (ws.length : Int)]) = true
  rw [show noOb (.tuple (ws.map .str)) = true from noOb_strs ws]
  rfl
def F_chDeal : List D → Sb → KE → Prop := fun ds b R => ∃ (a : Addr) (m t : Int) (ph w : Str) (told mis : List D) (ws : List Str) (w0 : Str), ds = [oD a, .tuple (ws.map .str)] ∧ b.o a = some (.ins "Chief" (chF m t ph w told mis)) ∧ (2 ≤ m ∧ m ≤ 1000) ∧ (ws.length : Int) = m ∧ (∀ v ∈ ws, v ∈ (["climb", "hold", "sink"] : List Str)) ∧ (ph = "clear" ∨ ph = "held") ∧ ws[0]? = some w0 ∧
  R .none (b.put a (.ins "Chief" (chF m (t + 1) "dealt" w0 (ws.map .str) (placesD m))))
theorem d_Chief_deal (T : Txt K mg) : Dm P w K mg base 3 "Chief" "deal" ["self", "words"] (spS mg F_chDeal) := by
  have D_are_words := d_are_words (P := P) (w := w) (base := base) T
  have D_Chief_begin_turn := d_Chief_begin_turn (P := P) (w := w) (base := base) T
  refine dmS T.m_Chief_deal sc_Chief_deal [] (fun _ _ _ _ _ _ us hl => match us, hl with | [_, _], _ => rfl) (fun _ _ _ _ _ _ _ fm => (jss_cons (js_if (jt_not (jt_tru fm (JE.v (je_callN fm (fun _ => D_are_words) (ja_cons (je_var 1) (ja_cons (je_fld fm T.k_Chief T.na_Chief_many (je_var 0)) ja_nil)))))) (jss_one js_never) jss_nil)
    (jss_cons (js_if (JC.t (jc_notIn fm (je_fld fm T.k_Chief T.na_Chief_at_phase (je_var 0)) (JE.v (je_tup (ja_cons je_str (ja_cons je_str ja_nil)))) (by with_unfolding_all rfl))) (jss_one js_never) jss_nil)
    (jss_cons (js_expr (je_meth fm T.k_Chief (fun _ => D_Chief_begin_turn) (je_var 0) (ja_cons je_str (ja_cons (je_var 1) ja_nil))))
    (jss_one (js_fld fm T.k_Chief T.na_Chief_own_word (je_ix fm (JE.v (je_var 1)) je_int (fun _ _ => rfl)) (je_var 0))))))) (fun ds b R h => ?_)
  obtain ⟨a, m, t, ph, w, told, mis, ws, w0, rfl, hb, hm, hl, hw, hph, h0, hR⟩ := h
  refine ⟨rfl, ?_⟩
  subst hl
  walk_at "so"
  refine ⟨noOb_words ws, ws, rfl, by omega, hw, ?_⟩
  walk_at "so"
  refine iteN (fun z => ?_) ?_
  · rcases hph with rfl | rfl <;> exact absurd z (by decide +kernel)
  walk_at "so"
  refine ⟨a, _, t, ph, w, told, mis, _, _, rfl, hb, ⟨by omega, hm.2⟩, ?_⟩
  walk_at "so"
  cases ws with
  | nil => cases h0
  | cons v vs =>
    cases h0
    have e0 : atI ((w0 :: vs).map PyData.str) 0 = some (.str w0) := by simp [atI, ixN]
    refine ⟨_, _, _, .inr rfl, rfl, e0, ?_⟩
    walk_at "so"
    rw [Sb.put_put, chF_w]
    exact hR
def F_chAsk : List D → Sb → KE → Prop := fun ds b R => ∃ a m t w told, ds = [oD a] ∧ b.o a = some (.ins "Chief" (chF m t "dealt" w told [])) ∧ (2 ≤ m ∧ m ≤ 1000) ∧
  R .none (b.put a (.ins "Chief" (chF m (t + 1) "asking" w (List.replicate m.toNat (.str "hold")) (placesD m))))
theorem d_Chief_ask (T : Txt K mg) : Dm P w K mg base 2 "Chief" "ask" ["self"] (spS mg F_chAsk) := by
  have D_Chief_begin_turn := d_Chief_begin_turn (P := P) (w := w) (base := base) T
  have D_Chief_is_dealt_to_all := d_Chief_is_dealt_to_all (P := P) (w := w) (base := base) T
  refine dmS T.m_Chief_ask sc_Chief_ask [] (fun _ _ _ _ _ _ us hl => match us, hl with | [_], _ => rfl) (fun _ _ _ _ _ _ _ fm => (jss_cons (js_if (jt_not (jt_tru fm (JE.v (je_meth0 fm T.k_Chief (fun _ => D_Chief_is_dealt_to_all) (je_var 0))))) (jss_one js_never) jss_nil)
    (jss_one (js_expr (je_meth fm T.k_Chief (fun _ => D_Chief_begin_turn) (je_var 0) (ja_cons je_str (ja_cons (je_rep fm (je_tup (ja_cons je_str ja_nil)) (je_fld fm T.k_Chief T.na_Chief_many (je_var 0))) ja_nil))))))) (fun ds b R h => ?_)
  obtain ⟨a, m, t, w, told, rfl, hb, hm, hR⟩ := h
  refine ⟨rfl, ?_⟩
  walk_at "so"
  refine ⟨a, m, t, _, w, told, [], rfl, hb, rfl, ?_⟩
  walk_at "so"
  rw [flat_rep]
  walk_at "so"
  refine ⟨a, m, t, _, w, told, [], _, _, rfl, hb, ⟨by omega, hm.2⟩, ?_⟩
  walk_at "so"
  exact hR
def F_chClear : List D → Sb → KE → Prop := fun ds b R => ∃ a m t ph w told mis, ds = [oD a] ∧ b.o a = some (.ins "Chief" (chF m t ph w told mis)) ∧ (2 ≤ m ∧ m ≤ 1000) ∧ (ph = "held" ∨ (ph = "dealt" ∧ mis = [])) ∧
  R .none (b.put a (.ins "Chief" (chF m (t + 1) "clearing" "free" (List.replicate m.toNat (.str "free")) (placesD m))))
theorem d_Chief_clear (T : Txt K mg) : Dm P w K mg base 2 "Chief" "clear" ["self"] (spS mg F_chClear) := by
  have D_Chief_begin_turn := d_Chief_begin_turn (P := P) (w := w) (base := base) T
  have D_Chief_is_dealt_to_all := d_Chief_is_dealt_to_all (P := P) (w := w) (base := base) T
  refine dmS T.m_Chief_clear sc_Chief_clear [] (fun _ _ _ _ _ _ us hl => match us, hl with | [_], _ => rfl) (fun _ _ _ _ _ _ _ fm => (jss_cons (js_if (JW.t (jw_and (JC.t (jc_neS (je_fld fm T.k_Chief T.na_Chief_at_phase (je_var 0)) je_str (nomark _))) (jw_and1 (jt_not (jt_tru fm (JE.v (je_meth0 fm T.k_Chief (fun _ => D_Chief_is_dealt_to_all) (je_var 0)))))))) (jss_one js_never) jss_nil)
    (jss_cons (js_expr (je_meth fm T.k_Chief (fun _ => D_Chief_begin_turn) (je_var 0) (ja_cons je_str (ja_cons (je_rep fm (je_tup (ja_cons je_str ja_nil)) (je_fld fm T.k_Chief T.na_Chief_many (je_var 0))) ja_nil))))
    (jss_one (js_fld fm T.k_Chief T.na_Chief_own_word je_str (je_var 0)))))) (fun ds b R h => ?_)
  obtain ⟨a, m, t, ph, w, told, mis, rfl, hb, hm, hq, hR⟩ := h
  refine ⟨rfl, ?_⟩
  walk_at "sj"
  refine seq_join (fun x b' => x = startD N_Chief_clear [oD a] ∧ b' = b) (fun Kn hK => ?_) ?_
  · walk_at "so"
    rcases hq with rfl | ⟨rfl, rfl⟩
    · refine iteN (by decide +kernel) ?_
      walk_at "so"
      exact hK _ _ ⟨rfl, rfl⟩
    · refine iteP (by decide +kernel) ?_
      walk_at "so"
      refine ⟨a, m, t, _, w, told, [], rfl, hb, rfl, ?_⟩
      walk_at "so"
      exact hK _ _ ⟨rfl, rfl⟩
  rintro x b' ⟨rfl, rfl⟩
  walk_at "so"
  rw [flat_rep]
  walk_at "so"
  refine ⟨a, m, t, ph, w, told, mis, _, _, rfl, hb, ⟨by omega, hm.2⟩, ?_⟩
  walk_at "so"
  rw [Sb.put_put, chF_w]
  exact hR
theorem ne_int_false {x y : Int} (e : x = y) : ¬ ((if true = true then !(PyData.eqv (.int x) (.int y)) else PyData.eqv (.int x) (.int y)) = true) := by subst e; rw [eqv_int]; simp
theorem depth_ints : ∀ xs : List Int, PyData.depthAll (xs.map .int) = 0
  | [] => rfl
  | x :: xs => by simp [PyData.depthAll, PyData.depth, depth_ints xs]
theorem ints_shaped (xs : List Int) : SeqAt.shaped (.tuple (xs.map .int)) = true := by
  simp [SeqAt.shaped, PyData.canLay0, canLay_ints, PyData.depth, depth_ints]
def othOf (p : Int) : D → Option D
  | .int q => if q ≠ p then some (.int q) else none
  | _ => none
theorem othOf_all (p : Int) : ∀ xs : List Int, (xs.map PyData.int).filterMap (othOf p) = (xs.filter fun q => decide (q ≠ p)).map .int
  | [] => rfl
  | x :: xs => by
    rw [List.map_cons]
    by_cases q : x ≠ p
    · rw [List.filterMap_cons_some (show othOf p (.int x) = some (.int x) from if_pos q), List.filter_cons_of_pos (p := fun q => decide (q ≠ p)) (decide_eq_true q), othOf_all p xs]
      rfl
    · rw [List.filterMap_cons_none (show othOf p (.int x) = none from if_neg q), List.filter_cons_of_neg (by rw [decide_eq_false q]; decide), othOf_all p xs]
def chEnd (m t : Int) (ph w : Str) (told : List D) (mis : List Int) : List (Str × D) :=
  if mis = [] then chF m t (if ph = "asking" then "held" else if ph = "clearing" then "clear" else ph) (if ph = "asking" then "hold" else w) told [] else chF m t ph w told (mis.map .int)
def F_chHear : List D → Sb → KE → Prop := fun ds b R => ∃ (a : Addr) (m t : Int) (ph w : Str) (told : List D) (mis : List Int) (nm : Str) (p tt : Int), ds = [oD a, .tuple [.str nm, .int p, .int tt]] ∧ b.o a = some (.ins "Chief" (chF m t ph w told (mis.map .int))) ∧ mis.length ≤ 50 ∧
  ((tt ≠ t ∨ p ∉ mis) → R (.bool false) b) ∧ (tt = t → p ∈ mis → R (.bool true) (b.put a (.ins "Chief" (chEnd m t ph w told (mis.filter fun q => decide (q ≠ p))))))
theorem d_Chief_hear (T : Txt K mg) : Dm P w K mg base 2 "Chief" "hear" ["self", "letter"] (spS mg F_chHear) := by
  have D_Chief_end_turn := d_Chief_end_turn (P := P) (w := w) (base := base) T
  refine dmS T.m_Chief_hear sc_Chief_hear [] (fun _ _ _ _ _ _ us hl => match us, hl with | [_, _], _ => rfl) (fun _ _ _ _ _ _ _ fm => (jss_cons (js_asg (je_var 1) (jg_tup fm (n := 3) (jgs_cons (jg_name 2 (fun _ => sc_Chief_hear.nd)) (jgs_cons (jg_name 3 (fun _ => sc_Chief_hear.nd)) (jgs_cons (jg_name 4 (fun _ => sc_Chief_hear.nd)) jgs_nil)))))
    (jss_cons (js_if (JW.t (jw_or (JC.t (jc_ne fm (JE.v (je_var 4)) (JE.v (je_fld fm T.k_Chief T.na_Chief_at_turn (je_var 0))) (nomark _))) (jw_or1 (JC.t (jc_notIn fm (je_var 3) (JE.v (je_fld fm T.k_Chief T.na_Chief_missing (je_var 0))) (by with_unfolding_all rfl)))))) (jss_one (js_ret (JE.v je_bl))) jss_nil)
    (jss_cons (js_fld fm T.k_Chief T.na_Chief_missing (je_tuple fm (fun _ => T.b_tuple) (JE.v (JF.e (jf_lc fm (own := [("other", 5)]) (ow := true) (fun _ => sc_Chief_hear.nd) (ji_tup fm (je_fld fm T.k_Chief T.na_Chief_missing (je_var 0))) (fun _ => blkOk_by (own := [("other", 5)]) (N := N_Chief_hear) (sc := defScope s_Chief_hear) (by decide +kernel)) (fun fm => (jg_name 5 (fun _ => sc_Chief_hear.nd))) (fun fm => (jts_one (JC.t (jc_ne fm (JE.v (je_var 5)) (JE.v (je_var 3)) (nomark _))))) (fun fm => (je_var 5)))))) (je_var 0))
    (jss_cons (js_if (JC.t (jc_eq fm (JE.v (je_fld fm T.k_Chief T.na_Chief_missing (je_var 0))) (JE.v (je_tup ja_nil)) (nomark _))) (jss_one (js_expr (je_meth0 fm T.k_Chief (fun _ => D_Chief_end_turn) (je_var 0)))) jss_nil)
    (jss_one (js_ret (JE.v je_bl)))))))) (fun ds b R h => ?_)
  obtain ⟨a, m, t, ph, w, told, mis, nm, p, tt, rfl, hb, hl, h0, h1⟩ := h
  refine ⟨rfl, ?_⟩
  walk_at "so"
  by_cases q : tt = t
  · refine iteN (ne_int_false q) ?_
    walk_at "so"
    refine ⟨flat_ints mis, ?_⟩
    walk_at "so"
    rw [inD_ints]
    by_cases q2 : p ∈ mis
    · rw [decide_eq_true q2]
      refine iteF ?_
      walk_at "so"
      refine lc_of (othOf p) (by rw [List.length_map]; omega) (fun x hx K1 K0 k1 k0 => ?_) ?_
      · obtain ⟨z, hz, rfl⟩ := List.mem_map.mp hx
        walk_at "so"
        by_cases q3 : z = p
        · refine iteN (ne_int_false q3) ?_
          exact k0 (if_neg (fun y => y q3))
        · refine iteP (by rw [eqv_int, decide_eq_false q3]; rfl) ?_
          walk_at "so"
          exact k1 _ (if_pos q3)
      rw [othOf_all]
      refine ⟨_, .inl rfl, ?_⟩
      have h2 := h1 q q2
      generalize (mis.filter fun q => decide (q ≠ p)) = ms at *
      walk_at "so"
      refine ⟨ints_shaped ms, rfl, ?_⟩
      walk_at "so"
      cases ms with
      | nil =>
        refine iteP rfl ?_
        walk_at "so"
        refine ⟨a, m, t, ph, w, told, [], rfl, Sb.put_same, ?_⟩
        walk_at "so"
        rw [Sb.put_put]
        exact h2
      | cons z zs =>
        refine iteN (by intro y; cases y) ?_
        walk_at "so"
        exact h2
    · rw [decide_eq_false q2]
      refine iteT ?_
      walk_at "so"
      exact h0 (.inr q2)
  · refine iteP (by rw [eqv_int, decide_eq_false q]; rfl) ?_
    walk_at "so"
    exact h0 (.inl q)
end
end L2.PO
namespace L2.PO
open PySem PySem.Spec PyProof.Rows L2 L2.PU My
local macro_rules | `(tactic| walk_at "dr") => `(tactic| (simp only [L2.PO.Sb.n_to, L2.PO.Sb.n_put]; omega))
local macro_rules | `(tactic| walk_at "so") => `(tactic| repeat ((fail_if_success (with_reducible show LcG _ _ _ _ _ _ _ _)); first | refine ⟨_, rfl, ?_⟩ | refine ⟨_, _, rfl, rfl, ?_⟩ | refine ⟨_, .inl rfl, ?_⟩ | refine ⟨_, .inr rfl, ?_⟩ | refine ⟨_, _, _, .inl rfl, rfl, rfl, ?_⟩ | refine ⟨_, _, _, .inr rfl, rfl, rfl, ?_⟩ | refine ⟨Nat.le_of_ble_eq_true rfl, ?_⟩ | refine And.intro (And.intro (by first | omega | walk_at "dr") (And.intro (by decide) (by decide))) ?_ | refine And.intro (by first | decide | omega) ?_ | refine ⟨rfl, ?_⟩ | refine ⟨_, _, rfl, ?_⟩ | refine ⟨_, _, _, rfl, by first | exact Sb.put_same | assumption, rfl, ?_⟩ | refine ⟨_, _, rfl, by first | exact Sb.put_same | assumption, Nat.le_of_ble_eq_true rfl, ?_⟩ | refine ⟨_, _, rfl, by first | exact Sb.put_same | assumption, rfl, ?_⟩ | refine ⟨_, _, _, _, rfl, by first | exact Sb.put_same | assumption, rfl, rfl, ?_⟩))
local macro_rules | `(tactic| walk_at "sj") => `(tactic| ((repeat ((fail_if_success (with_reducible refine L2.PO.sJ ?_)); (fail_if_success (with_reducible show L2.PO.LcG _ _ _ _ _ _ _ _)); first | with_reducible refine L2.PO.qN ?_ | refine ⟨_, rfl, ?_⟩ | refine ⟨_, _, rfl, rfl, ?_⟩ | refine ⟨_, .inl rfl, ?_⟩ | refine ⟨_, .inr rfl, ?_⟩ | refine ⟨_, _, _, .inl rfl, rfl, rfl, ?_⟩ | refine ⟨_, _, _, .inr rfl, rfl, rfl, ?_⟩ | refine ⟨Nat.le_of_ble_eq_true rfl, ?_⟩ | refine And.intro (And.intro (by first | omega | walk_at "dr") (And.intro (by decide) (by decide))) ?_ | refine And.intro (by first | decide | omega) ?_ | refine ⟨rfl, ?_⟩ | refine ⟨_, _, rfl, ?_⟩ | refine ⟨_, _, _, rfl, by first | exact L2.PO.Sb.put_same | assumption, rfl, ?_⟩ | refine ⟨_, _, rfl, by first | exact L2.PO.Sb.put_same | assumption, Nat.le_of_ble_eq_true rfl, ?_⟩ | refine ⟨_, _, rfl, by first | exact L2.PO.Sb.put_same | assumption, rfl, ?_⟩ | refine ⟨_, _, _, _, rfl, by first | exact L2.PO.Sb.put_same | assumption, rfl, rfl, ?_⟩)); with_reducible refine L2.PO.sJ ?_))
section
variable {P : Program} {w : World} {K : PySem.W.Frag} {mg : Str → Option Value} {base : Heap}
theorem w3_at {e : Int} (e0 : 0 ≤ e) (e1 : e < 3) : ∃ wd : Str, wd ∈ (["climb", "hold", "sink"] : List Str) ∧ atI [PyData.str "climb", .str "hold", .str "sink"] e = some (.str wd) := by
  have hd : e = 0 ∨ e = 1 ∨ e = 2 := by omega
  rcases hd with rfl | rfl | rfl
  · exact ⟨"climb", by decide, rfl⟩
  · exact ⟨"hold", by decide, rfl⟩
  · exact ⟨"sink", by decide, rfl⟩
def F_lw : List D → Sb → KE → Prop := fun ds b R => ∃ n : Int, ds = [.int n] ∧ (0 ≤ n ∧ n ≤ 1000) ∧ b.n + n.toNat ≤ 900000 ∧ ∀ (ws : List Str) (b' : Sb), (ws.length : Int) = n → (∀ w ∈ ws, w ∈ (["climb", "hold", "sink"] : List Str)) → b'.n = b.n + n.toNat → b'.o = b.o → R (.tuple (ws.map .str)) b'
theorem d_law_words (T : Txt K mg) : Dn P w K mg base 2 "_law_words" ["_law_urn_here", "_law_many"] (spU mg F_lw) := by
  have D_law_draw := du_law_draw (P := P) (w := w) (base := base) T
  refine dnU T.f_law_words sc_law_words [] (fun _ _ _ _ _ _ us hl => match us, hl with | [_, _], _ => rfl) (fun _ _ _ _ _ _ _ fm => (jss_one (js_ret (JE.v (je_tuple fm (fun _ => T.b_tuple) (JE.v (JF.e (jf_lc fm (own := [("_law_k", 2)]) (ow := true) (fun _ => sc_law_words.nd) (ji_rng1 (fun _ => T.b_range) (je_var 1)) (fun _ => blkOk_by (own := [("_law_k", 2)]) (N := N_law_words) (sc := defScope s_law_words) (by decide +kernel)) (fun fm => (jg_name 2 (fun _ => sc_law_words.nd))) (fun fm => jts_nil) (fun fm => (je_ix fm (JE.v (JF.e (jf_lst (ja_cons je_str (ja_cons je_str (ja_cons je_str ja_nil)))))) (je_callUN fm 0 (fun _ => D_law_draw) (ja_cons je_int ja_nil)) (fun _ _ => rfl))))))))))) (fun ds b R h => ?_)
  obtain ⟨n, rfl, hn, hb, hR⟩ := h
  refine ⟨rfl, ?_⟩
  walk_at "so"
  refine ⟨by rw [rg_len]; omega, fun l acc b' => ∃ ws : List Str, acc = ws.map .str ∧ ws.length = l ∧ b'.n = b.n + l ∧ b'.o = b.o ∧ ∀ w ∈ ws, w ∈ (["climb", "hold", "sink"] : List Str), ⟨[], rfl, rfl, rfl, rfl, fun w hw => by cases hw⟩, ?_, ?_⟩
  · rintro l x acc b' hx ⟨ws, rfl, hl, hb', ho, hws⟩
    obtain ⟨rfl, hi⟩ := rg_at hx
    have hi' : l < n.toNat := hi
    walk_at "so"
    intro e e0 e1
    obtain ⟨wd, hwd, ew⟩ := w3_at e0 e1
    refine ⟨_, e, _, .inl rfl, rfl, ew, ?_⟩
    refine ⟨ws ++ [wd], by rw [List.map_append]; rfl, by rw [List.length_append, hl]; rfl, by show b'.n + 1 = _; omega, ho, fun w hw => ?_⟩
    rcases List.mem_append.mp hw with q | q
    · exact hws w q
    · rw [List.mem_singleton.mp q]; exact hwd
  rintro acc b' ⟨ws, rfl, hl, hb', ho, hws⟩
  rw [rg_len] at hl hb'
  refine ⟨_, .inl rfl, ?_⟩
  exact hR ws b' (by omega) hws hb' ho
def w4c : List Str := ["climb", "hold", "sink", "free"]
def F_lagr : List D → Sb → KE → Prop := fun ds b R => ∃ (a : Addr) (m t : Int) (ph w : Str) (ws : List Str), ds = [oD a, .tuple (ws.map .str)] ∧ b.o a = some (.ins "Chief" (chF m t ph w (ws.map .str) (placesD m))) ∧ (2 ≤ m ∧ m ≤ 4) ∧ (ws.length : Int) = m ∧ b.n + 4 ≤ 900000 ∧ (0 ≤ t ∧ t ≤ 100) ∧ (∀ v ∈ ws, v ∈ w4c) ∧
  ∀ b', b'.n ≤ b.n + 4 → b'.o a = some (.ins "Chief" (chEnd m t ph w (ws.map .str) [])) → R (.bool true) b'
theorem res_ints (b : Sb) : ∀ xs : List Int, ResAll b (xs.map .int) (xs.map .int)
  | [] => .nil
  | x :: xs => .cons (.int x) (res_ints b xs)
theorem map_erase {α β : Type} (f : α → β) : ∀ (l : List α) (i : Nat), (l.map f).eraseIdx i = (l.eraseIdx i).map f
  | [], _ => rfl
  | _ :: _, 0 => rfl
  | a :: l, i + 1 => congrArg (f a :: ·) (map_erase f l i)
theorem filt_erase : ∀ {l : List Int} {i : Nat} {x : Int}, l.Nodup → l[i]? = some x → l.filter (fun q => decide (q ≠ x)) = l.eraseIdx i
  | [], _, _, _, h => by cases h
  | a :: l, 0, x, hn, h => by
    cases h
    rw [List.filter_cons_of_neg (by simp)]
    show l.filter _ = l
    refine List.filter_eq_self.mpr fun y hy => decide_eq_true fun e => ?_
    subst e
    exact (List.nodup_cons.mp hn).1 hy
  | a :: l, i + 1, x, hn, h => by
    have h' : l[i]? = some x := by simpa using h
    have ne : a ≠ x := fun e => (List.nodup_cons.mp hn).1 (e ▸ List.mem_of_getElem? h')
    rw [List.filter_cons_of_pos (by simpa using ne), filt_erase (List.nodup_cons.mp hn).2 h']
    rfl
theorem ints_shapedL (xs : List Int) : SeqAt.shaped (.list (xs.map .int)) = true := by
  simp [SeqAt.shaped, PyData.canLay0, canLay_ints, PyData.depth, depth_ints]
def lettersD (t : Int) (told : List D) (mis : List Int) : D := .tuple (mis.map fun p => .tuple [.str "tell", .int p, .int t, (atI told p).getD .none])
theorem atI_mem {α : Type} {xs : List α} {i : Int} {x : α} (h : atI xs i = some x) : x ∈ xs := by
  unfold atI at h
  cases q : ixN xs.length i with
  | none => rw [q] at h; cases h
  | some j => rw [q] at h; exact List.mem_of_getElem? h
theorem let_sm {t : Int} {ws : List Str} {rest : List Int} (ht : 0 ≤ t ∧ t ≤ 100) (hw : ∀ v ∈ ws, v ∈ w4c) (hr : rest.length ≤ 3) (hp : ∀ p ∈ rest, 0 ≤ p ∧ p ≤ 100) : Sm (lettersD t (ws.map .str) rest) := by
  refine OkD.sm (B := 1000) (Ls := [3, 4]) ?_ (by decide) (by decide) (by decide)
  have e : (reprText "tell").length ≤ 120 := by decide +kernel
  have e4 : ∀ v ∈ w4c, (reprText v).length ≤ 120 := by decide +kernel
  unfold lettersD
  simp only [OkD, Bool.and_eq_true, decide_eq_true_eq, List.all_eq_true, List.length_map]
  refine ⟨hr, fun d hd => ?_⟩
  obtain ⟨p, hp', rfl⟩ := List.mem_map.mp hd
  have := hp p hp'
  have hv : OkD 1000 [] ((atI (ws.map PyData.str) p).getD .none) = true := by
    cases q : atI (ws.map PyData.str) p with
    | none => rfl
    | some v =>
      have : v ∈ ws.map PyData.str := atI_mem q
      obtain ⟨x, hx, rfl⟩ := List.mem_map.mp this
      show decide _ = true
      exact decide_eq_true (e4 x (hw x hx))
  simp [OkD, e, hv]
  omega
theorem d_law_agree_right (T : Txt K mg) : Dn P w K mg base 3 "_law_agree_right" ["_law_urn_here", "_law_chief", "_law_words_here"] (spU mg F_lagr) := by
  have D_law_draw := du_law_draw (P := P) (w := w) (base := base) T
  have D_Chief_turn := d_Chief_turn (P := P) (w := w) (base := base) T
  have D_Chief_letters := d_Chief_letters (P := P) (w := w) (base := base) T
  have D_Chief_agreed := d_Chief_agreed (P := P) (w := w) (base := base) T
  have D_Chief_hear := d_Chief_hear (P := P) (w := w) (base := base) T
  refine dnU T.f_law_agree_right sc_law_agree_right [] (fun _ _ _ _ _ _ us hl => match us, hl with | [_, _, _], _ => rfl) (fun _ _ _ _ _ _ _ fm => (jss_cons (js_set 3 (fun _ => sc_law_agree_right.nd) (je_toW (jf_lrng2 fm (fun _ => T.b_list) (fun _ => T.b_range) je_int (je_len fm (fun _ => T.b_len) (JE.v (je_var 2))))))
    (jss_cons (js_set 4 (fun _ => sc_law_agree_right.nd) (je_meth0 fm T.k_Chief (fun _ => D_Chief_turn) (je_var 1)))
    (jss_cons (js_while (fun _ => PassesOwn.never) (JC.t (jc_neO fm (je_var 3) (JF.e (jf_lst ja_nil)) (nomark _))) (jss_cons (js_set 5 (fun _ => sc_law_agree_right.nd) (je_tuple fm (fun _ => T.b_tuple) (JE.v (JF.e (jf_lcW fm (own := [("_law_place", 6)]) (fun _ => sc_law_agree_right.nd) (je_var 3) (fun _ => blkOk_by (own := [("_law_place", 6)]) (N := N_law_agree_right) (sc := defScope s_law_agree_right) (by decide +kernel)) (fun fm => (jg_name 6 (fun _ => sc_law_agree_right.nd))) (fun fm => jts_nil) (fun fm => (je_tup (ja_cons je_str (ja_cons (je_var 6) (ja_cons (je_var 4) (ja_cons (je_ix fm (JE.v (je_var 2)) (je_var 6) (fun _ _ => rfl)) ja_nil)))))))))))
    (jss_cons (js_if (JW.t (jw_or (JC.t (jc_neS (je_repr fm (fun _ => T.b_repr) (JE.v (je_meth0 fm T.k_Chief (fun _ => D_Chief_letters) (je_var 1)))) (je_repr fm (fun _ => T.b_repr) (JE.v (je_var 5))) (nomark _))) (jw_or1 (JC.t (jc_neS (je_repr fm (fun _ => T.b_repr) (JE.v (je_meth0 fm T.k_Chief (fun _ => D_Chief_letters) (je_var 1)))) (je_repr fm (fun _ => T.b_repr) (JE.v (je_var 5))) (nomark _)))))) (jss_one (js_ret (JE.v je_bl))) jss_nil)
    (jss_cons (js_set 6 (fun _ => sc_law_agree_right.nd) (je_popO fm (je_var 3) (je_callUN fm 0 (fun _ => D_law_draw) (ja_cons (je_lenO fm (fun _ => T.b_len) (je_var 3)) ja_nil))))
    (jss_one (js_if (JW.t (jw_or (JC.t (jc_isnotB (je_meth fm T.k_Chief (fun _ => D_Chief_hear) (je_var 1) (ja_cons (je_tup (ja_cons je_str (ja_cons (je_var 6) (ja_cons (je_var 4) ja_nil)))) ja_nil)) je_bl)) (jw_or1 (JC.t (jc_isnotB (je_meth fm T.k_Chief (fun _ => D_Chief_hear) (je_var 1) (ja_cons (je_tup (ja_cons je_str (ja_cons (je_var 6) (ja_cons (je_var 4) ja_nil)))) ja_nil)) je_bl))))) (jss_one (js_ret (JE.v je_bl))) jss_nil))))))
    (jss_one (js_ret (JE.v (je_and (JC.e (jc_eq fm (JE.v (je_meth0 fm T.k_Chief (fun _ => D_Chief_letters) (je_var 1))) (JE.v (je_tup ja_nil)) (nomark _))) (je_one (JC.e (jc_eq fm (JE.v (je_meth0 fm T.k_Chief (fun _ => D_Chief_agreed) (je_var 1))) (JE.v (je_trng2 fm (fun _ => T.b_tuple) (fun _ => T.b_range) je_int (je_len fm (fun _ => T.b_len) (JE.v (je_var 2))))) (nomark _)))))))))))) (fun ds b R h => ?_)
  obtain ⟨a, m, t, ph, w, ws, rfl, hb, hm, hl, hn, ht, hw, hR⟩ := h
  refine ⟨rfl, ?_⟩
  walk_at "so"
  refine ⟨1, (ws.length : Int), 1, _, by rw [List.length_map]; rfl, RgC.one (by decide) (by decide) (by omega) (by omega), by omega, ?_⟩
  rw [rgC_one, hl]
  refine ⟨_, rfl, fun s hs => ?_⟩
  have das : a ≠ s := Sb.ne_of hb hs
  have hb2 : (b.put s (.lst ((rgI 1 (m - 1).toNat).map .int))).o a = some (.ins "Chief" (chF m t ph w (ws.map .str) (placesD m))) := by rw [Sb.put_ne das]; exact hb
  walk_at "so"
  refine ⟨a, m, t, ph, w, _, _, rfl, hb2, ?_⟩
  walk_at "so"
  refine ⟨fun mm ρ b' => ∃ (rest : List Int) (v5 v6 : Option D), mm = rest.length ∧ ρ = [some .none, some (oD a), some (.tuple (ws.map .str)), some (oD s), some (.int t), v5, v6] ∧ b'.o s = some (.lst (rest.map .int)) ∧ b'.o a = some (.ins "Chief" (chEnd m t ph w (ws.map .str) rest)) ∧ rest.Nodup ∧ (∀ p ∈ rest, 1 ≤ p ∧ p < m) ∧ rest.length ≤ 3 ∧ b'.n + rest.length ≤ b.n + 4, ⟨_, rgI 1 (m - 1).toNat, _, _, rfl, rfl, Sb.put_same, ?_, ?_, ?_, by rw [rgI_length]; omega, by rw [rgI_length]; show b.n + _ ≤ _; omega⟩, ?_⟩
  · rw [Sb.put_ne das, hb]
    have e : rgI 1 (m - 1).toNat ≠ [] := fun z => by have := congrArg List.length z; rw [rgI_length] at this; simp at this; omega
    unfold chEnd
    rw [if_neg e]; rfl
  · refine List.pairwise_iff_getElem.mpr fun i j hi hj hij e => ?_
    have e1 := rgI_get (lo := 1) (n := (m - 1).toNat) (i := i) (by rw [rgI_length] at hi; exact hi)
    have e2 := rgI_get (lo := 1) (n := (m - 1).toNat) (i := j) (by rw [rgI_length] at hj; exact hj)
    rw [List.getElem?_eq_getElem hi] at e1
    rw [List.getElem?_eq_getElem hj] at e2
    have e1 := Option.some.inj e1
    have e2 := Option.some.inj e2
    omega
  · intro p hp
    have := mem_rgI.mp hp
    omega
  rintro mm ρ b' ⟨rest, v5, v6, rfl, rfl, h1, h2, h3, h4, h5, h6⟩
  walk_at "so"
  refine ⟨_, _, .obj h1 (res_ints _ _), .lst .nil, ints_shapedL _, rfl, ?_⟩
  have hch : ∀ p ∈ rest, ∃ v, atI (ws.map PyData.str) p = some v := fun p hp => by
    have := h4 p hp
    obtain ⟨x, _, hx⟩ := atI_some (xs := ws.map PyData.str) (i := p) (by omega) (by rw [List.length_map]; omega)
    exact ⟨x, hx⟩
  have hsm := let_sm (t := t) (rest := rest) ht hw h5 (fun p hp => by have := h4 p hp; omega)
  by_cases hne : rest = []
  · subst hne
    refine ⟨_, rfl, iteN (by intro z; cases z) ?_⟩
    unfold chEnd at h2
    rw [if_pos rfl] at h2
    walk_at "so"
    refine ⟨a, m, t, _, _, _, [], rfl, h2, by decide, (fun p hp => by cases hp), ?_⟩
    walk_at "so"
    refine ⟨a, m, t, _, _, _, [], rfl, h2, ⟨hm.1, by omega⟩, by decide, ?_⟩
    walk_at "so"
    rw [List.length_map]
    have S1 := ints_shaped ((rgI 1 (m - 1).toNat).filter fun p => !decide (p ∈ ([] : List Int)))
    have e0 : ((rgI 1 (m - 1).toNat).filter fun p => !decide (p ∈ ([] : List Int))) = rgI 1 (m - 1).toNat := List.filter_eq_self.mpr fun y _ => by simp
    rw [hl]
    rw [e0] at S1 ⊢
    dsimp only
    refine ⟨by omega, by omega, S1, S1, ?_⟩
    rw [if_neg (by decide), SeqAt.eqv_refl _ (SeqAt.canLay_of_shaped S1)]
    exact hR b' (by omega) (by rw [h2]; unfold chEnd; rw [if_pos rfl])
  · refine ⟨_, rfl, iteP (by rw [if_pos rfl]; cases rest with
      | nil => exact absurd rfl hne
      | cons x xs => rfl) ?_⟩
    have h2' : b'.o a = some (.ins "Chief" (chF m t ph w (ws.map .str) (rest.map .int))) := by
      rw [h2]; unfold chEnd; rw [if_neg hne]
    walk_at "so"
    refine ⟨s, _, rfl, h1, ?_⟩
    refine lc_map (letOf t (ws.map .str)) (by rw [List.length_map]; omega) (fun x hx K1 K0 k1 => ?_) ?_
    · obtain ⟨p, hp, rfl⟩ := List.mem_map.mp hx
      obtain ⟨v, hv⟩ := hch p hp
      walk_at "so"
      refine ⟨_, _, _, .inr rfl, rfl, hv, ?_⟩
      walk_at "so"
      have e : letOf t (ws.map .str) (.int p) = .tuple [.str "tell", .int p, .int t, v] := by
        show PyData.tuple [.str "tell", .int p, .int t, (atI (ws.map PyData.str) p).getD .none] = _
        rw [hv]; rfl
      rw [e] at k1
      exact k1
    rw [Sb.del_put h1, List.map_map]
    refine ⟨_, .inl rfl, ?_⟩
    rw [show PyData.tuple (List.map (letOf t (ws.map .str) ∘ PyData.int) rest) = lettersD t (ws.map .str) rest from rfl]
    walk_at "so"
    refine ⟨a, m, t, _, _, _, rest, rfl, h2', by omega, hch, ?_⟩
    refine ⟨hsm, ?_⟩
    walk_at "so"
    walk_at "so"
    refine iteN (by simp [lettersD]) ?_
    walk_at "so"
    refine ⟨a, m, t, _, _, _, rest, rfl, h2', by omega, hch, ?_⟩
    refine ⟨hsm, ?_⟩
    walk_at "so"
    refine iteN (by simp [lettersD]) ?_
    walk_at "so"
    refine ⟨s, _, rfl, h1, ?_⟩
    walk_at "so"
    have hpos : 0 < rest.length := List.length_pos_iff.mpr hne
    rw [List.length_map]
    refine ⟨⟨by omega, by omega, by omega⟩, fun d d0 d1 => ?_⟩
    have hd : d.toNat < rest.length := by omega
    have hg : rest[d.toNat]? = some rest[d.toNat] := List.getElem?_eq_getElem hd
    generalize rest[d.toNat] = p at hg
    refine ⟨rest.map .int, d.toNat, .int p, by rw [Int.toNat_of_nonneg d0], h1, by rw [List.getElem?_map, hg]; rfl, by omega, ?_⟩
    have hpm : p ∈ rest := List.mem_of_getElem? hg
    have h2p : (((b'.to (b'.n + 1)).put s (.lst ((rest.map PyData.int).eraseIdx d.toNat)))).o a = some (.ins "Chief" (chF m t ph w (ws.map .str) (rest.map .int))) := by rw [Sb.put_ne das]; exact h2'
    walk_at "so"
    refine ⟨a, m, t, _, _, _, rest, _, p, t, rfl, h2p, by omega, fun q => (q.elim (fun q => absurd rfl q) fun q => absurd hpm q), fun _ _ => ?_⟩
    have hms := filt_erase h3 hg
    obtain ⟨ms, ems⟩ : ∃ ms, ms = rest.filter (fun q => decide (q ≠ p)) := ⟨_, rfl⟩
    have hpn : p ∉ ms := by rw [ems]; simp
    have hsub : ∀ q ∈ ms, q ∈ rest := fun q hq => by rw [ems] at hq; exact (List.mem_filter.mp hq).1
    have hml : ms.length + 1 = rest.length := by rw [ems, hms, List.length_eraseIdx_of_lt hd]; omega
    have hmn : ms.Nodup := by rw [ems]; exact h3.filter _
    obtain ⟨ph', w', e9⟩ : ∃ ph' w', chEnd m t ph w (ws.map .str) ms = chF m t ph' w' (ws.map .str) (ms.map .int) := by
      unfold chEnd
      split
      · next q => subst q; exact ⟨_, _, rfl⟩
      · exact ⟨_, _, rfl⟩
    have e8 : (rest.map PyData.int).eraseIdx d.toNat = ms.map .int := by rw [ems, hms, map_erase]
    rw [e8, ← ems]
    have h2q : ((((b'.to (b'.n + 1)).put s (.lst (ms.map PyData.int)))).put a (.ins "Chief" (chEnd m t ph w (ws.map .str) ms))).o a = some (.ins "Chief" (chF m t ph' w' (ws.map .str) (ms.map .int))) := by rw [Sb.put_same, e9]
    walk_at "so"
    refine ⟨a, _, rfl, h2q, rfl, ?_⟩
    walk_at "so"
    refine ⟨a, m, t, ph', w', _, ms, _, p, t, rfl, h2q, by omega, fun _ => ?_, fun _ q => absurd q hpn⟩
    walk_at "so"
    refine iteN (by decide) ?_
    refine ⟨ms.length, by omega, ms, _, _, rfl, rfl, ?_, Sb.put_same, hmn, fun q hq => h4 q (hsub q hq), by omega, by show b'.n + 1 + _ ≤ _; omega⟩
    rw [Sb.put_ne das.symm]; exact Sb.put_same
theorem ne_shaped {d : PyData} (h : SeqAt.shaped d = true) : (if true = true then !PyData.eqv d d else PyData.eqv d d) = false := by rw [SeqAt.eqv_refl d (SeqAt.canLay_of_shaped h)]; rfl
theorem eq_shaped {d : PyData} (h : SeqAt.shaped d = true) : (if false = true then !PyData.eqv d d else PyData.eqv d d) = true := by rw [SeqAt.eqv_refl d (SeqAt.canLay_of_shaped h)]; rfl
theorem rep_map {n : Nat} {x : Str} : List.replicate n (PyData.str x) = (List.replicate n x).map .str := by rw [List.map_replicate]
theorem chEnd_dealt {m t : Int} {w : Str} {told : List D} : chEnd m t "dealt" w told [] = chF m t "dealt" w told [] := by
  unfold chEnd
  rw [if_pos rfl, if_neg (by decide), if_neg (by decide), if_neg (by decide)]
theorem chEnd_asking {m t : Int} {w : Str} {told : List D} : chEnd m t "asking" w told [] = chF m t "held" "hold" told [] := by
  unfold chEnd
  rw [if_pos rfl, if_pos rfl, if_pos rfl]
theorem chEnd_clearing {m t : Int} {w : Str} {told : List D} : chEnd m t "clearing" w told [] = chF m t "clear" w told [] := by
  unfold chEnd
  rw [if_pos rfl, if_neg (by decide), if_pos rfl, if_neg (by decide)]
theorem w4_shaped : ∀ {w : Str}, w ∈ w4c → SeqAt.shaped (.str w) = true := fun {w} h => by
  have e : ∀ w ∈ w4c, PyData.canLay0 (.str w) = true := by decide +kernel
  have h := e w h
  simp only [PyData.canLay0] at h
  simp [SeqAt.shaped, PyData.canLay0, PyData.depth, h]
theorem strs_lay : ∀ (ws : List Str), (∀ w ∈ ws, w ∈ w4c) → PyData.canLayAll0 (ws.map .str) = true
  | [], _ => rfl
  | w :: ws, h => by
    have e : ∀ w ∈ w4c, PyData.canLay0 (.str w) = true := by decide +kernel
    rw [List.map_cons]
    show (PyData.canLay0 (.str w) && PyData.canLayAll0 (ws.map .str)) = true
    rw [e w (h w List.mem_cons_self), strs_lay ws fun v hv => h v (List.mem_cons_of_mem _ hv)]; rfl
theorem depth_strs : ∀ (ws : List Str), PyData.depthAll (ws.map .str) = 0
  | [] => rfl
  | w :: ws => by simp [PyData.depthAll, PyData.depth, depth_strs ws]
theorem strs_shaped {ws : List Str} (h : ∀ w ∈ ws, w ∈ w4c) : SeqAt.shaped (.tuple (ws.map .str)) = true := by
  simp [SeqAt.shaped, PyData.canLay0, strs_lay ws h, PyData.depth, depth_strs]
def F_lrnd : List D → Sb → KE → Prop := fun ds b R => ∃ (a : Addr) (m t : Int) (ph w : Str) (told : List D), ds = [oD a, .int m] ∧ b.o a = some (.ins "Chief" (chF m t ph w told [])) ∧ (2 ≤ m ∧ m ≤ 4) ∧ b.n ≤ 1000 ∧ (0 ≤ t ∧ t ≤ 50) ∧ (ph = "clear" ∨ ph = "held") ∧
  ∀ b' t' told', b'.n ≤ b.n + 40 → (t + 4 ≤ t' ∧ t' ≤ t + 5) → b'.o a = some (.ins "Chief" (chF m t' "clear" "free" told' [])) → R (.bool true) b'
theorem d_law_round_right (T : Txt K mg) : Dn P w K mg base 4 "_law_round_right" ["_law_urn_here", "_law_chief", "_law_many"] (spU mg F_lrnd) := by
  have D_law_words := d_law_words (P := P) (w := w) (base := base) T
  have D_law_agree_right := d_law_agree_right (P := P) (w := w) (base := base) T
  have D_law_draw := du_law_draw (P := P) (w := w) (base := base) T
  have D_Chief_clear := d_Chief_clear (P := P) (w := w) (base := base) T
  have D_Chief_deal := d_Chief_deal (P := P) (w := w) (base := base) T
  have D_Chief_ask := d_Chief_ask (P := P) (w := w) (base := base) T
  have D_Chief_word := d_Chief_word (P := P) (w := w) (base := base) T
  have D_Chief_phase := d_Chief_phase (P := P) (w := w) (base := base) T
  refine dnU T.f_law_round_right sc_law_round_right [] (fun _ _ _ _ _ _ us hl => match us, hl with | [_, _, _], _ => rfl) (fun _ _ _ _ _ _ _ fm => (jss_cons (js_par2 fm 3 4 (fun _ => sc_law_round_right.nd) (ja_cons (je_callU fm 0 (fun _ => D_law_words) (ja_cons (je_var 2) ja_nil)) (ja_cons (je_callU fm 0 (fun _ => D_law_words) (ja_cons (je_var 2) ja_nil)) ja_nil)))
    (jss_cons (js_for fm (fun _ => PassesOwn.never) (ji_lst fm (JF.e (jf_lst (ja_cons (je_var 3) (ja_cons (je_var 4) ja_nil))))) (jg_name 5 (fun _ => sc_law_round_right.nd)) (jss_cons (js_expr (je_meth fm T.k_Chief (fun _ => D_Chief_deal) (je_var 1) (ja_cons (je_var 5) ja_nil)))
    (jss_cons (js_if (JW.t (jw_or (JC.t (jc_ne fm (JE.v (je_meth0 fm T.k_Chief (fun _ => D_Chief_word) (je_var 1))) (JE.v (je_ix fm (JE.v (je_var 5)) je_int (fun _ _ => rfl))) (nomark _))) (jw_or (jt_not (jt_tru fm (JE.v (je_callU fm 0 (fun _ => D_law_agree_right) (ja_cons (je_var 1) (ja_cons (je_var 5) ja_nil)))))) (jw_or1 (JC.t (jc_neS (je_meth0 fm T.k_Chief (fun _ => D_Chief_phase) (je_var 1)) je_str (nomark _))))))) (jss_one (js_ret (JE.v je_bl))) jss_nil)
    (jss_one (js_if (JW.t (jw_or (JC.t (jc_eq fm (JE.v (je_var 5)) (JE.v (je_var 3)) (nomark _))) (jw_or1 (JC.t (jc_eq fm (JE.v (je_callUN fm 0 (fun _ => D_law_draw) (ja_cons je_int ja_nil))) (JE.v je_int) (nomark _)))))) (jss_cons (js_expr (je_meth0 fm T.k_Chief (fun _ => D_Chief_ask) (je_var 1)))
    (jss_cons (js_if (JW.t (jw_or (JC.t (jc_ne fm (JE.v (je_meth0 fm T.k_Chief (fun _ => D_Chief_word) (je_var 1))) (JE.v (je_ix fm (JE.v (je_var 5)) je_int (fun _ _ => rfl))) (nomark _))) (jw_or1 (jt_not (jt_tru fm (JE.v (je_callU fm 0 (fun _ => D_law_agree_right) (ja_cons (je_var 1) (ja_cons (je_rep fm (je_tup (ja_cons je_str ja_nil)) (je_var 2)) ja_nil))))))))) (jss_one (js_ret (JE.v je_bl))) jss_nil)
    (jss_one (js_if (JC.t (jc_ne fm (JE.v (je_tup (ja_cons (je_meth0 fm T.k_Chief (fun _ => D_Chief_phase) (je_var 1)) (ja_cons (je_meth0 fm T.k_Chief (fun _ => D_Chief_word) (je_var 1)) ja_nil)))) (JE.v (je_tup (ja_cons je_str (ja_cons je_str ja_nil)))) (nomark _))) (jss_one (js_ret (JE.v je_bl))) jss_nil)))) jss_nil)))))
    (jss_cons (js_expr (je_meth0 fm T.k_Chief (fun _ => D_Chief_clear) (je_var 1)))
    (jss_cons (js_if (JW.t (jw_or (JC.t (jc_neS (je_meth0 fm T.k_Chief (fun _ => D_Chief_word) (je_var 1)) je_str (nomark _))) (jw_or1 (jt_not (jt_tru fm (JE.v (je_callU fm 0 (fun _ => D_law_agree_right) (ja_cons (je_var 1) (ja_cons (je_rep fm (je_tup (ja_cons je_str ja_nil)) (je_var 2)) ja_nil))))))))) (jss_one (js_ret (JE.v je_bl))) jss_nil)
    (jss_one (js_ret (JE.v (JC.e (jc_eq fm (JE.v (je_tup (ja_cons (je_meth0 fm T.k_Chief (fun _ => D_Chief_phase) (je_var 1)) (ja_cons (je_meth0 fm T.k_Chief (fun _ => D_Chief_word) (je_var 1)) ja_nil)))) (JE.v (je_tup (ja_cons je_str (ja_cons je_str ja_nil)))) (nomark _))))))))))) (fun ds b R h => ?_)
  obtain ⟨a, m, t, ph, w, told, rfl, hb, hm, hn, ht, hph, hR⟩ := h
  refine ⟨rfl, ?_⟩
  walk_at "so"
  intro ws1 b1 l1 hw1 n1 o1
  walk_at "so"
  intro ws2 b2 l2 hw2 n2 o2
  walk_at "so"
  have hb2 : b2.o a = some (.ins "Chief" (chF m t ph w told [])) := by rw [o2, o1]; exact hb
  have hrows : ∀ (j : Nat) (x : D), [PyData.tuple (ws1.map .str), .tuple (ws2.map .str)][j]? = some x → ∃ ws : List Str, x = .tuple (ws.map .str) ∧ (ws.length : Int) = m ∧ (∀ v ∈ ws, v ∈ (["climb", "hold", "sink"] : List Str)) ∧ (j = 0 → ws = ws1) ∧ j < 2 := by
    intro j x h
    match j, h with
    | 0, h => cases h; exact ⟨ws1, rfl, l1, hw1, fun _ => rfl, by decide⟩
    | 1, h => cases h; exact ⟨ws2, rfl, l2, hw2, (fun z => absurd z (by decide)), by decide⟩
    | j + 2, h => cases h
  have w34 : ∀ v ∈ (["climb", "hold", "sink"] : List Str), v ∈ w4c := by decide
  refine for_of (fun k ρ b' => ∃ (ph w : Str) (told : List D) (t' : Int) (v5 : Option D), ρ = [some .none, some (oD a), some (.int m), some (.tuple (ws1.map .str)), some (.tuple (ws2.map .str)), v5] ∧ b'.o a = some (.ins "Chief" (chF m t' ph w told [])) ∧ b'.n ≤ b.n + 8 + 10 * k ∧ (k ≤ 1 → (ph = "clear" ∨ ph = "held") ∧ t' = t + 2 * k) ∧ (k = 2 → (ph = "held" ∨ ph = "dealt") ∧ t + 3 ≤ t' ∧ t' ≤ t + 4)) ⟨ph, w, told, t, _, rfl, hb2, by omega, fun _ => ⟨hph, by omega⟩, fun z => by cases z⟩ ?_ ?_
  · rintro k x ρ b' hx ⟨ph, w, told, t', v5, rfl, h1, h2, h3, _⟩
    obtain ⟨ws, rfl, hl, hw, hz, hk⟩ := hrows k x hx
    obtain ⟨hph, rfl⟩ := h3 (by omega)
    obtain ⟨w0, hw0⟩ : ∃ w0, ws[0]? = some w0 := ⟨ws[0]'(by omega), List.getElem?_eq_getElem (by omega)⟩
    walk_at "so"
    refine ⟨a, m, _, ph, w, told, [], ws, w0, rfl, h1, ⟨hm.1, by omega⟩, hl, hw, hph, hw0, ?_⟩
    have S0 := w4_shaped (w34 w0 (hw w0 (List.mem_of_getElem? hw0)))
    have e0 : atI (ws.map PyData.str) 0 = some (.str w0) := by
      cases ws with
      | nil => cases hw0
      | cons v vs => cases hw0; simp [atI, ixN]
    walk_at "so"
    refine ⟨a, _, _, _, _, _, _, rfl, Sb.put_same, ?_⟩
    walk_at "so"
    refine ⟨_, _, _, .inr rfl, rfl, e0, ?_⟩
    walk_at "so"
    refine iteN (fun z => by rw [ne_shaped S0] at z; cases z) ?_
    walk_at "so"
    refine ⟨a, m, _, _, w0, ws, rfl, Sb.put_same, hm, hl, by show b'.n + 4 ≤ _; omega, ⟨by omega, by omega⟩, fun v hv => w34 v (hw v hv), fun b3 n3 o3 => ?_⟩
    rw [chEnd_dealt] at o3
    have n3 : b3.n ≤ b.n + 8 + 10 * k + 4 := by have n3' : b3.n ≤ b'.n + 4 := n3; omega
    walk_at "so"
    refine ⟨a, _, _, _, _, _, _, rfl, o3, ?_⟩
    have T1 := strs_shaped (ws := ws) fun v hv => w34 v (hw v hv)
    have T2 := strs_shaped (ws := ws1) fun v hv => w34 v (hw1 v hv)
    have HS : SeqAt.shaped (.tuple [.str "held", .str "hold"]) = true := by decide +kernel
    walk_at "so"
    cases hq : PyData.eqv (.tuple (ws.map .str)) (.tuple (ws1.map .str)) with
    | true =>
      refine iteP (by rw [if_neg (by decide)]) ?_
      walk_at "so"
      refine ⟨a, m, _, w0, _, rfl, o3, ⟨hm.1, by omega⟩, ?_⟩
      walk_at "so"
      refine ⟨a, _, _, _, _, _, _, rfl, Sb.put_same, ?_⟩
      walk_at "so"
      refine ⟨_, _, _, .inr rfl, rfl, e0, ?_⟩
      walk_at "so"
      refine iteN (fun z => by rw [ne_shaped S0] at z; cases z) ?_
      walk_at "so"
      rw [flat_rep, rep_map]
      refine ⟨a, m, _, "asking", w0, List.replicate m.toNat "hold", rfl, Sb.put_same, hm, by rw [List.length_replicate]; omega, by show b3.n + 4 ≤ _; omega, ⟨by omega, by omega⟩, (fun v hv => by rw [(List.mem_replicate.mp hv).2]; decide), fun b4 n4 o4 => ?_⟩
      rw [chEnd_asking] at o4
      have n4' : b4.n ≤ b3.n + 4 := n4
      walk_at "so"
      refine ⟨a, _, _, _, _, _, _, rfl, o4, ?_⟩
      walk_at "so"
      refine ⟨a, _, _, _, _, _, _, rfl, o4, ?_⟩
      walk_at "so"
      refine iteN (fun z => by rw [ne_shaped HS] at z; cases z) ?_
      exact ⟨_, _, _, _, _, rfl, o4, by omega, fun z => ⟨.inr rfl, by omega⟩, fun z => ⟨.inl rfl, by omega, by omega⟩⟩
    | false =>
      refine iteN (by rw [if_neg (by decide)]; decide) ?_
      have hk1 : k = 1 := by
        rcases Nat.lt_or_ge k 1 with q | q
        · have : k = 0 := by omega
          rw [hz this, SeqAt.eqv_refl _ (SeqAt.canLay_of_shaped T2)] at hq
          cases hq
        · omega
      walk_at "so"
      intro d d0 d1
      walk_at "so"
      by_cases hd : d = 0
      · subst hd
        refine iteP (by decide +kernel) ?_
        walk_at "so"
        refine ⟨a, m, _, w0, _, rfl, o3, ⟨hm.1, by omega⟩, ?_⟩
        walk_at "so"
        refine ⟨a, _, _, _, _, _, _, rfl, Sb.put_same, ?_⟩
        walk_at "so"
        refine ⟨_, _, _, .inr rfl, rfl, e0, ?_⟩
        walk_at "so"
        refine iteN (fun z => by rw [ne_shaped S0] at z; cases z) ?_
        walk_at "so"
        rw [flat_rep, rep_map]
        refine ⟨a, m, _, "asking", w0, List.replicate m.toNat "hold", rfl, Sb.put_same, hm, by rw [List.length_replicate]; omega, by show (b3.n + 1) + 4 ≤ _; omega, ⟨by omega, by omega⟩, (fun v hv => by rw [(List.mem_replicate.mp hv).2]; decide), fun b4 n4 o4 => ?_⟩
        rw [chEnd_asking] at o4
        have n4' : b4.n ≤ (b3.n + 1) + 4 := n4
        walk_at "so"
        refine ⟨a, _, _, _, _, _, _, rfl, o4, ?_⟩
        walk_at "so"
        refine ⟨a, _, _, _, _, _, _, rfl, o4, ?_⟩
        walk_at "so"
        refine iteN (fun z => by rw [ne_shaped HS] at z; cases z) ?_
        exact ⟨_, _, _, _, _, rfl, o4, by omega, fun z => ⟨.inr rfl, by omega⟩, fun z => ⟨.inl rfl, by omega, by omega⟩⟩
      · refine iteN (fun z => ?_) ?_
        · rw [if_neg (by decide), eqv_int] at z
          exact hd (of_decide_eq_true z)
        exact ⟨_, _, _, _, _, rfl, o3, by show b3.n + 1 ≤ _; omega, fun z => absurd z (by omega), fun z => ⟨.inr rfl, by omega, by omega⟩⟩
  · rintro ρ b' ⟨ph, w, told, t', v5, rfl, h1, h2, _, h3⟩
    obtain ⟨hph, ht'⟩ := h3 rfl
    have h2 : b'.n ≤ b.n + 8 + 10 * 2 := h2
    have HS : SeqAt.shaped (.tuple [.str "clear", .str "free"]) = true := by decide +kernel
    walk_at "so"
    refine ⟨a, m, _, _, _, _, _, rfl, h1, ⟨hm.1, by omega⟩, hph.imp id (fun q => ⟨q, rfl⟩), ?_⟩
    walk_at "so"
    refine ⟨a, _, _, _, _, _, _, rfl, Sb.put_same, ?_⟩
    walk_at "so"
    rw [flat_rep, rep_map]
    refine ⟨a, m, _, "clearing", "free", List.replicate m.toNat "free", rfl, Sb.put_same, hm, by rw [List.length_replicate]; omega, by show b'.n + 4 ≤ _; omega, ⟨by omega, by omega⟩, (fun v hv => by rw [(List.mem_replicate.mp hv).2]; decide), fun b4 n4 o4 => ?_⟩
    rw [chEnd_clearing] at o4
    have n4' : b4.n ≤ b'.n + 4 := n4
    walk_at "so"
    refine ⟨a, _, _, _, _, _, _, rfl, o4, ?_⟩
    walk_at "so"
    refine ⟨a, _, _, _, _, _, _, rfl, o4, ?_⟩
    walk_at "so"
    rw [eq_shaped HS]
    exact hR b4 _ _ (by have h2' : b'.n ≤ b.n + 8 + 10 * 2 := h2; omega) ⟨by omega, by omega⟩ o4
end
end L2.PO
namespace L2.PO
open PySem PySem.Spec PyProof.Rows L2 L2.PU My
local macro_rules | `(tactic| walk_at "dr") => `(tactic| (simp only [L2.PO.Sb.n_to, L2.PO.Sb.n_put]; omega))
local macro_rules | `(tactic| walk_at "so") => `(tactic| repeat ((fail_if_success (with_reducible show LcG _ _ _ _ _ _ _ _)); first | refine ⟨_, rfl, ?_⟩ | refine ⟨_, _, rfl, rfl, ?_⟩ | refine ⟨_, .inl rfl, ?_⟩ | refine ⟨_, .inr rfl, ?_⟩ | refine ⟨_, _, _, .inl rfl, rfl, rfl, ?_⟩ | refine ⟨_, _, _, .inr rfl, rfl, rfl, ?_⟩ | refine ⟨Nat.le_of_ble_eq_true rfl, ?_⟩ | refine And.intro (And.intro (by first | omega | walk_at "dr") (And.intro (by decide) (by decide))) ?_ | refine And.intro (by first | decide | omega) ?_ | refine ⟨rfl, ?_⟩ | refine ⟨_, _, rfl, ?_⟩ | refine ⟨_, _, _, rfl, by first | exact Sb.put_same | assumption, rfl, ?_⟩ | refine ⟨_, _, rfl, by first | exact Sb.put_same | assumption, Nat.le_of_ble_eq_true rfl, ?_⟩ | refine ⟨_, _, rfl, by first | exact Sb.put_same | assumption, rfl, ?_⟩ | refine ⟨_, _, _, _, rfl, by first | exact Sb.put_same | assumption, rfl, rfl, ?_⟩))
local macro_rules | `(tactic| walk_at "sj") => `(tactic| ((repeat ((fail_if_success (with_reducible refine L2.PO.sJ ?_)); (fail_if_success (with_reducible show L2.PO.LcG _ _ _ _ _ _ _ _)); first | with_reducible refine L2.PO.qN ?_ | refine ⟨_, rfl, ?_⟩ | refine ⟨_, _, rfl, rfl, ?_⟩ | refine ⟨_, .inl rfl, ?_⟩ | refine ⟨_, .inr rfl, ?_⟩ | refine ⟨_, _, _, .inl rfl, rfl, rfl, ?_⟩ | refine ⟨_, _, _, .inr rfl, rfl, rfl, ?_⟩ | refine ⟨Nat.le_of_ble_eq_true rfl, ?_⟩ | refine And.intro (And.intro (by first | omega | walk_at "dr") (And.intro (by decide) (by decide))) ?_ | refine And.intro (by first | decide | omega) ?_ | refine ⟨rfl, ?_⟩ | refine ⟨_, _, rfl, ?_⟩ | refine ⟨_, _, _, rfl, by first | exact L2.PO.Sb.put_same | assumption, rfl, ?_⟩ | refine ⟨_, _, rfl, by first | exact L2.PO.Sb.put_same | assumption, Nat.le_of_ble_eq_true rfl, ?_⟩ | refine ⟨_, _, rfl, by first | exact L2.PO.Sb.put_same | assumption, rfl, ?_⟩ | refine ⟨_, _, _, _, rfl, by first | exact L2.PO.Sb.put_same | assumption, rfl, rfl, ?_⟩)); with_reducible refine L2.PO.sJ ?_))
section
variable {P : Program} {w : World} {K : PySem.W.Frag} {mg : Str → Option Value} {base : Heap}
theorem i_Chief_init (T : Txt K mg) : Di P w K mg base 1 "Chief" ["self", "many"] (spS mg F_chInit) := (d_Chief_init T).init T.mk_Chief T.kp_Chief
theorem d_law (T : Txt K mg) : Dn P w K mg base 30 "law" ["_law_script"] (spLawO K) := by
  have D_law_urn := du_law_urn (P := P) (w := w) (base := base) T
  have D_law_draw := du_law_draw (P := P) (w := w) (base := base) T
  have D_law_round_right := d_law_round_right (P := P) (w := w) (base := base) T
  have D_Chief_init := i_Chief_init (P := P) (w := w) (base := base) T
  have D_Chief_turn := d_Chief_turn (P := P) (w := w) (base := base) T
  have D_Chief_letters := d_Chief_letters (P := P) (w := w) (base := base) T
  refine dnL T.f_law sc_law 2 [] (fun _ _ _ _ _ _ us hl => match us, hl with | [_], _ => rfl) (fun _ _ _ _ _ _ _ fm => (jss_cons (js_for fm (fun _ => PassesOwn.never) (ji_rng1 (fun _ => T.b_range) (je_max2 fm (fun _ => T.b_max) je_int (je_min2 fm (fun _ => T.b_min) je_int (je_lenS fm 0 (fun _ => T.b_len))))) (jg_name 1 (fun _ => sc_law.nd)) (jss_cons (js_urn fm 2 0 (fun _ => sc_law.nd) (fun _ => D_law_urn) (je_var 1))
    (jss_cons (js_set 3 (fun _ => sc_law.nd) (je_op0 (fun _ => op_add) (fun _ _ _ _ => .int _) je_int (je_callUN fm 2 (fun _ => D_law_draw) (ja_cons je_int ja_nil))))
    (jss_cons (js_set 4 (fun _ => sc_law.nd) (je_make fm T.k_Chief (fun _ => D_Chief_init) (ja_cons (je_var 3) ja_nil)))
    (jss_cons (js_if (JW.t (jw_or (JC.t (jc_ne fm (JE.v (je_meth0 fm T.k_Chief (fun _ => D_Chief_letters) (je_var 4))) (JE.v (je_tup ja_nil)) (nomark _))) (jw_or1 (JC.t (jc_ne fm (JE.v (je_meth0 fm T.k_Chief (fun _ => D_Chief_turn) (je_var 4))) (JE.v je_int) (nomark _)))))) (jss_one (js_ret (JE.v je_bl))) jss_nil)
    (jss_one (js_for fm (fun _ => PassesOwn.never) (ji_rng1 (fun _ => T.b_range) je_int) (jg_name 5 (fun _ => sc_law.nd)) (jss_cons (js_set 6 (fun _ => sc_law.nd) (je_meth0 fm T.k_Chief (fun _ => D_Chief_turn) (je_var 4)))
    (jss_one (js_if (JW.t (jw_or (jt_not (jt_tru fm (JE.v (je_callU fm 2 (fun _ => D_law_round_right) (ja_cons (je_var 4) (ja_cons (je_var 3) ja_nil)))))) (jw_or1 (jt_not (JC.t (jc_chain (fun _ => op_le) (fun _ => op_le) je_int (je_op0 (fun _ => op_sub) (fun _ _ _ _ => .int _) (je_meth0 fm T.k_Chief (fun _ => D_Chief_turn) (je_var 4)) (je_var 6)) je_int)))))) (jss_one (js_ret (JE.v je_bl))) jss_nil))))))))))
    (jss_one (js_ret (JE.v je_bl))))) ?_
  intro n hn
  have t1 : 1 ≤ imax 1 (imin 3 (n : Int)) ∧ imax 1 (imin 3 (n : Int)) ≤ 3 := by unfold imax imin; (repeat split) <;> omega
  refine ⟨_, _, rfl, rfl, _, _, rfl, rfl, _, rfl, by omega, by omega, ?_⟩
  refine for_of (fun i ρ b => ∃ v1 v2 v3 v4 v5 v6 : Option D, ρ = [none, v1, v2, v3, v4, v5, v6]) ⟨_, _, _, _, _, _, rfl⟩ ?_ ?_
  · rintro i x ρ b hx ⟨v1, v2, v3, v4, v5, v6, rfl⟩
    obtain ⟨rfl, hi⟩ := rg_at hx
    clear hx
    refine ⟨_, rfl, _, rfl, by omega, by omega, ?_⟩
    dsimp only
    walk_at "so"
    intro d1 d10 d11
    walk_at "so"
    intro a ha
    refine ⟨a, _, rfl, Sb.put_same, ⟨by omega, by omega⟩, rfl, ?_⟩
    walk_at "so"
    refine ⟨a, 2 + d1, 0, "clear", "free", _, [], rfl, Sb.put_same, by decide, (fun p hp => by cases hp), ?_⟩
    walk_at "so"
    refine ⟨a, _, _, _, _, _, _, rfl, Sb.put_same, ?_⟩
    walk_at "so"
    refine for_of (fun k ρ b' => ∃ (t : Int) (told : List D) (v5 v6 : Option D), ρ = [none, some (.int (0 + (i : Int))), some .none, some (.int (2 + d1)), some (oD a), v5, v6] ∧ b'.n ≤ 1 + 40 * k ∧ (0 ≤ t ∧ t ≤ 5 * k) ∧ b'.o a = some (.ins "Chief" (chF (2 + d1) t "clear" "free" told []))) ⟨_, _, _, _, rfl, by walk_at "dr", ⟨by decide, by decide⟩, Sb.put_same⟩ ?_ ?_
    · rintro k x ρ b' hx ⟨t, told, v5, v6, rfl, h1, h2, h3⟩
      obtain ⟨rfl, hk⟩ := rg_at hx
      have hk : k < 3 := hk
      walk_at "so"
      refine ⟨a, _, _, _, _, _, _, rfl, h3, ?_⟩
      walk_at "so"
      refine ⟨a, 2 + d1, t, "clear", "free", told, rfl, h3, ⟨by omega, by omega⟩, by omega, ⟨by omega, by omega⟩, .inl rfl, fun b2 t' told' n2 ht h4 => ?_⟩
      walk_at "so"
      refine ⟨a, _, _, _, _, _, _, rfl, h4, ?_⟩
      walk_at "so"
      refine iteP (decide_eq_true (by omega)) ?_
      walk_at "so"
      refine iteN (fun z => ?_) ?_
      · have q : decide (t' - t ≤ 5) = true := decide_eq_true (by omega)
        revert z
        show ¬ ((!decide (t' - t ≤ 5)) = true)
        rw [q]; decide
      exact ⟨t', told', _, _, rfl, by omega, ⟨by omega, by omega⟩, h4⟩
    · rintro ρ b' ⟨t, told, v5, v6, rfl, h1, h2, h3⟩
      exact ⟨_, _, _, _, _, _, rfl⟩
  · rintro ρ b ⟨v1, v2, v3, v4, v5, v6, rfl⟩
    rfl
end
end L2.PO
namespace My
open PySem PySem.Spec PyProof.Rows L2 L2.PU
theorem all_mk {K : PySem.W.Frag} {h : Heap} {mg : Str → Option Value} {f0 f1 f2 f3 f4 f5 f6 f7 f8 f9 f10 f11 f12 f13 f14 f15 f16 f17 f18 f19 f20 f21 C0 : Addr} (X : K.In h) (G : h.Ns mainGlobals mg)
    {od0 an0 od1 an1 od2 an2 od3 an3 od4 an4 od5 an5 od6 an6 od7 an7 od8 an8 od9 an9 od10 an10 od11 an11 od12 an12 od13 an13 od14 an14 od15 an15 od16 an16 od17 an17 od18 an18 od19 an19 od20 an20 od21 an21 : Option Addr} {sl0 sl1 sl2 sl3 sl4 sl5 sl6 sl7 sl8 sl9 sl10 sl11 sl12 sl13 sl14 sl15 sl16 sl17 sl18 sl19 sl20 sl21 : Array (Option Value)} {oc0 dc0 pm0 cd0 ct0 kV0 oc1 dc1 pm1 cd1 ct1 kV1 oc2 dc2 pm2 cd2 ct2 kV2 oc3 dc3 pm3 cd3 ct3 kV3 oc4 dc4 pm4 cd4 ct4 kV4 oc5 dc5 pm5 cd5 ct5 kV5 oc6 dc6 pm6 cd6 ct6 kV6 oc7 dc7 pm7 cd7 ct7 kV7 oc8 dc8 pm8 cd8 ct8 kV8 oc9 dc9 pm9 cd9 ct9 kV9 oc10 dc10 pm10 cd10 ct10 kV10 oc11 dc11 pm11 cd11 ct11 kV11 oc12 dc12 pm12 cd12 ct12 kV12 oc13 dc13 pm13 cd13 ct13 kV13 oc14 dc14 pm14 cd14 ct14 kV14 oc15 dc15 pm15 cd15 ct15 kV15 oc16 dc16 pm16 cd16 ct16 kV16 oc17 dc17 pm17 cd17 ct17 kV17 oc18 dc18 pm18 cd18 ct18 kV18 oc19 dc19 pm19 cd19 ct19 kV19 oc20 dc20 pm20 cd20 ct20 kV20 oc21 dc21 pm21 cd21 ct21 kV21 : Value}
    (aC0 : PySem.W.nsIn K mainGlobals "Chief" = some (some (.ref C0))) (pg0 : PySem.W.plainGet K C0 Str.empty = true) (hd0 : PySem.W.hasDictIn K C0 = true) (po0 : PySem.W.plainOver K C0 = true) (sa0 : PySem.W.findIn K (.ref C0) "__setattr__" = some (some (.builtin "object.__setattr__"))) (mk0 : PySem.W.makesIn K C0 = true) (kc0 : PySem.W.keepIn K (.ref C0) = true)
    (na0 : PySem.W.findIn K (.ref C0) "at_phase" = some none)
    (na1 : PySem.W.findIn K (.ref C0) "at_turn" = some none)
    (na2 : PySem.W.findIn K (.ref C0) "many" = some none)
    (na3 : PySem.W.findIn K (.ref C0) "missing" = some none)
    (na4 : PySem.W.findIn K (.ref C0) "own_word" = some none)
    (na5 : PySem.W.findIn K (.ref C0) "told_words" = some none)
    (a0 : PySem.W.nsIn K mainGlobals "is_tuple_of" = some (some (.ref f0))) (l0 : K.lookup f0 = some ⟨oc0, od0, .func (PySem.W.fnOf "is_tuple_of" "is_tuple_of" (defArgs s_is_tuple_of) (defBody s_is_tuple_of) (defScope s_is_tuple_of) .none kV0 dc0 pm0 an0 cd0 ct0), sl0⟩) (c0 : PySem.W.codeIn K cd0 "is_tuple_of" = true) (k0 : PySem.W.keepIn K (.ref f0) = true)
    (a1 : PySem.W.nsIn K mainGlobals "own_copy" = some (some (.ref f1))) (l1 : K.lookup f1 = some ⟨oc1, od1, .func (PySem.W.fnOf "own_copy" "own_copy" (defArgs s_own_copy) (defBody s_own_copy) (defScope s_own_copy) .none kV1 dc1 pm1 an1 cd1 ct1), sl1⟩) (c1 : PySem.W.codeIn K cd1 "own_copy" = true) (k1 : PySem.W.keepIn K (.ref f1) = true)
    (a2 : PySem.W.nsIn K mainGlobals "are_words" = some (some (.ref f2))) (l2 : K.lookup f2 = some ⟨oc2, od2, .func (PySem.W.fnOf "are_words" "are_words" (defArgs s_are_words) (defBody s_are_words) (defScope s_are_words) .none kV2 dc2 pm2 an2 cd2 ct2), sl2⟩) (c2 : PySem.W.codeIn K cd2 "are_words" = true) (k2 : PySem.W.keepIn K (.ref f2) = true)
    (a3 : PySem.W.nsIn K mainGlobals "_law_urn" = some (some (.ref f3))) (l3 : K.lookup f3 = some ⟨oc3, od3, .func (PySem.W.fnOf "_law_urn" "_law_urn" (defArgs s_law_urn) (defBody s_law_urn) (defScope s_law_urn) .none kV3 dc3 pm3 an3 cd3 ct3), sl3⟩) (c3 : PySem.W.codeIn K cd3 "_law_urn" = true) (k3 : PySem.W.keepIn K (.ref f3) = true)
    (a4 : PySem.W.nsIn K mainGlobals "_law_draw" = some (some (.ref f4))) (l4 : K.lookup f4 = some ⟨oc4, od4, .func (PySem.W.fnOf "_law_draw" "_law_draw" (defArgs s_law_draw) (defBody s_law_draw) (defScope s_law_draw) .none kV4 dc4 pm4 an4 cd4 ct4), sl4⟩) (c4 : PySem.W.codeIn K cd4 "_law_draw" = true) (k4 : PySem.W.keepIn K (.ref f4) = true)
    (a5 : PySem.W.nsIn K mainGlobals "_law_words" = some (some (.ref f5))) (l5 : K.lookup f5 = some ⟨oc5, od5, .func (PySem.W.fnOf "_law_words" "_law_words" (defArgs s_law_words) (defBody s_law_words) (defScope s_law_words) .none kV5 dc5 pm5 an5 cd5 ct5), sl5⟩) (c5 : PySem.W.codeIn K cd5 "_law_words" = true) (k5 : PySem.W.keepIn K (.ref f5) = true)
    (a6 : PySem.W.nsIn K mainGlobals "_law_agree_right" = some (some (.ref f6))) (l6 : K.lookup f6 = some ⟨oc6, od6, .func (PySem.W.fnOf "_law_agree_right" "_law_agree_right" (defArgs s_law_agree_right) (defBody s_law_agree_right) (defScope s_law_agree_right) .none kV6 dc6 pm6 an6 cd6 ct6), sl6⟩) (c6 : PySem.W.codeIn K cd6 "_law_agree_right" = true) (k6 : PySem.W.keepIn K (.ref f6) = true)
    (a7 : PySem.W.nsIn K mainGlobals "_law_round_right" = some (some (.ref f7))) (l7 : K.lookup f7 = some ⟨oc7, od7, .func (PySem.W.fnOf "_law_round_right" "_law_round_right" (defArgs s_law_round_right) (defBody s_law_round_right) (defScope s_law_round_right) .none kV7 dc7 pm7 an7 cd7 ct7), sl7⟩) (c7 : PySem.W.codeIn K cd7 "_law_round_right" = true) (k7 : PySem.W.keepIn K (.ref f7) = true)
    (a8 : PySem.W.nsIn K mainGlobals "law" = some (some (.ref f8))) (l8 : K.lookup f8 = some ⟨oc8, od8, .func (PySem.W.fnOf "law" "law" (defArgs s_law) (defBody s_law) (defScope s_law) .none kV8 dc8 pm8 an8 cd8 ct8), sl8⟩) (c8 : PySem.W.codeIn K cd8 "law" = true) (k8 : PySem.W.keepIn K (.ref f8) = true)
    (a9 : PySem.W.findIn K (.ref C0) "__init__" = some (some (.ref f9))) (i9 : PySem.W.isFn K (.ref f9) = true) (l9 : K.lookup f9 = some ⟨oc9, od9, .func (PySem.W.fnOf "__init__" "Chief.__init__" (defArgs s_Chief_init) (defBody s_Chief_init) (defScope s_Chief_init) .none kV9 dc9 pm9 an9 cd9 ct9), sl9⟩) (c9 : PySem.W.codeIn K cd9 "Chief.__init__" = true) (k9 : PySem.W.keepIn K (.ref f9) = true)
    (a10 : PySem.W.findIn K (.ref C0) "turn" = some (some (.ref f10))) (i10 : PySem.W.isFn K (.ref f10) = true) (l10 : K.lookup f10 = some ⟨oc10, od10, .func (PySem.W.fnOf "turn" "Chief.turn" (defArgs s_Chief_turn) (defBody s_Chief_turn) (defScope s_Chief_turn) .none kV10 dc10 pm10 an10 cd10 ct10), sl10⟩) (c10 : PySem.W.codeIn K cd10 "Chief.turn" = true) (k10 : PySem.W.keepIn K (.ref f10) = true)
    (a11 : PySem.W.findIn K (.ref C0) "phase" = some (some (.ref f11))) (i11 : PySem.W.isFn K (.ref f11) = true) (l11 : K.lookup f11 = some ⟨oc11, od11, .func (PySem.W.fnOf "phase" "Chief.phase" (defArgs s_Chief_phase) (defBody s_Chief_phase) (defScope s_Chief_phase) .none kV11 dc11 pm11 an11 cd11 ct11), sl11⟩) (c11 : PySem.W.codeIn K cd11 "Chief.phase" = true) (k11 : PySem.W.keepIn K (.ref f11) = true)
    (a12 : PySem.W.findIn K (.ref C0) "word" = some (some (.ref f12))) (i12 : PySem.W.isFn K (.ref f12) = true) (l12 : K.lookup f12 = some ⟨oc12, od12, .func (PySem.W.fnOf "word" "Chief.word" (defArgs s_Chief_word) (defBody s_Chief_word) (defScope s_Chief_word) .none kV12 dc12 pm12 an12 cd12 ct12), sl12⟩) (c12 : PySem.W.codeIn K cd12 "Chief.word" = true) (k12 : PySem.W.keepIn K (.ref f12) = true)
    (a13 : PySem.W.findIn K (.ref C0) "agreed" = some (some (.ref f13))) (i13 : PySem.W.isFn K (.ref f13) = true) (l13 : K.lookup f13 = some ⟨oc13, od13, .func (PySem.W.fnOf "agreed" "Chief.agreed" (defArgs s_Chief_agreed) (defBody s_Chief_agreed) (defScope s_Chief_agreed) .none kV13 dc13 pm13 an13 cd13 ct13), sl13⟩) (c13 : PySem.W.codeIn K cd13 "Chief.agreed" = true) (k13 : PySem.W.keepIn K (.ref f13) = true)
    (a14 : PySem.W.findIn K (.ref C0) "begin_turn" = some (some (.ref f14))) (i14 : PySem.W.isFn K (.ref f14) = true) (l14 : K.lookup f14 = some ⟨oc14, od14, .func (PySem.W.fnOf "begin_turn" "Chief.begin_turn" (defArgs s_Chief_begin_turn) (defBody s_Chief_begin_turn) (defScope s_Chief_begin_turn) .none kV14 dc14 pm14 an14 cd14 ct14), sl14⟩) (c14 : PySem.W.codeIn K cd14 "Chief.begin_turn" = true) (k14 : PySem.W.keepIn K (.ref f14) = true)
    (a15 : PySem.W.findIn K (.ref C0) "deal" = some (some (.ref f15))) (i15 : PySem.W.isFn K (.ref f15) = true) (l15 : K.lookup f15 = some ⟨oc15, od15, .func (PySem.W.fnOf "deal" "Chief.deal" (defArgs s_Chief_deal) (defBody s_Chief_deal) (defScope s_Chief_deal) .none kV15 dc15 pm15 an15 cd15 ct15), sl15⟩) (c15 : PySem.W.codeIn K cd15 "Chief.deal" = true) (k15 : PySem.W.keepIn K (.ref f15) = true)
    (a16 : PySem.W.findIn K (.ref C0) "is_dealt_to_all" = some (some (.ref f16))) (i16 : PySem.W.isFn K (.ref f16) = true) (l16 : K.lookup f16 = some ⟨oc16, od16, .func (PySem.W.fnOf "is_dealt_to_all" "Chief.is_dealt_to_all" (defArgs s_Chief_is_dealt_to_all) (defBody s_Chief_is_dealt_to_all) (defScope s_Chief_is_dealt_to_all) .none kV16 dc16 pm16 an16 cd16 ct16), sl16⟩) (c16 : PySem.W.codeIn K cd16 "Chief.is_dealt_to_all" = true) (k16 : PySem.W.keepIn K (.ref f16) = true)
    (a17 : PySem.W.findIn K (.ref C0) "ask" = some (some (.ref f17))) (i17 : PySem.W.isFn K (.ref f17) = true) (l17 : K.lookup f17 = some ⟨oc17, od17, .func (PySem.W.fnOf "ask" "Chief.ask" (defArgs s_Chief_ask) (defBody s_Chief_ask) (defScope s_Chief_ask) .none kV17 dc17 pm17 an17 cd17 ct17), sl17⟩) (c17 : PySem.W.codeIn K cd17 "Chief.ask" = true) (k17 : PySem.W.keepIn K (.ref f17) = true)
    (a18 : PySem.W.findIn K (.ref C0) "clear" = some (some (.ref f18))) (i18 : PySem.W.isFn K (.ref f18) = true) (l18 : K.lookup f18 = some ⟨oc18, od18, .func (PySem.W.fnOf "clear" "Chief.clear" (defArgs s_Chief_clear) (defBody s_Chief_clear) (defScope s_Chief_clear) .none kV18 dc18 pm18 an18 cd18 ct18), sl18⟩) (c18 : PySem.W.codeIn K cd18 "Chief.clear" = true) (k18 : PySem.W.keepIn K (.ref f18) = true)
    (a19 : PySem.W.findIn K (.ref C0) "letters" = some (some (.ref f19))) (i19 : PySem.W.isFn K (.ref f19) = true) (l19 : K.lookup f19 = some ⟨oc19, od19, .func (PySem.W.fnOf "letters" "Chief.letters" (defArgs s_Chief_letters) (defBody s_Chief_letters) (defScope s_Chief_letters) .none kV19 dc19 pm19 an19 cd19 ct19), sl19⟩) (c19 : PySem.W.codeIn K cd19 "Chief.letters" = true) (k19 : PySem.W.keepIn K (.ref f19) = true)
    (a20 : PySem.W.findIn K (.ref C0) "hear" = some (some (.ref f20))) (i20 : PySem.W.isFn K (.ref f20) = true) (l20 : K.lookup f20 = some ⟨oc20, od20, .func (PySem.W.fnOf "hear" "Chief.hear" (defArgs s_Chief_hear) (defBody s_Chief_hear) (defScope s_Chief_hear) .none kV20 dc20 pm20 an20 cd20 ct20), sl20⟩) (c20 : PySem.W.codeIn K cd20 "Chief.hear" = true) (k20 : PySem.W.keepIn K (.ref f20) = true)
    (a21 : PySem.W.findIn K (.ref C0) "end_turn" = some (some (.ref f21))) (i21 : PySem.W.isFn K (.ref f21) = true) (l21 : K.lookup f21 = some ⟨oc21, od21, .func (PySem.W.fnOf "end_turn" "Chief.end_turn" (defArgs s_Chief_end_turn) (defBody s_Chief_end_turn) (defScope s_Chief_end_turn) .none kV21 dc21 pm21 an21 cd21 ct21), sl21⟩) (c21 : PySem.W.codeIn K cd21 "Chief.end_turn" = true) (k21 : PySem.W.keepIn K (.ref f21) = true)
    {ca0 : Addr} {cod0 : Option Addr} {csl0 : Array (Option Value)} {cn0 : Nat} {ct0_0 ct0_1 ct0_2 : Tok} (g0 : PySem.W.nsIn K mainGlobals "WORDS" = some (some (.ref ca0))) (gl0 : K.lookup ca0 = some ⟨.type "tuple", cod0, .seq #[.str "climb" ct0_0, .str "hold" ct0_1, .str "sink" ct0_2] cn0, csl0⟩)
    (z0 : PySem.W.nsIn K mainGlobals "abs" = some none)
    (z1 : PySem.W.nsIn K mainGlobals "all" = some none)
    (z2 : PySem.W.nsIn K mainGlobals "isinstance" = some none)
    (z3 : PySem.W.nsIn K mainGlobals "len" = some none)
    (z4 : PySem.W.nsIn K mainGlobals "list" = some none)
    (z5 : PySem.W.nsIn K mainGlobals "max" = some none)
    (z6 : PySem.W.nsIn K mainGlobals "min" = some none)
    (z7 : PySem.W.nsIn K mainGlobals "range" = some none)
    (z8 : PySem.W.nsIn K mainGlobals "repr" = some none)
    (z9 : PySem.W.nsIn K mainGlobals "tuple" = some none)
    : Txt K mg := by
  have eC0 : L2.PO.clA mg "Chief" = C0 := by unfold L2.PO.clA; rw [PySem.W.mg_of X G aC0]
  exact ⟨⟨⟨f0, _, fun_mk (st := s_is_tuple_of) l0 c0 k0, PySem.W.mg_of X G a0⟩⟩, ⟨⟨f1, _, fun_mk (st := s_own_copy) l1 c1 k1, PySem.W.mg_of X G a1⟩⟩, ⟨⟨f2, _, fun_mk (st := s_are_words) l2 c2 k2, PySem.W.mg_of X G a2⟩⟩, ⟨⟨f3, _, fun_mk (st := s_law_urn) l3 c3 k3, PySem.W.mg_of X G a3⟩⟩, ⟨⟨f4, _, fun_mk (st := s_law_draw) l4 c4 k4, PySem.W.mg_of X G a4⟩⟩, ⟨⟨f5, _, fun_mk (st := s_law_words) l5 c5 k5, PySem.W.mg_of X G a5⟩⟩, ⟨⟨f6, _, fun_mk (st := s_law_agree_right) l6 c6 k6, PySem.W.mg_of X G a6⟩⟩, ⟨⟨f7, _, fun_mk (st := s_law_round_right) l7 c7 k7, PySem.W.mg_of X G a7⟩⟩, ⟨⟨f8, _, fun_mk (st := s_law) l8 c8 k8, PySem.W.mg_of X G a8⟩⟩, ⟨ca0, PySem.W.mg_of X G g0, _, _, _, gl0, rfl, rfl, (by show 3 ≤ sizeLine; decide), (.cons ⟨_, rfl⟩ (.cons ⟨_, rfl⟩ (.cons ⟨_, rfl⟩ .nil)))⟩, ⟨by rw [eC0]; exact PySem.W.mg_of X G aC0, by rw [eC0]; exact ⟨pg0, hd0, po0, sa0⟩⟩, by rw [eC0]; exact mk0, by rw [eC0]; exact kc0, by rw [eC0]; exact na0, by rw [eC0]; exact na1, by rw [eC0]; exact na2, by rw [eC0]; exact na3, by rw [eC0]; exact na4, by rw [eC0]; exact na5, ⟨⟨f9, _, fun_mk (st := s_Chief_init) l9 c9 k9, by rw [eC0]; exact a9, i9⟩⟩, ⟨⟨f10, _, fun_mk (st := s_Chief_turn) l10 c10 k10, by rw [eC0]; exact a10, i10⟩⟩, ⟨⟨f11, _, fun_mk (st := s_Chief_phase) l11 c11 k11, by rw [eC0]; exact a11, i11⟩⟩, ⟨⟨f12, _, fun_mk (st := s_Chief_word) l12 c12 k12, by rw [eC0]; exact a12, i12⟩⟩, ⟨⟨f13, _, fun_mk (st := s_Chief_agreed) l13 c13 k13, by rw [eC0]; exact a13, i13⟩⟩, ⟨⟨f14, _, fun_mk (st := s_Chief_begin_turn) l14 c14 k14, by rw [eC0]; exact a14, i14⟩⟩, ⟨⟨f15, _, fun_mk (st := s_Chief_deal) l15 c15 k15, by rw [eC0]; exact a15, i15⟩⟩, ⟨⟨f16, _, fun_mk (st := s_Chief_is_dealt_to_all) l16 c16 k16, by rw [eC0]; exact a16, i16⟩⟩, ⟨⟨f17, _, fun_mk (st := s_Chief_ask) l17 c17 k17, by rw [eC0]; exact a17, i17⟩⟩, ⟨⟨f18, _, fun_mk (st := s_Chief_clear) l18 c18 k18, by rw [eC0]; exact a18, i18⟩⟩, ⟨⟨f19, _, fun_mk (st := s_Chief_letters) l19 c19 k19, by rw [eC0]; exact a19, i19⟩⟩, ⟨⟨f20, _, fun_mk (st := s_Chief_hear) l20 c20 k20, by rw [eC0]; exact a20, i20⟩⟩, ⟨⟨f21, _, fun_mk (st := s_Chief_end_turn) l21 c21 k21, by rw [eC0]; exact a21, i21⟩⟩, PySem.W.mg_none_of X G z0, PySem.W.mg_none_of X G z1, PySem.W.mg_none_of X G z2, PySem.W.mg_none_of X G z3, PySem.W.mg_none_of X G z4, PySem.W.mg_none_of X G z5, PySem.W.mg_none_of X G z6, PySem.W.mg_none_of X G z7, PySem.W.mg_none_of X G z8, PySem.W.mg_none_of X G z9⟩
end My
open PySem PySem.W PyProof.Rows
set_option maxRecDepth 100000 in
set_option maxHeartbeats 0 in
theorem PySem.Challenge.cw_climborsink_k47_letters_of_a_chief_holds : PySem.Challenge.rw_climborsink_k47_letters_of_a_chief.Holds := by
  w_on; o_law; k_head; (case hw => w_witness2)
  k_fill
  refine L2.PO.walk_fnO (l := PySem.Challenge.rw_climborsink_k47_letters_of_a_chief) (k := 30) (x := "_law_script") rfl rfl ⟨rfl, by decide, by decide, rfl⟩ (fun w h Y => PySem.W.kIn_of Y) (by decide +kernel) ?hnt ?htb ?hinj ?F
  case F =>
    intro w mg h KX G
    have T : My.Txt (L2.KOf KX) mg := by
      dsimp only [L2.KOf]
      refine' My.all_mk KX G ?aC0 ?pg0 ?hd0 ?po0 ?sa0 ?mk0 ?kc0 ?na0 ?na1 ?na2 ?na3 ?na4 ?na5 ?a0 ?l0 ?c0 ?k0 ?a1 ?l1 ?c1 ?k1 ?a2 ?l2 ?c2 ?k2 ?a3 ?l3 ?c3 ?k3 ?a4 ?l4 ?c4 ?k4 ?a5 ?l5 ?c5 ?k5 ?a6 ?l6 ?c6 ?k6 ?a7 ?l7 ?c7 ?k7 ?a8 ?l8 ?c8 ?k8 ?a9 ?i9 ?l9 ?c9 ?k9 ?a10 ?i10 ?l10 ?c10 ?k10 ?a11 ?i11 ?l11 ?c11 ?k11 ?a12 ?i12 ?l12 ?c12 ?k12 ?a13 ?i13 ?l13 ?c13 ?k13 ?a14 ?i14 ?l14 ?c14 ?k14 ?a15 ?i15 ?l15 ?c15 ?k15 ?a16 ?i16 ?l16 ?c16 ?k16 ?a17 ?i17 ?l17 ?c17 ?k17 ?a18 ?i18 ?l18 ?c18 ?k18 ?a19 ?i19 ?l19 ?c19 ?k19 ?a20 ?i20 ?l20 ?c20 ?k20 ?a21 ?i21 ?l21 ?c21 ?k21 ?gcn0 ?gcl0 ?z0 ?z1 ?z2 ?z3 ?z4 ?z5 ?z6 ?z7 ?z8 ?z9
      (case aC0 => k_is); (case pg0 => k_is); (case hd0 => k_is); (case po0 => k_is); (case sa0 => k_is); (case mk0 => k_is); (case kc0 => k_is)
      (case na0 => k_is)
      (case na1 => k_is)
      (case na2 => k_is)
      (case na3 => k_is)
      (case na4 => k_is)
      (case na5 => k_is)
      (case a0 => k_is); (case l0 => k_is); (case c0 => k_is); (case k0 => k_is)
      (case a1 => k_is); (case l1 => k_is); (case c1 => k_is); (case k1 => k_is)
      (case a2 => k_is); (case l2 => k_is); (case c2 => k_is); (case k2 => k_is)
      (case a3 => k_is); (case l3 => k_is); (case c3 => k_is); (case k3 => k_is)
      (case a4 => k_is); (case l4 => k_is); (case c4 => k_is); (case k4 => k_is)
      (case a5 => k_is); (case l5 => k_is); (case c5 => k_is); (case k5 => k_is)
      (case a6 => k_is); (case l6 => k_is); (case c6 => k_is); (case k6 => k_is)
      (case a7 => k_is); (case l7 => k_is); (case c7 => k_is); (case k7 => k_is)
      (case a8 => k_is); (case l8 => k_is); (case c8 => k_is); (case k8 => k_is)
      (case a9 => k_is); (case i9 => k_is); (case l9 => k_is); (case c9 => k_is); (case k9 => k_is)
      (case a10 => k_is); (case i10 => k_is); (case l10 => k_is); (case c10 => k_is); (case k10 => k_is)
      (case a11 => k_is); (case i11 => k_is); (case l11 => k_is); (case c11 => k_is); (case k11 => k_is)
      (case a12 => k_is); (case i12 => k_is); (case l12 => k_is); (case c12 => k_is); (case k12 => k_is)
      (case a13 => k_is); (case i13 => k_is); (case l13 => k_is); (case c13 => k_is); (case k13 => k_is)
      (case a14 => k_is); (case i14 => k_is); (case l14 => k_is); (case c14 => k_is); (case k14 => k_is)
      (case a15 => k_is); (case i15 => k_is); (case l15 => k_is); (case c15 => k_is); (case k15 => k_is)
      (case a16 => k_is); (case i16 => k_is); (case l16 => k_is); (case c16 => k_is); (case k16 => k_is)
      (case a17 => k_is); (case i17 => k_is); (case l17 => k_is); (case c17 => k_is); (case k17 => k_is)
      (case a18 => k_is); (case i18 => k_is); (case l18 => k_is); (case c18 => k_is); (case k18 => k_is)
      (case a19 => k_is); (case i19 => k_is); (case l19 => k_is); (case c19 => k_is); (case k19 => k_is)
      (case a20 => k_is); (case i20 => k_is); (case l20 => k_is); (case c20 => k_is); (case k20 => k_is)
      (case a21 => k_is); (case i21 => k_is); (case l21 => k_is); (case c21 => k_is); (case k21 => k_is)
      (case gcn0 => k_is); (case gcl0 => k_is)
      (case z0 => k_is)
      (case z1 => k_is)
      (case z2 => k_is)
      (case z3 => k_is)
      (case z4 => k_is)
      (case z5 => k_is)
      (case z6 => k_is)
      (case z7 => k_is)
      (case z8 => k_is)
      (case z9 => k_is)
    exact fun base _ _ => L2.PO.d_law T
  case hnt => intro w; exact rfl
  case htb =>
    intro w x hx
    simp only [L2.lamDefs, List.mem_cons, List.not_mem_nil, or_false] at hx
    rcases hx with rfl | rfl
    · refine .inr ?_; unfold PySem.W.tabIn; rw [show PySem.W.nsIn _ mainGlobals "end_of" = some none by k_is]
    · refine .inr ?_; unfold PySem.W.tabIn; rw [show PySem.W.nsIn _ mainGlobals "order_by" = some none by k_is]
  case hinj =>
    intro w x hx y hy c c' P e1 e2
    simp only [L2.lamDefs, List.mem_cons, List.not_mem_nil, or_false] at hx hy
    rcases hx with rfl | rfl <;> rcases hy with rfl | rfl
    · rfl
    · exfalso; unfold PySem.W.tabIn at e1; rw [show PySem.W.nsIn _ mainGlobals "end_of" = some none by k_is] at e1; cases e1
    · exfalso; unfold PySem.W.tabIn at e2; rw [show PySem.W.nsIn _ mainGlobals "end_of" = some none by k_is] at e2; cases e2
    · rfl
